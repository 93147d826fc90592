/-
  No cell of these rows narrows 'for every input' (looked for: loops, veiled, ifaces, maps, wideKeys, modest, calm, conditions, laid).
  DERIVED. THE GIVEN ROWS OF THIS SEAT. 2 by the template 'for every input the law returns true; each argument reads behind the call as it read before'; 0 by the template 'total and deterministic' (their statements: YtcongcnoeklpjaaTotals.lean).
  GIVEN WITH THE SEED: the statements are not yours to turn. If you find one false, say at which input.
  Laid BY PROGRAM, IN A SANDBOX (cutbox-rows.mjs): the forced cells as the released guide's own fill.sh prints them over the translation b2ba333699e4945a… (all of the seat's roots in one cut). By AI agents, Wed Nov 11 2026. No macro, syntax, notation, axiom, sorry.
-/
import Derived.Test.YtcongcnoeklpjaaChecked
import GoSem.Claim
import GoSem.ClaimJoined
import GoSem.ClaimMapViews
import Derived.JoinedTies
import Derived.KernelRfl
namespace Go.Proofs.Ytcongcnoeklpjaa
/- THE CELL 'sum', in the pinned program and in every row, IS THE sha256 OF THE DUMP (.gsa) THAT YtcongcnoeklpjaaProg.lean LOADS. Nothing in Lean hashes anything: it is a label: what it is worth is what the hold of that sum in a sandbox is worth. -/
noncomputable def Try.pinned : Pinned := { name := "ytcongcnoeklpjaa", sum := "b2ba333699e4945a2da551e4dd518895643cd919357c946e121f089d635a2444", checked := Try.checked }
namespace Rows
def none {H : Type} : Left H := { results := [], args := [] }

/-- 'revetmentlaw05.ZdevLimit': WHATEVER THE INPUT: true; the input reads as it did. -/
def zdevLimitSpec : ChangeSpec := { name := "zdevLimit", fn := fun _ => fun
  | [d1, d2] => { results := [.lit (.bool true)], args := [d1, d2] }
  | _ => none }
def zdevLimitRow : OpenClaim := { program := "ytcongcnoeklpjaa", sum := "b2ba333699e4945a2da551e4dd518895643cd919357c946e121f089d635a2444", func := "revetment/revetmentlaw05.ZdevLimit", spec := "zdevLimit", unfollowed := true, recurses := true, apart := false }
def ZdevLimitSaid : Prop := zdevLimitRow.holds Try.pinned (OpenSpec.ofChange zdevLimitSpec)

/-- ITS FALSE NEIGHBOUR: 'it returns false'. Refute it at one input. -/
def zdevLimitWrong : ChangeSpec := { name := "zdevLimit", fn := fun _ => fun
  | [d1, d2] => { results := [.lit (.bool false)], args := [d1, d2] }
  | _ => none }
def ZdevLimitWrongFalsely : Prop := zdevLimitRow.holds Try.pinned (OpenSpec.ofChange zdevLimitWrong)

/-- 'revetmentlaw05.ZdevNils': WHATEVER THE INPUT: true; the input reads as it did. -/
def zdevNilsSpec : ChangeSpec := { name := "zdevNils", fn := fun _ => fun
  | [d1, d2] => { results := [.lit (.bool true)], args := [d1, d2] }
  | _ => none }
def zdevNilsRow : OpenClaim := { program := "ytcongcnoeklpjaa", sum := "b2ba333699e4945a2da551e4dd518895643cd919357c946e121f089d635a2444", func := "revetment/revetmentlaw05.ZdevNils", spec := "zdevNils", unfollowed := true, recurses := true, apart := false }
def ZdevNilsSaid : Prop := zdevNilsRow.holds Try.pinned (OpenSpec.ofChange zdevNilsSpec)

/-- ITS FALSE NEIGHBOUR: 'it returns false'. Refute it at one input. -/
def zdevNilsWrong : ChangeSpec := { name := "zdevNils", fn := fun _ => fun
  | [d1, d2] => { results := [.lit (.bool false)], args := [d1, d2] }
  | _ => none }
def ZdevNilsWrongFalsely : Prop := zdevNilsRow.holds Try.pinned (OpenSpec.ofChange zdevNilsWrong)

/- THE SECOND FORM. 'bulk': how many values and letters a reading holds, each counted each time it is reached (what is shared counts as often as it is met; a slice's spare places count too). A statement '..UptoSaid' is the law's where the arguments, and the package variables that the reading takes, are together of bulk at most 1048576: NARROWER than '..Said'. Prove '..Said' where nothing that the law and all that it calls make is longer than what came in: it says more and counts as full. Else prove '..UptoSaid'. A law counts once. -/
mutual
def uptoBulk {H : Type} : DataW H → Nat
  | .lit (.string bytes) => bytes.length + 1
  | .lit _ => 1
  | .nil => 1
  | .ptr d => uptoBulk d + 1
  | .slice elems spare => uptoBulkAll elems + uptoBulkAll spare + 1
  | .agg parts => uptoBulkAll parts + 1
  | .iface _ d => uptoBulk d + 1
  | .map entries => uptoBulkEntries entries + 1
  | .held _ => 1
def uptoBulkAll {H : Type} : List (DataW H) → Nat
  | [] => 0
  | d :: r => uptoBulk d + uptoBulkAll r
def uptoBulkEntries {H : Type} : List (Lit × DataW H) → Nat
  | [] => 0
  | x :: r => uptoBulkEntry x + uptoBulkEntries r
def uptoBulkEntry {H : Type} : Lit × DataW H → Nat
  | (.string bytes, d) => bytes.length + uptoBulk d + 1
  | (_, d) => uptoBulk d + 1
 end
def uptoSmall : (H : Type) → List (DataW H) → Bool := fun _ ds => decide (uptoBulkAll ds ≤ 1048576)
def OpenSpec.upto (s : _root_.Go.ChangeSpec) : _root_.Go.OpenSpec := { _root_.Go.OpenSpec.ofChange s with cond := some uptoSmall }

/-- 'revetmentlaw05.ZdevLimit', WHERE WHAT IT READS IS OF BULK AT MOST 1048576: true; the input reads as it did. -/
def zdevLimitUptoRow : OpenClaim := { program := "ytcongcnoeklpjaa", sum := "b2ba333699e4945a2da551e4dd518895643cd919357c946e121f089d635a2444", func := "revetment/revetmentlaw05.ZdevLimit", spec := "zdevLimit", unfollowed := true, recurses := true, apart := false, narrowed := true }
def ZdevLimitUptoSaid : Prop := zdevLimitUptoRow.holds Try.pinned (OpenSpec.upto zdevLimitSpec)

/-- 'revetmentlaw05.ZdevNils', WHERE WHAT IT READS IS OF BULK AT MOST 1048576: true; the input reads as it did. -/
def zdevNilsUptoRow : OpenClaim := { program := "ytcongcnoeklpjaa", sum := "b2ba333699e4945a2da551e4dd518895643cd919357c946e121f089d635a2444", func := "revetment/revetmentlaw05.ZdevNils", spec := "zdevNils", unfollowed := true, recurses := true, apart := false, narrowed := true }
def ZdevNilsUptoSaid : Prop := zdevNilsUptoRow.holds Try.pinned (OpenSpec.upto zdevNilsSpec)

end Rows
end Go.Proofs.Ytcongcnoeklpjaa
