/-
  No cell of these rows narrows 'for every input' (looked for: loops, veiled, ifaces, maps, wideKeys, modest, calm, conditions, laid).
  DERIVED. THE GIVEN ROWS OF THIS SEAT. 3 by the template 'for every input the law returns true; each argument reads behind the call as it read before'; 0 by the template 'total and deterministic' (their statements: YtkjdinlebpkimaaTotals.lean).
  GIVEN WITH THE SEED: the statements are not yours to turn. If you find one false, say at which input.
  Laid BY PROGRAM, IN A SANDBOX (cutbox-rows.mjs): the forced cells as the released guide's own fill.sh prints them over the translation 70e3061bba2c1888… (all of the seat's roots in one cut). By AI agents, Wed Nov 11 2026. No macro, syntax, notation, axiom, sorry.
-/
import Derived.Test.YtkjdinlebpkimaaChecked
import GoSem.Claim
import GoSem.ClaimJoined
import GoSem.ClaimMapViews
import Derived.JoinedTies
import Derived.KernelRfl
namespace Go.Proofs.Ytkjdinlebpkimaa
/- THE CELL 'sum', in the pinned program and in every row, IS THE sha256 OF THE DUMP (.gsa) THAT YtkjdinlebpkimaaProg.lean LOADS. Nothing in Lean hashes anything: it is a label: what it is worth is what the hold of that sum in a sandbox is worth. -/
noncomputable def Try.pinned : Pinned := { name := "ytkjdinlebpkimaa", sum := "70e3061bba2c188863334d8df378ec312c160f9be4c1366db55435063f235ed6", checked := Try.checked }
namespace Rows
def none {H : Type} : Left H := { results := [], args := [] }

/-- 'revetmentlaw03.XorOfs': WHATEVER THE INPUT: true; the input reads as it did. -/
def xorOfsSpec : ChangeSpec := { name := "xorOfs", fn := fun _ => fun
  | [d1, d2, d3] => { results := [.lit (.bool true)], args := [d1, d2, d3] }
  | _ => none }
def xorOfsRow : OpenClaim := { program := "ytkjdinlebpkimaa", sum := "70e3061bba2c188863334d8df378ec312c160f9be4c1366db55435063f235ed6", func := "revetment/revetmentlaw03.XorOfs", spec := "xorOfs", apart := false }
def XorOfsSaid : Prop := xorOfsRow.holds Try.pinned (OpenSpec.ofChange xorOfsSpec)

/-- ITS FALSE NEIGHBOUR: 'it returns false'. Refute it at one input. -/
def xorOfsWrong : ChangeSpec := { name := "xorOfs", fn := fun _ => fun
  | [d1, d2, d3] => { results := [.lit (.bool false)], args := [d1, d2, d3] }
  | _ => none }
def XorOfsWrongFalsely : Prop := xorOfsRow.holds Try.pinned (OpenSpec.ofChange xorOfsWrong)

/-- 'revetmentlaw03.XorLacks': WHATEVER THE INPUT: true; the input reads as it did. -/
def xorLacksSpec : ChangeSpec := { name := "xorLacks", fn := fun _ => fun
  | [d1, d2, d3] => { results := [.lit (.bool true)], args := [d1, d2, d3] }
  | _ => none }
def xorLacksRow : OpenClaim := { program := "ytkjdinlebpkimaa", sum := "70e3061bba2c188863334d8df378ec312c160f9be4c1366db55435063f235ed6", func := "revetment/revetmentlaw03.XorLacks", spec := "xorLacks", apart := false }
def XorLacksSaid : Prop := xorLacksRow.holds Try.pinned (OpenSpec.ofChange xorLacksSpec)

/-- ITS FALSE NEIGHBOUR: 'it returns false'. Refute it at one input. -/
def xorLacksWrong : ChangeSpec := { name := "xorLacks", fn := fun _ => fun
  | [d1, d2, d3] => { results := [.lit (.bool false)], args := [d1, d2, d3] }
  | _ => none }
def XorLacksWrongFalsely : Prop := xorLacksRow.holds Try.pinned (OpenSpec.ofChange xorLacksWrong)

/-- 'revetmentlaw03.XorParts': WHATEVER THE INPUT: true; the input reads as it did. -/
def xorPartsSpec : ChangeSpec := { name := "xorParts", fn := fun _ => fun
  | [d1, d2, d3] => { results := [.lit (.bool true)], args := [d1, d2, d3] }
  | _ => none }
def xorPartsRow : OpenClaim := { program := "ytkjdinlebpkimaa", sum := "70e3061bba2c188863334d8df378ec312c160f9be4c1366db55435063f235ed6", func := "revetment/revetmentlaw03.XorParts", spec := "xorParts", apart := false }
def XorPartsSaid : Prop := xorPartsRow.holds Try.pinned (OpenSpec.ofChange xorPartsSpec)

/-- ITS FALSE NEIGHBOUR: 'it returns false'. Refute it at one input. -/
def xorPartsWrong : ChangeSpec := { name := "xorParts", fn := fun _ => fun
  | [d1, d2, d3] => { results := [.lit (.bool false)], args := [d1, d2, d3] }
  | _ => none }
def XorPartsWrongFalsely : Prop := xorPartsRow.holds Try.pinned (OpenSpec.ofChange xorPartsWrong)

/- THE SECOND FORM. 'bulk': how many values and letters a reading holds, each counted each time it is reached (what is shared counts as often as it is met; a slice's spare places count too). A statement '..UptoSaid' is the law's where the arguments, and the package variables that the reading takes, are together of bulk at most 1048576: NARROWER than '..Said'. Prove '..Said' where nothing that the law and all that it calls make is longer than what came in: it says more and counts as full. Else prove '..UptoSaid'. A law counts once. -/
mutual
def uptoBulk {H : Type} : DataW H → Nat
  | .lit (.string bytes) => bytes.length + 1
  | .lit _ => 1
  | .nil => 1
  | .ptr d => uptoBulk d + 1
  | .slice elems spare => uptoBulkAll elems + uptoBulkAll spare + 1
  | .agg parts => uptoBulkAll parts + 1
  | .iface _ d => uptoBulk d + 1
  | .map entries => uptoBulkEntries entries + 1
  | .held _ => 1
def uptoBulkAll {H : Type} : List (DataW H) → Nat
  | [] => 0
  | d :: r => uptoBulk d + uptoBulkAll r
def uptoBulkEntries {H : Type} : List (Lit × DataW H) → Nat
  | [] => 0
  | x :: r => uptoBulkEntry x + uptoBulkEntries r
def uptoBulkEntry {H : Type} : Lit × DataW H → Nat
  | (.string bytes, d) => bytes.length + uptoBulk d + 1
  | (_, d) => uptoBulk d + 1
 end
def uptoSmall : (H : Type) → List (DataW H) → Bool := fun _ ds => decide (uptoBulkAll ds ≤ 1048576)
def OpenSpec.upto (s : _root_.Go.ChangeSpec) : _root_.Go.OpenSpec := { _root_.Go.OpenSpec.ofChange s with cond := some uptoSmall }

/-- 'revetmentlaw03.XorOfs', WHERE WHAT IT READS IS OF BULK AT MOST 1048576: true; the input reads as it did. -/
def xorOfsUptoRow : OpenClaim := { program := "ytkjdinlebpkimaa", sum := "70e3061bba2c188863334d8df378ec312c160f9be4c1366db55435063f235ed6", func := "revetment/revetmentlaw03.XorOfs", spec := "xorOfs", apart := false, narrowed := true }
def XorOfsUptoSaid : Prop := xorOfsUptoRow.holds Try.pinned (OpenSpec.upto xorOfsSpec)

/-- 'revetmentlaw03.XorLacks', WHERE WHAT IT READS IS OF BULK AT MOST 1048576: true; the input reads as it did. -/
def xorLacksUptoRow : OpenClaim := { program := "ytkjdinlebpkimaa", sum := "70e3061bba2c188863334d8df378ec312c160f9be4c1366db55435063f235ed6", func := "revetment/revetmentlaw03.XorLacks", spec := "xorLacks", apart := false, narrowed := true }
def XorLacksUptoSaid : Prop := xorLacksUptoRow.holds Try.pinned (OpenSpec.upto xorLacksSpec)

/-- 'revetmentlaw03.XorParts', WHERE WHAT IT READS IS OF BULK AT MOST 1048576: true; the input reads as it did. -/
def xorPartsUptoRow : OpenClaim := { program := "ytkjdinlebpkimaa", sum := "70e3061bba2c188863334d8df378ec312c160f9be4c1366db55435063f235ed6", func := "revetment/revetmentlaw03.XorParts", spec := "xorParts", apart := false, narrowed := true }
def XorPartsUptoSaid : Prop := xorPartsUptoRow.holds Try.pinned (OpenSpec.upto xorPartsSpec)

end Rows
end Go.Proofs.Ytkjdinlebpkimaa
