/-
  No cell of these rows narrows 'for every input' (looked for: loops, veiled, ifaces, maps, wideKeys, modest, calm, conditions, laid).
  DERIVED. THE GIVEN ROWS OF THIS SEAT. 3 by the template 'for every input the law returns true; each argument reads behind the call as it read before'; 0 by the template 'total and deterministic' (their statements: YtlefjllpeapomaaTotals.lean).
  GIVEN WITH THE SEED: the statements are not yours to turn. If you find one false, say at which input.
  Laid BY PROGRAM, IN A SANDBOX (cutbox-rows.mjs): the forced cells as the released guide's own fill.sh prints them over the translation 89e9e16c142f4697… (all of the seat's roots in one cut). By AI agents, Wed Nov 11 2026. No macro, syntax, notation, axiom, sorry.
-/
import Derived.Test.YtlefjllpeapomaaChecked
import GoSem.Claim
import GoSem.ClaimJoined
import GoSem.ClaimMapViews
import Derived.JoinedTies
import Derived.KernelRfl
namespace Go.Proofs.Ytlefjllpeapomaa
/- THE CELL 'sum', in the pinned program and in every row, IS THE sha256 OF THE DUMP (.gsa) THAT YtlefjllpeapomaaProg.lean LOADS. Nothing in Lean hashes anything: it is a label: what it is worth is what the hold of that sum in a sandbox is worth. -/
noncomputable def Try.pinned : Pinned := { name := "ytlefjllpeapomaa", sum := "89e9e16c142f4697f5a467cae2f043db9714e36247fb3339205c982e4d7fedbe", checked := Try.checked }
namespace Rows
def none {H : Type} : Left H := { results := [], args := [] }

/-- 'revetmentlaw08.GeomOf': WHATEVER THE INPUT: true; the input reads as it did. -/
def geomOfSpec : ChangeSpec := { name := "geomOf", fn := fun _ => fun
  | [d1, d2, d3, d4, d5, d6] => { results := [.lit (.bool true)], args := [d1, d2, d3, d4, d5, d6] }
  | _ => none }
def geomOfRow : OpenClaim := { program := "ytlefjllpeapomaa", sum := "89e9e16c142f4697f5a467cae2f043db9714e36247fb3339205c982e4d7fedbe", func := "revetment/revetmentlaw08.GeomOf", spec := "geomOf", apart := false }
def GeomOfSaid : Prop := geomOfRow.holds Try.pinned (OpenSpec.ofChange geomOfSpec)

/-- ITS FALSE NEIGHBOUR: 'it returns false'. Refute it at one input. -/
def geomOfWrong : ChangeSpec := { name := "geomOf", fn := fun _ => fun
  | [d1, d2, d3, d4, d5, d6] => { results := [.lit (.bool false)], args := [d1, d2, d3, d4, d5, d6] }
  | _ => none }
def GeomOfWrongFalsely : Prop := geomOfRow.holds Try.pinned (OpenSpec.ofChange geomOfWrong)

/-- 'revetmentlaw08.GeomNeeds': WHATEVER THE INPUT: true; the input reads as it did. -/
def geomNeedsSpec : ChangeSpec := { name := "geomNeeds", fn := fun _ => fun
  | [d1, d2, d3] => { results := [.lit (.bool true)], args := [d1, d2, d3] }
  | _ => none }
def geomNeedsRow : OpenClaim := { program := "ytlefjllpeapomaa", sum := "89e9e16c142f4697f5a467cae2f043db9714e36247fb3339205c982e4d7fedbe", func := "revetment/revetmentlaw08.GeomNeeds", spec := "geomNeeds", apart := false }
def GeomNeedsSaid : Prop := geomNeedsRow.holds Try.pinned (OpenSpec.ofChange geomNeedsSpec)

/-- ITS FALSE NEIGHBOUR: 'it returns false'. Refute it at one input. -/
def geomNeedsWrong : ChangeSpec := { name := "geomNeeds", fn := fun _ => fun
  | [d1, d2, d3] => { results := [.lit (.bool false)], args := [d1, d2, d3] }
  | _ => none }
def GeomNeedsWrongFalsely : Prop := geomNeedsRow.holds Try.pinned (OpenSpec.ofChange geomNeedsWrong)

/-- 'revetmentlaw08.GeomApart': WHATEVER THE INPUT: true; the input reads as it did. -/
def geomApartSpec : ChangeSpec := { name := "geomApart", fn := fun _ => fun
  | [d1, d2, d3] => { results := [.lit (.bool true)], args := [d1, d2, d3] }
  | _ => none }
def geomApartRow : OpenClaim := { program := "ytlefjllpeapomaa", sum := "89e9e16c142f4697f5a467cae2f043db9714e36247fb3339205c982e4d7fedbe", func := "revetment/revetmentlaw08.GeomApart", spec := "geomApart", apart := false }
def GeomApartSaid : Prop := geomApartRow.holds Try.pinned (OpenSpec.ofChange geomApartSpec)

/-- ITS FALSE NEIGHBOUR: 'it returns false'. Refute it at one input. -/
def geomApartWrong : ChangeSpec := { name := "geomApart", fn := fun _ => fun
  | [d1, d2, d3] => { results := [.lit (.bool false)], args := [d1, d2, d3] }
  | _ => none }
def GeomApartWrongFalsely : Prop := geomApartRow.holds Try.pinned (OpenSpec.ofChange geomApartWrong)

/- THE SECOND FORM. 'bulk': how many values and letters a reading holds, each counted each time it is reached (what is shared counts as often as it is met; a slice's spare places count too). A statement '..UptoSaid' is the law's where the arguments, and the package variables that the reading takes, are together of bulk at most 1048576: NARROWER than '..Said'. Prove '..Said' where nothing that the law and all that it calls make is longer than what came in: it says more and counts as full. Else prove '..UptoSaid'. A law counts once. -/
mutual
def uptoBulk {H : Type} : DataW H → Nat
  | .lit (.string bytes) => bytes.length + 1
  | .lit _ => 1
  | .nil => 1
  | .ptr d => uptoBulk d + 1
  | .slice elems spare => uptoBulkAll elems + uptoBulkAll spare + 1
  | .agg parts => uptoBulkAll parts + 1
  | .iface _ d => uptoBulk d + 1
  | .map entries => uptoBulkEntries entries + 1
  | .held _ => 1
def uptoBulkAll {H : Type} : List (DataW H) → Nat
  | [] => 0
  | d :: r => uptoBulk d + uptoBulkAll r
def uptoBulkEntries {H : Type} : List (Lit × DataW H) → Nat
  | [] => 0
  | x :: r => uptoBulkEntry x + uptoBulkEntries r
def uptoBulkEntry {H : Type} : Lit × DataW H → Nat
  | (.string bytes, d) => bytes.length + uptoBulk d + 1
  | (_, d) => uptoBulk d + 1
 end
def uptoSmall : (H : Type) → List (DataW H) → Bool := fun _ ds => decide (uptoBulkAll ds ≤ 1048576)
def OpenSpec.upto (s : _root_.Go.ChangeSpec) : _root_.Go.OpenSpec := { _root_.Go.OpenSpec.ofChange s with cond := some uptoSmall }

/-- 'revetmentlaw08.GeomOf', WHERE WHAT IT READS IS OF BULK AT MOST 1048576: true; the input reads as it did. -/
def geomOfUptoRow : OpenClaim := { program := "ytlefjllpeapomaa", sum := "89e9e16c142f4697f5a467cae2f043db9714e36247fb3339205c982e4d7fedbe", func := "revetment/revetmentlaw08.GeomOf", spec := "geomOf", apart := false, narrowed := true }
def GeomOfUptoSaid : Prop := geomOfUptoRow.holds Try.pinned (OpenSpec.upto geomOfSpec)

/-- 'revetmentlaw08.GeomNeeds', WHERE WHAT IT READS IS OF BULK AT MOST 1048576: true; the input reads as it did. -/
def geomNeedsUptoRow : OpenClaim := { program := "ytlefjllpeapomaa", sum := "89e9e16c142f4697f5a467cae2f043db9714e36247fb3339205c982e4d7fedbe", func := "revetment/revetmentlaw08.GeomNeeds", spec := "geomNeeds", apart := false, narrowed := true }
def GeomNeedsUptoSaid : Prop := geomNeedsUptoRow.holds Try.pinned (OpenSpec.upto geomNeedsSpec)

/-- 'revetmentlaw08.GeomApart', WHERE WHAT IT READS IS OF BULK AT MOST 1048576: true; the input reads as it did. -/
def geomApartUptoRow : OpenClaim := { program := "ytlefjllpeapomaa", sum := "89e9e16c142f4697f5a467cae2f043db9714e36247fb3339205c982e4d7fedbe", func := "revetment/revetmentlaw08.GeomApart", spec := "geomApart", apart := false, narrowed := true }
def GeomApartUptoSaid : Prop := geomApartUptoRow.holds Try.pinned (OpenSpec.upto geomApartSpec)

end Rows
end Go.Proofs.Ytlefjllpeapomaa
