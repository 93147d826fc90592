/- What Get answers, as plain data; a reader whose bytes lie from a block on. -/
import Derived.Test.YtaceaemombnhkaaD
import Derived.Test.YtaceaemombnhkaaG
namespace Go.Proofs.Ytaceaemombnhkaa
set_option linter.unusedVariables false
set_option maxRecDepth 100000
set_option linter.unusedSimpArgs false
open Go.RowKit
open Go.RowKit (wrap64)

/-- What is left, and the error, when k numbers were read. -/
def rS (l : List UInt8) : Nat → List UInt8 × Int
  | 0 => (l, 0)
  | k + 1 => ((rI (rS l k).1 (rS l k).2 (-4611686018427387904) 4611686018427387904).2.1, (rI (rS l k).1 (rS l k).2 (-4611686018427387904) 4611686018427387904).2.2)
/-- The number that is read behind k others. -/
def rV (l : List UInt8) (k : Nat) : Int := (rI (rS l k).1 (rS l k).2 (-4611686018427387904) 4611686018427387904).1
/-- P7.3: what Get answers. -/
def getC (l : List UInt8) : Cf × Int :=
  if (rS l 11).2 = 0 then (if 0 < (rS l 11).1.length then (⟨0, 0, 0, 0, 0, 0, 0, 0, 0, 0, 0⟩, 13) else (⟨rV l 0, rV l 1, rV l 2, rV l 3, rV l 4, rV l 5, rV l 6, rV l 7, rV l 8, rV l 9, rV l 10⟩, 0)) else (⟨0, 0, 0, 0, 0, 0, 0, 0, 0, 0, 0⟩, (rS l 11).2)
theorem rS_left (l : List UInt8) : ∀ k, (rS l k).1.length ≤ l.length
  | 0 => Nat.le_refl _
  | k + 1 => Nat.le_trans (rI_left _ _ _ _) (rS_left l k)
/-- The numbers' cells when k were read. -/
def nums (l : List UInt8) (k : Nat) : List Value := (List.range 11).map fun i => .int .i64 (if i < k then rV l i else 0)
theorem nums_at (l : List UInt8) (k i : Nat) (hi : i < 11) : (nums l k)[i]? = some (.int .i64 (if i < k then rV l i else 0)) := by
  simp [nums, hi]
theorem nums_set (l : List UInt8) (k : Nat) (hk : k < 11) : (nums l k).set k (.int .i64 (rV l k)) = nums l (k + 1) := by
  apply List.ext_getElem?
  intro j
  rw [List.getElem?_set]
  by_cases hj : j < 11
  · rw [nums_at l (k + 1) j hj]
    split
    · rename_i e
      subst e
      simp [nums, hk]
    · rename_i e
      rw [nums_at l k j hj]
      have : (j < k + 1) ↔ j < k := by omega
      simp [this]
  · have h1 : (nums l (k + 1))[j]? = none := List.getElem?_eq_none (by simp [nums]; omega)
    have h2 : (nums l k)[j]? = none := List.getElem?_eq_none (by simp [nums]; omega)
    rw [h1, h2]
    split
    · rename_i e
      subst e
      simp [nums]
      omega
    · rfl
theorem nums_none (l : List UInt8) : (nums l 0).toArray = #[.int .i64 0, .int .i64 0, .int .i64 0, .int .i64 0, .int .i64 0, .int .i64 0, .int .i64 0, .int .i64 0, .int .i64 0, .int .i64 0, .int .i64 0] := by simp [nums, List.range_succ]
theorem nums_all (l : List UInt8) : (nums l 11).toArray = #[.int .i64 (rV l 0), .int .i64 (rV l 1), .int .i64 (rV l 2), .int .i64 (rV l 3), .int .i64 (rV l 4), .int .i64 (rV l 5), .int .i64 (rV l 6), .int .i64 (rV l 7), .int .i64 (rV l 8), .int .i64 (rV l 9), .int .i64 (rV l 10)] := by simp [nums, List.range_succ]
end Go.Proofs.Ytaceaemombnhkaa
