/- What Put lays is got, if the numbers are in range: the plain part. -/
import Derived.Test.YtaceaemombnhkaaR
import Derived.Test.YtaceaemombnhkaaO
import Derived.Test.YtaceaemombnhkaaConf
namespace Go.Proofs.Ytaceaemombnhkaa
set_option linter.unusedVariables false
set_option maxRecDepth 100000
set_option linter.unusedSimpArgs false
open Go.RowKit
open Go.RowKit (wrap64)

/-- The bytes of the numbers from the k-th on. -/
def lesD (c : Cf) (k : Nat) : List UInt8 := ((c.list.drop k).map le8).flatten
theorem lesD_at (c : Cf) (k : Nat) (hk : k < c.list.length) : lesD c k = le8 c.list[k] ++ lesD c (k + 1) := by
  unfold lesD
  rw [List.drop_eq_getElem_cons hk]
  simp only [List.map_cons, List.flatten_cons]
theorem les_all (c : Cf) : les c 11 = lesD c 0 := by
  unfold les lesD
  rw [List.take_of_length_le (by show 11 ≤ 11; omega), List.drop_zero]
theorem lesD_none (c : Cf) : lesD c 11 = [] := by
  unfold lesD
  rw [List.drop_of_length_le (by show 11 ≤ 11; omega)]
  rfl
theorem rI_out {v lo hi : Int} (h : (Lit.int .i64 v).wf = true) (h1 : v < lo ∨ hi < v) (r : List UInt8) : rI (le8 v ++ r) 0 lo hi = (0, r, 13) := by
  have ht : (le8 v ++ r).take 8 = le8 v := by
    rw [List.take_append_of_le_length (by rw [le8_length]; omega)]
    exact List.take_of_length_le (by rw [le8_length]; omega)
  have hd : (le8 v ++ r).drop 8 = r := by
    have := List.drop_left (l₁ := le8 v) (l₂ := r)
    rwa [le8_length] at this
  unfold rI
  rw [ht, hd, numLE_le8, wrap_back h, if_pos rfl, if_neg (by rw [List.length_append, le8_length]; omega), if_pos h1]
theorem list_wf {c : Cf} (hw : c.wf) (k : Nat) (hk : k < c.list.length) : (Lit.int .i64 c.list[k]).wf = true := hw _ (List.getElem_mem hk)
theorem read_in {c : Cf} (hw : c.wf) : ∀ k, k ≤ 11 → (∀ i (hi : i < c.list.length), i < k → (-4611686018427387904) ≤ c.list[i] ∧ c.list[i] ≤ 4611686018427387904) → rS (lesD c 0) k = (lesD c k, 0)
  | 0, _, _ => rfl
  | k + 1, h, hin => by
    have ih := read_in hw k (by omega) (fun i hi hk => hin i hi (by omega))
    have hk : k < c.list.length := by show k < 11; omega
    have hr := rI_back (list_wf hw k hk) (hin k hk (by omega)).1 (hin k hk (by omega)).2 (lesD c (k + 1))
    rw [← lesD_at c k hk] at hr
    simp only [rS]
    rw [ih]
    simp only
    rw [hr]
theorem read_num {c : Cf} (hw : c.wf) (k : Nat) (hk : k < c.list.length) (hin : ∀ i (hi : i < c.list.length), (-4611686018427387904) ≤ c.list[i] ∧ c.list[i] ≤ 4611686018427387904) : rV (lesD c 0) k = c.list[k] := by
  have hr := rI_back (list_wf hw k hk) (hin k hk).1 (hin k hk).2 (lesD c (k + 1))
  rw [← lesD_at c k hk] at hr
  unfold rV
  rw [read_in hw k (by have : k < 11 := hk; omega) (fun i hi _ => hin i hi)]
  simp only
  rw [hr]
theorem read_stuck (l : List UInt8) (k : Nat) (h : (rS l k).2 = 13) : ∀ j, (rS l (k + j)).2 = 13
  | 0 => h
  | j + 1 => by
    have ih := read_stuck l k h j
    have e : k + (j + 1) = (k + j) + 1 := by omega
    rw [e]
    simp only [rS]
    rw [ih]
    rfl
theorem allIn_iff {lo hi : Int} {vs : List Int} : allIn lo hi vs = true ↔ ∀ i (h : i < vs.length), lo ≤ vs[i] ∧ vs[i] ≤ hi := by
  unfold allIn
  rw [List.all_eq_true]
  constructor
  · intro h i hi
    simpa using h vs[i] (List.getElem_mem hi)
  · intro h x hx
    obtain ⟨i, hi, rfl⟩ := List.getElem_of_mem hx
    simpa using h i hi
/-- P7.4. -/
theorem get_in {c : Cf} (hw : c.wf) (h : allIn (-4611686018427387904) 4611686018427387904 c.list = true) : getC (les c 11) = (c, 0) := by
  have hin := allIn_iff.1 h
  rw [les_all]
  have hS : rS (lesD c 0) 11 = ([], 0) := by rw [read_in hw 11 (Nat.le_refl _) (fun i hi _ => hin i hi), lesD_none]
  unfold getC
  rw [hS]
  simp only [List.length_nil, Nat.lt_irrefl, if_false, if_true]
  rw [read_num hw 0 (by show 0 < 11; omega) hin]
  rw [read_num hw 1 (by show 1 < 11; omega) hin]
  rw [read_num hw 2 (by show 2 < 11; omega) hin]
  rw [read_num hw 3 (by show 3 < 11; omega) hin]
  rw [read_num hw 4 (by show 4 < 11; omega) hin]
  rw [read_num hw 5 (by show 5 < 11; omega) hin]
  rw [read_num hw 6 (by show 6 < 11; omega) hin]
  rw [read_num hw 7 (by show 7 < 11; omega) hin]
  rw [read_num hw 8 (by show 8 < 11; omega) hin]
  rw [read_num hw 9 (by show 9 < 11; omega) hin]
  rw [read_num hw 10 (by show 10 < 11; omega) hin]
  rfl
theorem getC_err {l : List UInt8} {er : Int} (h : (rS l 11).2 = er) (h0 : ¬ er = 0) : (getC l).2 = er := by
  unfold getC
  rw [h, if_neg h0]
theorem first_bad {lo hi : Int} : ∀ {vs : List Int}, allIn lo hi vs = false → ∃ j, ∃ hj : j < vs.length, ¬ (lo ≤ vs[j] ∧ vs[j] ≤ hi) ∧ ∀ i (h : i < vs.length), i < j → lo ≤ vs[i] ∧ vs[i] ≤ hi
  | [], h => by cases h
  | v :: vs, h => by
    by_cases hv : lo ≤ v ∧ v ≤ hi
    · have h2 : allIn lo hi vs = false := by simpa [allIn, hv] using h
      obtain ⟨j, hj, hb, hg⟩ := first_bad h2
      refine ⟨j + 1, by simpa using hj, hb, fun i hi hlt => ?_⟩
      rcases i with _ | i
      · exact hv
      · exact hg i (by simpa using hi) (by omega)
    · exact ⟨0, by simp, hv, fun i hi hlt => by omega⟩
theorem read_out {c : Cf} (hw : c.wf) (k : Nat) (hk : k < c.list.length) (hbad : ¬ ((-4611686018427387904) ≤ c.list[k] ∧ c.list[k] ≤ 4611686018427387904)) (hgood : ∀ i (hi : i < c.list.length), i < k → (-4611686018427387904) ≤ c.list[i] ∧ c.list[i] ≤ 4611686018427387904) : (rS (lesD c 0) (k + 1)).2 = 13 := by
  have hS := read_in hw k (Nat.le_of_lt hk) hgood
  have ho := rI_out (lo := (-4611686018427387904)) (hi := 4611686018427387904) (list_wf hw k hk) (by omega) (lesD c (k + 1))
  rw [← lesD_at c k hk] at ho
  simp only [rS]
  rw [hS]
  simp only
  rw [ho]
/-- A number that is too far is not got. -/
theorem get_out {c : Cf} (hw : c.wf) (h : allIn (-4611686018427387904) 4611686018427387904 c.list = false) : (getC (les c 11)).2 = 13 := by
  obtain ⟨k, hk, hbad, hgood⟩ := first_bad h
  have h13 := read_out hw k hk hbad hgood
  have hall := read_stuck (lesD c 0) (k + 1) h13 (10 - k)
  have hlen : c.list.length = 11 := rfl
  have e : k + 1 + (10 - k) = 11 := by omega
  rw [e] at hall
  rw [les_all]
  exact getC_err hall (by decide)
end Go.Proofs.Ytaceaemombnhkaa
