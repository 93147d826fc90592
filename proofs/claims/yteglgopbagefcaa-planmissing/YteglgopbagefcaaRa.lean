/- A slice of whole numbers as an argument; what Missing is, as plain data; the contract of slices.Max. -/
import Derived.Test.YteglgopbagefcaaPf
namespace Go.Proofs.Yteglgopbagefcaa
set_option linter.unusedVariables false
set_option linter.unusedSimpArgs false
open Go.RowKit Go.Shelf
open Go.RowKit (wrap64)
attribute [local go_sem] Oper.semAt_some

/-- At address A, below block B, lie these numbers. -/
def Ints (w : World) (B : Nat) (A : Option Addr) (fr : Nat → Int) (len : Nat) : Prop := ∀ j, j < len → ∃ b off, A = some ⟨b, off, none⟩ ∧ b < B ∧ w.cell? ⟨b, off + j, none⟩ = some (.int .i64 (fr j))
theorem Ints.below {w w' : World} {B : Nat} {A : Option Addr} {fr : Nat → Int} {len : Nat} (h : Ints w B A fr len) (hb : Below B w w') : Ints w' B A fr len := fun j hj => by
  obtain ⟨b, off, hA, hlt, hc⟩ := h j hj
  exact ⟨b, off, hA, hlt, (hb.cell (p := ⟨b, off + j, none⟩) hlt).trans hc⟩
theorem Ints.more {w : World} {B B' : Nat} {A : Option Addr} {fr : Nat → Int} {len : Nat} (h : Ints w B A fr len) (hB : B ≤ B') : Ints w B' A fr len := fun j hj => by
  obtain ⟨b, off, hA, hlt, hc⟩ := h j hj
  exact ⟨b, off, hA, by omega, hc⟩
theorem Ints.later {w w' : World} {A : Option Addr} {fr : Nat → Int} {len : Nat} (h : Ints w w.heap.size A fr len) (hb : Below w.heap.size w w') : Ints w' w'.heap.size A fr len := (h.below hb).more hb.size
/-- A slice of numbers that came in. -/
theorem ints_of {w : World} {x : Addr} {len : Nat} {zs : List Int} (hl : len ≤ zs.length) (hc : ∀ i, i < zs.length → w.cell? (x.add i) = some (.int .i64 (zs.getD i 0))) : Ints w w.heap.size (some x) (fun j => zs.getD j 0) len := fun j hj => by
  obtain ⟨b, off, spot⟩ := x
  have hc0 := hc 0 (by omega)
  have hspot : spot = none := by simpa [Addr.add] using World.cell?_spot hc0
  subst hspot
  have h1 := hc j (by omega)
  have hadd : (⟨b, off, none⟩ : Addr).add j = ⟨b, off + j, none⟩ := by unfold Addr.add; split <;> simp_all
  rw [hadd] at h1
  refine ⟨b, off, rfl, ?_, h1⟩
  rcases Nat.lt_or_ge b w.heap.size with h2 | h2
  · exact h2
  · simp [World.cell?, Array.getElem?_eq_none h2] at h1

/-- P9.3: a member's block as a step; what lacks at a place of the zone of the first members; of all of the first K places. -/
def missAt (c : Cf) (m ph : Int) : St := ⟨!(backA c m ph).2, m, ph, (backA c m ph).1, 1⟩
def missP (c : Cf) (fr : Nat → Int) (f : Int → Int) (ph : Int) (k : Nat) : List St := (List.range k).flatMap fun (m : Nat) => if ph < fr m ∨ f m ≤ ph then [] else [missAt c m ph]
def missL (c : Cf) (fr : Nat → Int) (f : Int → Int) (M K : Nat) : List St := (List.range K).flatMap fun (ph : Nat) => missP c fr f ph M
section
variable {c : Cf} {fr : Nat → Int} {f : Int → Int}
theorem missP_zero {ph : Int} : missP c fr f ph 0 = [] := by simp [missP]
theorem missP_no {ph : Int} {k : Nat} (h : ph < fr k ∨ f k ≤ ph) : missP c fr f ph (k + 1) = missP c fr f ph k := by simp [missP, List.range_succ, h]
theorem missP_yes {ph : Int} {k : Nat} (h : ¬ ph < fr k) (h2 : ¬ f k ≤ ph) : missP c fr f ph (k + 1) = missP c fr f ph k ++ [missAt c k ph] := by simp [missP, List.range_succ, h, h2]
theorem missL_zero {M : Nat} : missL c fr f M 0 = [] := by simp [missL]
theorem missL_succ {M K : Nat} : missL c fr f M (K + 1) = missL c fr f M K ++ missP c fr f K M := by simp [missL, List.range_succ]
theorem missP_len {ph : Int} {k : Nat} : (missP c fr f ph k).length ≤ k := by
  induction k with
  | zero => simp [missP_zero]
  | succ k ih =>
    by_cases h : ph < fr k ∨ f k ≤ ph
    · rw [missP_no h]; omega
    · rw [missP_yes (fun e => h (.inl e)) (fun e => h (.inr e)), List.length_append]
      simp only [List.length_cons, List.length_nil]
      omega
theorem missL_len {M K : Nat} : (missL c fr f M K).length ≤ K * M := by
  induction K with
  | zero => simp [missL_zero]
  | succ K ih =>
    rw [missL_succ, List.length_append, Nat.succ_mul]
    have := missP_len (c := c) (fr := fr) (f := f) (ph := K) (k := M)
    omega
theorem missP_pre {ph : Int} {k j : Nat} (h : k ≤ j) : missP c fr f ph k <+: missP c fr f ph j := by
  obtain ⟨d, rfl⟩ := Nat.exists_eq_add_of_le h
  clear h
  induction d with
  | zero => exact List.prefix_rfl
  | succ d ih =>
    refine ih.trans ?_
    rw [← Nat.add_assoc]
    by_cases h : ph < fr (k + d) ∨ f (k + d : Nat) ≤ ph
    · rw [missP_no h]; exact List.prefix_rfl
    · rw [missP_yes (fun e => h (.inl e)) (fun e => h (.inr e))]; exact List.prefix_append _ _
theorem missL_pre {M K J : Nat} (h : K ≤ J) : missL c fr f M K <+: missL c fr f M J := by
  obtain ⟨d, rfl⟩ := Nat.exists_eq_add_of_le h
  clear h
  induction d with
  | zero => exact List.prefix_rfl
  | succ d ih =>
    refine ih.trans ?_
    rw [← Nat.add_assoc, missL_succ]
    exact List.prefix_append _ _
theorem miss_pre {M K k j : Nat} (hk : k < K) (hj : j ≤ M) : missL c fr f M k ++ missP c fr f k j <+: missL c fr f M K := by
  refine List.IsPrefix.trans ?_ (missL_pre (show k + 1 ≤ K from hk))
  rw [missL_succ]
  obtain ⟨r, hr⟩ := missP_pre (c := c) (fr := fr) (f := f) (ph := k) hj
  exact ⟨r, by rw [List.append_assoc, hr]⟩
theorem miss_lt {M K k j : Nat} (hk : k < K) (hj : j < M) (h : ¬ (k : Int) < fr j) (h2 : ¬ f j ≤ k) : (missL c fr f M k ++ missP c fr f k j).length < (missL c fr f M K).length := by
  have := (miss_pre (c := c) (fr := fr) (f := f) hk (show j + 1 ≤ M from hj)).length_le
  rw [missP_yes h h2] at this
  simp at this
  simp
  omega
theorem missP_none {ph : Int} {k : Nat} (h : ∀ m : Nat, m < k → f m ≤ ph) : missP c fr f ph k = [] := by
  induction k with
  | zero => exact missP_zero
  | succ k ih => rw [missP_no (.inr (h k (by omega))), ih (fun m hm => h m (by omega))]
theorem missL_end {M K J : Nat} (h : K ≤ J) (hf : ∀ m : Nat, m < M → f m ≤ K) : missL c fr f M J = missL c fr f M K := by
  obtain ⟨d, rfl⟩ := Nat.exists_eq_add_of_le h
  clear h
  induction d with
  | zero => rfl
  | succ d ih => rw [← Nat.add_assoc, missL_succ, missP_none (fun m hm => by have := hf m hm; push_cast; omega), List.append_nil, ih]
end
/-- The greatest of f 0 .. f k. -/
def mxN (f : Int → Int) : Nat → Int
  | 0 => f 0
  | k + 1 => if mxN f k < f (k + 1 : Nat) then f (k + 1 : Nat) else mxN f k
theorem mxN_ge (f : Int → Int) : ∀ k j : Nat, j ≤ k → f j ≤ mxN f k
  | 0, j, h => by obtain rfl : j = 0 := by omega
                  exact Int.le_refl _
  | k + 1, j, h => by
    unfold mxN
    rcases Nat.lt_or_ge k j with h1 | h1
    · obtain rfl : j = k + 1 := by omega
      split <;> omega
    · have := mxN_ge f k j h1
      split <;> omega
theorem mxN_is (f : Int → Int) : ∀ k : Nat, ∃ j : Nat, j ≤ k ∧ mxN f k = f j
  | 0 => ⟨0, by omega, rfl⟩
  | k + 1 => by
    unfold mxN
    split
    · exact ⟨k + 1, by omega, rfl⟩
    · obtain ⟨j, h1, h2⟩ := mxN_is f k
      exact ⟨j, by omega, h2⟩

set_option maxRecDepth 100000 in
set_option maxHeartbeats 2000000 in
theorem max_any (f : Int → Int) (M g : Nat) (w : World) (hM : M + 1 ≤ 16) (hg : Box w g 3 (rowN f (M + 1) (M + 1)).toArray) :
    Calls Try.prog 45 #[.slice (some ⟨g, 0, none⟩) (M + 1 : Nat) (M + 1 : Nat)] w (Says w (.int .i64 (mxN f M))) := by
  have HC : Hid (∀ i : Nat, i < M + 1 → w.cell? ⟨g, i, none⟩ = some (.int .i64 (f i))) := fun i hi => by rw [hg.cell, List.getElem?_toArray, rowN_at hi, if_pos hi]
  have h0 := HC.out 0 (by omega)
  clear hg
  have HF : Hid (((0 : Nat) : Int) = 0) := rfl
  rw [HF.out] at h0
  go_enter Try.func45, Try.ntmps45
  go_wp2
  go_loopw [3, 4] (fun x i wr => ∃ k : Nat, k ≤ M ∧ x = .int .i64 (mxN f k) ∧ i = .int .i64 (k + 1 : Nat) ∧ wr = w) (fun x i _ => M + 1 - (intOf i).toNat)
  case atStart => exact ⟨0, by omega, rfl, rfl, rfl⟩
  case round =>
    obtain ⟨k, hk, rfl, rfl, rfl⟩ := hrel
    by_cases hlt : k < M
    · have h1 := HC.out (k + 1) (by omega)
      have HX : Hid (mxN f (k + 1) = if mxN f k < f (k + 1 : Nat) then f (k + 1 : Nat) else mxN f k) := rfl
      generalize f (k + 1 : Nat) = y at h1 HX
      generalize mxN f k = x at HX ⊢
      by_cases hm : x < y
      · have HZ := Lib.hid (HX.out.trans (if_pos hm))
        go_wp2
        go_roundw
        case rel => exact ⟨k + 1, by omega, by rw [HZ.out], by go_num, trivial⟩
        case measure => simp [intOf]; omega
      · have HZ := Lib.hid (HX.out.trans (if_neg hm))
        go_wp2
        go_roundw
        case rel => exact ⟨k + 1, by omega, by rw [HZ.out], by go_num, trivial⟩
        case measure => simp [intOf]; omega
    · obtain rfl : k = M := by omega
      go_wp2
      go_ret
      exact ⟨rfl, Below.refl _ _⟩
end Go.Proofs.Yteglgopbagefcaa
