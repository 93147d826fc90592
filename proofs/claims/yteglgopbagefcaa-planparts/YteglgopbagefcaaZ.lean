/- P8.4: the plain part. -/
import Derived.Test.YteglgopbagefcaaX
namespace Go.Proofs.Yteglgopbagefcaa
set_option linter.unusedVariables false
set_option linter.unusedSimpArgs false
open Go.RowKit
open Go.RowKit (wrap64)

/-- A logical block a of settings that may be lies at P. -/
structure Lies (c : Cf) (a : Int) (P : Pl) : Prop where
  s0 : 0 ≤ P.s
  s1 : P.s < stripesC c
  u0 : 0 ≤ P.u
  u1 : P.u < c.m - 1
  i0 : 0 ≤ P.i
  i1 : P.i < c.u
  m0 : 0 ≤ P.m
  m1 : P.m < c.m
  m : P.m = (P.s % c.m + 1 + P.u) % c.m
  p : P.p = P.s * c.u + P.i
  e : a = P.s * (dataC c * c.u) + (P.u * c.u + P.i)
  un : uniC c P.s P.m = P.u
  l : P.u * c.u + P.i < dataC c * c.u
theorem lies_of {c : Cf} {a : Int} (h : ofB c a = true) : Lies c a (ofA c a) := by
  have hh := ofB_iff.1 h
  have ho := ok_of hh.1
  have o1 := ho.m1
  have o3 := ho.u1
  have o5 := ho.r1
  have o8 := ho.d
  have e : ofA c a = ofIn c a := by unfold ofA; rw [if_pos h]
  rw [e]
  unfold ofIn
  have d1 : 0 ≤ a / (dataC c * c.u) := Int.ediv_nonneg hh.2.1 (by omega)
  have d2 : 0 ≤ a % (dataC c * c.u) := Int.emod_nonneg _ (by omega)
  have d3 : a % (dataC c * c.u) < dataC c * c.u := Int.emod_lt_of_pos _ (by omega)
  have d0 := Int.mul_ediv_add_emod a (dataC c * c.u)
  have d4 : a / (dataC c * c.u) < stripesC c := Int.ediv_lt_of_lt_mul (by omega) hh.2.2
  rw [Int.mul_comm] at d0
  generalize a / (dataC c * c.u) = S at d0 d1 d4 ⊢
  generalize a % (dataC c * c.u) = L at d0 d2 d3 ⊢
  have f0 := Int.mul_ediv_add_emod L c.u
  have f1 : 0 ≤ L / c.u := Int.ediv_nonneg d2 (by omega)
  have f2 : 0 ≤ L % c.u := Int.emod_nonneg _ (by omega)
  have f3 : L % c.u < c.u := Int.emod_lt_of_pos _ (by omega)
  have f4 : L / c.u < c.m - 1 := by
    refine Int.ediv_lt_of_lt_mul (by omega) ?_
    rw [o8] at d3
    exact d3
  rw [Int.mul_comm] at f0
  generalize L / c.u = U at f0 f1 f4 ⊢
  generalize L % c.u = I at f0 f2 f3 ⊢
  exact ⟨d1, d4, f1, f4, f2, f3, Int.emod_nonneg _ (by omega), Int.emod_lt_of_pos _ (by omega), rfl, rfl, by show a = S * (dataC c * c.u) + (U * c.u + I); omega, mem_uni o1 f1 f4, by show U * c.u + I < _; omega⟩
theorem Lies.back {c : Cf} {a : Int} {P : Pl} (h : Lies c a P) (hc : checkC c = 0) : backA c P.m P.p = (a, true) := by
  have ho := ok_of hc
  have o3 := ho.u1
  have hi0 := h.i0
  have hi1 := h.i1
  have hu0 := h.u0
  have hs0 := h.s0
  have e1 : P.p / c.u = P.s := by
    rw [h.p, Int.add_comm, Int.mul_comm, Int.add_mul_ediv_left _ _ (by omega), Int.ediv_eq_zero_of_lt h.i0 h.i1]
    omega
  have e2 : P.p % c.u = P.i := by
    rw [h.p, Int.add_comm, Int.mul_comm, Int.add_mul_emod_self_left, Int.emod_eq_of_lt h.i0 h.i1]
  have hp0 : 0 ≤ P.p := by
    rw [h.p]
    have := Int.mul_nonneg hs0 (show 0 ≤ c.u by omega)
    omega
  have hp1 : P.p < stripesC c * c.u := by
    have h1 : (P.s + 1) * c.u ≤ stripesC c * c.u := Int.mul_le_mul_of_nonneg_right (by have := h.s1; omega) (by omega)
    rw [Int.add_mul] at h1
    rw [h.p]
    omega
  unfold backA
  rw [if_pos ⟨hasM_iff.2 ⟨hc, h.m0, h.m1⟩, belowC_iff.2 ⟨hp0, hp1⟩⟩]
  unfold backIn
  rw [e1, e2, h.un, if_neg (by omega)]
  congr 1
  have := h.e
  omega
theorem Lies.before {c : Cf} {a b : Int} {P Q : Pl} (h : Lies c a P) (k : Lies c b Q) (hc : checkC c = 0) (hab : a < b) (hm : P.m = Q.m) : P.p < Q.p := by
  have ho := ok_of hc
  have o1 := ho.m1
  have o3 := ho.u1
  have ea := h.e
  have eb := k.e
  have la := h.l
  have lb := k.l
  have i1 := h.i0
  have i2 := h.i1
  have i3 := k.i0
  have i4 := k.i1
  have g1 := Int.mul_nonneg h.u0 (show 0 ≤ c.u by omega)
  have g2 := Int.mul_nonneg k.u0 (show 0 ≤ c.u by omega)
  rw [h.p, k.p]
  rcases Int.lt_trichotomy P.s Q.s with hs | hs | hs
  · have h1 : (P.s + 1) * c.u ≤ Q.s * c.u := Int.mul_le_mul_of_nonneg_right (by omega) (by omega)
    rw [Int.add_mul] at h1
    omega
  · have hU : P.u = Q.u := by rw [← h.un, ← k.un, hs, hm]
    rw [hs] at ea ⊢
    rw [hU] at ea
    omega
  · have h1 : (Q.s + 1) * (dataC c * c.u) ≤ P.s * (dataC c * c.u) := Int.mul_le_mul_of_nonneg_right (by omega) (by have := ho.r1; omega)
    rw [Int.add_mul] at h1
    omega
theorem ned_at {c : Cf} {S L : Int} (hc : checkC c = 0) (m : Int) (hL0 : 0 ≤ L) (hL1 : L < dataC c * c.u) : nedC c m (S * (dataC c * c.u) + L) = S * c.u + partC c S m L := by
  have ho := ok_of hc
  have hr := ho.r1
  unfold nedC
  generalize dataC c * c.u = R at hr hL1 ⊢
  have e1 : (S * R + L) / R = S := by
    rw [Int.add_comm, Int.mul_comm, Int.add_mul_ediv_left _ _ (by omega), Int.ediv_eq_zero_of_lt hL0 hL1]
    omega
  have e2 : (S * R + L) % R = L := by
    rw [Int.add_comm, Int.mul_comm, Int.add_mul_emod_self_left, Int.emod_eq_of_lt hL0 hL1]
  rw [e1, e2]
theorem wri_id {c : Cf} {n : Int} (h0 : 0 ≤ n) (h1 : n ≤ stripesC c * (dataC c * c.u)) : wriC c n = n := by
  unfold wriC
  rw [if_neg (by omega), if_neg (by omega)]
theorem need_at {c : Cf} {m n : Int} (hc : checkC c = 0) (m0 : 0 ≤ m) (m1 : m < c.m) (h0 : 0 ≤ n) (h1 : n ≤ stripesC c * (dataC c * c.u)) : needA c m n = nedC c m n := by
  unfold needA
  rw [if_pos (hasM_iff.2 ⟨hc, m0, m1⟩), wri_id h0 h1]
/-- The block's member has, ahead of it, just what lies ahead of its place. -/
theorem Lies.need {c : Cf} {a : Int} {P : Pl} (h : Lies c a P) (hc : checkC c = 0) (h0 : 0 ≤ a) (h1 : a < stripesC c * (dataC c * c.u)) : needA c P.m a = P.p := by
  have ho := ok_of hc
  have o3 := ho.u1
  have g1 := Int.mul_nonneg h.u0 (show 0 ≤ c.u by omega)
  have hi0 := h.i0
  have hi1 := h.i1
  have hu0 := h.u0
  rw [need_at hc h.m0 h.m1 h0 (by omega), h.e, ned_at hc P.m (by omega) h.l, h.p]
  congr 1
  unfold partC
  rw [h.un, if_neg (by omega), if_neg (by omega), if_neg (by omega)]
  omega
theorem Lies.next {c : Cf} {a : Int} {P : Pl} (h : Lies c a P) (hc : checkC c = 0) (h0 : 0 ≤ a) (h1 : a < stripesC c * (dataC c * c.u)) :
    ((a + 1) % (dataC c * c.u) = 0 → needA c P.m (a + 1) = (P.s + 1) * c.u) ∧ (¬ (a + 1) % (dataC c * c.u) = 0 → needA c P.m (a + 1) = P.p + 1) := by
  have ho := ok_of hc
  have o1 := ho.m1
  have o3 := ho.u1
  have hr := ho.r1
  have g1 := Int.mul_nonneg h.u0 (show 0 ≤ c.u by omega)
  have hi0 := h.i0
  have hi1 := h.i1
  have hu0 := h.u0
  have hl := h.l
  have hn := h.need hc h0 h1
  rw [need_at hc h.m0 h.m1 h0 (by omega), h.e, ned_at hc P.m (by omega) h.l] at hn
  rw [need_at hc h.m0 h.m1 (by omega) (by omega)]
  have e0 : a + 1 = P.s * (dataC c * c.u) + (P.u * c.u + P.i + 1) := by have := h.e; omega
  have em : (a + 1) % (dataC c * c.u) = (P.u * c.u + P.i + 1) % (dataC c * c.u) := by rw [e0, Int.add_comm, Int.mul_comm P.s, Int.add_mul_emod_self_left]
  rcases Int.lt_or_le (P.u * c.u + P.i + 1) (dataC c * c.u) with h2 | h2
  · rw [em, Int.emod_eq_of_lt (by omega) h2]
    refine ⟨fun hz => by omega, fun _ => ?_⟩
    rw [e0, ned_at hc P.m (by omega) h2]
    have hq : (P.u * c.u + P.i) / c.u = P.u := by
      rw [Int.add_comm, Int.mul_comm, Int.add_mul_ediv_left _ _ (by omega), Int.ediv_eq_zero_of_lt h.i0 h.i1]
      omega
    have hs := (part_step (s := P.s) hc h.m0 h.m1 (show 0 ≤ P.u * c.u + P.i by omega) (by rw [hq]; exact h.u1)).1 (by rw [hq]; exact h.m.symm)
    rw [hs]
    omega
  · have h3 : P.u * c.u + P.i + 1 = dataC c * c.u := by omega
    rw [em, h3, Int.emod_self]
    refine ⟨fun _ => ?_, fun hz => absurd rfl hz⟩
    have e4 : a + 1 = (P.s + 1) * (dataC c * c.u) + 0 := by rw [e0, h3, Int.add_mul]; omega
    rw [e4, ned_at hc P.m (by omega) (by omega), part_zero hc h.m0 h.m1]
    omega
theorem Lies.big {c : Cf} {a : Int} {P : Pl} (h : Lies c a P) (hc : checkC c = 0) : 0 ≤ P.p ∧ P.p ≤ 262208 ∧ P.s ≤ 4096 := by
  have ho := ok_of hc
  have h1 := mul_in (a := P.s) (b := c.u) (A := 4096) (B := 64) h.s0 (by have := h.s1; have := ho.s2; omega) (by have := ho.u1; omega) ho.u2
  have := h.i0
  have := h.i1
  have := ho.u2
  have := h.s1
  have := ho.s2
  rw [h.p]
  omega

end Go.Proofs.Yteglgopbagefcaa
