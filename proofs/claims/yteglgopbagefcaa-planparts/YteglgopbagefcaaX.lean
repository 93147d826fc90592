/- The contract of the reference's Need. -/
import Derived.Test.YteglgopbagefcaaW
namespace Go.Proofs.Yteglgopbagefcaa
set_option linter.unusedVariables false
set_option linter.unusedSimpArgs false
open Go.RowKit
open Go.RowKit (wrap64)

theorem part_in {c : Cf} (hu : 1 ≤ c.u) (s m L : Int) : 0 ≤ partC c s m L ∧ partC c s m L ≤ c.u := by
  unfold partC
  split
  · omega
  · split
    · omega
    · split <;> omega
theorem part_zero {c : Cf} (hc : checkC c = 0) {s m : Int} (h1 : 0 ≤ m) (h2 : m < c.m) : partC c s m 0 = 0 := by
  have ho := ok_of hc
  have hu := ho.u1
  unfold partC
  by_cases h : uniC c s m = -1
  · rw [if_pos h]
  · rw [if_neg h]
    have hi := uniC_in (s := s) ho.m1 h1 h2
    have hp : 0 ≤ uniC c s m * c.u := Int.mul_nonneg (by omega) (by omega)
    split
    · rfl
    · rw [if_neg (by omega)]
      omega
/-- One logical block more of a stripe: its member has one block more, all others none. -/
theorem part_step {c : Cf} (hc : checkC c = 0) {s m j : Int} (h1 : 0 ≤ m) (h2 : m < c.m) (hj : 0 ≤ j) (hj2 : j / c.u < c.m - 1) :
    ((s % c.m + 1 + j / c.u) % c.m = m → partC c s m (j + 1) = partC c s m j + 1) ∧ (¬ (s % c.m + 1 + j / c.u) % c.m = m → partC c s m (j + 1) = partC c s m j) := by
  have ho := ok_of hc
  have o1 := ho.m1
  have hu := ho.u1
  have hq : 0 ≤ j / c.u := Int.ediv_nonneg hj (by omega)
  have he := Int.mul_ediv_add_emod j c.u
  have hm1 : 0 ≤ j % c.u := Int.emod_nonneg _ (by omega)
  have hm2 : j % c.u < c.u := Int.emod_lt_of_pos _ (by omega)
  have hi := uniC_in (s := s) o1 h1 h2
  refine ⟨fun h => ?_, fun h => ?_⟩
  · have hU : uniC c s m = j / c.u := by rw [← h]; exact mem_uni o1 hq hj2
    have hc2 : j / c.u * c.u = c.u * (j / c.u) := Int.mul_comm _ _
    unfold partC
    rw [hU, if_neg (by omega), if_neg (by omega), if_neg (by omega), if_neg (by omega), if_neg (by omega), if_neg (by omega)]
    omega
  · by_cases hn : uniC c s m = -1
    · unfold partC
      rw [if_pos hn, if_pos hn]
    · have hne : uniC c s m ≠ j / c.u := fun e => h (by rw [← e]; exact uni_mem o1 h1 h2 hn)
      unfold partC
      rw [if_neg hn, if_neg hn]
      have hc2 : uniC c s m * c.u = c.u * uniC c s m := Int.mul_comm _ _
      rcases Int.lt_or_gt_of_ne hne with hl | hl
      · have h3 : c.u * (uniC c s m + 1) ≤ c.u * (j / c.u) := Int.mul_le_mul_of_nonneg_left (by omega) (by omega)
        rw [Int.mul_add] at h3
        by_cases h4 : c.u < j - uniC c s m * c.u
        · rw [if_neg (by omega), if_pos (by omega), if_neg (by omega), if_pos h4]
        · rw [if_neg (by omega), if_pos (by omega), if_neg (by omega), if_neg h4]
          omega
      · have h3 : c.u * (j / c.u + 1) ≤ c.u * uniC c s m := Int.mul_le_mul_of_nonneg_left (by omega) (by omega)
        rw [Int.mul_add] at h3
        by_cases h4 : j + 1 - uniC c s m * c.u < 0
        · rw [if_pos h4, if_pos (by omega)]
        · rw [if_neg h4, if_neg (by omega), if_pos (by omega)]
          omega
/-- Where a logical block of a stripe lies. -/
theorem of_row {c : Cf} (hc : checkC c = 0) {S j : Int} (h0 : 0 ≤ S) (hj : 0 ≤ j) (hj2 : j < dataC c * c.u) (hz : S * (dataC c * c.u) + j < stripesC c * (dataC c * c.u)) :
    ofB c (S * (dataC c * c.u) + j) = true ∧ (ofA c (S * (dataC c * c.u) + j)).m = (S % c.m + 1 + j / c.u) % c.m := by
  have ho := ok_of hc
  have hr := ho.r1
  have hp : 0 ≤ S * (dataC c * c.u) := Int.mul_nonneg h0 (by omega)
  have hb : ofB c (S * (dataC c * c.u) + j) = true := ofB_iff.2 ⟨hc, by omega, hz⟩
  refine ⟨hb, ?_⟩
  unfold ofA
  rw [if_pos hb]
  unfold ofIn
  generalize dataC c * c.u = R at hr hj2
  have e1 : (S * R + j) / R = S := by
    rw [Int.add_comm, Int.mul_comm, Int.add_mul_ediv_left _ _ (by omega), Int.ediv_eq_zero_of_lt hj hj2]
    omega
  have e2 : (S * R + j) % R = j := by
    rw [Int.add_comm, Int.mul_comm, Int.add_mul_emod_self_left, Int.emod_eq_of_lt hj hj2]
  rw [e1, e2]
set_option maxRecDepth 100000 in
set_option maxHeartbeats 8000000 in
theorem rNeed_in (c : Cf) (m n R Z S L G X N : Int) (w : World) (hR : dataC c * c.u = R) (hZ : stripesC c * (dataC c * c.u) = Z) (hc : checkC c = 0) (h1 : ¬ m < 0) (h2 : ¬ c.m ≤ m) (hn : ¬ Z < n) (hN : n = N) (h0 : 0 < N) (h3 : N ≤ Z) (hS : N / R = S) (hL : N % R = L) (hG : S * c.u = G) (hX : S * R = X) :
    Calls Try.prog 19 #[(.agg #[.int .i64 c.id, .int .i64 c.m, .int .i64 c.u, .int .i64 c.b, .int .i64 c.cp, .int .i64 c.z, .int .i64 c.s, .int .i64 c.mt, .int .i64 c.o, .int .i64 c.a, .int .i64 c.l]), .int .i64 m, .int .i64 n] w (Says w (.int .i64 (G + partC c S m L))) := by
  have HR := Lib.hid hR
  have HZ := Lib.hid hZ
  have HC := Lib.hid hc
  have HO := Lib.hid (ok_of hc)
  have o1 := HO.out.m1
  have o2 := HO.out.m2
  have o3 := HO.out.u1
  have o4 := HO.out.u2
  have o5 := HO.out.r1
  have o6 := HO.out.r2
  have o7 := HO.out.z2
  have o8 := HO.out.d
  rw [hR] at o5 o6
  rw [hZ] at o7
  have d1 := div_in (a := N) (b := R) (by omega) (by omega)
  have d2 : 0 ≤ N % R := Int.emod_nonneg _ (by omega)
  have d3 : N % R < R := Int.emod_lt_of_pos _ (by omega)
  have d0 := Int.mul_ediv_add_emod N R
  rw [hS] at d1 d0
  rw [hL] at d2 d3 d0
  rw [Int.mul_comm, hX] at d0
  have g1 := mul_in (a := S) (b := c.u) (A := 61440) (B := 64) (by omega) (by omega) (by omega) (by omega)
  have g2 := mul_in (a := S) (b := R) (A := 61440) (B := 960) (by omega) (by omega) (by omega) (by omega)
  have HG : Hid (wrap64 (S * c.u) = G) := by
    show wrap64 (S * c.u) = G
    rw [wrap_in (by omega) (by omega), hG]
  have HX : Hid (wrap64 (S * R) = X) := by
    show wrap64 (S * R) = X
    rw [wrap_in (by omega) (by omega), hX]
  rw [hG] at g1
  rw [hX] at g2
  have HF : Hid (∀ j : Nat, (j : Int) < L → (ofB c (X + j) = true ∧ (ofA c (X + j)).m = (S % c.m + 1 + j / c.u) % c.m)) := by
    show ∀ j : Nat, (j : Int) < L → (ofB c (X + j) = true ∧ (ofA c (X + j)).m = (S % c.m + 1 + j / c.u) % c.m)
    intro j hj
    have h := of_row (S := S) (j := (j : Int)) hc (by omega) (by omega) (by rw [hR]; omega) (by rw [hR, hX]; rw [hR] at hZ; rw [hZ]; omega)
    rw [hR, hX] at h
    exact h
  have HQ : Hid (∀ j : Nat, (j : Int) < L → (j : Int) / c.u < c.m - 1) := by
    show ∀ j : Nat, (j : Int) < L → (j : Int) / c.u < c.m - 1
    intro j hj
    refine Int.ediv_lt_of_lt_mul (by omega) ?_
    rw [o8] at hR
    omega
  have HP : Hid (0 ≤ partC c S m 0 ∧ partC c S m 0 = 0) := ⟨(part_in o3 _ _ _).1, part_zero hc (by omega) (by omega)⟩
  have HS := Lib.hid hS
  have HN := Lib.hid hN
  clear hS hL hG hX hR hZ
  subst hN
  go_enter Try.func19, Try.ntmps19
  go_wp2_with fail
  have HV0 := Lib.hid (At.new c w)
  generalize (w.alloc (.cells #[.int .i64 c.id, .int .i64 c.m, .int .i64 c.u, .int .i64 c.b, .int .i64 c.cp, .int .i64 c.z, .int .i64 c.s, .int .i64 c.mt, .int .i64 c.o, .int .i64 c.a, .int .i64 c.l] 23)) = w0 at HV0 ⊢
  obtain ⟨y0, y1, y2, y3, y4, y5, y6, y7, y8, y9, y10⟩ := box11 HV0.out.1
  refine (refCheck_any c w0).mono ?_
  rintro e w1 ⟨rfl, hb⟩
  rw [hc]
  clear hc
  have HV1 := Lib.hid (HV0.out.later hb)
  clear hb HV0 y0 y1 y2 y3 y4 y5 y6 y7 y8 y9 y10
  obtain ⟨y0, y1, y2, y3, y4, y5, y6, y7, y8, y9, y10⟩ := box11 HV1.out.1
  go_wp2_with fail
  refine (rSize_to HZ.out w1).mono ?_
  rintro e w2 ⟨rfl, hb⟩
  have HV2 := Lib.hid (HV1.out.later hb)
  clear hb HV1 y0 y1 y2 y3 y4 y5 y6 y7 y8 y9 y10
  obtain ⟨y0, y1, y2, y3, y4, y5, y6, y7, y8, y9, y10⟩ := box11 HV2.out.1
  go_wp2_with fail
  refine (rRow_to HR.out w2).mono ?_
  rintro e w3 ⟨rfl, hb⟩
  have HV3 := Lib.hid (HV2.out.later hb)
  clear hb HV2 y0 y1 y2 y3 y4 y5 y6 y7 y8 y9 y10
  obtain ⟨y0, y1, y2, y3, y4, y5, y6, y7, y8, y9, y10⟩ := box11 HV3.out.1
  have z0 : ¬ R = 0 := by omega
  have z1 : (R == 0) = false := by simpa using z0
  go_wp2_with fail
  clear z0 z1
  rw [HS.out]
  try rw [HG.out]
  refine (rRow_to HR.out w3).mono ?_
  rintro e w4 ⟨rfl, hb⟩
  have HV4 := Lib.hid (HV3.out.later hb)
  clear hb HV3 y0 y1 y2 y3 y4 y5 y6 y7 y8 y9 y10
  obtain ⟨y0, y1, y2, y3, y4, y5, y6, y7, y8, y9, y10⟩ := box11 HV4.out.1
  go_wp2
  rw [HX.out]
  have S0 := Lib.hid HV4.out
  clear HV4 y0 y1 y2 y3 y4 y5 y6 y7 y8 y9 y10
  go_loopw [7, 9] (fun a b wr => ∃ j : Nat, (j : Int) ≤ L ∧ a = .int .i64 (G + partC c S m j) ∧ b = .int .i64 (X + j) ∧ At c w wr) (fun _ b _ => (n - intOf b).toNat)
  case atStart =>
    refine ⟨0, by omega, ?_, by simp, S0.out⟩
    have h := HP.out.2
    simp [h]
  case round =>
    clear S0
    obtain ⟨j, hj, rfl, rfl, hat⟩ := hrel
    have HV9 := Lib.hid hat
    clear hat
    obtain ⟨y0, y1, y2, y3, y4, y5, y6, y7, y8, y9, y10⟩ := box11 HV9.out.1
    have p1 := part_in o3 S m j
    by_cases hlt : (j : Int) < L
    · have HT := Lib.hid (part_step (s := S) HC.out (show 0 ≤ m by omega) (show m < c.m by omega) (show 0 ≤ (j : Int) by omega) (HQ.out j hlt))
      go_wp2_with fail
      refine (rOf_any c (X + j) wr).mono ?_
      rintro e wa ⟨rfl, hb⟩
      have HVa := Lib.hid (HV9.out.later hb)
      clear hb HV9 y0 y1 y2 y3 y4 y5 y6 y7 y8 y9 y10
      rw [(HF.out j hlt).1]
      have HB := Lib.hid (HF.out j hlt).2
      generalize ofA c (X + j) = Q at HB ⊢
      by_cases hq : Q.m = m
      · have HU : Hid (partC c S m ((j + 1 : Nat) : Int) = partC c S m j + 1) := by
          show partC c S m ((j + 1 : Nat) : Int) = _
          exact HT.out.1 (by rw [← HB.out]; exact hq)
        have e1 : (Q.m == m) = true := by simpa using hq
        clear HT
        generalize partC c S m j = y at p1 HU ⊢
        go_wp2
        go_roundw
        case rel => exact ⟨j + 1, by omega, by rw [HU.out]; go_num, by go_num, HVa.out.alloc _⟩
        case measure => simp [intOf]; omega
      · have HU : Hid (partC c S m ((j + 1 : Nat) : Int) = partC c S m j) := by
          show partC c S m ((j + 1 : Nat) : Int) = _
          exact HT.out.2 (by rw [← HB.out]; exact hq)
        have e1 : (Q.m == m) = false := by simpa using hq
        clear HT
        generalize partC c S m j = y at p1 HU ⊢
        go_wp2
        go_roundw
        case rel => exact ⟨j + 1, by omega, by rw [HU.out], by go_num, HVa.out.alloc _⟩
        case measure => simp [intOf]; omega
    · have HJ : Hid ((j : Int) = L) := by show (j : Int) = L; omega
      go_wp2
      go_ret
      exact ⟨by rw [HJ.out]; rfl, HV9.out.2.1⟩
set_option maxRecDepth 100000 in
set_option maxHeartbeats 8000000 in
theorem rNeed_gt (c : Cf) (m n R Z S L G X N : Int) (w : World) (hR : dataC c * c.u = R) (hZ : stripesC c * (dataC c * c.u) = Z) (hc : checkC c = 0) (h1 : ¬ m < 0) (h2 : ¬ c.m ≤ m) (hn : Z < n) (hN : Z = N) (h0 : 0 < N) (h3 : N ≤ Z) (hS : N / R = S) (hL : N % R = L) (hG : S * c.u = G) (hX : S * R = X) :
    Calls Try.prog 19 #[(.agg #[.int .i64 c.id, .int .i64 c.m, .int .i64 c.u, .int .i64 c.b, .int .i64 c.cp, .int .i64 c.z, .int .i64 c.s, .int .i64 c.mt, .int .i64 c.o, .int .i64 c.a, .int .i64 c.l]), .int .i64 m, .int .i64 n] w (Says w (.int .i64 (G + partC c S m L))) := by
  have HR := Lib.hid hR
  have HZ := Lib.hid hZ
  have HC := Lib.hid hc
  have HO := Lib.hid (ok_of hc)
  have o1 := HO.out.m1
  have o2 := HO.out.m2
  have o3 := HO.out.u1
  have o4 := HO.out.u2
  have o5 := HO.out.r1
  have o6 := HO.out.r2
  have o7 := HO.out.z2
  have o8 := HO.out.d
  rw [hR] at o5 o6
  rw [hZ] at o7
  have d1 := div_in (a := N) (b := R) (by omega) (by omega)
  have d2 : 0 ≤ N % R := Int.emod_nonneg _ (by omega)
  have d3 : N % R < R := Int.emod_lt_of_pos _ (by omega)
  have d0 := Int.mul_ediv_add_emod N R
  rw [hS] at d1 d0
  rw [hL] at d2 d3 d0
  rw [Int.mul_comm, hX] at d0
  have g1 := mul_in (a := S) (b := c.u) (A := 61440) (B := 64) (by omega) (by omega) (by omega) (by omega)
  have g2 := mul_in (a := S) (b := R) (A := 61440) (B := 960) (by omega) (by omega) (by omega) (by omega)
  have HG : Hid (wrap64 (S * c.u) = G) := by
    show wrap64 (S * c.u) = G
    rw [wrap_in (by omega) (by omega), hG]
  have HX : Hid (wrap64 (S * R) = X) := by
    show wrap64 (S * R) = X
    rw [wrap_in (by omega) (by omega), hX]
  rw [hG] at g1
  rw [hX] at g2
  have HF : Hid (∀ j : Nat, (j : Int) < L → (ofB c (X + j) = true ∧ (ofA c (X + j)).m = (S % c.m + 1 + j / c.u) % c.m)) := by
    show ∀ j : Nat, (j : Int) < L → (ofB c (X + j) = true ∧ (ofA c (X + j)).m = (S % c.m + 1 + j / c.u) % c.m)
    intro j hj
    have h := of_row (S := S) (j := (j : Int)) hc (by omega) (by omega) (by rw [hR]; omega) (by rw [hR, hX]; rw [hR] at hZ; rw [hZ]; omega)
    rw [hR, hX] at h
    exact h
  have HQ : Hid (∀ j : Nat, (j : Int) < L → (j : Int) / c.u < c.m - 1) := by
    show ∀ j : Nat, (j : Int) < L → (j : Int) / c.u < c.m - 1
    intro j hj
    refine Int.ediv_lt_of_lt_mul (by omega) ?_
    rw [o8] at hR
    omega
  have HP : Hid (0 ≤ partC c S m 0 ∧ partC c S m 0 = 0) := ⟨(part_in o3 _ _ _).1, part_zero hc (by omega) (by omega)⟩
  have HS := Lib.hid hS
  have HN := Lib.hid hN
  clear hS hL hG hX hR hZ
  clear hN
  go_enter Try.func19, Try.ntmps19
  go_wp2_with fail
  have HV0 := Lib.hid (At.new c w)
  generalize (w.alloc (.cells #[.int .i64 c.id, .int .i64 c.m, .int .i64 c.u, .int .i64 c.b, .int .i64 c.cp, .int .i64 c.z, .int .i64 c.s, .int .i64 c.mt, .int .i64 c.o, .int .i64 c.a, .int .i64 c.l] 23)) = w0 at HV0 ⊢
  obtain ⟨y0, y1, y2, y3, y4, y5, y6, y7, y8, y9, y10⟩ := box11 HV0.out.1
  refine (refCheck_any c w0).mono ?_
  rintro e w1 ⟨rfl, hb⟩
  rw [hc]
  clear hc
  have HV1 := Lib.hid (HV0.out.later hb)
  clear hb HV0 y0 y1 y2 y3 y4 y5 y6 y7 y8 y9 y10
  obtain ⟨y0, y1, y2, y3, y4, y5, y6, y7, y8, y9, y10⟩ := box11 HV1.out.1
  go_wp2_with fail
  refine (rSize_to HZ.out w1).mono ?_
  rintro e w2 ⟨rfl, hb⟩
  have HV2 := Lib.hid (HV1.out.later hb)
  clear hb HV1 y0 y1 y2 y3 y4 y5 y6 y7 y8 y9 y10
  obtain ⟨y0, y1, y2, y3, y4, y5, y6, y7, y8, y9, y10⟩ := box11 HV2.out.1
  go_wp2_with fail
  refine (rSize_to HZ.out w2).mono ?_
  rintro e w3 ⟨rfl, hb⟩
  have HV3 := Lib.hid (HV2.out.later hb)
  clear hb HV2 y0 y1 y2 y3 y4 y5 y6 y7 y8 y9 y10
  obtain ⟨y0, y1, y2, y3, y4, y5, y6, y7, y8, y9, y10⟩ := box11 HV3.out.1
  rw [HN.out]
  go_wp2_with fail
  refine (rRow_to HR.out w3).mono ?_
  rintro e w4 ⟨rfl, hb⟩
  have HV4 := Lib.hid (HV3.out.later hb)
  clear hb HV3 y0 y1 y2 y3 y4 y5 y6 y7 y8 y9 y10
  obtain ⟨y0, y1, y2, y3, y4, y5, y6, y7, y8, y9, y10⟩ := box11 HV4.out.1
  have z0 : ¬ R = 0 := by omega
  have z1 : (R == 0) = false := by simpa using z0
  go_wp2_with fail
  clear z0 z1
  rw [HS.out]
  try rw [HG.out]
  refine (rRow_to HR.out w4).mono ?_
  rintro e w5 ⟨rfl, hb⟩
  have HV5 := Lib.hid (HV4.out.later hb)
  clear hb HV4 y0 y1 y2 y3 y4 y5 y6 y7 y8 y9 y10
  obtain ⟨y0, y1, y2, y3, y4, y5, y6, y7, y8, y9, y10⟩ := box11 HV5.out.1
  go_wp2
  rw [HX.out]
  have S0 := Lib.hid HV5.out
  clear HV5 y0 y1 y2 y3 y4 y5 y6 y7 y8 y9 y10
  go_loopw [7, 9] (fun a b wr => ∃ j : Nat, (j : Int) ≤ L ∧ a = .int .i64 (G + partC c S m j) ∧ b = .int .i64 (X + j) ∧ At c w wr) (fun _ b _ => (N - intOf b).toNat)
  case atStart =>
    refine ⟨0, by omega, ?_, by simp, S0.out⟩
    have h := HP.out.2
    simp [h]
  case round =>
    clear S0
    obtain ⟨j, hj, rfl, rfl, hat⟩ := hrel
    have HV9 := Lib.hid hat
    clear hat
    obtain ⟨y0, y1, y2, y3, y4, y5, y6, y7, y8, y9, y10⟩ := box11 HV9.out.1
    have p1 := part_in o3 S m j
    by_cases hlt : (j : Int) < L
    · have HT := Lib.hid (part_step (s := S) HC.out (show 0 ≤ m by omega) (show m < c.m by omega) (show 0 ≤ (j : Int) by omega) (HQ.out j hlt))
      go_wp2_with fail
      refine (rOf_any c (X + j) wr).mono ?_
      rintro e wa ⟨rfl, hb⟩
      have HVa := Lib.hid (HV9.out.later hb)
      clear hb HV9 y0 y1 y2 y3 y4 y5 y6 y7 y8 y9 y10
      rw [(HF.out j hlt).1]
      have HB := Lib.hid (HF.out j hlt).2
      generalize ofA c (X + j) = Q at HB ⊢
      by_cases hq : Q.m = m
      · have HU : Hid (partC c S m ((j + 1 : Nat) : Int) = partC c S m j + 1) := by
          show partC c S m ((j + 1 : Nat) : Int) = _
          exact HT.out.1 (by rw [← HB.out]; exact hq)
        have e1 : (Q.m == m) = true := by simpa using hq
        clear HT
        generalize partC c S m j = y at p1 HU ⊢
        go_wp2
        go_roundw
        case rel => exact ⟨j + 1, by omega, by rw [HU.out]; go_num, by go_num, HVa.out.alloc _⟩
        case measure => simp [intOf]; omega
      · have HU : Hid (partC c S m ((j + 1 : Nat) : Int) = partC c S m j) := by
          show partC c S m ((j + 1 : Nat) : Int) = _
          exact HT.out.2 (by rw [← HB.out]; exact hq)
        have e1 : (Q.m == m) = false := by simpa using hq
        clear HT
        generalize partC c S m j = y at p1 HU ⊢
        go_wp2
        go_roundw
        case rel => exact ⟨j + 1, by omega, by rw [HU.out], by go_num, HVa.out.alloc _⟩
        case measure => simp [intOf]; omega
    · have HJ : Hid ((j : Int) = L) := by show (j : Int) = L; omega
      go_wp2
      go_ret
      exact ⟨by rw [HJ.out]; rfl, HV9.out.2.1⟩
set_option maxHeartbeats 4000000 in
theorem rNeed_le (c : Cf) (m n R Z : Int) (w : World) (hR : dataC c * c.u = R) (hZ : stripesC c * (dataC c * c.u) = Z) (hc : checkC c = 0) (h1 : ¬ m < 0) (h2 : ¬ c.m ≤ m) (h0 : n ≤ 0) :
    Calls Try.prog 19 #[(.agg #[.int .i64 c.id, .int .i64 c.m, .int .i64 c.u, .int .i64 c.b, .int .i64 c.cp, .int .i64 c.z, .int .i64 c.s, .int .i64 c.mt, .int .i64 c.o, .int .i64 c.a, .int .i64 c.l]), .int .i64 m, .int .i64 n] w (Says w (.int .i64 0)) := by
  have HR := Lib.hid hR
  have HZ := Lib.hid hZ
  have HO := Lib.hid (ok_of hc)
  have o7 := HO.out.z1
  rw [hZ] at o7
  have hn : ¬ Z < n := by omega
  have hn0 : ¬ 0 < n := by omega
  clear hR hZ
  go_enter Try.func19, Try.ntmps19
  go_wp2_with fail
  have HV0 := Lib.hid (At.new c w)
  generalize (w.alloc (.cells #[.int .i64 c.id, .int .i64 c.m, .int .i64 c.u, .int .i64 c.b, .int .i64 c.cp, .int .i64 c.z, .int .i64 c.s, .int .i64 c.mt, .int .i64 c.o, .int .i64 c.a, .int .i64 c.l] 23)) = w0 at HV0 ⊢
  obtain ⟨y0, y1, y2, y3, y4, y5, y6, y7, y8, y9, y10⟩ := box11 HV0.out.1
  refine (refCheck_any c w0).mono ?_
  rintro e w1 ⟨rfl, hb⟩
  rw [hc]
  clear hc
  have HV1 := Lib.hid (HV0.out.later hb)
  clear hb HV0 y0 y1 y2 y3 y4 y5 y6 y7 y8 y9 y10
  obtain ⟨y0, y1, y2, y3, y4, y5, y6, y7, y8, y9, y10⟩ := box11 HV1.out.1
  go_wp2_with fail
  refine (rSize_to HZ.out w1).mono ?_
  rintro e w2 ⟨rfl, hb⟩
  have HV2 := Lib.hid (HV1.out.later hb)
  clear hb HV1 y0 y1 y2 y3 y4 y5 y6 y7 y8 y9 y10
  obtain ⟨y0, y1, y2, y3, y4, y5, y6, y7, y8, y9, y10⟩ := box11 HV2.out.1
  go_wp2_with fail
  refine (rRow_to HR.out w2).mono ?_
  rintro e w3 ⟨rfl, hb⟩
  have HV3 := Lib.hid (HV2.out.later hb)
  clear hb HV2 y0 y1 y2 y3 y4 y5 y6 y7 y8 y9 y10
  obtain ⟨y0, y1, y2, y3, y4, y5, y6, y7, y8, y9, y10⟩ := box11 HV3.out.1
  go_wp2
  have S0 := Lib.hid HV3.out
  clear HV3 y0 y1 y2 y3 y4 y5 y6 y7 y8 y9 y10
  go_loopw [7, 9] (fun a b wr => a = .int .i64 0 ∧ b = .int .i64 0 ∧ At c w wr) (fun _ b _ => 0)
  case atStart => first | exact ⟨rfl, rfl, S0.out⟩ | exact ⟨by simp, by simp, S0.out⟩ | exact ⟨by simp [wrap64], by simp [wrap64], S0.out⟩
  case round =>
    obtain ⟨rfl, rfl, hat⟩ := hrel
    have HV9 := Lib.hid hat
    clear hat S0
    go_wp2
    go_ret
    exact ⟨rfl, HV9.out.2.1⟩
set_option maxHeartbeats 2000000 in
theorem rNeed_no (c : Cf) (m n : Int) (w : World) (h : hasM c m = false) : Calls Try.prog 19 #[(.agg #[.int .i64 c.id, .int .i64 c.m, .int .i64 c.u, .int .i64 c.b, .int .i64 c.cp, .int .i64 c.z, .int .i64 c.s, .int .i64 c.mt, .int .i64 c.o, .int .i64 c.a, .int .i64 c.l]), .int .i64 m, .int .i64 n] w (Says w (.int .i64 0)) := by
  by_cases hc : checkC c = 0
  · by_cases h1 : m < 0
    · clear h
      go_enter Try.func19, Try.ntmps19
      go_wp2_with fail
      have HV0 := Lib.hid (At.new c w)
      generalize (w.alloc (.cells #[.int .i64 c.id, .int .i64 c.m, .int .i64 c.u, .int .i64 c.b, .int .i64 c.cp, .int .i64 c.z, .int .i64 c.s, .int .i64 c.mt, .int .i64 c.o, .int .i64 c.a, .int .i64 c.l] 23)) = w0 at HV0 ⊢
      obtain ⟨y0, y1, y2, y3, y4, y5, y6, y7, y8, y9, y10⟩ := box11 HV0.out.1
      refine (refCheck_any c w0).mono ?_
      rintro e w1 ⟨rfl, hb⟩
      rw [hc]
      clear hc
      have HV1 := Lib.hid (HV0.out.later hb)
      clear hb HV0 y0 y1 y2 y3 y4 y5 y6 y7 y8 y9 y10
      obtain ⟨y0, y1, y2, y3, y4, y5, y6, y7, y8, y9, y10⟩ := box11 HV1.out.1
      go_wp2
      go_ret
      exact ⟨rfl, HV1.out.2.1⟩
    · have h2 : c.m ≤ m := by
        rcases Int.lt_or_le m c.m with h3 | h3
        · rw [hasM_iff.2 ⟨hc, by omega, h3⟩] at h
          cases h
        · exact h3
      clear h
      go_enter Try.func19, Try.ntmps19
      go_wp2_with fail
      have HV0 := Lib.hid (At.new c w)
      generalize (w.alloc (.cells #[.int .i64 c.id, .int .i64 c.m, .int .i64 c.u, .int .i64 c.b, .int .i64 c.cp, .int .i64 c.z, .int .i64 c.s, .int .i64 c.mt, .int .i64 c.o, .int .i64 c.a, .int .i64 c.l] 23)) = w0 at HV0 ⊢
      obtain ⟨y0, y1, y2, y3, y4, y5, y6, y7, y8, y9, y10⟩ := box11 HV0.out.1
      refine (refCheck_any c w0).mono ?_
      rintro e w1 ⟨rfl, hb⟩
      rw [hc]
      clear hc
      have HV1 := Lib.hid (HV0.out.later hb)
      clear hb HV0 y0 y1 y2 y3 y4 y5 y6 y7 y8 y9 y10
      obtain ⟨y0, y1, y2, y3, y4, y5, y6, y7, y8, y9, y10⟩ := box11 HV1.out.1
      go_wp2
      go_ret
      exact ⟨rfl, HV1.out.2.1⟩
  · clear h
    go_enter Try.func19, Try.ntmps19
    go_wp2_with fail
    have HV0 := Lib.hid (At.new c w)
    generalize (w.alloc (.cells #[.int .i64 c.id, .int .i64 c.m, .int .i64 c.u, .int .i64 c.b, .int .i64 c.cp, .int .i64 c.z, .int .i64 c.s, .int .i64 c.mt, .int .i64 c.o, .int .i64 c.a, .int .i64 c.l] 23)) = w0 at HV0 ⊢
    obtain ⟨y0, y1, y2, y3, y4, y5, y6, y7, y8, y9, y10⟩ := box11 HV0.out.1
    refine (refCheck_any c w0).mono ?_
    rintro e w1 ⟨rfl, hb⟩
    generalize checkC c = x at hc ⊢
    have e1 : (x == 0) = false := by simpa using hc
    have HV1 := Lib.hid (HV0.out.later hb)
    clear hb HV0 y0 y1 y2 y3 y4 y5 y6 y7 y8 y9 y10
    obtain ⟨y0, y1, y2, y3, y4, y5, y6, y7, y8, y9, y10⟩ := box11 HV1.out.1
    go_wp2
    go_ret
    exact ⟨rfl, HV1.out.2.1⟩
theorem rNeed_any (c : Cf) (m n : Int) (w : World) : Calls Try.prog 19 #[(.agg #[.int .i64 c.id, .int .i64 c.m, .int .i64 c.u, .int .i64 c.b, .int .i64 c.cp, .int .i64 c.z, .int .i64 c.s, .int .i64 c.mt, .int .i64 c.o, .int .i64 c.a, .int .i64 c.l]), .int .i64 m, .int .i64 n] w (Says w (.int .i64 (needA c m n))) := by
  by_cases h : hasM c m = true
  · have e : needA c m n = nedC c m (wriC c n) := by unfold needA; rw [if_pos h]
    rw [e]
    have hh := hasM_iff.1 h
    have ho := ok_of hh.1
    have hz1 := ho.z1
    have hr1 := ho.r1
    have hs1 := ho.s1
    have hz3 : 1 * 2 ≤ stripesC c * (dataC c * c.u) := Int.mul_le_mul hs1 hr1 (by omega) (by omega)
    by_cases h0 : n ≤ 0
    · have e2 : wriC c n = 0 := by
        unfold wriC
        by_cases hn : n < 0
        · rw [if_pos hn]
        · rw [if_neg hn, if_neg (by omega)]
          omega
      have e3 : nedC c m 0 = 0 := by
        unfold nedC
        rw [Int.zero_ediv, Int.zero_emod, part_zero hh.1 hh.2.1 hh.2.2]
        omega
      rw [e2, e3]
      exact rNeed_le c m n _ _ w rfl rfl hh.1 (by omega) (by omega) h0
    · by_cases hn : stripesC c * (dataC c * c.u) < n
      · have e2 : wriC c n = stripesC c * (dataC c * c.u) := by
          unfold wriC
          rw [if_neg (by omega), if_pos hn]
        rw [e2]
        exact rNeed_gt c m n _ _ _ _ _ _ _ w rfl rfl hh.1 (by omega) (by omega) hn rfl (by omega) (by omega) rfl rfl rfl rfl
      · have e2 : wriC c n = n := by
          unfold wriC
          rw [if_neg (by omega), if_neg hn]
        rw [e2]
        exact rNeed_in c m n _ _ _ _ _ _ _ w rfl rfl hh.1 (by omega) (by omega) hn rfl (by omega) (by omega) rfl rfl rfl rfl
  · have e : needA c m n = 0 := by unfold needA; rw [if_neg h]
    rw [e]
    exact rNeed_no c m n w (by simpa using h)
end Go.Proofs.Yteglgopbagefcaa
