/- The walk of PlanParts. -/
import Derived.Test.YteglgopbagefcaaSa
import Derived.Test.YteglgopbagefcaaPh
import Derived.Deep.DeepCutAuto
namespace Go.Proofs.Yteglgopbagefcaa
set_option linter.unusedVariables false
set_option linter.unusedSimpArgs false
open Go.RowKit Go.Shelf
open Go.RowKit (wrap64)

set_option maxRecDepth 100000 in
set_option maxHeartbeats 8000000 in
theorem pparts_big (c : Cf) (n q : Int) (w : World) (hs : smallC c = false) : Calls Try.prog 6 #[(.agg #[.int .i64 c.id, .int .i64 c.m, .int .i64 c.u, .int .i64 c.b, .int .i64 c.cp, .int .i64 c.z, .int .i64 c.s, .int .i64 c.mt, .int .i64 c.o, .int .i64 c.a, .int .i64 c.l]), .int .i64 n, .int .i64 q] w (Says w (.bool true)) := by
  go_enter Try.func6, Try.ntmps6
  go_wp2_with fail
  have HV0 := Lib.hid (At.new c w)
  generalize (w.alloc (.cells #[.int .i64 c.id, .int .i64 c.m, .int .i64 c.u, .int .i64 c.b, .int .i64 c.cp, .int .i64 c.z, .int .i64 c.s, .int .i64 c.mt, .int .i64 c.o, .int .i64 c.a, .int .i64 c.l] 23)) = w0 at HV0 ⊢
  obtain ⟨y0, y1, y2, y3, y4, y5, y6, y7, y8, y9, y10⟩ := box11 HV0.out.1
  refine (small_any c w0).mono ?_
  rintro e w1 ⟨rfl, hb⟩
  rw [hs]
  have HV1 := Lib.hid (HV0.out.later hb)
  clear hb HV0 y0 y1 y2 y3 y4 y5 y6 y7 y8 y9 y10
  obtain ⟨y0, y1, y2, y3, y4, y5, y6, y7, y8, y9, y10⟩ := box11 HV1.out.1
  go_wp2_with fail
  refine (live_any w1).mono ?_
  rintro e w2 ⟨rfl, hb⟩
  have HV2 := Lib.hid (HV1.out.later hb)
  clear hb HV1 y0 y1 y2 y3 y4 y5 y6 y7 y8 y9 y10
  obtain ⟨y0, y1, y2, y3, y4, y5, y6, y7, y8, y9, y10⟩ := box11 HV2.out.1
  go_wp2
  go_ret
  exact ⟨rfl, HV2.out.2.1⟩
set_option maxRecDepth 100000 in
set_option maxHeartbeats 8000000 in
theorem pparts_out (c : Cf) (n q : Int) (w : World) (hn : n ≤ 9223372036854775807) (hs : smallC c = true) (hr : rightC c 0 n = false) : Calls Try.prog 6 #[(.agg #[.int .i64 c.id, .int .i64 c.m, .int .i64 c.u, .int .i64 c.b, .int .i64 c.cp, .int .i64 c.z, .int .i64 c.s, .int .i64 c.mt, .int .i64 c.o, .int .i64 c.a, .int .i64 c.l]), .int .i64 n, .int .i64 q] w (Says w (.bool true)) := by
  go_enter Try.func6, Try.ntmps6
  go_wp2_with fail
  have HV0 := Lib.hid (At.new c w)
  generalize (w.alloc (.cells #[.int .i64 c.id, .int .i64 c.m, .int .i64 c.u, .int .i64 c.b, .int .i64 c.cp, .int .i64 c.z, .int .i64 c.s, .int .i64 c.mt, .int .i64 c.o, .int .i64 c.a, .int .i64 c.l] 23)) = w0 at HV0 ⊢
  obtain ⟨y0, y1, y2, y3, y4, y5, y6, y7, y8, y9, y10⟩ := box11 HV0.out.1
  refine (small_any c w0).mono ?_
  rintro e w1 ⟨rfl, hb⟩
  rw [hs]
  have HV1 := Lib.hid (HV0.out.later hb)
  clear hb HV0 y0 y1 y2 y3 y4 y5 y6 y7 y8 y9 y10
  obtain ⟨y0, y1, y2, y3, y4, y5, y6, y7, y8, y9, y10⟩ := box11 HV1.out.1
  go_wp2_with fail
  refine (right_any c 0 n w1 hn (by omega)).mono ?_
  rintro e w2 ⟨rfl, hb⟩
  rw [hr]
  have HV2 := Lib.hid (HV1.out.later hb)
  clear hb HV1 y0 y1 y2 y3 y4 y5 y6 y7 y8 y9 y10
  obtain ⟨y0, y1, y2, y3, y4, y5, y6, y7, y8, y9, y10⟩ := box11 HV2.out.1
  go_wp2_with fail
  refine (live_any w2).mono ?_
  rintro e w3 ⟨rfl, hb⟩
  have HV3 := Lib.hid (HV2.out.later hb)
  clear hb HV2 y0 y1 y2 y3 y4 y5 y6 y7 y8 y9 y10
  obtain ⟨y0, y1, y2, y3, y4, y5, y6, y7, y8, y9, y10⟩ := box11 HV3.out.1
  go_wp2
  go_ret
  exact ⟨rfl, HV3.out.2.1⟩
set_option maxRecDepth 100000 in
set_option maxHeartbeats 8000000 in
theorem pparts_low (c : Cf) (n q : Int) (w : World) (hn : n ≤ 9223372036854775807) (hs : smallC c = true) (hr : rightC c 0 n = true) (hq : q < 0) : Calls Try.prog 6 #[(.agg #[.int .i64 c.id, .int .i64 c.m, .int .i64 c.u, .int .i64 c.b, .int .i64 c.cp, .int .i64 c.z, .int .i64 c.s, .int .i64 c.mt, .int .i64 c.o, .int .i64 c.a, .int .i64 c.l]), .int .i64 n, .int .i64 q] w (Says w (.bool true)) := by
  go_enter Try.func6, Try.ntmps6
  go_wp2_with fail
  have HV0 := Lib.hid (At.new c w)
  generalize (w.alloc (.cells #[.int .i64 c.id, .int .i64 c.m, .int .i64 c.u, .int .i64 c.b, .int .i64 c.cp, .int .i64 c.z, .int .i64 c.s, .int .i64 c.mt, .int .i64 c.o, .int .i64 c.a, .int .i64 c.l] 23)) = w0 at HV0 ⊢
  obtain ⟨y0, y1, y2, y3, y4, y5, y6, y7, y8, y9, y10⟩ := box11 HV0.out.1
  refine (small_any c w0).mono ?_
  rintro e w1 ⟨rfl, hb⟩
  rw [hs]
  have HV1 := Lib.hid (HV0.out.later hb)
  clear hb HV0 y0 y1 y2 y3 y4 y5 y6 y7 y8 y9 y10
  obtain ⟨y0, y1, y2, y3, y4, y5, y6, y7, y8, y9, y10⟩ := box11 HV1.out.1
  go_wp2_with fail
  refine (right_any c 0 n w1 hn (by omega)).mono ?_
  rintro e w2 ⟨rfl, hb⟩
  rw [hr]
  have HV2 := Lib.hid (HV1.out.later hb)
  clear hb HV1 y0 y1 y2 y3 y4 y5 y6 y7 y8 y9 y10
  obtain ⟨y0, y1, y2, y3, y4, y5, y6, y7, y8, y9, y10⟩ := box11 HV2.out.1
  go_wp2_with fail
  refine (live_any w2).mono ?_
  rintro e w3 ⟨rfl, hb⟩
  have HV3 := Lib.hid (HV2.out.later hb)
  clear hb HV2 y0 y1 y2 y3 y4 y5 y6 y7 y8 y9 y10
  obtain ⟨y0, y1, y2, y3, y4, y5, y6, y7, y8, y9, y10⟩ := box11 HV3.out.1
  go_wp2
  go_ret
  exact ⟨rfl, HV3.out.2.1⟩
set_option maxRecDepth 100000 in
set_option maxHeartbeats 8000000 in
theorem pparts_high (c : Cf) (n q : Int) (w : World) (hn : n ≤ 9223372036854775807) (hs : smallC c = true) (hr : rightC c 0 n = true) (hq : ¬ q < 0) (hq2 : n < q) : Calls Try.prog 6 #[(.agg #[.int .i64 c.id, .int .i64 c.m, .int .i64 c.u, .int .i64 c.b, .int .i64 c.cp, .int .i64 c.z, .int .i64 c.s, .int .i64 c.mt, .int .i64 c.o, .int .i64 c.a, .int .i64 c.l]), .int .i64 n, .int .i64 q] w (Says w (.bool true)) := by
  go_enter Try.func6, Try.ntmps6
  go_wp2_with fail
  have HV0 := Lib.hid (At.new c w)
  generalize (w.alloc (.cells #[.int .i64 c.id, .int .i64 c.m, .int .i64 c.u, .int .i64 c.b, .int .i64 c.cp, .int .i64 c.z, .int .i64 c.s, .int .i64 c.mt, .int .i64 c.o, .int .i64 c.a, .int .i64 c.l] 23)) = w0 at HV0 ⊢
  obtain ⟨y0, y1, y2, y3, y4, y5, y6, y7, y8, y9, y10⟩ := box11 HV0.out.1
  refine (small_any c w0).mono ?_
  rintro e w1 ⟨rfl, hb⟩
  rw [hs]
  have HV1 := Lib.hid (HV0.out.later hb)
  clear hb HV0 y0 y1 y2 y3 y4 y5 y6 y7 y8 y9 y10
  obtain ⟨y0, y1, y2, y3, y4, y5, y6, y7, y8, y9, y10⟩ := box11 HV1.out.1
  go_wp2_with fail
  refine (right_any c 0 n w1 hn (by omega)).mono ?_
  rintro e w2 ⟨rfl, hb⟩
  rw [hr]
  have HV2 := Lib.hid (HV1.out.later hb)
  clear hb HV1 y0 y1 y2 y3 y4 y5 y6 y7 y8 y9 y10
  obtain ⟨y0, y1, y2, y3, y4, y5, y6, y7, y8, y9, y10⟩ := box11 HV2.out.1
  go_wp2_with fail
  refine (live_any w2).mono ?_
  rintro e w3 ⟨rfl, hb⟩
  have HV3 := Lib.hid (HV2.out.later hb)
  clear hb HV2 y0 y1 y2 y3 y4 y5 y6 y7 y8 y9 y10
  obtain ⟨y0, y1, y2, y3, y4, y5, y6, y7, y8, y9, y10⟩ := box11 HV3.out.1
  go_wp2
  go_ret
  exact ⟨rfl, HV3.out.2.1⟩
theorem rowN_zero (f : Int → Int) (M : Nat) : rowN f M 0 = rowN (hasN []) M M := by
  unfold rowN
  apply List.map_congr_left
  intro i hi
  rw [if_neg (by omega), hasN_nil]
  simp
theorem rowN_put (l : List St) (x : St) (M j : Nat) (hj : j < M) (hx : x.m = (j : Int)) : (rowN (hasN l) M M).set j (.int .i64 (hasN l j + x.n)) = rowN (hasN (l ++ [x])) M M := by
  apply List.ext_getElem?
  intro i
  by_cases hi : i < M
  · rw [rowN_at hi, List.getElem?_set, if_pos hi, hasN_snoc, hx]
    by_cases e : j = i
    · subst e
      rw [if_pos rfl, if_pos (by rw [rowN_length]; exact hj), if_pos rfl]
    · rw [if_neg e, rowN_at hi, if_pos hi, if_neg (by omega), Int.add_zero]
  · rw [List.getElem?_eq_none (by rw [List.length_set, rowN_length]; omega), List.getElem?_eq_none (by rw [rowN_length]; omega)]
set_option maxRecDepth 100000 in
set_option maxHeartbeats 8000000 in
theorem pparts_go (c : Cf) (N Q : Nat) (w : World) (hs : smallC c = true) (hr : rightC c 0 N = true) (hq : Q ≤ N) : Calls Try.prog 6 #[(.agg #[.int .i64 c.id, .int .i64 c.m, .int .i64 c.u, .int .i64 c.b, .int .i64 c.cp, .int .i64 c.z, .int .i64 c.s, .int .i64 c.mt, .int .i64 c.o, .int .i64 c.a, .int .i64 c.l]), .int .i64 N, .int .i64 Q] w (Says w (.bool true)) := by
  have HR := Lib.hid (rightC_iff.1 hr)
  have HO := Lib.hid (ok_of HR.out.1)
  have b2 : N ≤ 61440 := by have := HR.out.2.2.2; have := HO.out.z2; omega
  have HA0 : Hid (stepsA c 0 N = stepsL c 0 N) := by
    show stepsA c 0 N = _
    unfold stepsA
    rw [if_pos hr, Int.toNat_natCast]
  have HA1 : Hid (stepsA c 0 Q = stepsL c 0 Q) := by
    show stepsA c 0 Q = _
    unfold stepsA
    rw [if_pos (rightC_iff.2 ⟨HR.out.1, by omega, by omega, by have := HR.out.2.2.2; omega⟩), Int.toNat_natCast]
  have HA2 : Hid (stepsA c Q ((N : Int) - Q) = stepsL c Q (N - Q)) := by
    show stepsA c Q ((N : Int) - Q) = _
    unfold stepsA
    rw [if_pos (rightC_iff.2 ⟨HR.out.1, by omega, by omega, by have := HR.out.2.2.2; omega⟩)]
    congr 1
    omega
  have HSP : Hid (stepsL c 0 N = stepsL c 0 Q ++ stepsL c Q (N - Q)) := by
    show stepsL c 0 N = _
    have h := stepsL_add c 0 Q (N - Q)
    rw [Nat.add_sub_cancel' hq] at h
    rw [h]
    congr 2
    omega
  have HK := Lib.hid (steps_ok HR.out.1 N (by have := HR.out.2.2.2; omega))
  have HLN : Hid ((stepsL c 0 N).length ≤ 122880) := by have := stepsL_len c 0 N; show _ ≤ _; omega
  have HSub : Hid (IntKind.i64.wrap ((N : Int) - Q) = (N : Int) - Q) := wrapk_in (by omega) (by omega)
  have HGr := Lib.hid hr
  obtain ⟨M, hM⟩ : ∃ M : Nat, c.m = (M : Int) := ⟨c.m.toNat, by have := HO.out.m1; omega⟩
  have hM16 : M ≤ 16 := by have := HO.out.m2; omega
  have HM := Lib.hid hM
  have HND : Hid (∀ m : Nat, m < M → hasN (stepsL c 0 N) m = needA c m N) := fun m hm => by
    rw [need_at HR.out.1 (by omega) (by omega) (by omega) (by have := HR.out.2.2.2; omega)]
    exact HK.out.2 m (by omega) (by omega)
  have hd0 : decide ((Q : Int) < 0) = false := decide_eq_false (by omega)
  clear hr hM
  go_enter Try.func6, Try.ntmps6
  go_wp2_with fail
  have HV0 := Lib.hid (At.new c w)
  generalize (w.alloc (.cells #[.int .i64 c.id, .int .i64 c.m, .int .i64 c.u, .int .i64 c.b, .int .i64 c.cp, .int .i64 c.z, .int .i64 c.s, .int .i64 c.mt, .int .i64 c.o, .int .i64 c.a, .int .i64 c.l] 23)) = w0 at HV0 ⊢
  obtain ⟨y0, y1, y2, y3, y4, y5, y6, y7, y8, y9, y10⟩ := box11 HV0.out.1
  refine (small_any c w0).mono ?_
  rintro e w1 ⟨rfl, hb⟩
  rw [hs]
  have HV1 := Lib.hid (HV0.out.later hb)
  clear hb HV0 y0 y1 y2 y3 y4 y5 y6 y7 y8 y9 y10
  obtain ⟨y0, y1, y2, y3, y4, y5, y6, y7, y8, y9, y10⟩ := box11 HV1.out.1
  go_wp2_with fail
  refine (right_any c 0 N w1 (by omega) (by omega)).mono ?_
  rintro e w2 ⟨rfl, hb⟩
  rw [HGr.out]
  have HV2 := Lib.hid (HV1.out.later hb)
  clear hb HV1 y0 y1 y2 y3 y4 y5 y6 y7 y8 y9 y10
  obtain ⟨y0, y1, y2, y3, y4, y5, y6, y7, y8, y9, y10⟩ := box11 HV2.out.1
  go_wp2_with fail
  refine (steps_any c 0 N w2 (by omega) (by omega)).mono ?_
  rintro e w3 ⟨v0, rfl, hrw, hb⟩
  rw [HA0.out] at hrw
  have HV3 := Lib.hid (HV2.out.later hb)
  obtain ⟨A, cA, rfl, hcA, hsA⟩ := hrw.seen St.len
  have HA3 := Lib.hid hsA
  clear hrw hb HV2 y0 y1 y2 y3 y4 y5 y6 y7 y8 y9 y10 hsA hs
  obtain ⟨y0, y1, y2, y3, y4, y5, y6, y7, y8, y9, y10⟩ := box11 HV3.out.1
  go_upto_region 4 with fail
  obtain ⟨B, hB⟩ : ∃ B, w3.heap.size = B := ⟨_, rfl⟩
  go_cut [8] from 35 to 46 (fun s wx => Rw St.cs 41 wx B s (stepsL c 0 N) ∧ Below B w3 wx)
  case first =>
    refine wpB_start B (by kernel_rfl) ?_
    have HV4 := Lib.hid HV3.out.drew
    have HL4 : Hid (B ≤ w3.drew.heap.size) := Nat.le_of_eq hB.symm
    have HB3 : Hid (Below B w3 w3.drew) := (Below.refl _ _).drew
    have HLt : Hid (w.heap.size < B) := by have := HV3.out.2.2; show _ < _; omega
    clear y0 y1 y2 y3 y4 y5 y6 y7 y8 y9 y10
    generalize w3.drew = w4 at HV4 HL4 HB3 ⊢
    have HB4 : Hid (Below B w4 w4) := Below.refl _ _
    have q0 : ∀ w', Below B w4 w' → w'.cell? ⟨w.heap.size, 0, none⟩ = some (.int .i64 c.id) := fun w' h => (box11 (HV4.out.1.under h HLt.out)).1
    have q1 : ∀ w', Below B w4 w' → w'.cell? ⟨w.heap.size, 1, none⟩ = some (.int .i64 c.m) := fun w' h => (box11 (HV4.out.1.under h HLt.out)).2.1
    have q2 : ∀ w', Below B w4 w' → w'.cell? ⟨w.heap.size, 2, none⟩ = some (.int .i64 c.u) := fun w' h => (box11 (HV4.out.1.under h HLt.out)).2.2.1
    have q3 : ∀ w', Below B w4 w' → w'.cell? ⟨w.heap.size, 3, none⟩ = some (.int .i64 c.b) := fun w' h => (box11 (HV4.out.1.under h HLt.out)).2.2.2.1
    have q4 : ∀ w', Below B w4 w' → w'.cell? ⟨w.heap.size, 4, none⟩ = some (.int .i64 c.cp) := fun w' h => (box11 (HV4.out.1.under h HLt.out)).2.2.2.2.1
    have q5 : ∀ w', Below B w4 w' → w'.cell? ⟨w.heap.size, 5, none⟩ = some (.int .i64 c.z) := fun w' h => (box11 (HV4.out.1.under h HLt.out)).2.2.2.2.2.1
    have q6 : ∀ w', Below B w4 w' → w'.cell? ⟨w.heap.size, 6, none⟩ = some (.int .i64 c.s) := fun w' h => (box11 (HV4.out.1.under h HLt.out)).2.2.2.2.2.2.1
    have q7 : ∀ w', Below B w4 w' → w'.cell? ⟨w.heap.size, 7, none⟩ = some (.int .i64 c.mt) := fun w' h => (box11 (HV4.out.1.under h HLt.out)).2.2.2.2.2.2.2.1
    have q8 : ∀ w', Below B w4 w' → w'.cell? ⟨w.heap.size, 8, none⟩ = some (.int .i64 c.o) := fun w' h => (box11 (HV4.out.1.under h HLt.out)).2.2.2.2.2.2.2.2.1
    have q9 : ∀ w', Below B w4 w' → w'.cell? ⟨w.heap.size, 9, none⟩ = some (.int .i64 c.a) := fun w' h => (box11 (HV4.out.1.under h HLt.out)).2.2.2.2.2.2.2.2.2.1
    have q10 : ∀ w', Below B w4 w' → w'.cell? ⟨w.heap.size, 10, none⟩ = some (.int .i64 c.l) := fun w' h => (box11 (HV4.out.1.under h HLt.out)).2.2.2.2.2.2.2.2.2.2
    refine wpB_take (i := 1) (d := 36) (v := ?v4x1) rfl rfl (by kernel_rfl) (by kernel_rfl) (by kernel_rfl) (fun _ _ _ h => h) (by rfl) ?y4x1 ?r4x1
    case y4x1 => (intro w' hSw; go_simp; try (with_reducible rfl))
    simp only [Act.put, List.setIfInBounds_toArray, List.set_cons_zero, List.set_cons_succ]
    refine wpB_take (i := 2) (d := 37) (v := ?v4x2) rfl rfl (by kernel_rfl) (by kernel_rfl) (by kernel_rfl) (fun _ _ _ h => h) (by rfl) ?y4x2 ?r4x2
    case y4x2 => (intro w' hSw; go_simp; try (with_reducible rfl))
    simp only [Act.put, List.setIfInBounds_toArray, List.set_cons_zero, List.set_cons_succ]
    refine wpB_take (i := 5) (d := 40) (v := ?v4x5) rfl rfl (by kernel_rfl) (by kernel_rfl) (by kernel_rfl) (fun _ _ _ h => h) (by rfl) ?y4x5 ?r4x5
    case y4x5 => (intro w' hSw; go_simp; try (with_reducible rfl))
    simp only [Act.put, List.setIfInBounds_toArray, List.set_cons_zero, List.set_cons_succ]
    refine wpB_take (i := 6) (d := 41) (v := ?v4x6) rfl rfl (by kernel_rfl) (by kernel_rfl) (by kernel_rfl) (fun _ _ _ h => h) (by rfl) ?y4x6 ?r4x6
    case y4x6 => (intro w' hSw; go_simp; try (with_reducible rfl))
    simp only [Act.put, List.setIfInBounds_toArray, List.set_cons_zero, List.set_cons_succ]
    refine wpB_take (i := 7) (d := 42) (v := ?v4x7) rfl rfl (by kernel_rfl) (by kernel_rfl) (by kernel_rfl) (fun _ _ _ h => h) (by rfl) ?y4x7 ?r4x7
    case y4x7 => (intro w' hSw; go_simp; try (with_reducible rfl))
    simp only [Act.put, List.setIfInBounds_toArray, List.set_cons_zero, List.set_cons_succ]
    refine wpB_take (i := 8) (d := 43) (v := ?v4x8) rfl rfl (by kernel_rfl) (by kernel_rfl) (by kernel_rfl) (fun _ _ _ h => h) (by rfl) ?y4x8 ?r4x8
    case y4x8 => (intro w' hSw; go_simp; try (with_reducible rfl))
    simp only [Act.put, List.setIfInBounds_toArray, List.set_cons_zero, List.set_cons_succ]
    refine wpB_take (i := 9) (d := 44) (v := ?v4x9) rfl rfl (by kernel_rfl) (by kernel_rfl) (by kernel_rfl) (fun _ _ _ h => h) (by rfl) ?y4x9 ?r4x9
    case y4x9 => (intro w' hSw; go_simp; try (with_reducible rfl))
    simp only [Act.put, List.setIfInBounds_toArray, List.set_cons_zero, List.set_cons_succ]
    rw [HSub.out]
    clear q0 q1 q2 q3 q4 q5 q6 q7 q8 q9 q10 HV4 HV3 HA3
    refine wpB_two (i := 0) (j := 3) (by kernel_rfl) rfl rfl (by rfl) (by rfl) (fun K hK => ?_) (fun K hK => ?_)
    · skip
      go_simp
      refine hK.out _ _ _ (Nat.le_refl _) ((Below.refl _ _).alloc HL4.out _) ?_
      have HB5 : Hid (Below B w4 (w4.alloc (.cells #[] 41))) := HB4.out.alloc HL4.out _
      have HW5 := Lib.hid (Rw.made w4 B HL4.out)
      have HL5 : Hid (B ≤ (w4.alloc (.cells #[] 41)).heap.size) := Nat.le_trans HL4.out (by simp)
      clear hK HB4 HL4
      generalize (w4.alloc (.cells #[] 41)) = w5 at HB5 HW5 HL5 ⊢
      generalize (Value.slice (some ⟨w4.heap.size, 0, none⟩) 0 0) = v1 at HW5 ⊢
      refine wpB_do (i := 3) (by kernel_rfl) rfl (by rfl) (fun K hK => ?_)
      go_simp
      refine (steps_any c 0 Q w5 (by omega) (by omega)).mono ?_
      rintro e w6 ⟨v2, rfl, hrw, hb⟩
      rw [HA1.out] at hrw
      have HB6 : Hid (Below B w4 w6) := HB5.out.trans (hb.mono HL5.out)
      have HL6 := Lib.hid (Nat.le_trans HL5.out hb.size)
      have HS2 := Lib.hid hrw
      have HW6 := Lib.hid (HW5.out.later hb)
      go_simp
      refine hK.out B _ _ (Nat.le_refl _) (hb.mono HL5.out) ?_
      clear hK hb hrw HB5 HL5 HW5
      refine wpB_do (i := 4) (by kernel_rfl) rfl (by rfl) (fun K hK => ?_)
      obtain ⟨D2, d2, rfl, hd2, hsn⟩ := HS2.out.seen St.len
      obtain ⟨v3, w7, hrun, hrw, hg⟩ := run_appRow (ty := 27) w6 B v1 [] (stepsL c 0 Q) D2 d2 HW6.out hsn (by have h1 := stepsL_len c 0 Q; have h2 := stepsL_len c Q (N - Q); simp; omega) HL6.out
      refine oper_app (.tmp 35) (.tmp 38) 27 rfl _ _ _ _ rfl rfl hrun ?_
      show K (Act.put _ (some 39) v3) w7
      simp only [Act.put, List.setIfInBounds_toArray, List.set_cons_zero, List.set_cons_succ]
      refine hK.out B _ _ (Nat.le_refl _) (HW6.out.below hg HL6.out) ?_
      have HB7 : Hid (Below B w4 w7) := HB6.out.trans (HW6.out.below hg HL6.out)
      have HW7 : Hid (Rw St.cs 41 w7 B v3 (stepsL c 0 Q)) := by
        show Rw St.cs 41 w7 B v3 (stepsL c 0 Q)
        simpa using hrw
      have HL7 : Hid (B ≤ w7.heap.size) := Nat.le_trans HL6.out hg.size
      clear hK hrun hrw hg hsn hd2 HS2 HB6 HW6 HL6
      refine wpB_do (i := 10) (by kernel_rfl) rfl (by rfl) (fun K hK => ?_)
      go_simp
      refine (steps_any c Q ((N : Int) - Q) w7 (by omega) (by omega)).mono ?_
      rintro e w8 ⟨v4, rfl, hrw, hb⟩
      rw [HA2.out] at hrw
      have HB8 : Hid (Below B w4 w8) := HB7.out.trans (hb.mono HL7.out)
      have HL8 := Lib.hid (Nat.le_trans HL7.out hb.size)
      have HS4 := Lib.hid hrw
      have HW8 := Lib.hid (HW7.out.later hb)
      go_simp
      refine hK.out B _ _ (Nat.le_refl _) (hb.mono HL7.out) ?_
      clear hK hb hrw HB7 HL7 HW7
      refine wpB_do (i := 11) (by kernel_rfl) rfl (by rfl) (fun K hK => ?_)
      obtain ⟨D4, d4, rfl, hd4, hsn⟩ := HS4.out.seen St.len
      obtain ⟨v5, w9, hrun, hrw, hg⟩ := run_appRow (ty := 27) w8 B v3 (stepsL c 0 Q) (stepsL c Q (N - Q)) D4 d4 HW8.out hsn (by have h1 := stepsL_len c 0 Q; have h2 := stepsL_len c Q (N - Q); simp; omega) HL8.out
      refine oper_app (.tmp 39) (.tmp 45) 27 rfl _ _ _ _ rfl rfl hrun ?_
      show K (Act.put _ (some 46) v5) w9
      simp only [Act.put, List.setIfInBounds_toArray, List.set_cons_zero, List.set_cons_succ]
      refine hK.out B _ _ (Nat.le_refl _) (HW8.out.below hg HL8.out) ?_
      have HB9 : Hid (Below B w4 w9) := HB8.out.trans (HW8.out.below hg HL8.out)
      have HW9 : Hid (Rw St.cs 41 w9 B v5 (stepsL c 0 Q ++ stepsL c Q (N - Q))) := by
        show Rw St.cs 41 w9 B v5 (stepsL c 0 Q ++ stepsL c Q (N - Q))
        simpa using hrw
      have HL9 : Hid (B ≤ w9.heap.size) := Nat.le_trans HL8.out hg.size
      clear hK hrun hrw hg hsn hd4 HS4 HB8 HW8 HL8
      refine wpB_take (i := 12) (d := 8) (v := ?v4a0x12) rfl rfl (by kernel_rfl) (by kernel_rfl) (by kernel_rfl) (fun _ _ _ h => h) (by rfl) ?y4a0x12 ?r4a0x12
      case y4a0x12 => (intro w' hSw; go_simp; try (with_reducible rfl))
      simp only [Act.put, List.setIfInBounds_toArray, List.set_cons_zero, List.set_cons_succ]
      refine wpB_done (by kernel_rfl) ?_
      go_wp2_with fail
      go_meet
      rw [← HSP.out] at HW9
      exact ⟨HW9.out, HB3.out.trans HB9.out⟩
    · skip
      go_simp
      refine (steps_any c 0 Q w4 (by omega) (by omega)).mono ?_
      rintro e w5 ⟨v2, rfl, hrw, hb⟩
      rw [HA1.out] at hrw
      have HB5 : Hid (Below B w4 w5) := HB4.out.trans (hb.mono HL4.out)
      have HL5 := Lib.hid (Nat.le_trans HL4.out hb.size)
      have HS2 := Lib.hid hrw
      go_simp
      refine hK.out B _ _ (Nat.le_refl _) (hb.mono HL4.out) ?_
      clear hK hb hrw HB4 HL4 
      refine wpB_do (i := 0) (by kernel_rfl) rfl (by rfl) (fun K hK => ?_)
      go_simp
      refine hK.out _ _ _ (Nat.le_refl _) ((Below.refl _ _).alloc HL5.out _) ?_
      have HB6 : Hid (Below B w4 (w5.alloc (.cells #[] 41))) := HB5.out.alloc HL5.out _
      have HW6 := Lib.hid (Rw.made w5 B HL5.out)
      have HL6 : Hid (B ≤ (w5.alloc (.cells #[] 41)).heap.size) := Nat.le_trans HL5.out (by simp)
      have HS2b := Lib.hid (HS2.out.later ((Below.refl _ _).alloc (Nat.le_refl _) (.cells #[] 41)))
      clear HS2
      clear hK HB5 HL5
      generalize (w5.alloc (.cells #[] 41)) = w6 at HB6 HW6 HL6 HS2b ⊢
      generalize (Value.slice (some ⟨w5.heap.size, 0, none⟩) 0 0) = v1 at HW6 ⊢
      have HS2 := HS2b
      clear HS2b
      refine wpB_do (i := 4) (by kernel_rfl) rfl (by rfl) (fun K hK => ?_)
      obtain ⟨D2, d2, rfl, hd2, hsn⟩ := HS2.out.seen St.len
      obtain ⟨v3, w7, hrun, hrw, hg⟩ := run_appRow (ty := 27) w6 B v1 [] (stepsL c 0 Q) D2 d2 HW6.out hsn (by have h1 := stepsL_len c 0 Q; have h2 := stepsL_len c Q (N - Q); simp; omega) HL6.out
      refine oper_app (.tmp 35) (.tmp 38) 27 rfl _ _ _ _ rfl rfl hrun ?_
      show K (Act.put _ (some 39) v3) w7
      simp only [Act.put, List.setIfInBounds_toArray, List.set_cons_zero, List.set_cons_succ]
      refine hK.out B _ _ (Nat.le_refl _) (HW6.out.below hg HL6.out) ?_
      have HB7 : Hid (Below B w4 w7) := HB6.out.trans (HW6.out.below hg HL6.out)
      have HW7 : Hid (Rw St.cs 41 w7 B v3 (stepsL c 0 Q)) := by
        show Rw St.cs 41 w7 B v3 (stepsL c 0 Q)
        simpa using hrw
      have HL7 : Hid (B ≤ w7.heap.size) := Nat.le_trans HL6.out hg.size
      clear hK hrun hrw hg hsn hd2 HS2 HB6 HW6 HL6
      refine wpB_do (i := 10) (by kernel_rfl) rfl (by rfl) (fun K hK => ?_)
      go_simp
      refine (steps_any c Q ((N : Int) - Q) w7 (by omega) (by omega)).mono ?_
      rintro e w8 ⟨v4, rfl, hrw, hb⟩
      rw [HA2.out] at hrw
      have HB8 : Hid (Below B w4 w8) := HB7.out.trans (hb.mono HL7.out)
      have HL8 := Lib.hid (Nat.le_trans HL7.out hb.size)
      have HS4 := Lib.hid hrw
      have HW8 := Lib.hid (HW7.out.later hb)
      go_simp
      refine hK.out B _ _ (Nat.le_refl _) (hb.mono HL7.out) ?_
      clear hK hb hrw HB7 HL7 HW7
      refine wpB_do (i := 11) (by kernel_rfl) rfl (by rfl) (fun K hK => ?_)
      obtain ⟨D4, d4, rfl, hd4, hsn⟩ := HS4.out.seen St.len
      obtain ⟨v5, w9, hrun, hrw, hg⟩ := run_appRow (ty := 27) w8 B v3 (stepsL c 0 Q) (stepsL c Q (N - Q)) D4 d4 HW8.out hsn (by have h1 := stepsL_len c 0 Q; have h2 := stepsL_len c Q (N - Q); simp; omega) HL8.out
      refine oper_app (.tmp 39) (.tmp 45) 27 rfl _ _ _ _ rfl rfl hrun ?_
      show K (Act.put _ (some 46) v5) w9
      simp only [Act.put, List.setIfInBounds_toArray, List.set_cons_zero, List.set_cons_succ]
      refine hK.out B _ _ (Nat.le_refl _) (HW8.out.below hg HL8.out) ?_
      have HB9 : Hid (Below B w4 w9) := HB8.out.trans (HW8.out.below hg HL8.out)
      have HW9 : Hid (Rw St.cs 41 w9 B v5 (stepsL c 0 Q ++ stepsL c Q (N - Q))) := by
        show Rw St.cs 41 w9 B v5 (stepsL c 0 Q ++ stepsL c Q (N - Q))
        simpa using hrw
      have HL9 : Hid (B ≤ w9.heap.size) := Nat.le_trans HL8.out hg.size
      clear hK hrun hrw hg hsn hd4 HS4 HB8 HW8 HL8
      refine wpB_take (i := 12) (d := 8) (v := ?v4a1x12) rfl rfl (by kernel_rfl) (by kernel_rfl) (by kernel_rfl) (fun _ _ _ h => h) (by rfl) ?y4a1x12 ?r4a1x12
      case y4a1x12 => (intro w' hSw; go_simp; try (with_reducible rfl))
      simp only [Act.put, List.setIfInBounds_toArray, List.set_cons_zero, List.set_cons_succ]
      refine wpB_done (by kernel_rfl) ?_
      go_wp2_with fail
      go_meet
      rw [← HSP.out] at HW9
      exact ⟨HW9.out, HB3.out.trans HB9.out⟩
  case rest =>
    obtain ⟨hr8, hb8⟩ := hcut
    obtain ⟨D, cD, hv8, hcD, hsD⟩ := hr8.seen St.len
    subst hv8
    rw [← hB] at hb8
    have HV4 := Lib.hid (HV3.out.later hb8)
    have HA4 := Lib.hid (HA3.out.later St.len hb8)
    have HD4 := Lib.hid hsD
    clear hr8 hb8 hsD y0 y1 y2 y3 y4 y5 y6 y7 y8 y9 y10 HV3 HA3 hB
    generalize wc = w4 at HV4 HA4 HD4 ⊢
    obtain ⟨l, hl⟩ : ∃ l, stepsL c 0 N = l := ⟨_, rfl⟩
    rw [hl] at HA4 HD4 HLN HK HND ⊢
    clear hl
    go_wp2_with fail
    refine (same_eq A D cA cD l w4 HA4.out HD4.out (Nat.le_trans HLN.out (by omega))).mono ?_
    rintro e w5 ⟨rfl, hb⟩
    have HV5 := Lib.hid (HV4.out.later hb)
    have HA5 := Lib.hid (HA4.out.later St.len hb)
    clear hb HV4 HA4 HD4
    obtain ⟨y0, y1, y2, y3, y4, y5, y6, y7, y8, y9, y10⟩ := box11 HV5.out.1
    rw [HM.out] at y1
    have hmk : ∀ w, (Instr.makeSlice 37 (.int .i64 (M : Int)) (.int .i64 (M : Int))).run Try.prog w = .ok (.slice (some ⟨w.heap.size, 0, none⟩) M M) (w.alloc (.cells (rowN (hasN []) M M).toArray 3)) := fun w => by
      have h := run_make_row' (P := Try.prog) 37 3 (.int .i64 0) 8 Try.underlying37 Try.info3 rfl .i64 .i64 M (by omega) (by omega) w
      rw [rowN_made (hasN []), rowN_zero] at h
      exact h
    go_wp2_with fail
    have HG6 := Lib.hid (Box.fresh w5 3 (rowN (hasN []) M M).toArray)
    have HB6 : Hid (Below w5.heap.size w5 (w5.alloc (.cells (rowN (hasN []) M M).toArray 3))) := (Below.refl _ _).alloc (Nat.le_refl _) _
    generalize (w5.alloc (.cells (rowN (hasN []) M M).toArray 3)) = w6 at HG6 HB6 ⊢
    obtain ⟨g, hg⟩ : ∃ g, w5.heap.size = g := ⟨_, rfl⟩
    have HGe := Lib.hid hg
    rw [hg] at HG6 HB6 ⊢
    clear hg hmk y0 y1 y2 y3 y4 y5 y6 y7 y8 y9 y10 hcA hcD
    go_loopw [10] (fun i wr => ∃ k : Nat, k ≤ l.length ∧ i = .int .i64 k ∧ Box wr g 3 (rowN (hasN (l.take k)) M M).toArray ∧ Below g w5 wr) (fun i _ => l.length - (intOf i).toNat)
    case atStart => exact ⟨0, by omega, rfl, by rw [List.take_zero]; exact HG6.out, HB6.out⟩
    case round =>
      clear HG6 HB6
      obtain ⟨k, hk, rfl, hbx, hbe⟩ := hrel
      have HB6 := Lib.hid hbe
      have HG6 := Lib.hid hbx
      have HV6 : Hid (At c w wr) := HV5.out.later (by rw [HGe.out]; exact hbe)
      have HA6 : Hid (Seen St.cs wr A l) := HA5.out.later St.len (by rw [HGe.out]; exact hbe)
      have hln := HLN.out
      clear hbe hbx
      by_cases hlt : k < l.length
      · have HST := Lib.hid (HK.out.1 k hlt)
        have HTK : Hid (l.take (k + 1) = l.take k ++ [l[k]]) := (List.take_append_getElem hlt).symm
        obtain ⟨ga, rfl, a0, a1, a2, a3, a4⟩ := HA6.out.step hlt
        generalize l[k] = x at HST HTK a0 a1 a2 a3 a4
        obtain ⟨p, m, F, b, t⟩ := x
        obtain ⟨j, rfl⟩ : ∃ j : Nat, m = (j : Int) := ⟨m.toNat, by have : (0 : Int) ≤ m := HST.out.m0; omega⟩
        dsimp only at a0 a1 a2 a3 a4
        have hj : j < M := by have h1 : (j : Int) < c.m := HST.out.m1; rw [HM.out] at h1; omega
        have hF : hasN (l.take k) (j : Int) = F := HST.out.f
        have hF0 : 0 ≤ F := HST.out.f0
        have hF1 : F ≤ 262208 := HST.out.f1
        have ht0 : 0 ≤ t := HST.out.n0
        have ht1 : t ≤ 64 := HST.out.n1
        go_upto_region 12 with fail
        have HV7 := Lib.hid (HV6.out.alloc (.cells #[.bool p, .int .i64 (j : Int), .int .i64 F, .int .i64 b, .int .i64 t] 41))
        have HX7 := Lib.hid (Box.fresh wr 41 #[.bool p, .int .i64 (j : Int), .int .i64 F, .int .i64 b, .int .i64 t])
        have HG7 := Lib.hid (HG6.out.later ((Below.refl _ _).alloc (Nat.le_refl _) (.cells #[.bool p, .int .i64 (j : Int), .int .i64 F, .int .i64 b, .int .i64 t] 41)))
        have HB7 : Hid (Below g w5 (wr.alloc (.cells #[.bool p, .int .i64 (j : Int), .int .i64 F, .int .i64 b, .int .i64 t] 41))) := HB6.out.alloc (by have := HB6.out.size; rw [HGe.out] at this; exact this) _
        clear a0 a1 a2 a3 a4 HV6 HA6 HG6 HB6
        generalize (wr.alloc (.cells #[.bool p, .int .i64 (j : Int), .int .i64 F, .int .i64 b, .int .i64 t] 41)) = w7 at HV7 HX7 HG7 HB7 ⊢
        generalize wr.heap.size = Bx at HX7 ⊢
        refine wpB_start w7.drew.heap.size (by kernel_rfl) ?_
        have HV8 := Lib.hid HV7.out.drew
        have HX8 := Lib.hid (HX7.out.later (Below.refl _ _).drew)
        have HG8 := Lib.hid (HG7.out.later (Below.refl _ _).drew)
        have HB8 : Hid (Below g w5 w7.drew) := HB7.out.drew
        generalize w7.drew = w8 at HB8 HV8 HX8 HG8 ⊢
        clear HB7 HV7 HX7 HG7
        have q0 : ∀ w', Below w8.heap.size w8 w' → w'.cell? ⟨w.heap.size, 0, none⟩ = some (.int .i64 c.id) := fun w' h => (box11 (HV8.out.1.later h)).1
        have q1 : ∀ w', Below w8.heap.size w8 w' → w'.cell? ⟨w.heap.size, 1, none⟩ = some (.int .i64 c.m) := fun w' h => (box11 (HV8.out.1.later h)).2.1
        have q2 : ∀ w', Below w8.heap.size w8 w' → w'.cell? ⟨w.heap.size, 2, none⟩ = some (.int .i64 c.u) := fun w' h => (box11 (HV8.out.1.later h)).2.2.1
        have q3 : ∀ w', Below w8.heap.size w8 w' → w'.cell? ⟨w.heap.size, 3, none⟩ = some (.int .i64 c.b) := fun w' h => (box11 (HV8.out.1.later h)).2.2.2.1
        have q4 : ∀ w', Below w8.heap.size w8 w' → w'.cell? ⟨w.heap.size, 4, none⟩ = some (.int .i64 c.cp) := fun w' h => (box11 (HV8.out.1.later h)).2.2.2.2.1
        have q5 : ∀ w', Below w8.heap.size w8 w' → w'.cell? ⟨w.heap.size, 5, none⟩ = some (.int .i64 c.z) := fun w' h => (box11 (HV8.out.1.later h)).2.2.2.2.2.1
        have q6 : ∀ w', Below w8.heap.size w8 w' → w'.cell? ⟨w.heap.size, 6, none⟩ = some (.int .i64 c.s) := fun w' h => (box11 (HV8.out.1.later h)).2.2.2.2.2.2.1
        have q7 : ∀ w', Below w8.heap.size w8 w' → w'.cell? ⟨w.heap.size, 7, none⟩ = some (.int .i64 c.mt) := fun w' h => (box11 (HV8.out.1.later h)).2.2.2.2.2.2.2.1
        have q8 : ∀ w', Below w8.heap.size w8 w' → w'.cell? ⟨w.heap.size, 8, none⟩ = some (.int .i64 c.o) := fun w' h => (box11 (HV8.out.1.later h)).2.2.2.2.2.2.2.2.1
        have q9 : ∀ w', Below w8.heap.size w8 w' → w'.cell? ⟨w.heap.size, 9, none⟩ = some (.int .i64 c.a) := fun w' h => (box11 (HV8.out.1.later h)).2.2.2.2.2.2.2.2.2.1
        have q10 : ∀ w', Below w8.heap.size w8 w' → w'.cell? ⟨w.heap.size, 10, none⟩ = some (.int .i64 c.l) := fun w' h => (box11 (HV8.out.1.later h)).2.2.2.2.2.2.2.2.2.2
        have p0 : ∀ w', Below w8.heap.size w8 w' → w'.cell? ⟨Bx, 0, none⟩ = some (.bool p) := fun w' h => (box5 (HX8.out.later h)).1.1
        have p1 : ∀ w', Below w8.heap.size w8 w' → w'.cell? ⟨Bx, 1, none⟩ = some (.int .i64 (j : Int)) := fun w' h => (box5 (HX8.out.later h)).1.2.1
        have p2 : ∀ w', Below w8.heap.size w8 w' → w'.cell? ⟨Bx, 2, none⟩ = some (.int .i64 F) := fun w' h => (box5 (HX8.out.later h)).1.2.2.1
        have p3 : ∀ w', Below w8.heap.size w8 w' → w'.cell? ⟨Bx, 3, none⟩ = some (.int .i64 b) := fun w' h => (box5 (HX8.out.later h)).1.2.2.2.1
        have p4 : ∀ w', Below w8.heap.size w8 w' → w'.cell? ⟨Bx, 4, none⟩ = some (.int .i64 t) := fun w' h => (box5 (HX8.out.later h)).1.2.2.2.2
        have r0 : ∀ w', Below w8.heap.size w8 w' → w'.cell? ⟨g, j, none⟩ = some (.int .i64 F) := fun w' h => by rw [(HG8.out.later h).cell, List.getElem?_toArray, rowN_at hj, if_pos hj, hF]
        have d0 : decide ((j : Int) < 0) = false := decide_eq_false (by omega)
        have d1 : decide (c.m ≤ (j : Int)) = false := decide_eq_false (by rw [HM.out]; omega)
        have d2 : (j : Int) < (M : Int) := by omega
        refine wpB_take (i := 0) (d := 64) (v := ?v12x0) rfl rfl (by kernel_rfl) (by kernel_rfl) (by kernel_rfl) (fun _ _ _ h => h) (by rfl) ?y12x0 ?r12x0
        case y12x0 => (intro w' hSw; go_simp; try (with_reducible rfl))
        simp only [Act.put, List.setIfInBounds_toArray, List.set_cons_zero, List.set_cons_succ]
        refine wpB_take (i := 1) (d := 65) (v := ?v12x1) rfl rfl (by kernel_rfl) (by kernel_rfl) (by kernel_rfl) (fun _ _ _ h => h) (by rfl) ?y12x1 ?r12x1
        case y12x1 => (intro w' hSw; go_simp; try (with_reducible rfl))
        simp only [Act.put, List.setIfInBounds_toArray, List.set_cons_zero, List.set_cons_succ]
        refine wpB_take (i := 2) (d := 66) (v := ?v12x2) rfl rfl (by kernel_rfl) (by kernel_rfl) (by kernel_rfl) (fun _ _ _ h => h) (by rfl) ?y12x2 ?r12x2
        case y12x2 => (intro w' hSw; go_simp; try (with_reducible rfl))
        simp only [Act.put, List.setIfInBounds_toArray, List.set_cons_zero, List.set_cons_succ]
        try rw [d0]
        refine wpB_take (i := 3) (d := 67) (v := ?v12x3) rfl rfl (by kernel_rfl) (by kernel_rfl) (by kernel_rfl) (fun _ _ _ h => h) (by rfl) ?y12x3 ?r12x3
        case y12x3 => (intro w' hSw; go_simp; try (with_reducible rfl))
        simp only [Act.put, List.setIfInBounds_toArray, List.set_cons_zero, List.set_cons_succ]
        refine wpB_take (i := 4) (d := 68) (v := ?v12x4) rfl rfl (by kernel_rfl) (by kernel_rfl) (by kernel_rfl) (fun _ _ _ h => h) (by rfl) ?y12x4 ?r12x4
        case y12x4 => (intro w' hSw; go_simp; try (with_reducible rfl))
        simp only [Act.put, List.setIfInBounds_toArray, List.set_cons_zero, List.set_cons_succ]
        refine wpB_take (i := 5) (d := 69) (v := ?v12x5) rfl rfl (by kernel_rfl) (by kernel_rfl) (by kernel_rfl) (fun _ _ _ h => h) (by rfl) ?y12x5 ?r12x5
        case y12x5 => (intro w' hSw; go_simp; try (with_reducible rfl))
        simp only [Act.put, List.setIfInBounds_toArray, List.set_cons_zero, List.set_cons_succ]
        refine wpB_take (i := 6) (d := 70) (v := ?v12x6) rfl rfl (by kernel_rfl) (by kernel_rfl) (by kernel_rfl) (fun _ _ _ h => h) (by rfl) ?y12x6 ?r12x6
        case y12x6 => (intro w' hSw; go_simp; try (with_reducible rfl))
        simp only [Act.put, List.setIfInBounds_toArray, List.set_cons_zero, List.set_cons_succ]
        refine wpB_take (i := 7) (d := 71) (v := ?v12x7) rfl rfl (by kernel_rfl) (by kernel_rfl) (by kernel_rfl) (fun _ _ _ h => h) (by rfl) ?y12x7 ?r12x7
        case y12x7 => (intro w' hSw; go_simp; try (with_reducible rfl))
        simp only [Act.put, List.setIfInBounds_toArray, List.set_cons_zero, List.set_cons_succ]
        refine wpB_take (i := 8) (d := 72) (v := ?v12x8) rfl rfl (by kernel_rfl) (by kernel_rfl) (by kernel_rfl) (fun _ _ _ h => h) (by rfl) ?y12x8 ?r12x8
        case y12x8 => (intro w' hSw; go_simp; try (with_reducible rfl))
        simp only [Act.put, List.setIfInBounds_toArray, List.set_cons_zero, List.set_cons_succ]
        try rw [d1]
        refine wpB_take (i := 9) (d := 73) (v := ?v12x9) rfl rfl (by kernel_rfl) (by kernel_rfl) (by kernel_rfl) (fun _ _ _ h => h) (by rfl) ?y12x9 ?r12x9
        case y12x9 => (intro w' hSw; go_simp; try (with_reducible rfl))
        simp only [Act.put, List.setIfInBounds_toArray, List.set_cons_zero, List.set_cons_succ]
        refine wpB_take (i := 10) (d := 74) (v := ?v12x10) rfl rfl (by kernel_rfl) (by kernel_rfl) (by kernel_rfl) (fun _ _ _ h => h) (by rfl) ?y12x10 ?r12x10
        case y12x10 => (intro w' hSw; go_simp; try (with_reducible rfl))
        simp only [Act.put, List.setIfInBounds_toArray, List.set_cons_zero, List.set_cons_succ]
        refine wpB_take (i := 11) (d := 75) (v := ?v12x11) rfl rfl (by kernel_rfl) (by kernel_rfl) (by kernel_rfl) (fun _ _ _ h => h) (by rfl) ?y12x11 ?r12x11
        case y12x11 => (intro w' hSw; go_simp; try (with_reducible rfl))
        simp only [Act.put, List.setIfInBounds_toArray, List.set_cons_zero, List.set_cons_succ]
        refine wpB_take (i := 12) (d := 76) (v := ?v12x12) rfl rfl (by kernel_rfl) (by kernel_rfl) (by kernel_rfl) (fun _ _ _ h => h) (by rfl) ?y12x12 ?r12x12
        case y12x12 => (intro w' hSw; go_simp; try (with_reducible rfl))
        simp only [Act.put, List.setIfInBounds_toArray, List.set_cons_zero, List.set_cons_succ]
        refine wpB_take (i := 13) (d := 77) (v := ?v12x13) rfl rfl (by kernel_rfl) (by kernel_rfl) (by kernel_rfl) (fun _ _ _ h => h) (by rfl) ?y12x13 ?r12x13
        case y12x13 => (intro w' hSw; go_simp; try (with_reducible rfl))
        simp only [Act.put, List.setIfInBounds_toArray, List.set_cons_zero, List.set_cons_succ]
        refine wpB_take (i := 14) (d := 78) (v := ?v12x14) rfl rfl (by kernel_rfl) (by kernel_rfl) (by kernel_rfl) (fun _ _ _ h => h) (by rfl) ?y12x14 ?r12x14
        case y12x14 => (intro w' hSw; go_simp; try (with_reducible rfl))
        simp only [Act.put, List.setIfInBounds_toArray, List.set_cons_zero, List.set_cons_succ]
        refine wpB_take (i := 15) (d := 79) (v := ?v12x15) rfl rfl (by kernel_rfl) (by kernel_rfl) (by kernel_rfl) (fun _ _ _ h => h) (by rfl) ?y12x15 ?r12x15
        case y12x15 => (intro w' hSw; go_simp; try (with_reducible rfl))
        simp only [Act.put, List.setIfInBounds_toArray, List.set_cons_zero, List.set_cons_succ]
        refine wpB_take (i := 16) (d := 80) (v := ?v12x16) rfl rfl (by kernel_rfl) (by kernel_rfl) (by kernel_rfl) (fun _ _ _ h => h) (by rfl) ?y12x16 ?r12x16
        case y12x16 => (intro w' hSw; go_simp; try (with_reducible rfl))
        simp only [Act.put, List.setIfInBounds_toArray, List.set_cons_zero, List.set_cons_succ]
        refine wpB_take (i := 17) (d := 81) (v := ?v12x17) rfl rfl (by kernel_rfl) (by kernel_rfl) (by kernel_rfl) (fun _ _ _ h => h) (by rfl) ?y12x17 ?r12x17
        case y12x17 => (intro w' hSw; go_simp; try (with_reducible rfl))
        simp only [Act.put, List.setIfInBounds_toArray, List.set_cons_zero, List.set_cons_succ]
        refine wpB_take (i := 18) (d := 82) (v := ?v12x18) rfl rfl (by kernel_rfl) (by kernel_rfl) (by kernel_rfl) (fun _ _ _ h => h) (by rfl) ?y12x18 ?r12x18
        case y12x18 => (intro w' hSw; go_simp; try (with_reducible rfl))
        simp only [Act.put, List.setIfInBounds_toArray, List.set_cons_zero, List.set_cons_succ]
        try rw [bne_self_eq_false]
        refine wpB_take (i := 19) (d := 83) (v := ?v12x19) rfl rfl (by kernel_rfl) (by kernel_rfl) (by kernel_rfl) (fun _ _ _ h => h) (by rfl) ?y12x19 ?r12x19
        case y12x19 => (intro w' hSw; go_simp; try (with_reducible rfl))
        simp only [Act.put, List.setIfInBounds_toArray, List.set_cons_zero, List.set_cons_succ]
        refine wpB_done (by kernel_rfl) ?_
        clear q0 q1 q2 q3 q4 q5 q6 q7 q8 q9 q10 p0 p1 p2 p3 p4 r0
        go_upto_region 14 with fail
        obtain ⟨⟨p0, p1, p2, p3, p4⟩, _⟩ := box5 HX8.out
        have r0 : w8.cell? ⟨g, j, none⟩ = some (.int .i64 F) := by rw [HG8.out.cell, List.getElem?_toArray, rowN_at hj, if_pos hj, hF]
        have rf : w8.frozen? ⟨g, j, none⟩ = false := HG8.out.frozen _
        have hgx : ¬ g = Bx := fun e => by subst e; have := HX8.out.symm.trans HG8.out; simp at this
        go_region
        have HG9 : Hid (Box (w8.drew.setCell ⟨g, j, none⟩ (.int .i64 (F + t))) g 3 (rowN (hasN (l.take (k + 1))) M M).toArray) := by
          have h5 := (HG8.out.later (Below.refl _ _).drew).store j (.int .i64 (F + t))
          have h6 := rowN_put (l.take k) ⟨p, j, F, b, t⟩ M j hj rfl
          rw [hF, ← HTK.out] at h6
          dsimp only at h6
          simp only [List.setIfInBounds_toArray] at h5
          rw [h6] at h5
          exact h5
        have HB9 : Hid (Below g w5 (w8.drew.setCell ⟨g, j, none⟩ (.int .i64 (F + t)))) := HB8.out.drew.setCell (by simp) _
        clear p0 p1 p2 p3 p4 r0 rf
        go_wp2
        go_roundw
        case rel => exact ⟨k + 1, by omega, by go_num, HG9.out, HB9.out⟩
        case measure => simp [intOf]; omega
      · obtain rfl : k = l.length := by omega
        rw [List.take_length] at HG6
        clear HA6 HB6 HV5 HA5
        obtain ⟨y0, y1, y2, y3, y4, y5, y6, y7, y8, y9, y10⟩ := box11 HV6.out.1
        generalize wr = w6 at HV6 HG6 y0 y1 y2 y3 y4 y5 y6 y7 y8 y9 y10 ⊢
        go_wp2_with fail
        go_loopw [12] (fun i wr => ∃ m : Nat, m ≤ M ∧ i = .int .i64 m ∧ At c w wr ∧ Box wr g 3 (rowN (hasN l) M M).toArray) (fun i _ => M - (intOf i).toNat)
        case atStart => exact ⟨0, by omega, rfl, HV6.out, HG6.out⟩
        case round =>
          clear y0 y1 y2 y3 y4 y5 y6 y7 y8 y9 y10 HV6 HG6
          obtain ⟨m, hm, rfl, hat, hbx⟩ := hrel
          have HV7 := Lib.hid hat
          have HG7 := Lib.hid hbx
          clear hat hbx
          obtain ⟨y0, y1, y2, y3, y4, y5, y6, y7, y8, y9, y10⟩ := box11 HV7.out.1
          rw [HM.out] at y1
          by_cases hlt : m < M
          · go_upto_region 18 with fail
            clear y0 y1 y2 y3 y4 y5 y6 y7 y8 y9 y10
            refine wpB_start wr.drew.heap.size (by kernel_rfl) ?_
            have HV8 := Lib.hid HV7.out.drew
            have HG8 := Lib.hid (HG7.out.later (Below.refl _ _).drew)
            generalize wr.drew = w8 at HV8 HG8 ⊢
            clear HV7 HG7
            have q0 : ∀ w', Below w8.heap.size w8 w' → w'.cell? ⟨w.heap.size, 0, none⟩ = some (.int .i64 c.id) := fun w' h => (box11 (HV8.out.1.later h)).1
            have q1 : ∀ w', Below w8.heap.size w8 w' → w'.cell? ⟨w.heap.size, 1, none⟩ = some (.int .i64 c.m) := fun w' h => (box11 (HV8.out.1.later h)).2.1
            have q2 : ∀ w', Below w8.heap.size w8 w' → w'.cell? ⟨w.heap.size, 2, none⟩ = some (.int .i64 c.u) := fun w' h => (box11 (HV8.out.1.later h)).2.2.1
            have q3 : ∀ w', Below w8.heap.size w8 w' → w'.cell? ⟨w.heap.size, 3, none⟩ = some (.int .i64 c.b) := fun w' h => (box11 (HV8.out.1.later h)).2.2.2.1
            have q4 : ∀ w', Below w8.heap.size w8 w' → w'.cell? ⟨w.heap.size, 4, none⟩ = some (.int .i64 c.cp) := fun w' h => (box11 (HV8.out.1.later h)).2.2.2.2.1
            have q5 : ∀ w', Below w8.heap.size w8 w' → w'.cell? ⟨w.heap.size, 5, none⟩ = some (.int .i64 c.z) := fun w' h => (box11 (HV8.out.1.later h)).2.2.2.2.2.1
            have q6 : ∀ w', Below w8.heap.size w8 w' → w'.cell? ⟨w.heap.size, 6, none⟩ = some (.int .i64 c.s) := fun w' h => (box11 (HV8.out.1.later h)).2.2.2.2.2.2.1
            have q7 : ∀ w', Below w8.heap.size w8 w' → w'.cell? ⟨w.heap.size, 7, none⟩ = some (.int .i64 c.mt) := fun w' h => (box11 (HV8.out.1.later h)).2.2.2.2.2.2.2.1
            have q8 : ∀ w', Below w8.heap.size w8 w' → w'.cell? ⟨w.heap.size, 8, none⟩ = some (.int .i64 c.o) := fun w' h => (box11 (HV8.out.1.later h)).2.2.2.2.2.2.2.2.1
            have q9 : ∀ w', Below w8.heap.size w8 w' → w'.cell? ⟨w.heap.size, 9, none⟩ = some (.int .i64 c.a) := fun w' h => (box11 (HV8.out.1.later h)).2.2.2.2.2.2.2.2.2.1
            have q10 : ∀ w', Below w8.heap.size w8 w' → w'.cell? ⟨w.heap.size, 10, none⟩ = some (.int .i64 c.l) := fun w' h => (box11 (HV8.out.1.later h)).2.2.2.2.2.2.2.2.2.2
            have r0 : ∀ w', Below w8.heap.size w8 w' → w'.cell? ⟨g, m, none⟩ = some (.int .i64 (needA c m N)) := fun w' h => by rw [(HG8.out.later h).cell, List.getElem?_toArray, rowN_at hlt, if_pos hlt, HND.out m hlt]
            refine wpB_take (i := 0) (d := 102) (v := ?v18x0) rfl rfl (by kernel_rfl) (by kernel_rfl) (by kernel_rfl) (fun _ _ _ h => h) (by rfl) ?y18x0 ?r18x0
            case y18x0 => (intro w' hSw; go_simp; try (with_reducible rfl))
            simp only [Act.put, List.setIfInBounds_toArray, List.set_cons_zero, List.set_cons_succ]
            refine wpB_take (i := 1) (d := 103) (v := ?v18x1) rfl rfl (by kernel_rfl) (by kernel_rfl) (by kernel_rfl) (fun _ _ _ h => h) (by rfl) ?y18x1 ?r18x1
            case y18x1 => (intro w' hSw; go_simp; try (with_reducible rfl))
            simp only [Act.put, List.setIfInBounds_toArray, List.set_cons_zero, List.set_cons_succ]
            refine wpB_take (i := 2) (d := 104) (v := ?v18x2) rfl rfl (by kernel_rfl) (by kernel_rfl) (by kernel_rfl) (fun _ _ _ h => h) (by rfl) ?y18x2 ?r18x2
            case y18x2 => (intro w' hSw; go_simp; try (with_reducible rfl))
            simp only [Act.put, List.setIfInBounds_toArray, List.set_cons_zero, List.set_cons_succ]
            refine wpB_take (i := 3) (d := 105) (v := ?v18x3) rfl rfl (by kernel_rfl) (by kernel_rfl) (by kernel_rfl) (fun _ _ _ h => h) (by rfl) ?y18x3 ?r18x3
            case y18x3 => (intro w' hSw; go_simp; try (with_reducible rfl))
            simp only [Act.put, List.setIfInBounds_toArray, List.set_cons_zero, List.set_cons_succ]
            refine wpB_take (i := 4) (d := 106) (v := ?v18x4) rfl rfl (by kernel_rfl) (by kernel_rfl) (by kernel_rfl) (fun _ _ _ h => h) (by rfl) ?y18x4 ?r18x4
            case y18x4 => (intro w' hSw; go_simp; try (with_reducible rfl))
            simp only [Act.put, List.setIfInBounds_toArray, List.set_cons_zero, List.set_cons_succ]
            refine wpB_take (i := 5) (d := 107) (v := ?v18x5) rfl rfl (by kernel_rfl) (by kernel_rfl) (by kernel_rfl) (fun _ _ _ h => h) (by rfl) ?y18x5 ?r18x5
            case y18x5 => (intro w' hSw; go_simp; try (with_reducible rfl))
            simp only [Act.put, List.setIfInBounds_toArray, List.set_cons_zero, List.set_cons_succ]
            refine wpB_take (i := 6) (d := 108) (v := ?v18x6) rfl rfl (by kernel_rfl) (by kernel_rfl) (by kernel_rfl) (fun _ _ _ h => h) (by rfl) ?y18x6 ?r18x6
            case y18x6 => (intro w' hSw; go_simp; try (with_reducible rfl))
            simp only [Act.put, List.setIfInBounds_toArray, List.set_cons_zero, List.set_cons_succ]
            refine wpB_do (i := 7) (by kernel_rfl) rfl (by rfl) (fun K hK => ?_)
            go_simp
            refine (rNeed_any c m N w8).mono ?_
            rintro e w9 ⟨rfl, hb⟩
            have HV9 := Lib.hid (HV8.out.later hb)
            have HG9 := Lib.hid (HG8.out.later hb)
            go_simp
            refine hK.out w8.heap.size _ _ (Nat.le_refl _) hb ?_
            clear hK hb HV8 HG8 q0 q1 q2 q3 q4 q5 q6 q7 q8 q9 q10 r0
            refine wpB_take (i := 8) (d := 110) (v := ?v18x8) rfl rfl (by kernel_rfl) (by kernel_rfl) (by kernel_rfl) (fun _ _ _ h => h) (by rfl) ?y18x8 ?r18x8
            case y18x8 => (intro w' hSw; go_simp; try (with_reducible rfl))
            simp only [Act.put, List.setIfInBounds_toArray, List.set_cons_zero, List.set_cons_succ]
            try rw [bne_self_eq_false]
            refine wpB_done (by kernel_rfl) ?_
            go_wp2
            go_roundw
            case rel => exact ⟨m + 1, by omega, by go_num, HV9.out, HG9.out⟩
            case measure => simp [intOf]; omega
          · obtain rfl : m = M := by omega
            go_wp2_with fail
            refine (live_any wr).mono ?_
            rintro e w8 ⟨rfl, hb⟩
            have HV8 := Lib.hid (HV7.out.later hb)
            clear hb HV7 y0 y1 y2 y3 y4 y5 y6 y7 y8 y9 y10
            go_wp2
            go_ret
            exact ⟨rfl, HV8.out.2.1⟩
theorem planParts_walk (c : Cf) (n q : Int) (w : World) (hn : n ≤ 9223372036854775807) : Calls Try.prog 6 #[(.agg #[.int .i64 c.id, .int .i64 c.m, .int .i64 c.u, .int .i64 c.b, .int .i64 c.cp, .int .i64 c.z, .int .i64 c.s, .int .i64 c.mt, .int .i64 c.o, .int .i64 c.a, .int .i64 c.l]), .int .i64 n, .int .i64 q] w (Says w (.bool true)) := by
  by_cases hs : smallC c = true
  · by_cases hr : rightC c 0 n = true
    · by_cases hq : q < 0
      · exact pparts_low c n q w hn hs hr hq
      · by_cases hq2 : n < q
        · exact pparts_high c n q w hn hs hr hq hq2
        · obtain ⟨N, rfl⟩ : ∃ N : Nat, n = (N : Int) := ⟨n.toNat, by omega⟩
          obtain ⟨Q, rfl⟩ : ∃ Q : Nat, q = (Q : Int) := ⟨q.toNat, by omega⟩
          exact pparts_go c N Q w hs hr (by omega)
    · exact pparts_out c n q w hn hs (by simpa using hr)
  · exact pparts_big c n q w (by simpa using hs)
end Go.Proofs.Yteglgopbagefcaa
