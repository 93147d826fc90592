/- Contracts of need, Need. -/
import Derived.Test.YteglgopbagefcaaR
namespace Go.Proofs.Yteglgopbagefcaa
set_option linter.unusedVariables false
set_option linter.unusedSimpArgs false
open Go.RowKit
open Go.RowKit (wrap64)

set_option maxRecDepth 100000 in
set_option maxHeartbeats 4000000 in
theorem need_par (c : Cf) (m n R Z S L G : Int) (w : World) (hR : dataC c * c.u = R) (hc : checkC c = 0) (h0 : 0 ≤ n) (h1 : n ≤ 61440) (m0 : 0 ≤ m) (m1 : m < c.m) (hS : n / R = S) (hL : n % R = L) (hG : S * c.u = G) (hU : uniC c S m = -1) :
    Calls Try.prog 58 #[(.agg #[.int .i64 c.id, .int .i64 c.m, .int .i64 c.u, .int .i64 c.b, .int .i64 c.cp, .int .i64 c.z, .int .i64 c.s, .int .i64 c.mt, .int .i64 c.o, .int .i64 c.a, .int .i64 c.l]), .int .i64 m, .int .i64 n] w (Says w (.int .i64 G)) := by
  have HO := Lib.hid (ok_of hc)
  have HR := Lib.hid hR
  have o1 := HO.out.m1
  have o2 := HO.out.m2
  have o3 := HO.out.u1
  have o4 := HO.out.u2
  have o5 := HO.out.r1
  have o6 := HO.out.r2
  rw [hR] at o5 o6
  have d1 := div_in (a := n) (b := R) (by omega) (by omega)
  have d2 : 0 ≤ n % R := Int.emod_nonneg _ (by omega)
  have d3 : n % R < R := Int.emod_lt_of_pos _ (by omega)
  have HT : Hid (IntKind.i64.wrap (n.tdiv R) = S ∧ n.tmod R = L) := ⟨by rw [tdiv_of h0, wrapk_in (by omega) (by omega), hS], by rw [tmod_of h0, hL]⟩
  rw [hS] at d1
  rw [hL] at d2 d3
  have x1 := mul_in (a := S) (b := c.u) (A := 61440) (B := 64) (by omega) (by omega) (by omega) (by omega)
  have HX : Hid (wrap64 (S * c.u) = G) := by
    show wrap64 (S * c.u) = G
    rw [wrap_in (by omega) (by omega), hG]
  rw [hG] at x1
  have HU := Lib.hid hU
  clear hS hL hG hR hU hc
  go_enter Try.func58, Try.ntmps58
  go_wp2_with fail
  have HV0 := Lib.hid (At.new c w)
  generalize (w.alloc (.cells #[.int .i64 c.id, .int .i64 c.m, .int .i64 c.u, .int .i64 c.b, .int .i64 c.cp, .int .i64 c.z, .int .i64 c.s, .int .i64 c.mt, .int .i64 c.o, .int .i64 c.a, .int .i64 c.l] 23)) = w0 at HV0 ⊢
  obtain ⟨y0, y1, y2, y3, y4, y5, y6, y7, y8, y9, y10⟩ := box11 HV0.out.1
  refine wpB_start (w.heap.size + 1) (by kernel_rfl) ?_
  have HV1 := Lib.hid HV0.out.drew
  generalize w0.drew = w1 at HV1 ⊢
  clear HV0 y0 y1 y2 y3 y4 y5 y6 y7 y8 y9 y10
  have q0 : ∀ w', Below (w.heap.size + 1) w1 w' → w'.cell? ⟨w.heap.size, 0, none⟩ = some (.int .i64 c.id) := fun w' h => (box11 (HV1.out.below h)).1
  have q1 : ∀ w', Below (w.heap.size + 1) w1 w' → w'.cell? ⟨w.heap.size, 1, none⟩ = some (.int .i64 c.m) := fun w' h => (box11 (HV1.out.below h)).2.1
  have q2 : ∀ w', Below (w.heap.size + 1) w1 w' → w'.cell? ⟨w.heap.size, 2, none⟩ = some (.int .i64 c.u) := fun w' h => (box11 (HV1.out.below h)).2.2.1
  have q3 : ∀ w', Below (w.heap.size + 1) w1 w' → w'.cell? ⟨w.heap.size, 3, none⟩ = some (.int .i64 c.b) := fun w' h => (box11 (HV1.out.below h)).2.2.2.1
  have q4 : ∀ w', Below (w.heap.size + 1) w1 w' → w'.cell? ⟨w.heap.size, 4, none⟩ = some (.int .i64 c.cp) := fun w' h => (box11 (HV1.out.below h)).2.2.2.2.1
  have q5 : ∀ w', Below (w.heap.size + 1) w1 w' → w'.cell? ⟨w.heap.size, 5, none⟩ = some (.int .i64 c.z) := fun w' h => (box11 (HV1.out.below h)).2.2.2.2.2.1
  have q6 : ∀ w', Below (w.heap.size + 1) w1 w' → w'.cell? ⟨w.heap.size, 6, none⟩ = some (.int .i64 c.s) := fun w' h => (box11 (HV1.out.below h)).2.2.2.2.2.2.1
  have q7 : ∀ w', Below (w.heap.size + 1) w1 w' → w'.cell? ⟨w.heap.size, 7, none⟩ = some (.int .i64 c.mt) := fun w' h => (box11 (HV1.out.below h)).2.2.2.2.2.2.2.1
  have q8 : ∀ w', Below (w.heap.size + 1) w1 w' → w'.cell? ⟨w.heap.size, 8, none⟩ = some (.int .i64 c.o) := fun w' h => (box11 (HV1.out.below h)).2.2.2.2.2.2.2.2.1
  have q9 : ∀ w', Below (w.heap.size + 1) w1 w' → w'.cell? ⟨w.heap.size, 9, none⟩ = some (.int .i64 c.a) := fun w' h => (box11 (HV1.out.below h)).2.2.2.2.2.2.2.2.2.1
  have q10 : ∀ w', Below (w.heap.size + 1) w1 w' → w'.cell? ⟨w.heap.size, 10, none⟩ = some (.int .i64 c.l) := fun w' h => (box11 (HV1.out.below h)).2.2.2.2.2.2.2.2.2.2
  have z0 : ¬ R = 0 := by omega
  have z1 : (R == 0) = false := by simpa using z0
  refine wpB_take (i := 0) (d := 11) (v := ?v1x0) rfl rfl (by kernel_rfl) (by kernel_rfl) (by kernel_rfl) (fun _ _ _ h => h) (by rfl) ?y1x0 ?r1x0
  case y1x0 => (intro w' hSw; go_simp; try (with_reducible rfl))
  simp only [Act.put, List.setIfInBounds_toArray, List.set_cons_zero, List.set_cons_succ]
  refine wpB_take (i := 1) (d := 12) (v := ?v1x1) rfl rfl (by kernel_rfl) (by kernel_rfl) (by kernel_rfl) (fun _ _ _ h => h) (by rfl) ?y1x1 ?r1x1
  case y1x1 => (intro w' hSw; go_simp; try (with_reducible rfl))
  simp only [Act.put, List.setIfInBounds_toArray, List.set_cons_zero, List.set_cons_succ]
  refine wpB_take (i := 4) (d := 15) (v := ?v1x4) rfl rfl (by kernel_rfl) (by kernel_rfl) (by kernel_rfl) (fun _ _ _ h => h) (by rfl) ?y1x4 ?r1x4
  case y1x4 => (intro w' hSw; go_simp; try (with_reducible rfl))
  simp only [Act.put, List.setIfInBounds_toArray, List.set_cons_zero, List.set_cons_succ]
  refine wpB_take (i := 5) (d := 16) (v := ?v1x5) rfl rfl (by kernel_rfl) (by kernel_rfl) (by kernel_rfl) (fun _ _ _ h => h) (by rfl) ?y1x5 ?r1x5
  case y1x5 => (intro w' hSw; go_simp; try (with_reducible rfl))
  simp only [Act.put, List.setIfInBounds_toArray, List.set_cons_zero, List.set_cons_succ]
  refine wpB_do (i := 2) (by kernel_rfl) rfl (by rfl) (fun K hK => ?_)
  go_simp
  refine (row_to HR.out w1).mono ?_
  rintro e w2 ⟨rfl, hb⟩
  have HV2 := Lib.hid (HV1.out.later hb)
  have hbk := hb.mono HV1.out.2.2
  go_simp
  refine hK.out (w.heap.size + 1) _ _ (Nat.le_refl _) hbk ?_
  clear hK hb hbk HV1 q0 q1 q2 q3 q4 q5 q6 q7 q8 q9 q10
  have q0 : ∀ w', Below (w.heap.size + 1) w2 w' → w'.cell? ⟨w.heap.size, 0, none⟩ = some (.int .i64 c.id) := fun w' h => (box11 (HV2.out.below h)).1
  have q1 : ∀ w', Below (w.heap.size + 1) w2 w' → w'.cell? ⟨w.heap.size, 1, none⟩ = some (.int .i64 c.m) := fun w' h => (box11 (HV2.out.below h)).2.1
  have q2 : ∀ w', Below (w.heap.size + 1) w2 w' → w'.cell? ⟨w.heap.size, 2, none⟩ = some (.int .i64 c.u) := fun w' h => (box11 (HV2.out.below h)).2.2.1
  have q3 : ∀ w', Below (w.heap.size + 1) w2 w' → w'.cell? ⟨w.heap.size, 3, none⟩ = some (.int .i64 c.b) := fun w' h => (box11 (HV2.out.below h)).2.2.2.1
  have q4 : ∀ w', Below (w.heap.size + 1) w2 w' → w'.cell? ⟨w.heap.size, 4, none⟩ = some (.int .i64 c.cp) := fun w' h => (box11 (HV2.out.below h)).2.2.2.2.1
  have q5 : ∀ w', Below (w.heap.size + 1) w2 w' → w'.cell? ⟨w.heap.size, 5, none⟩ = some (.int .i64 c.z) := fun w' h => (box11 (HV2.out.below h)).2.2.2.2.2.1
  have q6 : ∀ w', Below (w.heap.size + 1) w2 w' → w'.cell? ⟨w.heap.size, 6, none⟩ = some (.int .i64 c.s) := fun w' h => (box11 (HV2.out.below h)).2.2.2.2.2.2.1
  have q7 : ∀ w', Below (w.heap.size + 1) w2 w' → w'.cell? ⟨w.heap.size, 7, none⟩ = some (.int .i64 c.mt) := fun w' h => (box11 (HV2.out.below h)).2.2.2.2.2.2.2.1
  have q8 : ∀ w', Below (w.heap.size + 1) w2 w' → w'.cell? ⟨w.heap.size, 8, none⟩ = some (.int .i64 c.o) := fun w' h => (box11 (HV2.out.below h)).2.2.2.2.2.2.2.2.1
  have q9 : ∀ w', Below (w.heap.size + 1) w2 w' → w'.cell? ⟨w.heap.size, 9, none⟩ = some (.int .i64 c.a) := fun w' h => (box11 (HV2.out.below h)).2.2.2.2.2.2.2.2.2.1
  have q10 : ∀ w', Below (w.heap.size + 1) w2 w' → w'.cell? ⟨w.heap.size, 10, none⟩ = some (.int .i64 c.l) := fun w' h => (box11 (HV2.out.below h)).2.2.2.2.2.2.2.2.2.2
  refine wpB_take (i := 3) (d := 14) (v := ?v1x3) rfl rfl (by kernel_rfl) (by kernel_rfl) (by kernel_rfl) (fun _ _ _ h => h) (by rfl) ?y1x3 ?r1x3
  case y1x3 => (intro w' hSw; go_simp; try (with_reducible rfl))
  simp only [Act.put, List.setIfInBounds_toArray, List.set_cons_zero, List.set_cons_succ]
  refine wpB_do (i := 6) (by kernel_rfl) rfl (by rfl) (fun K hK => ?_)
  go_simp
  refine (row_to HR.out w2).mono ?_
  rintro e w3 ⟨rfl, hb⟩
  have HV3 := Lib.hid (HV2.out.later hb)
  have hbk := hb.mono HV2.out.2.2
  go_simp
  refine hK.out (w.heap.size + 1) _ _ (Nat.le_refl _) hbk ?_
  clear hK hb hbk HV2 q0 q1 q2 q3 q4 q5 q6 q7 q8 q9 q10
  have q0 : ∀ w', Below (w.heap.size + 1) w3 w' → w'.cell? ⟨w.heap.size, 0, none⟩ = some (.int .i64 c.id) := fun w' h => (box11 (HV3.out.below h)).1
  have q1 : ∀ w', Below (w.heap.size + 1) w3 w' → w'.cell? ⟨w.heap.size, 1, none⟩ = some (.int .i64 c.m) := fun w' h => (box11 (HV3.out.below h)).2.1
  have q2 : ∀ w', Below (w.heap.size + 1) w3 w' → w'.cell? ⟨w.heap.size, 2, none⟩ = some (.int .i64 c.u) := fun w' h => (box11 (HV3.out.below h)).2.2.1
  have q3 : ∀ w', Below (w.heap.size + 1) w3 w' → w'.cell? ⟨w.heap.size, 3, none⟩ = some (.int .i64 c.b) := fun w' h => (box11 (HV3.out.below h)).2.2.2.1
  have q4 : ∀ w', Below (w.heap.size + 1) w3 w' → w'.cell? ⟨w.heap.size, 4, none⟩ = some (.int .i64 c.cp) := fun w' h => (box11 (HV3.out.below h)).2.2.2.2.1
  have q5 : ∀ w', Below (w.heap.size + 1) w3 w' → w'.cell? ⟨w.heap.size, 5, none⟩ = some (.int .i64 c.z) := fun w' h => (box11 (HV3.out.below h)).2.2.2.2.2.1
  have q6 : ∀ w', Below (w.heap.size + 1) w3 w' → w'.cell? ⟨w.heap.size, 6, none⟩ = some (.int .i64 c.s) := fun w' h => (box11 (HV3.out.below h)).2.2.2.2.2.2.1
  have q7 : ∀ w', Below (w.heap.size + 1) w3 w' → w'.cell? ⟨w.heap.size, 7, none⟩ = some (.int .i64 c.mt) := fun w' h => (box11 (HV3.out.below h)).2.2.2.2.2.2.2.1
  have q8 : ∀ w', Below (w.heap.size + 1) w3 w' → w'.cell? ⟨w.heap.size, 8, none⟩ = some (.int .i64 c.o) := fun w' h => (box11 (HV3.out.below h)).2.2.2.2.2.2.2.2.1
  have q9 : ∀ w', Below (w.heap.size + 1) w3 w' → w'.cell? ⟨w.heap.size, 9, none⟩ = some (.int .i64 c.a) := fun w' h => (box11 (HV3.out.below h)).2.2.2.2.2.2.2.2.2.1
  have q10 : ∀ w', Below (w.heap.size + 1) w3 w' → w'.cell? ⟨w.heap.size, 10, none⟩ = some (.int .i64 c.l) := fun w' h => (box11 (HV3.out.below h)).2.2.2.2.2.2.2.2.2.2
  refine wpB_take (i := 7) (d := 18) (v := ?v1x7) rfl rfl (by kernel_rfl) (by kernel_rfl) (by kernel_rfl) (fun _ _ _ h => h) (by rfl) ?y1x7 ?r1x7
  case y1x7 => (intro w' hSw; go_simp; try (with_reducible rfl))
  simp only [Act.put, List.setIfInBounds_toArray, List.set_cons_zero, List.set_cons_succ]
  refine wpB_take (i := 8) (d := 7) (v := ?v1x8) rfl rfl (by kernel_rfl) (by kernel_rfl) (by kernel_rfl) (fun _ _ _ h => h) (by rfl) ?y1x8 ?r1x8
  case y1x8 => (intro w' hSw; go_simp; try (with_reducible rfl))
  simp only [Act.put, List.setIfInBounds_toArray, List.set_cons_zero, List.set_cons_succ]
  refine wpB_take (i := 9) (d := 8) (v := ?v1x9) rfl rfl (by kernel_rfl) (by kernel_rfl) (by kernel_rfl) (fun _ _ _ h => h) (by rfl) ?y1x9 ?r1x9
  case y1x9 => (intro w' hSw; go_simp; try (with_reducible rfl))
  simp only [Act.put, List.setIfInBounds_toArray, List.set_cons_zero, List.set_cons_succ]
  refine wpB_done (by kernel_rfl) ?_
  clear q0 q1 q2 q3 q4 q5 q6 q7 q8 q9 q10
  rw [HT.out.1, HT.out.2]
  clear HT z0 z1
  obtain ⟨y0, y1, y2, y3, y4, y5, y6, y7, y8, y9, y10⟩ := box11 HV3.out.1
  go_wp2_with fail
  first | rw [HX.out] | skip
  refine (uni_any c S m w3 ⟨o1, o2⟩ ⟨d1.1, by omega⟩ m0 m1).mono ?_
  rintro e w4 ⟨rfl, hb⟩
  rw [HU.out]
  have HV4 := Lib.hid (HV3.out.later hb)
  clear hb HV3 y0 y1 y2 y3 y4 y5 y6 y7 y8 y9 y10
  obtain ⟨y0, y1, y2, y3, y4, y5, y6, y7, y8, y9, y10⟩ := box11 HV4.out.1
  go_wp2
  go_ret
  exact ⟨rfl, HV4.out.2.1⟩
set_option maxRecDepth 100000 in
set_option maxHeartbeats 4000000 in
theorem need_dat (c : Cf) (m n R Z S L G U D : Int) (w : World) (hR : dataC c * c.u = R) (hc : checkC c = 0) (h0 : 0 ≤ n) (h1 : n ≤ 61440) (m0 : 0 ≤ m) (m1 : m < c.m) (hS : n / R = S) (hL : n % R = L) (hG : S * c.u = G) (hU : uniC c S m = U) (hU0 : 0 ≤ U) (hU1 : U ≤ 16) (hD : D = if L - U * c.u < 0 then 0 else if c.u < L - U * c.u then c.u else L - U * c.u) :
    Calls Try.prog 58 #[(.agg #[.int .i64 c.id, .int .i64 c.m, .int .i64 c.u, .int .i64 c.b, .int .i64 c.cp, .int .i64 c.z, .int .i64 c.s, .int .i64 c.mt, .int .i64 c.o, .int .i64 c.a, .int .i64 c.l]), .int .i64 m, .int .i64 n] w (Says w (.int .i64 (G + D))) := by
  have HO := Lib.hid (ok_of hc)
  have HR := Lib.hid hR
  have o1 := HO.out.m1
  have o2 := HO.out.m2
  have o3 := HO.out.u1
  have o4 := HO.out.u2
  have o5 := HO.out.r1
  have o6 := HO.out.r2
  rw [hR] at o5 o6
  have d1 := div_in (a := n) (b := R) (by omega) (by omega)
  have d2 : 0 ≤ n % R := Int.emod_nonneg _ (by omega)
  have d3 : n % R < R := Int.emod_lt_of_pos _ (by omega)
  have HT : Hid (IntKind.i64.wrap (n.tdiv R) = S ∧ n.tmod R = L) := ⟨by rw [tdiv_of h0, wrapk_in (by omega) (by omega), hS], by rw [tmod_of h0, hL]⟩
  rw [hS] at d1
  rw [hL] at d2 d3
  have x1 := mul_in (a := S) (b := c.u) (A := 61440) (B := 64) (by omega) (by omega) (by omega) (by omega)
  have HX : Hid (wrap64 (S * c.u) = G) := by
    show wrap64 (S * c.u) = G
    rw [wrap_in (by omega) (by omega), hG]
  rw [hG] at x1
  have HU := Lib.hid hU
  clear hS hL hG hR hU hc
  have g1 := mul_in (a := U) (b := c.u) (A := 16) (B := 64) (by omega) (by omega) (by omega) (by omega)
  have HD := Lib.hid hD
  clear hD
  go_enter Try.func58, Try.ntmps58
  go_wp2_with fail
  have HV0 := Lib.hid (At.new c w)
  generalize (w.alloc (.cells #[.int .i64 c.id, .int .i64 c.m, .int .i64 c.u, .int .i64 c.b, .int .i64 c.cp, .int .i64 c.z, .int .i64 c.s, .int .i64 c.mt, .int .i64 c.o, .int .i64 c.a, .int .i64 c.l] 23)) = w0 at HV0 ⊢
  obtain ⟨y0, y1, y2, y3, y4, y5, y6, y7, y8, y9, y10⟩ := box11 HV0.out.1
  refine wpB_start (w.heap.size + 1) (by kernel_rfl) ?_
  have HV1 := Lib.hid HV0.out.drew
  generalize w0.drew = w1 at HV1 ⊢
  clear HV0 y0 y1 y2 y3 y4 y5 y6 y7 y8 y9 y10
  have q0 : ∀ w', Below (w.heap.size + 1) w1 w' → w'.cell? ⟨w.heap.size, 0, none⟩ = some (.int .i64 c.id) := fun w' h => (box11 (HV1.out.below h)).1
  have q1 : ∀ w', Below (w.heap.size + 1) w1 w' → w'.cell? ⟨w.heap.size, 1, none⟩ = some (.int .i64 c.m) := fun w' h => (box11 (HV1.out.below h)).2.1
  have q2 : ∀ w', Below (w.heap.size + 1) w1 w' → w'.cell? ⟨w.heap.size, 2, none⟩ = some (.int .i64 c.u) := fun w' h => (box11 (HV1.out.below h)).2.2.1
  have q3 : ∀ w', Below (w.heap.size + 1) w1 w' → w'.cell? ⟨w.heap.size, 3, none⟩ = some (.int .i64 c.b) := fun w' h => (box11 (HV1.out.below h)).2.2.2.1
  have q4 : ∀ w', Below (w.heap.size + 1) w1 w' → w'.cell? ⟨w.heap.size, 4, none⟩ = some (.int .i64 c.cp) := fun w' h => (box11 (HV1.out.below h)).2.2.2.2.1
  have q5 : ∀ w', Below (w.heap.size + 1) w1 w' → w'.cell? ⟨w.heap.size, 5, none⟩ = some (.int .i64 c.z) := fun w' h => (box11 (HV1.out.below h)).2.2.2.2.2.1
  have q6 : ∀ w', Below (w.heap.size + 1) w1 w' → w'.cell? ⟨w.heap.size, 6, none⟩ = some (.int .i64 c.s) := fun w' h => (box11 (HV1.out.below h)).2.2.2.2.2.2.1
  have q7 : ∀ w', Below (w.heap.size + 1) w1 w' → w'.cell? ⟨w.heap.size, 7, none⟩ = some (.int .i64 c.mt) := fun w' h => (box11 (HV1.out.below h)).2.2.2.2.2.2.2.1
  have q8 : ∀ w', Below (w.heap.size + 1) w1 w' → w'.cell? ⟨w.heap.size, 8, none⟩ = some (.int .i64 c.o) := fun w' h => (box11 (HV1.out.below h)).2.2.2.2.2.2.2.2.1
  have q9 : ∀ w', Below (w.heap.size + 1) w1 w' → w'.cell? ⟨w.heap.size, 9, none⟩ = some (.int .i64 c.a) := fun w' h => (box11 (HV1.out.below h)).2.2.2.2.2.2.2.2.2.1
  have q10 : ∀ w', Below (w.heap.size + 1) w1 w' → w'.cell? ⟨w.heap.size, 10, none⟩ = some (.int .i64 c.l) := fun w' h => (box11 (HV1.out.below h)).2.2.2.2.2.2.2.2.2.2
  have z0 : ¬ R = 0 := by omega
  have z1 : (R == 0) = false := by simpa using z0
  refine wpB_take (i := 0) (d := 11) (v := ?v1x0) rfl rfl (by kernel_rfl) (by kernel_rfl) (by kernel_rfl) (fun _ _ _ h => h) (by rfl) ?y1x0 ?r1x0
  case y1x0 => (intro w' hSw; go_simp; try (with_reducible rfl))
  simp only [Act.put, List.setIfInBounds_toArray, List.set_cons_zero, List.set_cons_succ]
  refine wpB_take (i := 1) (d := 12) (v := ?v1x1) rfl rfl (by kernel_rfl) (by kernel_rfl) (by kernel_rfl) (fun _ _ _ h => h) (by rfl) ?y1x1 ?r1x1
  case y1x1 => (intro w' hSw; go_simp; try (with_reducible rfl))
  simp only [Act.put, List.setIfInBounds_toArray, List.set_cons_zero, List.set_cons_succ]
  refine wpB_take (i := 4) (d := 15) (v := ?v1x4) rfl rfl (by kernel_rfl) (by kernel_rfl) (by kernel_rfl) (fun _ _ _ h => h) (by rfl) ?y1x4 ?r1x4
  case y1x4 => (intro w' hSw; go_simp; try (with_reducible rfl))
  simp only [Act.put, List.setIfInBounds_toArray, List.set_cons_zero, List.set_cons_succ]
  refine wpB_take (i := 5) (d := 16) (v := ?v1x5) rfl rfl (by kernel_rfl) (by kernel_rfl) (by kernel_rfl) (fun _ _ _ h => h) (by rfl) ?y1x5 ?r1x5
  case y1x5 => (intro w' hSw; go_simp; try (with_reducible rfl))
  simp only [Act.put, List.setIfInBounds_toArray, List.set_cons_zero, List.set_cons_succ]
  refine wpB_do (i := 2) (by kernel_rfl) rfl (by rfl) (fun K hK => ?_)
  go_simp
  refine (row_to HR.out w1).mono ?_
  rintro e w2 ⟨rfl, hb⟩
  have HV2 := Lib.hid (HV1.out.later hb)
  have hbk := hb.mono HV1.out.2.2
  go_simp
  refine hK.out (w.heap.size + 1) _ _ (Nat.le_refl _) hbk ?_
  clear hK hb hbk HV1 q0 q1 q2 q3 q4 q5 q6 q7 q8 q9 q10
  have q0 : ∀ w', Below (w.heap.size + 1) w2 w' → w'.cell? ⟨w.heap.size, 0, none⟩ = some (.int .i64 c.id) := fun w' h => (box11 (HV2.out.below h)).1
  have q1 : ∀ w', Below (w.heap.size + 1) w2 w' → w'.cell? ⟨w.heap.size, 1, none⟩ = some (.int .i64 c.m) := fun w' h => (box11 (HV2.out.below h)).2.1
  have q2 : ∀ w', Below (w.heap.size + 1) w2 w' → w'.cell? ⟨w.heap.size, 2, none⟩ = some (.int .i64 c.u) := fun w' h => (box11 (HV2.out.below h)).2.2.1
  have q3 : ∀ w', Below (w.heap.size + 1) w2 w' → w'.cell? ⟨w.heap.size, 3, none⟩ = some (.int .i64 c.b) := fun w' h => (box11 (HV2.out.below h)).2.2.2.1
  have q4 : ∀ w', Below (w.heap.size + 1) w2 w' → w'.cell? ⟨w.heap.size, 4, none⟩ = some (.int .i64 c.cp) := fun w' h => (box11 (HV2.out.below h)).2.2.2.2.1
  have q5 : ∀ w', Below (w.heap.size + 1) w2 w' → w'.cell? ⟨w.heap.size, 5, none⟩ = some (.int .i64 c.z) := fun w' h => (box11 (HV2.out.below h)).2.2.2.2.2.1
  have q6 : ∀ w', Below (w.heap.size + 1) w2 w' → w'.cell? ⟨w.heap.size, 6, none⟩ = some (.int .i64 c.s) := fun w' h => (box11 (HV2.out.below h)).2.2.2.2.2.2.1
  have q7 : ∀ w', Below (w.heap.size + 1) w2 w' → w'.cell? ⟨w.heap.size, 7, none⟩ = some (.int .i64 c.mt) := fun w' h => (box11 (HV2.out.below h)).2.2.2.2.2.2.2.1
  have q8 : ∀ w', Below (w.heap.size + 1) w2 w' → w'.cell? ⟨w.heap.size, 8, none⟩ = some (.int .i64 c.o) := fun w' h => (box11 (HV2.out.below h)).2.2.2.2.2.2.2.2.1
  have q9 : ∀ w', Below (w.heap.size + 1) w2 w' → w'.cell? ⟨w.heap.size, 9, none⟩ = some (.int .i64 c.a) := fun w' h => (box11 (HV2.out.below h)).2.2.2.2.2.2.2.2.2.1
  have q10 : ∀ w', Below (w.heap.size + 1) w2 w' → w'.cell? ⟨w.heap.size, 10, none⟩ = some (.int .i64 c.l) := fun w' h => (box11 (HV2.out.below h)).2.2.2.2.2.2.2.2.2.2
  refine wpB_take (i := 3) (d := 14) (v := ?v1x3) rfl rfl (by kernel_rfl) (by kernel_rfl) (by kernel_rfl) (fun _ _ _ h => h) (by rfl) ?y1x3 ?r1x3
  case y1x3 => (intro w' hSw; go_simp; try (with_reducible rfl))
  simp only [Act.put, List.setIfInBounds_toArray, List.set_cons_zero, List.set_cons_succ]
  refine wpB_do (i := 6) (by kernel_rfl) rfl (by rfl) (fun K hK => ?_)
  go_simp
  refine (row_to HR.out w2).mono ?_
  rintro e w3 ⟨rfl, hb⟩
  have HV3 := Lib.hid (HV2.out.later hb)
  have hbk := hb.mono HV2.out.2.2
  go_simp
  refine hK.out (w.heap.size + 1) _ _ (Nat.le_refl _) hbk ?_
  clear hK hb hbk HV2 q0 q1 q2 q3 q4 q5 q6 q7 q8 q9 q10
  have q0 : ∀ w', Below (w.heap.size + 1) w3 w' → w'.cell? ⟨w.heap.size, 0, none⟩ = some (.int .i64 c.id) := fun w' h => (box11 (HV3.out.below h)).1
  have q1 : ∀ w', Below (w.heap.size + 1) w3 w' → w'.cell? ⟨w.heap.size, 1, none⟩ = some (.int .i64 c.m) := fun w' h => (box11 (HV3.out.below h)).2.1
  have q2 : ∀ w', Below (w.heap.size + 1) w3 w' → w'.cell? ⟨w.heap.size, 2, none⟩ = some (.int .i64 c.u) := fun w' h => (box11 (HV3.out.below h)).2.2.1
  have q3 : ∀ w', Below (w.heap.size + 1) w3 w' → w'.cell? ⟨w.heap.size, 3, none⟩ = some (.int .i64 c.b) := fun w' h => (box11 (HV3.out.below h)).2.2.2.1
  have q4 : ∀ w', Below (w.heap.size + 1) w3 w' → w'.cell? ⟨w.heap.size, 4, none⟩ = some (.int .i64 c.cp) := fun w' h => (box11 (HV3.out.below h)).2.2.2.2.1
  have q5 : ∀ w', Below (w.heap.size + 1) w3 w' → w'.cell? ⟨w.heap.size, 5, none⟩ = some (.int .i64 c.z) := fun w' h => (box11 (HV3.out.below h)).2.2.2.2.2.1
  have q6 : ∀ w', Below (w.heap.size + 1) w3 w' → w'.cell? ⟨w.heap.size, 6, none⟩ = some (.int .i64 c.s) := fun w' h => (box11 (HV3.out.below h)).2.2.2.2.2.2.1
  have q7 : ∀ w', Below (w.heap.size + 1) w3 w' → w'.cell? ⟨w.heap.size, 7, none⟩ = some (.int .i64 c.mt) := fun w' h => (box11 (HV3.out.below h)).2.2.2.2.2.2.2.1
  have q8 : ∀ w', Below (w.heap.size + 1) w3 w' → w'.cell? ⟨w.heap.size, 8, none⟩ = some (.int .i64 c.o) := fun w' h => (box11 (HV3.out.below h)).2.2.2.2.2.2.2.2.1
  have q9 : ∀ w', Below (w.heap.size + 1) w3 w' → w'.cell? ⟨w.heap.size, 9, none⟩ = some (.int .i64 c.a) := fun w' h => (box11 (HV3.out.below h)).2.2.2.2.2.2.2.2.2.1
  have q10 : ∀ w', Below (w.heap.size + 1) w3 w' → w'.cell? ⟨w.heap.size, 10, none⟩ = some (.int .i64 c.l) := fun w' h => (box11 (HV3.out.below h)).2.2.2.2.2.2.2.2.2.2
  refine wpB_take (i := 7) (d := 18) (v := ?v1x7) rfl rfl (by kernel_rfl) (by kernel_rfl) (by kernel_rfl) (fun _ _ _ h => h) (by rfl) ?y1x7 ?r1x7
  case y1x7 => (intro w' hSw; go_simp; try (with_reducible rfl))
  simp only [Act.put, List.setIfInBounds_toArray, List.set_cons_zero, List.set_cons_succ]
  refine wpB_take (i := 8) (d := 7) (v := ?v1x8) rfl rfl (by kernel_rfl) (by kernel_rfl) (by kernel_rfl) (fun _ _ _ h => h) (by rfl) ?y1x8 ?r1x8
  case y1x8 => (intro w' hSw; go_simp; try (with_reducible rfl))
  simp only [Act.put, List.setIfInBounds_toArray, List.set_cons_zero, List.set_cons_succ]
  refine wpB_take (i := 9) (d := 8) (v := ?v1x9) rfl rfl (by kernel_rfl) (by kernel_rfl) (by kernel_rfl) (fun _ _ _ h => h) (by rfl) ?y1x9 ?r1x9
  case y1x9 => (intro w' hSw; go_simp; try (with_reducible rfl))
  simp only [Act.put, List.setIfInBounds_toArray, List.set_cons_zero, List.set_cons_succ]
  refine wpB_done (by kernel_rfl) ?_
  clear q0 q1 q2 q3 q4 q5 q6 q7 q8 q9 q10
  rw [HT.out.1, HT.out.2]
  clear HT z0 z1
  obtain ⟨y0, y1, y2, y3, y4, y5, y6, y7, y8, y9, y10⟩ := box11 HV3.out.1
  go_wp2_with fail
  first | rw [HX.out] | skip
  refine (uni_any c S m w3 ⟨o1, o2⟩ ⟨d1.1, by omega⟩ m0 m1).mono ?_
  rintro e w4 ⟨rfl, hb⟩
  rw [HU.out]
  have HV4 := Lib.hid (HV3.out.later hb)
  clear hb HV3 y0 y1 y2 y3 y4 y5 y6 y7 y8 y9 y10
  obtain ⟨y0, y1, y2, y3, y4, y5, y6, y7, y8, y9, y10⟩ := box11 HV4.out.1
  have e1 : (U == -1) = false := by simpa using (show ¬ U = -1 by omega)
  by_cases k1 : L - U * c.u < 0
  · have HE : Hid (D = 0) := by rw [HD.out, if_pos k1]; rfl
    clear HD
    have k2 : ¬ c.u < 0 := by omega
    go_wp2
    go_ret
    exact ⟨by rw [HE.out, Int.add_zero]; rfl, HV4.out.2.1⟩
  · by_cases k2 : c.u < L - U * c.u
    · have HE : Hid (D = c.u) := by rw [HD.out, if_neg k1, if_pos k2]; rfl
      clear HD
      go_wp2
      go_ret
      exact ⟨by rw [HE.out]; rfl, HV4.out.2.1⟩
    · have HE : Hid (D = L - U * c.u) := by rw [HD.out, if_neg k1, if_neg k2]; rfl
      clear HD
      go_wp2
      go_ret
      exact ⟨by rw [HE.out]; rfl, HV4.out.2.1⟩
/-- P8.3: of the next stripe, of the member's data unit, what is written of it. -/
def partC (c : Cf) (s m L : Int) : Int := if uniC c s m = -1 then 0 else if L - uniC c s m * c.u < 0 then 0 else if c.u < L - uniC c s m * c.u then c.u else L - uniC c s m * c.u
/-- P8.3: how many blocks a member has, when the first n logical blocks are written. -/
def nedC (c : Cf) (m n : Int) : Int := n / (dataC c * c.u) * c.u + partC c (n / (dataC c * c.u)) m (n % (dataC c * c.u))
theorem ned_any (c : Cf) (m n : Int) (w : World) (hc : checkC c = 0) (h0 : 0 ≤ n) (h1 : n ≤ 61440) (m0 : 0 ≤ m) (m1 : m < c.m) : Calls Try.prog 58 #[(.agg #[.int .i64 c.id, .int .i64 c.m, .int .i64 c.u, .int .i64 c.b, .int .i64 c.cp, .int .i64 c.z, .int .i64 c.s, .int .i64 c.mt, .int .i64 c.o, .int .i64 c.a, .int .i64 c.l]), .int .i64 m, .int .i64 n] w (Says w (.int .i64 (nedC c m n))) := by
  have ho := ok_of hc
  unfold nedC partC
  by_cases hu : uniC c (n / (dataC c * c.u)) m = -1
  · rw [if_pos hu, Int.add_zero]
    exact need_par c m n _ 0 _ _ _ w rfl hc h0 h1 m0 m1 rfl rfl rfl hu
  · rw [if_neg hu]
    have hi := uniC_in (s := n / (dataC c * c.u)) ho.m1 m0 m1
    have h16 := ho.m2
    exact need_dat c m n _ 0 _ _ _ _ _ w rfl hc h0 h1 m0 m1 rfl rfl rfl rfl (by omega) (by omega) rfl
theorem wri_in {c : Cf} (hc : checkC c = 0) (n : Int) : 0 ≤ wriC c n ∧ wriC c n ≤ 61440 ∧ wriC c n ≤ stripesC c * (dataC c * c.u) := by
  have ho := ok_of hc
  have h1 := ho.z1
  have h2 := ho.z2
  unfold wriC
  split
  · omega
  · split <;> omega
/-- P8.3: Need. -/
def needA (c : Cf) (m n : Int) : Int := if hasM c m = true then nedC c m (wriC c n) else 0
end Go.Proofs.Yteglgopbagefcaa
