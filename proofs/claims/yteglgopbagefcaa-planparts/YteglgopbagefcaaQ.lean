/- The contract of geom.Of. -/
import Derived.Test.YteglgopbagefcaaP
namespace Go.Proofs.Yteglgopbagefcaa
set_option linter.unusedVariables false
set_option linter.unusedSimpArgs false
open Go.RowKit
open Go.RowKit (wrap64)

/-- The settings lie in block w.heap.size, a place in the next one. -/
structure AtP (c : Cf) (ps : Array Value) (w w' : World) : Prop where
  box : Box w' w.heap.size 23 #[.int .i64 c.id, .int .i64 c.m, .int .i64 c.u, .int .i64 c.b, .int .i64 c.cp, .int .i64 c.z, .int .i64 c.s, .int .i64 c.mt, .int .i64 c.o, .int .i64 c.a, .int .i64 c.l]
  plc : Box w' (w.heap.size + 1) 36 ps
  bel : Below w.heap.size w w'
  sz : w.heap.size + 2 ≤ w'.heap.size
theorem AtP.new (c : Cf) (w : World) {ps : Array Value} : AtP c ps w ((w.alloc (.cells #[.int .i64 c.id, .int .i64 c.m, .int .i64 c.u, .int .i64 c.b, .int .i64 c.cp, .int .i64 c.z, .int .i64 c.s, .int .i64 c.mt, .int .i64 c.o, .int .i64 c.a, .int .i64 c.l] 23)).alloc (.cells ps 36)) := by
  have h := two_boxes (Below.refl ((w.alloc (.cells #[.int .i64 c.id, .int .i64 c.m, .int .i64 c.u, .int .i64 c.b, .int .i64 c.cp, .int .i64 c.z, .int .i64 c.s, .int .i64 c.mt, .int .i64 c.o, .int .i64 c.a, .int .i64 c.l] 23)).alloc (.cells ps 36)).heap.size ((w.alloc (.cells #[.int .i64 c.id, .int .i64 c.m, .int .i64 c.u, .int .i64 c.b, .int .i64 c.cp, .int .i64 c.z, .int .i64 c.s, .int .i64 c.mt, .int .i64 c.o, .int .i64 c.a, .int .i64 c.l] 23)).alloc (.cells ps 36)))
  exact ⟨h.1, h.2.1, h.2.2.1, h.2.2.2⟩
theorem AtP.later {c : Cf} {ps : Array Value} {w w' w2 : World} (h : AtP c ps w w') (hb : Below w'.heap.size w' w2) : AtP c ps w w2 := ⟨h.box.later hb, h.plc.later hb, h.bel.trans (hb.mono h.bel.size), Nat.le_trans h.sz hb.size⟩
theorem AtP.drew {c : Cf} {ps : Array Value} {w w' : World} (h : AtP c ps w w') : AtP c ps w w'.drew := h.later (Below.refl _ _).drew
theorem AtP.a {c : Cf} {ps : Array Value} {w w' w2 : World} {n : Nat} (h : AtP c ps w w') (hb : Below n w' w2) (hn : w.heap.size + 1 ≤ n) : Box w2 w.heap.size 23 #[.int .i64 c.id, .int .i64 c.m, .int .i64 c.u, .int .i64 c.b, .int .i64 c.cp, .int .i64 c.z, .int .i64 c.s, .int .i64 c.mt, .int .i64 c.o, .int .i64 c.a, .int .i64 c.l] := h.box.under hb (by omega)
theorem AtP.b {c : Cf} {ps : Array Value} {w w' w2 : World} {n : Nat} (h : AtP c ps w w') (hb : Below n w' w2) (hn : w.heap.size + 2 ≤ n) : Box w2 (w.heap.size + 1) 36 ps := h.plc.under hb (by omega)
/-- A block of five cells. -/
theorem box5 {w : World} {g : Nat} {t : TypeId} {a0 a1 a2 a3 a4 : Value} (h : Box w g t #[a0, a1, a2, a3, a4]) :
    (w.cell? ⟨g, 0, none⟩ = some a0 ∧ w.cell? ⟨g, 1, none⟩ = some a1 ∧ w.cell? ⟨g, 2, none⟩ = some a2 ∧ w.cell? ⟨g, 3, none⟩ = some a3 ∧ w.cell? ⟨g, 4, none⟩ = some a4) ∧ (w.frozen? ⟨g, 0, none⟩ = false ∧ w.frozen? ⟨g, 1, none⟩ = false ∧ w.frozen? ⟨g, 2, none⟩ = false ∧ w.frozen? ⟨g, 3, none⟩ = false ∧ w.frozen? ⟨g, 4, none⟩ = false) := by
  refine ⟨⟨?_, ?_, ?_, ?_, ?_⟩, ⟨?_, ?_, ?_, ?_, ?_⟩⟩ <;> first | (rw [h.cell]; rfl) | exact h.frozen _
theorem row_to {c : Cf} {R : Int} (hR : dataC c * c.u = R) (w : World) : Calls Try.prog 28 #[(.agg #[.int .i64 c.id, .int .i64 c.m, .int .i64 c.u, .int .i64 c.b, .int .i64 c.cp, .int .i64 c.z, .int .i64 c.s, .int .i64 c.mt, .int .i64 c.o, .int .i64 c.a, .int .i64 c.l])] w (Says w (.int .i64 R)) := by rw [← hR]; exact row_any c w
theorem size_to {c : Cf} {Z : Int} (hZ : stripesC c * (dataC c * c.u) = Z) (w : World) : Calls Try.prog 36 #[(.agg #[.int .i64 c.id, .int .i64 c.m, .int .i64 c.u, .int .i64 c.b, .int .i64 c.cp, .int .i64 c.z, .int .i64 c.s, .int .i64 c.mt, .int .i64 c.o, .int .i64 c.a, .int .i64 c.l])] w (Says w (.int .i64 Z)) := by rw [← hZ]; exact size_any c w
theorem tdiv_of {a b : Int} (h : 0 ≤ a) : a.tdiv b = a / b := Int.tdiv_eq_ediv_of_nonneg h
theorem tmod_of {a b : Int} (h : 0 ≤ a) : a.tmod b = a % b := Int.tmod_eq_emod_of_nonneg h

set_option maxRecDepth 100000 in
set_option maxHeartbeats 4000000 in
theorem of_core (c : Cf) (lb R Z S L U I M F : Int) (w : World) (hR : dataC c * c.u = R) (hZ : stripesC c * (dataC c * c.u) = Z) (hc : checkC c = 0) (h0 : 0 ≤ lb) (h1 : lb < Z)
    (hS : lb / R = S) (hL : lb % R = L) (hU : L / c.u = U) (hI : L % c.u = I) (hM : (S % c.m + 1 + U) % c.m = M) (hF : S * c.u + I = F) :
    Calls Try.prog 29 #[(.agg #[.int .i64 c.id, .int .i64 c.m, .int .i64 c.u, .int .i64 c.b, .int .i64 c.cp, .int .i64 c.z, .int .i64 c.s, .int .i64 c.mt, .int .i64 c.o, .int .i64 c.a, .int .i64 c.l]), .int .i64 lb] w (Says w (.tuple #[.agg #[.int .i64 S, .int .i64 U, .int .i64 I, .int .i64 M, .int .i64 F], .bool true])) := by
  have HR := Lib.hid hR
  have HZ := Lib.hid hZ
  have HO := Lib.hid (ok_of hc)
  have HB := Lib.hid (belowC_iff.2 ⟨h0, h1⟩)
  have o1 := HO.out.m1
  have o2 := HO.out.m2
  have o3 := HO.out.u1
  have o4 := HO.out.u2
  have o5 := HO.out.r1
  have o6 := HO.out.r2
  have o7 := HO.out.z2
  rw [hR] at o5 o6
  rw [hZ] at o7
  clear hR hZ
  have d1 := div_in (a := lb) (b := R) (by omega) (by omega)
  have d2 : 0 ≤ lb % R := Int.emod_nonneg _ (by omega)
  have d3 : lb % R < R := Int.emod_lt_of_pos _ (by omega)
  have HT : Hid (IntKind.i64.wrap (lb.tdiv R) = S ∧ lb.tmod R = L) := ⟨by rw [tdiv_of h0, wrapk_in (by omega) (by omega), hS], by rw [tmod_of h0, hL]⟩
  rw [hS] at d1
  rw [hL] at d2 d3
  have d4 := div_in (a := L) (b := c.u) d2 o3
  have d5 : 0 ≤ L % c.u := Int.emod_nonneg _ (by omega)
  have d6 : L % c.u < c.u := Int.emod_lt_of_pos _ (by omega)
  have HT2 : Hid (IntKind.i64.wrap (L.tdiv c.u) = U ∧ L.tmod c.u = I) := ⟨by rw [tdiv_of d2, wrapk_in (by omega) (by omega), hU], by rw [tmod_of d2, hI]⟩
  rw [hU] at d4
  rw [hI] at d5 d6
  have HT3 : Hid (IntKind.i64.wrap (IntKind.i64.wrap (S * c.u) + I) = F) := by
    have h := mul_in (a := S) (b := c.u) (A := 61440) (B := 64) (by omega) (by omega) (by omega) (by omega)
    show IntKind.i64.wrap (IntKind.i64.wrap (S * c.u) + I) = F
    rw [wrapk_in (n := S * c.u) (by omega) (by omega), hF]
    exact wrapk_in (by omega) (by omega)
  have HM := Lib.hid hM
  clear hS hL hU hI hF hM
  go_enter Try.func29, Try.ntmps29
  go_wp2_with fail
  have HV0 := Lib.hid (AtP.new (ps := #[.int .i64 0, .int .i64 0, .int .i64 0, .int .i64 0, .int .i64 0]) c w)
  generalize ((w.alloc (.cells #[.int .i64 c.id, .int .i64 c.m, .int .i64 c.u, .int .i64 c.b, .int .i64 c.cp, .int .i64 c.z, .int .i64 c.s, .int .i64 c.mt, .int .i64 c.o, .int .i64 c.a, .int .i64 c.l] 23)).alloc (.cells #[.int .i64 0, .int .i64 0, .int .i64 0, .int .i64 0, .int .i64 0] 36)) = w0 at HV0 ⊢
  obtain ⟨y0, y1, y2, y3, y4, y5, y6, y7, y8, y9, y10⟩ := box11 HV0.out.box
  refine (check_any c w0).mono ?_
  rintro e w1 ⟨rfl, hb⟩
  rw [hc]
  clear hc
  have HV1 := Lib.hid (HV0.out.later hb)
  clear hb HV0 y0 y1 y2 y3 y4 y5 y6 y7 y8 y9 y10
  obtain ⟨y0, y1, y2, y3, y4, y5, y6, y7, y8, y9, y10⟩ := box11 HV1.out.box
  go_wp2_with fail
  refine (size_to HZ.out w1).mono ?_
  rintro e w2 ⟨rfl, hb⟩
  have HV2 := Lib.hid (HV1.out.later hb)
  clear hb HV1 y0 y1 y2 y3 y4 y5 y6 y7 y8 y9 y10
  obtain ⟨y0, y1, y2, y3, y4, y5, y6, y7, y8, y9, y10⟩ := box11 HV2.out.box
  go_wp2_with fail
  refine (below_any lb Z w2).mono ?_
  rintro e w' ⟨rfl, rfl⟩
  rw [HB.out]
  go_wp2_with fail
  refine wpB_start (w.heap.size + 2) (by kernel_rfl) ?_
  have HV3 := Lib.hid HV2.out.drew
  generalize w2.drew = w3 at HV3 ⊢
  clear HV2 y0 y1 y2 y3 y4 y5 y6 y7 y8 y9 y10
  have q0 : ∀ w', Below (w.heap.size + 2) w3 w' → w'.cell? ⟨w.heap.size, 0, none⟩ = some (.int .i64 c.id) := fun w' h => (box11 (HV3.out.a h (by omega))).1
  have q1 : ∀ w', Below (w.heap.size + 2) w3 w' → w'.cell? ⟨w.heap.size, 1, none⟩ = some (.int .i64 c.m) := fun w' h => (box11 (HV3.out.a h (by omega))).2.1
  have q2 : ∀ w', Below (w.heap.size + 2) w3 w' → w'.cell? ⟨w.heap.size, 2, none⟩ = some (.int .i64 c.u) := fun w' h => (box11 (HV3.out.a h (by omega))).2.2.1
  have q3 : ∀ w', Below (w.heap.size + 2) w3 w' → w'.cell? ⟨w.heap.size, 3, none⟩ = some (.int .i64 c.b) := fun w' h => (box11 (HV3.out.a h (by omega))).2.2.2.1
  have q4 : ∀ w', Below (w.heap.size + 2) w3 w' → w'.cell? ⟨w.heap.size, 4, none⟩ = some (.int .i64 c.cp) := fun w' h => (box11 (HV3.out.a h (by omega))).2.2.2.2.1
  have q5 : ∀ w', Below (w.heap.size + 2) w3 w' → w'.cell? ⟨w.heap.size, 5, none⟩ = some (.int .i64 c.z) := fun w' h => (box11 (HV3.out.a h (by omega))).2.2.2.2.2.1
  have q6 : ∀ w', Below (w.heap.size + 2) w3 w' → w'.cell? ⟨w.heap.size, 6, none⟩ = some (.int .i64 c.s) := fun w' h => (box11 (HV3.out.a h (by omega))).2.2.2.2.2.2.1
  have q7 : ∀ w', Below (w.heap.size + 2) w3 w' → w'.cell? ⟨w.heap.size, 7, none⟩ = some (.int .i64 c.mt) := fun w' h => (box11 (HV3.out.a h (by omega))).2.2.2.2.2.2.2.1
  have q8 : ∀ w', Below (w.heap.size + 2) w3 w' → w'.cell? ⟨w.heap.size, 8, none⟩ = some (.int .i64 c.o) := fun w' h => (box11 (HV3.out.a h (by omega))).2.2.2.2.2.2.2.2.1
  have q9 : ∀ w', Below (w.heap.size + 2) w3 w' → w'.cell? ⟨w.heap.size, 9, none⟩ = some (.int .i64 c.a) := fun w' h => (box11 (HV3.out.a h (by omega))).2.2.2.2.2.2.2.2.2.1
  have q10 : ∀ w', Below (w.heap.size + 2) w3 w' → w'.cell? ⟨w.heap.size, 10, none⟩ = some (.int .i64 c.l) := fun w' h => (box11 (HV3.out.a h (by omega))).2.2.2.2.2.2.2.2.2.2
  have z0 : ¬ R = 0 := by omega
  have z1 : (R == 0) = false := by simpa using z0
  refine wpB_take (i := 0) (d := 21) (v := ?v3x0) rfl rfl (by kernel_rfl) (by kernel_rfl) (by kernel_rfl) (fun _ _ _ h => h) (by rfl) ?y3x0 ?r3x0
  case y3x0 => (intro w' hSw; go_simp; try (with_reducible rfl))
  simp only [Act.put, List.setIfInBounds_toArray, List.set_cons_zero, List.set_cons_succ]
  refine wpB_take (i := 1) (d := 22) (v := ?v3x1) rfl rfl (by kernel_rfl) (by kernel_rfl) (by kernel_rfl) (fun _ _ _ h => h) (by rfl) ?y3x1 ?r3x1
  case y3x1 => (intro w' hSw; go_simp; try (with_reducible rfl))
  simp only [Act.put, List.setIfInBounds_toArray, List.set_cons_zero, List.set_cons_succ]
  refine wpB_take (i := 4) (d := 25) (v := ?v3x4) rfl rfl (by kernel_rfl) (by kernel_rfl) (by kernel_rfl) (fun _ _ _ h => h) (by rfl) ?y3x4 ?r3x4
  case y3x4 => (intro w' hSw; go_simp; try (with_reducible rfl))
  simp only [Act.put, List.setIfInBounds_toArray, List.set_cons_zero, List.set_cons_succ]
  refine wpB_take (i := 5) (d := 26) (v := ?v3x5) rfl rfl (by kernel_rfl) (by kernel_rfl) (by kernel_rfl) (fun _ _ _ h => h) (by rfl) ?y3x5 ?r3x5
  case y3x5 => (intro w' hSw; go_simp; try (with_reducible rfl))
  simp only [Act.put, List.setIfInBounds_toArray, List.set_cons_zero, List.set_cons_succ]
  refine wpB_do (i := 2) (by kernel_rfl) rfl (by rfl) (fun K hK => ?_)
  go_simp
  refine (row_to HR.out w3).mono ?_
  rintro e w4 ⟨rfl, hb⟩
  have HV4 := Lib.hid (HV3.out.later hb)
  have hbk := hb.mono (show w.heap.size + 2 ≤ _ by have := HV3.out.sz; omega)
  go_simp
  refine hK.out (w.heap.size + 2) _ _ (Nat.le_refl _) hbk ?_
  clear hK hb hbk HV3 q0 q1 q2 q3 q4 q5 q6 q7 q8 q9 q10
  have q0 : ∀ w', Below (w.heap.size + 2) w4 w' → w'.cell? ⟨w.heap.size, 0, none⟩ = some (.int .i64 c.id) := fun w' h => (box11 (HV4.out.a h (by omega))).1
  have q1 : ∀ w', Below (w.heap.size + 2) w4 w' → w'.cell? ⟨w.heap.size, 1, none⟩ = some (.int .i64 c.m) := fun w' h => (box11 (HV4.out.a h (by omega))).2.1
  have q2 : ∀ w', Below (w.heap.size + 2) w4 w' → w'.cell? ⟨w.heap.size, 2, none⟩ = some (.int .i64 c.u) := fun w' h => (box11 (HV4.out.a h (by omega))).2.2.1
  have q3 : ∀ w', Below (w.heap.size + 2) w4 w' → w'.cell? ⟨w.heap.size, 3, none⟩ = some (.int .i64 c.b) := fun w' h => (box11 (HV4.out.a h (by omega))).2.2.2.1
  have q4 : ∀ w', Below (w.heap.size + 2) w4 w' → w'.cell? ⟨w.heap.size, 4, none⟩ = some (.int .i64 c.cp) := fun w' h => (box11 (HV4.out.a h (by omega))).2.2.2.2.1
  have q5 : ∀ w', Below (w.heap.size + 2) w4 w' → w'.cell? ⟨w.heap.size, 5, none⟩ = some (.int .i64 c.z) := fun w' h => (box11 (HV4.out.a h (by omega))).2.2.2.2.2.1
  have q6 : ∀ w', Below (w.heap.size + 2) w4 w' → w'.cell? ⟨w.heap.size, 6, none⟩ = some (.int .i64 c.s) := fun w' h => (box11 (HV4.out.a h (by omega))).2.2.2.2.2.2.1
  have q7 : ∀ w', Below (w.heap.size + 2) w4 w' → w'.cell? ⟨w.heap.size, 7, none⟩ = some (.int .i64 c.mt) := fun w' h => (box11 (HV4.out.a h (by omega))).2.2.2.2.2.2.2.1
  have q8 : ∀ w', Below (w.heap.size + 2) w4 w' → w'.cell? ⟨w.heap.size, 8, none⟩ = some (.int .i64 c.o) := fun w' h => (box11 (HV4.out.a h (by omega))).2.2.2.2.2.2.2.2.1
  have q9 : ∀ w', Below (w.heap.size + 2) w4 w' → w'.cell? ⟨w.heap.size, 9, none⟩ = some (.int .i64 c.a) := fun w' h => (box11 (HV4.out.a h (by omega))).2.2.2.2.2.2.2.2.2.1
  have q10 : ∀ w', Below (w.heap.size + 2) w4 w' → w'.cell? ⟨w.heap.size, 10, none⟩ = some (.int .i64 c.l) := fun w' h => (box11 (HV4.out.a h (by omega))).2.2.2.2.2.2.2.2.2.2
  refine wpB_take (i := 3) (d := 24) (v := ?v3x3) rfl rfl (by kernel_rfl) (by kernel_rfl) (by kernel_rfl) (fun _ _ _ h => h) (by rfl) ?y3x3 ?r3x3
  case y3x3 => (intro w' hSw; go_simp; try (with_reducible rfl))
  simp only [Act.put, List.setIfInBounds_toArray, List.set_cons_zero, List.set_cons_succ]
  refine wpB_do (i := 6) (by kernel_rfl) rfl (by rfl) (fun K hK => ?_)
  go_simp
  refine (row_to HR.out w4).mono ?_
  rintro e w5 ⟨rfl, hb⟩
  have HV5 := Lib.hid (HV4.out.later hb)
  have hbk := hb.mono (show w.heap.size + 2 ≤ _ by have := HV4.out.sz; omega)
  go_simp
  refine hK.out (w.heap.size + 2) _ _ (Nat.le_refl _) hbk ?_
  clear hK hb hbk HV4 q0 q1 q2 q3 q4 q5 q6 q7 q8 q9 q10
  have q0 : ∀ w', Below (w.heap.size + 2) w5 w' → w'.cell? ⟨w.heap.size, 0, none⟩ = some (.int .i64 c.id) := fun w' h => (box11 (HV5.out.a h (by omega))).1
  have q1 : ∀ w', Below (w.heap.size + 2) w5 w' → w'.cell? ⟨w.heap.size, 1, none⟩ = some (.int .i64 c.m) := fun w' h => (box11 (HV5.out.a h (by omega))).2.1
  have q2 : ∀ w', Below (w.heap.size + 2) w5 w' → w'.cell? ⟨w.heap.size, 2, none⟩ = some (.int .i64 c.u) := fun w' h => (box11 (HV5.out.a h (by omega))).2.2.1
  have q3 : ∀ w', Below (w.heap.size + 2) w5 w' → w'.cell? ⟨w.heap.size, 3, none⟩ = some (.int .i64 c.b) := fun w' h => (box11 (HV5.out.a h (by omega))).2.2.2.1
  have q4 : ∀ w', Below (w.heap.size + 2) w5 w' → w'.cell? ⟨w.heap.size, 4, none⟩ = some (.int .i64 c.cp) := fun w' h => (box11 (HV5.out.a h (by omega))).2.2.2.2.1
  have q5 : ∀ w', Below (w.heap.size + 2) w5 w' → w'.cell? ⟨w.heap.size, 5, none⟩ = some (.int .i64 c.z) := fun w' h => (box11 (HV5.out.a h (by omega))).2.2.2.2.2.1
  have q6 : ∀ w', Below (w.heap.size + 2) w5 w' → w'.cell? ⟨w.heap.size, 6, none⟩ = some (.int .i64 c.s) := fun w' h => (box11 (HV5.out.a h (by omega))).2.2.2.2.2.2.1
  have q7 : ∀ w', Below (w.heap.size + 2) w5 w' → w'.cell? ⟨w.heap.size, 7, none⟩ = some (.int .i64 c.mt) := fun w' h => (box11 (HV5.out.a h (by omega))).2.2.2.2.2.2.2.1
  have q8 : ∀ w', Below (w.heap.size + 2) w5 w' → w'.cell? ⟨w.heap.size, 8, none⟩ = some (.int .i64 c.o) := fun w' h => (box11 (HV5.out.a h (by omega))).2.2.2.2.2.2.2.2.1
  have q9 : ∀ w', Below (w.heap.size + 2) w5 w' → w'.cell? ⟨w.heap.size, 9, none⟩ = some (.int .i64 c.a) := fun w' h => (box11 (HV5.out.a h (by omega))).2.2.2.2.2.2.2.2.2.1
  have q10 : ∀ w', Below (w.heap.size + 2) w5 w' → w'.cell? ⟨w.heap.size, 10, none⟩ = some (.int .i64 c.l) := fun w' h => (box11 (HV5.out.a h (by omega))).2.2.2.2.2.2.2.2.2.2
  refine wpB_take (i := 7) (d := 28) (v := ?v3x7) rfl rfl (by kernel_rfl) (by kernel_rfl) (by kernel_rfl) (fun _ _ _ h => h) (by rfl) ?y3x7 ?r3x7
  case y3x7 => (intro w' hSw; go_simp; try (with_reducible rfl))
  simp only [Act.put, List.setIfInBounds_toArray, List.set_cons_zero, List.set_cons_succ]
  refine wpB_take (i := 8) (d := 6) (v := ?v3x8) rfl rfl (by kernel_rfl) (by kernel_rfl) (by kernel_rfl) (fun _ _ _ h => h) (by rfl) ?y3x8 ?r3x8
  case y3x8 => (intro w' hSw; go_simp; try (with_reducible rfl))
  simp only [Act.put, List.setIfInBounds_toArray, List.set_cons_zero, List.set_cons_succ]
  refine wpB_take (i := 9) (d := 7) (v := ?v3x9) rfl rfl (by kernel_rfl) (by kernel_rfl) (by kernel_rfl) (fun _ _ _ h => h) (by rfl) ?y3x9 ?r3x9
  case y3x9 => (intro w' hSw; go_simp; try (with_reducible rfl))
  simp only [Act.put, List.setIfInBounds_toArray, List.set_cons_zero, List.set_cons_succ]
  refine wpB_done (by kernel_rfl) ?_
  clear q0 q1 q2 q3 q4 q5 q6 q7 q8 q9 q10
  rw [HT.out.1, HT.out.2]
  clear HT z0 z1
  obtain ⟨y0, y1, y2, y3, y4, y5, y6, y7, y8, y9, y10⟩ := box11 HV5.out.box
  go_wp2_with fail
  refine wpB_start (w.heap.size + 2) (by kernel_rfl) ?_
  have HV6 := Lib.hid HV5.out.drew
  generalize w5.drew = w6 at HV6 ⊢
  clear HV5 y0 y1 y2 y3 y4 y5 y6 y7 y8 y9 y10
  have q0 : ∀ w', Below (w.heap.size + 2) w6 w' → w'.cell? ⟨w.heap.size, 0, none⟩ = some (.int .i64 c.id) := fun w' h => (box11 (HV6.out.a h (by omega))).1
  have q1 : ∀ w', Below (w.heap.size + 2) w6 w' → w'.cell? ⟨w.heap.size, 1, none⟩ = some (.int .i64 c.m) := fun w' h => (box11 (HV6.out.a h (by omega))).2.1
  have q2 : ∀ w', Below (w.heap.size + 2) w6 w' → w'.cell? ⟨w.heap.size, 2, none⟩ = some (.int .i64 c.u) := fun w' h => (box11 (HV6.out.a h (by omega))).2.2.1
  have q3 : ∀ w', Below (w.heap.size + 2) w6 w' → w'.cell? ⟨w.heap.size, 3, none⟩ = some (.int .i64 c.b) := fun w' h => (box11 (HV6.out.a h (by omega))).2.2.2.1
  have q4 : ∀ w', Below (w.heap.size + 2) w6 w' → w'.cell? ⟨w.heap.size, 4, none⟩ = some (.int .i64 c.cp) := fun w' h => (box11 (HV6.out.a h (by omega))).2.2.2.2.1
  have q5 : ∀ w', Below (w.heap.size + 2) w6 w' → w'.cell? ⟨w.heap.size, 5, none⟩ = some (.int .i64 c.z) := fun w' h => (box11 (HV6.out.a h (by omega))).2.2.2.2.2.1
  have q6 : ∀ w', Below (w.heap.size + 2) w6 w' → w'.cell? ⟨w.heap.size, 6, none⟩ = some (.int .i64 c.s) := fun w' h => (box11 (HV6.out.a h (by omega))).2.2.2.2.2.2.1
  have q7 : ∀ w', Below (w.heap.size + 2) w6 w' → w'.cell? ⟨w.heap.size, 7, none⟩ = some (.int .i64 c.mt) := fun w' h => (box11 (HV6.out.a h (by omega))).2.2.2.2.2.2.2.1
  have q8 : ∀ w', Below (w.heap.size + 2) w6 w' → w'.cell? ⟨w.heap.size, 8, none⟩ = some (.int .i64 c.o) := fun w' h => (box11 (HV6.out.a h (by omega))).2.2.2.2.2.2.2.2.1
  have q9 : ∀ w', Below (w.heap.size + 2) w6 w' → w'.cell? ⟨w.heap.size, 9, none⟩ = some (.int .i64 c.a) := fun w' h => (box11 (HV6.out.a h (by omega))).2.2.2.2.2.2.2.2.2.1
  have q10 : ∀ w', Below (w.heap.size + 2) w6 w' → w'.cell? ⟨w.heap.size, 10, none⟩ = some (.int .i64 c.l) := fun w' h => (box11 (HV6.out.a h (by omega))).2.2.2.2.2.2.2.2.2.2
  have z0 : ¬ c.u = 0 := by omega
  have z1 : (c.u == 0) = false := by simpa using z0
  refine wpB_take (i := 0) (d := 29) (v := ?v4x0) rfl rfl (by kernel_rfl) (by kernel_rfl) (by kernel_rfl) (fun _ _ _ h => h) (by rfl) ?y4x0 ?r4x0
  case y4x0 => (intro w' hSw; go_simp; try (with_reducible rfl))
  simp only [Act.put, List.setIfInBounds_toArray, List.set_cons_zero, List.set_cons_succ]
  refine wpB_take (i := 1) (d := 30) (v := ?v4x1) rfl rfl (by kernel_rfl) (by kernel_rfl) (by kernel_rfl) (fun _ _ _ h => h) (by rfl) ?y4x1 ?r4x1
  case y4x1 => (intro w' hSw; go_simp; try (with_reducible rfl))
  simp only [Act.put, List.setIfInBounds_toArray, List.set_cons_zero, List.set_cons_succ]
  refine wpB_take (i := 2) (d := 31) (v := ?v4x2) rfl rfl (by kernel_rfl) (by kernel_rfl) (by kernel_rfl) (fun _ _ _ h => h) (by rfl) ?y4x2 ?r4x2
  case y4x2 => (intro w' hSw; go_simp; try (with_reducible rfl))
  simp only [Act.put, List.setIfInBounds_toArray, List.set_cons_zero, List.set_cons_succ]
  refine wpB_take (i := 3) (d := 32) (v := ?v4x3) rfl rfl (by kernel_rfl) (by kernel_rfl) (by kernel_rfl) (fun _ _ _ h => h) (by rfl) ?y4x3 ?r4x3
  case y4x3 => (intro w' hSw; go_simp; try (with_reducible rfl))
  simp only [Act.put, List.setIfInBounds_toArray, List.set_cons_zero, List.set_cons_succ]
  refine wpB_take (i := 4) (d := 33) (v := ?v4x4) rfl rfl (by kernel_rfl) (by kernel_rfl) (by kernel_rfl) (fun _ _ _ h => h) (by rfl) ?y4x4 ?r4x4
  case y4x4 => (intro w' hSw; go_simp; try (with_reducible rfl))
  simp only [Act.put, List.setIfInBounds_toArray, List.set_cons_zero, List.set_cons_succ]
  refine wpB_take (i := 5) (d := 34) (v := ?v4x5) rfl rfl (by kernel_rfl) (by kernel_rfl) (by kernel_rfl) (fun _ _ _ h => h) (by rfl) ?y4x5 ?r4x5
  case y4x5 => (intro w' hSw; go_simp; try (with_reducible rfl))
  simp only [Act.put, List.setIfInBounds_toArray, List.set_cons_zero, List.set_cons_succ]
  refine wpB_take (i := 6) (d := 35) (v := ?v4x6) rfl rfl (by kernel_rfl) (by kernel_rfl) (by kernel_rfl) (fun _ _ _ h => h) (by rfl) ?y4x6 ?r4x6
  case y4x6 => (intro w' hSw; go_simp; try (with_reducible rfl))
  simp only [Act.put, List.setIfInBounds_toArray, List.set_cons_zero, List.set_cons_succ]
  refine wpB_take (i := 7) (d := 36) (v := ?v4x7) rfl rfl (by kernel_rfl) (by kernel_rfl) (by kernel_rfl) (fun _ _ _ h => h) (by rfl) ?y4x7 ?r4x7
  case y4x7 => (intro w' hSw; go_simp; try (with_reducible rfl))
  simp only [Act.put, List.setIfInBounds_toArray, List.set_cons_zero, List.set_cons_succ]
  refine wpB_take (i := 8) (d := 8) (v := ?v4x8) rfl rfl (by kernel_rfl) (by kernel_rfl) (by kernel_rfl) (fun _ _ _ h => h) (by rfl) ?y4x8 ?r4x8
  case y4x8 => (intro w' hSw; go_simp; try (with_reducible rfl))
  simp only [Act.put, List.setIfInBounds_toArray, List.set_cons_zero, List.set_cons_succ]
  refine wpB_take (i := 9) (d := 9) (v := ?v4x9) rfl rfl (by kernel_rfl) (by kernel_rfl) (by kernel_rfl) (fun _ _ _ h => h) (by rfl) ?y4x9 ?r4x9
  case y4x9 => (intro w' hSw; go_simp; try (with_reducible rfl))
  simp only [Act.put, List.setIfInBounds_toArray, List.set_cons_zero, List.set_cons_succ]
  refine wpB_done (by kernel_rfl) ?_
  clear q0 q1 q2 q3 q4 q5 q6 q7 q8 q9 q10
  rw [HT2.out.1, HT2.out.2]
  clear HT2 z0 z1
  obtain ⟨y0, y1, y2, y3, y4, y5, y6, y7, y8, y9, y10⟩ := box11 HV6.out.box
  go_wp2_with fail
  refine wpB_start (w.heap.size + 1) (by kernel_rfl) ?_
  have HV7 := Lib.hid HV6.out.drew
  generalize w6.drew = w7 at HV7 ⊢
  clear HV6 y0 y1 y2 y3 y4 y5 y6 y7 y8 y9 y10
  have q0 : ∀ w', Below (w.heap.size + 1) w7 w' → w'.cell? ⟨w.heap.size, 0, none⟩ = some (.int .i64 c.id) := fun w' h => (box11 (HV7.out.a h (by omega))).1
  have q1 : ∀ w', Below (w.heap.size + 1) w7 w' → w'.cell? ⟨w.heap.size, 1, none⟩ = some (.int .i64 c.m) := fun w' h => (box11 (HV7.out.a h (by omega))).2.1
  have q2 : ∀ w', Below (w.heap.size + 1) w7 w' → w'.cell? ⟨w.heap.size, 2, none⟩ = some (.int .i64 c.u) := fun w' h => (box11 (HV7.out.a h (by omega))).2.2.1
  have q3 : ∀ w', Below (w.heap.size + 1) w7 w' → w'.cell? ⟨w.heap.size, 3, none⟩ = some (.int .i64 c.b) := fun w' h => (box11 (HV7.out.a h (by omega))).2.2.2.1
  have q4 : ∀ w', Below (w.heap.size + 1) w7 w' → w'.cell? ⟨w.heap.size, 4, none⟩ = some (.int .i64 c.cp) := fun w' h => (box11 (HV7.out.a h (by omega))).2.2.2.2.1
  have q5 : ∀ w', Below (w.heap.size + 1) w7 w' → w'.cell? ⟨w.heap.size, 5, none⟩ = some (.int .i64 c.z) := fun w' h => (box11 (HV7.out.a h (by omega))).2.2.2.2.2.1
  have q6 : ∀ w', Below (w.heap.size + 1) w7 w' → w'.cell? ⟨w.heap.size, 6, none⟩ = some (.int .i64 c.s) := fun w' h => (box11 (HV7.out.a h (by omega))).2.2.2.2.2.2.1
  have q7 : ∀ w', Below (w.heap.size + 1) w7 w' → w'.cell? ⟨w.heap.size, 7, none⟩ = some (.int .i64 c.mt) := fun w' h => (box11 (HV7.out.a h (by omega))).2.2.2.2.2.2.2.1
  have q8 : ∀ w', Below (w.heap.size + 1) w7 w' → w'.cell? ⟨w.heap.size, 8, none⟩ = some (.int .i64 c.o) := fun w' h => (box11 (HV7.out.a h (by omega))).2.2.2.2.2.2.2.2.1
  have q9 : ∀ w', Below (w.heap.size + 1) w7 w' → w'.cell? ⟨w.heap.size, 9, none⟩ = some (.int .i64 c.a) := fun w' h => (box11 (HV7.out.a h (by omega))).2.2.2.2.2.2.2.2.2.1
  have q10 : ∀ w', Below (w.heap.size + 1) w7 w' → w'.cell? ⟨w.heap.size, 10, none⟩ = some (.int .i64 c.l) := fun w' h => (box11 (HV7.out.a h (by omega))).2.2.2.2.2.2.2.2.2.2
  refine wpB_take (i := 0) (d := 37) (v := ?v5x0) rfl rfl (by kernel_rfl) (by kernel_rfl) (by kernel_rfl) (fun _ _ _ h => h) (by rfl) ?y5x0 ?r5x0
  case y5x0 => (intro w' hSw; go_simp; try (with_reducible rfl))
  simp only [Act.put, List.setIfInBounds_toArray, List.set_cons_zero, List.set_cons_succ]
  refine wpB_take (i := 1) (d := 38) (v := ?v5x1) rfl rfl (by kernel_rfl) (by kernel_rfl) (by kernel_rfl) (fun _ _ _ h => h) (by rfl) ?y5x1 ?r5x1
  case y5x1 => (intro w' hSw; go_simp; try (with_reducible rfl))
  simp only [Act.put, List.setIfInBounds_toArray, List.set_cons_zero, List.set_cons_succ]
  refine wpB_take (i := 2) (d := 39) (v := ?v5x2) rfl rfl (by kernel_rfl) (by kernel_rfl) (by kernel_rfl) (fun _ _ _ h => h) (by rfl) ?y5x2 ?r5x2
  case y5x2 => (intro w' hSw; go_simp; try (with_reducible rfl))
  simp only [Act.put, List.setIfInBounds_toArray, List.set_cons_zero, List.set_cons_succ]
  refine wpB_take (i := 3) (d := 40) (v := ?v5x3) rfl rfl (by kernel_rfl) (by kernel_rfl) (by kernel_rfl) (fun _ _ _ h => h) (by rfl) ?y5x3 ?r5x3
  case y5x3 => (intro w' hSw; go_simp; try (with_reducible rfl))
  simp only [Act.put, List.setIfInBounds_toArray, List.set_cons_zero, List.set_cons_succ]
  refine wpB_take (i := 4) (d := 41) (v := ?v5x4) rfl rfl (by kernel_rfl) (by kernel_rfl) (by kernel_rfl) (fun _ _ _ h => h) (by rfl) ?y5x4 ?r5x4
  case y5x4 => (intro w' hSw; go_simp; try (with_reducible rfl))
  simp only [Act.put, List.setIfInBounds_toArray, List.set_cons_zero, List.set_cons_succ]
  refine wpB_take (i := 5) (d := 42) (v := ?v5x5) rfl rfl (by kernel_rfl) (by kernel_rfl) (by kernel_rfl) (fun _ _ _ h => h) (by rfl) ?y5x5 ?r5x5
  case y5x5 => (intro w' hSw; go_simp; try (with_reducible rfl))
  simp only [Act.put, List.setIfInBounds_toArray, List.set_cons_zero, List.set_cons_succ]
  refine wpB_take (i := 7) (d := 44) (v := ?v5x7) rfl rfl (by kernel_rfl) (by kernel_rfl) (by kernel_rfl) (fun _ _ _ h => h) (by rfl) ?y5x7 ?r5x7
  case y5x7 => (intro w' hSw; go_simp; try (with_reducible rfl))
  simp only [Act.put, List.setIfInBounds_toArray, List.set_cons_zero, List.set_cons_succ]
  refine wpB_take (i := 8) (d := 45) (v := ?v5x8) rfl rfl (by kernel_rfl) (by kernel_rfl) (by kernel_rfl) (fun _ _ _ h => h) (by rfl) ?y5x8 ?r5x8
  case y5x8 => (intro w' hSw; go_simp; try (with_reducible rfl))
  simp only [Act.put, List.setIfInBounds_toArray, List.set_cons_zero, List.set_cons_succ]
  refine wpB_take (i := 9) (d := 46) (v := ?v5x9) rfl rfl (by kernel_rfl) (by kernel_rfl) (by kernel_rfl) (fun _ _ _ h => h) (by rfl) ?y5x9 ?r5x9
  case y5x9 => (intro w' hSw; go_simp; try (with_reducible rfl))
  simp only [Act.put, List.setIfInBounds_toArray, List.set_cons_zero, List.set_cons_succ]
  refine wpB_take (i := 10) (d := 47) (v := ?v5x10) rfl rfl (by kernel_rfl) (by kernel_rfl) (by kernel_rfl) (fun _ _ _ h => h) (by rfl) ?y5x10 ?r5x10
  case y5x10 => (intro w' hSw; go_simp; try (with_reducible rfl))
  simp only [Act.put, List.setIfInBounds_toArray, List.set_cons_zero, List.set_cons_succ]
  refine wpB_take (i := 11) (d := 48) (v := ?v5x11) rfl rfl (by kernel_rfl) (by kernel_rfl) (by kernel_rfl) (fun _ _ _ h => h) (by rfl) ?y5x11 ?r5x11
  case y5x11 => (intro w' hSw; go_simp; try (with_reducible rfl))
  simp only [Act.put, List.setIfInBounds_toArray, List.set_cons_zero, List.set_cons_succ]
  refine wpB_take (i := 12) (d := 49) (v := ?v5x12) rfl rfl (by kernel_rfl) (by kernel_rfl) (by kernel_rfl) (fun _ _ _ h => h) (by rfl) ?y5x12 ?r5x12
  case y5x12 => (intro w' hSw; go_simp; try (with_reducible rfl))
  simp only [Act.put, List.setIfInBounds_toArray, List.set_cons_zero, List.set_cons_succ]
  refine wpB_do (i := 6) (by kernel_rfl) rfl (by rfl) (fun K hK => ?_)
  go_simp
  refine (mem_any c S U w7 ⟨o1, o2⟩ ⟨d1.1, by omega⟩ ⟨d4.1, by omega⟩).mono ?_
  rintro e w8 ⟨rfl, hb⟩
  have HV8 := Lib.hid (HV7.out.later hb)
  have hbk := hb.mono (show w.heap.size + 1 ≤ _ by have := HV7.out.sz; omega)
  go_simp
  refine hK.out (w.heap.size + 1) _ _ (Nat.le_refl _) hbk ?_
  clear hK hb hbk HV7 q0 q1 q2 q3 q4 q5 q6 q7 q8 q9 q10
  have q0 : ∀ w', Below (w.heap.size + 1) w8 w' → w'.cell? ⟨w.heap.size, 0, none⟩ = some (.int .i64 c.id) := fun w' h => (box11 (HV8.out.a h (by omega))).1
  have q1 : ∀ w', Below (w.heap.size + 1) w8 w' → w'.cell? ⟨w.heap.size, 1, none⟩ = some (.int .i64 c.m) := fun w' h => (box11 (HV8.out.a h (by omega))).2.1
  have q2 : ∀ w', Below (w.heap.size + 1) w8 w' → w'.cell? ⟨w.heap.size, 2, none⟩ = some (.int .i64 c.u) := fun w' h => (box11 (HV8.out.a h (by omega))).2.2.1
  have q3 : ∀ w', Below (w.heap.size + 1) w8 w' → w'.cell? ⟨w.heap.size, 3, none⟩ = some (.int .i64 c.b) := fun w' h => (box11 (HV8.out.a h (by omega))).2.2.2.1
  have q4 : ∀ w', Below (w.heap.size + 1) w8 w' → w'.cell? ⟨w.heap.size, 4, none⟩ = some (.int .i64 c.cp) := fun w' h => (box11 (HV8.out.a h (by omega))).2.2.2.2.1
  have q5 : ∀ w', Below (w.heap.size + 1) w8 w' → w'.cell? ⟨w.heap.size, 5, none⟩ = some (.int .i64 c.z) := fun w' h => (box11 (HV8.out.a h (by omega))).2.2.2.2.2.1
  have q6 : ∀ w', Below (w.heap.size + 1) w8 w' → w'.cell? ⟨w.heap.size, 6, none⟩ = some (.int .i64 c.s) := fun w' h => (box11 (HV8.out.a h (by omega))).2.2.2.2.2.2.1
  have q7 : ∀ w', Below (w.heap.size + 1) w8 w' → w'.cell? ⟨w.heap.size, 7, none⟩ = some (.int .i64 c.mt) := fun w' h => (box11 (HV8.out.a h (by omega))).2.2.2.2.2.2.2.1
  have q8 : ∀ w', Below (w.heap.size + 1) w8 w' → w'.cell? ⟨w.heap.size, 8, none⟩ = some (.int .i64 c.o) := fun w' h => (box11 (HV8.out.a h (by omega))).2.2.2.2.2.2.2.2.1
  have q9 : ∀ w', Below (w.heap.size + 1) w8 w' → w'.cell? ⟨w.heap.size, 9, none⟩ = some (.int .i64 c.a) := fun w' h => (box11 (HV8.out.a h (by omega))).2.2.2.2.2.2.2.2.2.1
  have q10 : ∀ w', Below (w.heap.size + 1) w8 w' → w'.cell? ⟨w.heap.size, 10, none⟩ = some (.int .i64 c.l) := fun w' h => (box11 (HV8.out.a h (by omega))).2.2.2.2.2.2.2.2.2.2

  rw [HM.out, HT3.out]
  refine wpB_take (i := 13) (d := 50) (v := ?v5x13) rfl rfl (by kernel_rfl) (by kernel_rfl) (by kernel_rfl) (fun _ _ _ h => h) (by rfl) ?y5x13 ?r5x13
  case y5x13 => (intro w' hSw; go_simp; try (with_reducible rfl))
  simp only [Act.put, List.setIfInBounds_toArray, List.set_cons_zero, List.set_cons_succ]
  refine wpB_do (i := 14) (by kernel_rfl) rfl (by rfl) (fun K hK => ?_)
  go_simp
  obtain ⟨⟨z0, z1, z2, z3, z4⟩, f0, f1, f2, f3, f4⟩ := box5 HV8.out.plc
  go_simp
  have HX : Hid (Box (((((w8.setCell ⟨w.heap.size + 1, 0, none⟩ (.int .i64 S)).setCell ⟨w.heap.size + 1, 1, none⟩ (.int .i64 U)).setCell ⟨w.heap.size + 1, 2, none⟩ (.int .i64 I)).setCell ⟨w.heap.size + 1, 3, none⟩ (.int .i64 M)).setCell ⟨w.heap.size + 1, 4, none⟩ (.int .i64 F)) (w.heap.size + 1) 36 #[.int .i64 S, .int .i64 U, .int .i64 I, .int .i64 M, .int .i64 F] ∧ Below w.heap.size w (((((w8.setCell ⟨w.heap.size + 1, 0, none⟩ (.int .i64 S)).setCell ⟨w.heap.size + 1, 1, none⟩ (.int .i64 U)).setCell ⟨w.heap.size + 1, 2, none⟩ (.int .i64 I)).setCell ⟨w.heap.size + 1, 3, none⟩ (.int .i64 M)).setCell ⟨w.heap.size + 1, 4, none⟩ (.int .i64 F)) ∧ Below (w.heap.size + 1) w8 (((((w8.setCell ⟨w.heap.size + 1, 0, none⟩ (.int .i64 S)).setCell ⟨w.heap.size + 1, 1, none⟩ (.int .i64 U)).setCell ⟨w.heap.size + 1, 2, none⟩ (.int .i64 I)).setCell ⟨w.heap.size + 1, 3, none⟩ (.int .i64 M)).setCell ⟨w.heap.size + 1, 4, none⟩ (.int .i64 F))) := by
    refine ⟨?_, HV8.out.bel.trans ?_, ?_⟩
    · exact ((((HV8.out.plc.store 0 _).store 1 _).store 2 _).store 3 _).store 4 _
    · exact (by repeat (first | with_reducible exact Below.refl _ _ | with_reducible refine Below.drew ?_ | with_reducible refine Below.alloc ?_ (by first | (simp; done) | (simp; omega)) _ | with_reducible refine Below.setCell ?_ (by first | (simp; done) | (simp; omega)) _))
    · exact (by repeat (first | with_reducible exact Below.refl _ _ | with_reducible refine Below.drew ?_ | with_reducible refine Below.alloc ?_ (by first | (simp; done) | (simp; omega)) _ | with_reducible refine Below.setCell ?_ (by first | (simp; done) | (simp; omega)) _))
  generalize (((((w8.setCell ⟨w.heap.size + 1, 0, none⟩ (.int .i64 S)).setCell ⟨w.heap.size + 1, 1, none⟩ (.int .i64 U)).setCell ⟨w.heap.size + 1, 2, none⟩ (.int .i64 I)).setCell ⟨w.heap.size + 1, 3, none⟩ (.int .i64 M)).setCell ⟨w.heap.size + 1, 4, none⟩ (.int .i64 F)) = W at HX ⊢
  refine hK.out (w.heap.size + 1) _ _ (Nat.le_refl _) HX.out.2.2 ?_
  clear hK z0 z1 z2 z3 z4 f0 f1 f2 f3 f4 HV8 q0 q1 q2 q3 q4 q5 q6 q7 q8 q9 q10
  refine wpB_take (i := 15) (d := 5) (v := ?v5x15) rfl rfl (by kernel_rfl) (by kernel_rfl) (by kernel_rfl) (fun _ _ _ h => h) (by rfl) ?y5x15 ?r5x15
  case y5x15 => (intro w' hSw; go_simp; try (with_reducible rfl))
  simp only [Act.put, List.setIfInBounds_toArray, List.set_cons_zero, List.set_cons_succ]
  refine wpB_done (by kernel_rfl) ?_
  obtain ⟨⟨z0, z1, z2, z3, z4⟩, f0, f1, f2, f3, f4⟩ := box5 HX.out.1
  go_wp2
  exact bodyPost_ret (v := .tuple #[.agg #[.int .i64 S, .int .i64 U, .int .i64 I, .int .i64 M, .int .i64 F], .bool true]) (by simp [results, Try.results29, go_sem, *]) rfl ⟨rfl, HX.out.2.1⟩
/-- A place as plain data. -/
structure Pl where
  s : Int
  u : Int
  i : Int
  m : Int
  p : Int
/-- P8.2: is it a logical block of these settings? -/
def ofB (c : Cf) (lb : Int) : Bool := decide (checkC c = 0 ∧ 0 ≤ lb ∧ lb < stripesC c * (dataC c * c.u))
theorem ofB_iff {c : Cf} {lb : Int} : ofB c lb = true ↔ checkC c = 0 ∧ 0 ≤ lb ∧ lb < stripesC c * (dataC c * c.u) := by simp [ofB]
/-- P8.2: where a logical block lies. -/
def ofIn (c : Cf) (lb : Int) : Pl := ⟨lb / (dataC c * c.u), lb % (dataC c * c.u) / c.u, lb % (dataC c * c.u) % c.u, (lb / (dataC c * c.u) % c.m + 1 + lb % (dataC c * c.u) / c.u) % c.m, lb / (dataC c * c.u) * c.u + lb % (dataC c * c.u) % c.u⟩
def ofA (c : Cf) (lb : Int) : Pl := if ofB c lb = true then ofIn c lb else ⟨0, 0, 0, 0, 0⟩
set_option maxHeartbeats 2000000 in
theorem of_no (c : Cf) (lb : Int) (w : World) (h : ofB c lb = false) : Calls Try.prog 29 #[(.agg #[.int .i64 c.id, .int .i64 c.m, .int .i64 c.u, .int .i64 c.b, .int .i64 c.cp, .int .i64 c.z, .int .i64 c.s, .int .i64 c.mt, .int .i64 c.o, .int .i64 c.a, .int .i64 c.l]), .int .i64 lb] w (Says w (.tuple #[.agg #[.int .i64 0, .int .i64 0, .int .i64 0, .int .i64 0, .int .i64 0], .bool false])) := by
  by_cases hc : checkC c = 0
  · have hb : belowC lb (stripesC c * (dataC c * c.u)) = false := by
      rw [belowC_not]
      intro hn
      rw [ofB_iff.2 ⟨hc, hn⟩] at h
      cases h
    clear h
    go_enter Try.func29, Try.ntmps29
    go_wp2_with fail
    have HV0 := Lib.hid (AtP.new (ps := #[.int .i64 0, .int .i64 0, .int .i64 0, .int .i64 0, .int .i64 0]) c w)
    generalize ((w.alloc (.cells #[.int .i64 c.id, .int .i64 c.m, .int .i64 c.u, .int .i64 c.b, .int .i64 c.cp, .int .i64 c.z, .int .i64 c.s, .int .i64 c.mt, .int .i64 c.o, .int .i64 c.a, .int .i64 c.l] 23)).alloc (.cells #[.int .i64 0, .int .i64 0, .int .i64 0, .int .i64 0, .int .i64 0] 36)) = w0 at HV0 ⊢
    obtain ⟨y0, y1, y2, y3, y4, y5, y6, y7, y8, y9, y10⟩ := box11 HV0.out.box
    refine (check_any c w0).mono ?_
    rintro e w1 ⟨rfl, hb⟩
    rw [hc]
    clear hc
    have HV1 := Lib.hid (HV0.out.later hb)
    clear hb HV0 y0 y1 y2 y3 y4 y5 y6 y7 y8 y9 y10
    obtain ⟨y0, y1, y2, y3, y4, y5, y6, y7, y8, y9, y10⟩ := box11 HV1.out.box
    go_wp2_with fail
    refine (size_any c w1).mono ?_
    rintro e w2 ⟨rfl, hb⟩
    have HV2 := Lib.hid (HV1.out.later hb)
    clear hb HV1 y0 y1 y2 y3 y4 y5 y6 y7 y8 y9 y10
    obtain ⟨y0, y1, y2, y3, y4, y5, y6, y7, y8, y9, y10⟩ := box11 HV2.out.box
    go_wp2_with fail
    refine (below_any lb _ w2).mono ?_
    rintro e w' ⟨rfl, rfl⟩
    rw [hb]
    clear hb
    generalize stripesC c * (dataC c * c.u) = Z
    obtain ⟨⟨z0, z1, z2, z3, z4⟩, f0, f1, f2, f3, f4⟩ := box5 HV2.out.plc
    go_wp2
    refine bodyPost_ret (v := .tuple #[.agg #[.int .i64 0, .int .i64 0, .int .i64 0, .int .i64 0, .int .i64 0], .bool false]) (by simp [results, Try.results29, go_sem, *]) rfl ⟨rfl, HV2.out.bel.trans ?_⟩
    exact (by repeat (first | with_reducible exact Below.refl _ _ | with_reducible refine Below.drew ?_ | with_reducible refine Below.alloc ?_ (by first | (simp; done) | (simp; omega)) _ | with_reducible refine Below.setCell ?_ (by first | (simp; done) | (simp; omega)) _))
  · clear h
    go_enter Try.func29, Try.ntmps29
    go_wp2_with fail
    have HV0 := Lib.hid (AtP.new (ps := #[.int .i64 0, .int .i64 0, .int .i64 0, .int .i64 0, .int .i64 0]) c w)
    generalize ((w.alloc (.cells #[.int .i64 c.id, .int .i64 c.m, .int .i64 c.u, .int .i64 c.b, .int .i64 c.cp, .int .i64 c.z, .int .i64 c.s, .int .i64 c.mt, .int .i64 c.o, .int .i64 c.a, .int .i64 c.l] 23)).alloc (.cells #[.int .i64 0, .int .i64 0, .int .i64 0, .int .i64 0, .int .i64 0] 36)) = w0 at HV0 ⊢
    obtain ⟨y0, y1, y2, y3, y4, y5, y6, y7, y8, y9, y10⟩ := box11 HV0.out.box
    refine (check_any c w0).mono ?_
    rintro e w1 ⟨rfl, hb⟩
    generalize checkC c = x at hc ⊢
    have e1 : (x == 0) = false := by simpa using hc
    have HV1 := Lib.hid (HV0.out.later hb)
    clear hb HV0 y0 y1 y2 y3 y4 y5 y6 y7 y8 y9 y10
    obtain ⟨y0, y1, y2, y3, y4, y5, y6, y7, y8, y9, y10⟩ := box11 HV1.out.box
    obtain ⟨⟨z0, z1, z2, z3, z4⟩, f0, f1, f2, f3, f4⟩ := box5 HV1.out.plc
    go_wp2
    refine bodyPost_ret (v := .tuple #[.agg #[.int .i64 0, .int .i64 0, .int .i64 0, .int .i64 0, .int .i64 0], .bool false]) (by simp [results, Try.results29, go_sem, *]) rfl ⟨rfl, HV1.out.bel.trans ?_⟩
    exact (by repeat (first | with_reducible exact Below.refl _ _ | with_reducible refine Below.drew ?_ | with_reducible refine Below.alloc ?_ (by first | (simp; done) | (simp; omega)) _ | with_reducible refine Below.setCell ?_ (by first | (simp; done) | (simp; omega)) _))
theorem of_any (c : Cf) (lb : Int) (w : World) : Calls Try.prog 29 #[(.agg #[.int .i64 c.id, .int .i64 c.m, .int .i64 c.u, .int .i64 c.b, .int .i64 c.cp, .int .i64 c.z, .int .i64 c.s, .int .i64 c.mt, .int .i64 c.o, .int .i64 c.a, .int .i64 c.l]), .int .i64 lb] w (Says w (.tuple #[.agg #[.int .i64 (ofA c lb).s, .int .i64 (ofA c lb).u, .int .i64 (ofA c lb).i, .int .i64 (ofA c lb).m, .int .i64 (ofA c lb).p], .bool (ofB c lb)])) := by
  by_cases h : ofB c lb = true
  · have e : ofA c lb = ofIn c lb := by unfold ofA; rw [if_pos h]
    have hh := ofB_iff.1 h
    rw [e, h]
    exact of_core c lb _ _ _ _ _ _ _ _ w rfl rfl hh.1 hh.2.1 hh.2.2 rfl rfl rfl rfl rfl rfl
  · have e : ofA c lb = ⟨0, 0, 0, 0, 0⟩ := by unfold ofA; rw [if_neg h]
    have h2 : ofB c lb = false := by simpa using h
    rw [e, h2]
    exact of_no c lb w h2
end Go.Proofs.Yteglgopbagefcaa
