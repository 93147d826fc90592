/- For all settings and numbers the law GeomApart returns true: the walk, where both are one, or on two members. -/
import Derived.Test.YtlefjllpeapomaaZ
namespace Go.Proofs.Ytlefjllpeapomaa
set_option linter.unusedVariables false
set_option linter.unusedSimpArgs false
open Go.RowKit
open Go.RowKit (wrap64)

set_option maxRecDepth 100000 in
set_option maxHeartbeats 2000000 in
theorem apart_eq (c : Cf) (a b X : Int) (P Q : Pl) (w : World) (hc : checkC c = 0) (hP : ofA c a = P) (hQ : ofA c b = Q) (hPb : ofB c a = true) (hQb : ofB c b = true) (hl : Lies c a P) (h0 : 0 ≤ a) (h1 : a < stripesC c * (dataC c * c.u)) (hX : needA c P.m (a + 1) = X) (hX0 : 0 ≤ X) (hX1 : X ≤ 61440000) (hab : a = b) :
    Calls Try.prog 5 #[(.agg #[.int .i64 c.id, .int .i64 c.m, .int .i64 c.u, .int .i64 c.b, .int .i64 c.cp, .int .i64 c.z, .int .i64 c.s, .int .i64 c.mt, .int .i64 c.o, .int .i64 c.a, .int .i64 c.l]), .int .i64 a, .int .i64 b] w (Says w (.bool true)) := by
  have HC := Lib.hid hc
  have HL := Lib.hid hl
  have HA := Lib.hid (And.intro h0 h1)
  have HP := Lib.hid (And.intro hP hPb)
  have HQ := Lib.hid (And.intro hQ hQb)
  have HX := Lib.hid hX
  have HN := Lib.hid (hl.need hc h0 h1)
  have HK := Lib.hid (hl.back hc)
  have g1 := hl.big hc
  have g2 : a ≤ 61440 := by have := (ok_of hc).z2; omega
  clear hc hl hP hQ hPb hQb hX h1
  have e1 : (a == b) = true := by simpa using hab
  clear hab
  go_enter Try.func5, Try.ntmps5
  go_wp2_with fail
  have HV0 := Lib.hid (At.new c w)
  generalize (w.alloc (.cells #[.int .i64 c.id, .int .i64 c.m, .int .i64 c.u, .int .i64 c.b, .int .i64 c.cp, .int .i64 c.z, .int .i64 c.s, .int .i64 c.mt, .int .i64 c.o, .int .i64 c.a, .int .i64 c.l] 23)) = w0 at HV0 ⊢
  obtain ⟨y0, y1, y2, y3, y4, y5, y6, y7, y8, y9, y10⟩ := box11 HV0.out.1
  refine (of_any c a w0).mono ?_
  rintro e w1 ⟨rfl, hb⟩
  rw [HP.out.1, HP.out.2]
  have HV1 := Lib.hid (HV0.out.later hb)
  clear hb HV0 y0 y1 y2 y3 y4 y5 y6 y7 y8 y9 y10
  obtain ⟨y0, y1, y2, y3, y4, y5, y6, y7, y8, y9, y10⟩ := box11 HV1.out.1
  go_upto_region 2 with fail
  have HV2 : Hid (At c w (w1.alloc (.cells #[.int .i64 P.s, .int .i64 P.u, .int .i64 P.i, .int .i64 P.m, .int .i64 P.p] 25)) ∧ Box (w1.alloc (.cells #[.int .i64 P.s, .int .i64 P.u, .int .i64 P.i, .int .i64 P.m, .int .i64 P.p] 25)) w1.heap.size 25 #[.int .i64 P.s, .int .i64 P.u, .int .i64 P.i, .int .i64 P.m, .int .i64 P.p]) := ⟨HV1.out.alloc _, Box.fresh w1 25 _⟩
  generalize (w1.alloc (.cells #[.int .i64 P.s, .int .i64 P.u, .int .i64 P.i, .int .i64 P.m, .int .i64 P.p] 25)) = w2 at HV2 ⊢
  generalize w1.heap.size = g1 at HV2 ⊢
  clear HV1 y0 y1 y2 y3 y4 y5 y6 y7 y8 y9 y10
  obtain ⟨y0, y1, y2, y3, y4, y5, y6, y7, y8, y9, y10⟩ := box11 HV2.out.1.1
  go_wp2_with fail
  refine (of_any c b w2).mono ?_
  rintro e w3 ⟨rfl, hb⟩
  rw [HQ.out.1, HQ.out.2]
  have HV3 : Hid (At c w w3 ∧ Box w3 g1 25 #[.int .i64 P.s, .int .i64 P.u, .int .i64 P.i, .int .i64 P.m, .int .i64 P.p]) := ⟨HV2.out.1.later hb, HV2.out.2.later hb⟩
  clear hb HV2 y0 y1 y2 y3 y4 y5 y6 y7 y8 y9 y10
  obtain ⟨y0, y1, y2, y3, y4, y5, y6, y7, y8, y9, y10⟩ := box11 HV3.out.1.1
  go_upto_region 3 with fail
  have HV4 : Hid ((At c w (w3.alloc (.cells #[.int .i64 Q.s, .int .i64 Q.u, .int .i64 Q.i, .int .i64 Q.m, .int .i64 Q.p] 25)) ∧ Box (w3.alloc (.cells #[.int .i64 Q.s, .int .i64 Q.u, .int .i64 Q.i, .int .i64 Q.m, .int .i64 Q.p] 25)) g1 25 #[.int .i64 P.s, .int .i64 P.u, .int .i64 P.i, .int .i64 P.m, .int .i64 P.p]) ∧ Box (w3.alloc (.cells #[.int .i64 Q.s, .int .i64 Q.u, .int .i64 Q.i, .int .i64 Q.m, .int .i64 Q.p] 25)) w3.heap.size 25 #[.int .i64 Q.s, .int .i64 Q.u, .int .i64 Q.i, .int .i64 Q.m, .int .i64 Q.p]) := ⟨⟨HV3.out.1.alloc _, HV3.out.2.later ((Below.refl _ _).alloc (Nat.le_refl _) _)⟩, Box.fresh w3 25 _⟩
  generalize (w3.alloc (.cells #[.int .i64 Q.s, .int .i64 Q.u, .int .i64 Q.i, .int .i64 Q.m, .int .i64 Q.p] 25)) = w4 at HV4 ⊢
  generalize w3.heap.size = g2 at HV4 ⊢
  clear HV3 y0 y1 y2 y3 y4 y5 y6 y7 y8 y9 y10
  obtain ⟨y0, y1, y2, y3, y4, y5, y6, y7, y8, y9, y10⟩ := box11 HV4.out.1.1.1
  obtain ⟨⟨z0, z1, z2, z3, z4⟩, f0, f1, f2, f3, f4⟩ := box5 HV4.out.1.2
  go_wp2_with fail
  refine (back_any c P.m P.p w4).mono ?_
  rintro e w5 ⟨rfl, hb⟩
  rw [HK.out]
  have HV5 : Hid ((At c w w5 ∧ Box w5 g1 25 #[.int .i64 P.s, .int .i64 P.u, .int .i64 P.i, .int .i64 P.m, .int .i64 P.p]) ∧ Box w5 g2 25 #[.int .i64 Q.s, .int .i64 Q.u, .int .i64 Q.i, .int .i64 Q.m, .int .i64 Q.p]) := ⟨⟨HV4.out.1.1.later hb, HV4.out.1.2.later hb⟩, HV4.out.2.later hb⟩
  clear hb HV4 y0 y1 y2 y3 y4 y5 y6 y7 y8 y9 y10 z0 z1 z2 z3 z4 f0 f1 f2 f3 f4
  obtain ⟨y0, y1, y2, y3, y4, y5, y6, y7, y8, y9, y10⟩ := box11 HV5.out.1.1.1
  obtain ⟨⟨z0, z1, z2, z3, z4⟩, f0, f1, f2, f3, f4⟩ := box5 HV5.out.1.2
  obtain ⟨⟨t0, t1, t2, t3, t4⟩, j0, j1, j2, j3, j4⟩ := box5 HV5.out.2
  go_wp2_with fail
  clear y0 y1 y2 y3 y4 y5 y6 y7 y8 y9 y10 z0 z1 z2 z3 z4 f0 f1 f2 f3 f4 t0 t1 t2 t3 t4 j0 j1 j2 j3 j4
  refine wpB_start w5.drew.heap.size (by kernel_rfl) ?_
  have HV8 : Hid (At c w w5.drew ∧ Box w5.drew g1 25 #[.int .i64 P.s, .int .i64 P.u, .int .i64 P.i, .int .i64 P.m, .int .i64 P.p]) := ⟨HV5.out.1.1.drew, HV5.out.1.2.later (Below.refl _ _).drew⟩
  generalize w5.drew = w8 at HV8 ⊢
  have HB : Hid (w.heap.size < w8.heap.size ∧ g1 < w8.heap.size) := ⟨HV8.out.1.2.2, HV8.out.2.lt⟩
  generalize hBe : w8.heap.size = B at HB ⊢
  have HB8 : Hid (B ≤ w8.heap.size) := Nat.le_of_eq hBe.symm
  clear hBe HV5
  have q0 : ∀ w', Below B w8 w' → w'.cell? ⟨w.heap.size, 0, none⟩ = some (.int .i64 c.id) := fun w' h => (box11 (HV8.out.1.1.under h HB.out.1)).1
  have q1 : ∀ w', Below B w8 w' → w'.cell? ⟨w.heap.size, 1, none⟩ = some (.int .i64 c.m) := fun w' h => (box11 (HV8.out.1.1.under h HB.out.1)).2.1
  have q2 : ∀ w', Below B w8 w' → w'.cell? ⟨w.heap.size, 2, none⟩ = some (.int .i64 c.u) := fun w' h => (box11 (HV8.out.1.1.under h HB.out.1)).2.2.1
  have q3 : ∀ w', Below B w8 w' → w'.cell? ⟨w.heap.size, 3, none⟩ = some (.int .i64 c.b) := fun w' h => (box11 (HV8.out.1.1.under h HB.out.1)).2.2.2.1
  have q4 : ∀ w', Below B w8 w' → w'.cell? ⟨w.heap.size, 4, none⟩ = some (.int .i64 c.cp) := fun w' h => (box11 (HV8.out.1.1.under h HB.out.1)).2.2.2.2.1
  have q5 : ∀ w', Below B w8 w' → w'.cell? ⟨w.heap.size, 5, none⟩ = some (.int .i64 c.z) := fun w' h => (box11 (HV8.out.1.1.under h HB.out.1)).2.2.2.2.2.1
  have q6 : ∀ w', Below B w8 w' → w'.cell? ⟨w.heap.size, 6, none⟩ = some (.int .i64 c.s) := fun w' h => (box11 (HV8.out.1.1.under h HB.out.1)).2.2.2.2.2.2.1
  have q7 : ∀ w', Below B w8 w' → w'.cell? ⟨w.heap.size, 7, none⟩ = some (.int .i64 c.mt) := fun w' h => (box11 (HV8.out.1.1.under h HB.out.1)).2.2.2.2.2.2.2.1
  have q8 : ∀ w', Below B w8 w' → w'.cell? ⟨w.heap.size, 8, none⟩ = some (.int .i64 c.o) := fun w' h => (box11 (HV8.out.1.1.under h HB.out.1)).2.2.2.2.2.2.2.2.1
  have q9 : ∀ w', Below B w8 w' → w'.cell? ⟨w.heap.size, 9, none⟩ = some (.int .i64 c.a) := fun w' h => (box11 (HV8.out.1.1.under h HB.out.1)).2.2.2.2.2.2.2.2.2.1
  have q10 : ∀ w', Below B w8 w' → w'.cell? ⟨w.heap.size, 10, none⟩ = some (.int .i64 c.l) := fun w' h => (box11 (HV8.out.1.1.under h HB.out.1)).2.2.2.2.2.2.2.2.2.2
  have p0 : ∀ w', Below B w8 w' → w'.cell? ⟨g1, 0, none⟩ = some (.int .i64 P.s) := fun w' h => (box5 (HV8.out.2.under h HB.out.2)).1.1
  have p1 : ∀ w', Below B w8 w' → w'.cell? ⟨g1, 1, none⟩ = some (.int .i64 P.u) := fun w' h => (box5 (HV8.out.2.under h HB.out.2)).1.2.1
  have p2 : ∀ w', Below B w8 w' → w'.cell? ⟨g1, 2, none⟩ = some (.int .i64 P.i) := fun w' h => (box5 (HV8.out.2.under h HB.out.2)).1.2.2.1
  have p3 : ∀ w', Below B w8 w' → w'.cell? ⟨g1, 3, none⟩ = some (.int .i64 P.m) := fun w' h => (box5 (HV8.out.2.under h HB.out.2)).1.2.2.2.1
  have p4 : ∀ w', Below B w8 w' → w'.cell? ⟨g1, 4, none⟩ = some (.int .i64 P.p) := fun w' h => (box5 (HV8.out.2.under h HB.out.2)).1.2.2.2.2
  refine wpB_take (i := 0) (d := 70) (v := ?v7eqx0) rfl rfl (by kernel_rfl) (by kernel_rfl) (by kernel_rfl) (fun _ _ _ h => h) (by rfl) ?y7eqx0 ?r7eqx0
  case y7eqx0 => (intro w' hSw; go_simp; try (with_reducible rfl))
  simp only [Act.put, List.setIfInBounds_toArray, List.set_cons_zero, List.set_cons_succ]
  refine wpB_take (i := 1) (d := 71) (v := ?v7eqx1) rfl rfl (by kernel_rfl) (by kernel_rfl) (by kernel_rfl) (fun _ _ _ h => h) (by rfl) ?y7eqx1 ?r7eqx1
  case y7eqx1 => (intro w' hSw; go_simp; try (with_reducible rfl))
  simp only [Act.put, List.setIfInBounds_toArray, List.set_cons_zero, List.set_cons_succ]
  refine wpB_take (i := 2) (d := 72) (v := ?v7eqx2) rfl rfl (by kernel_rfl) (by kernel_rfl) (by kernel_rfl) (fun _ _ _ h => h) (by rfl) ?y7eqx2 ?r7eqx2
  case y7eqx2 => (intro w' hSw; go_simp; try (with_reducible rfl))
  simp only [Act.put, List.setIfInBounds_toArray, List.set_cons_zero, List.set_cons_succ]
  refine wpB_take (i := 3) (d := 73) (v := ?v7eqx3) rfl rfl (by kernel_rfl) (by kernel_rfl) (by kernel_rfl) (fun _ _ _ h => h) (by rfl) ?y7eqx3 ?r7eqx3
  case y7eqx3 => (intro w' hSw; go_simp; try (with_reducible rfl))
  simp only [Act.put, List.setIfInBounds_toArray, List.set_cons_zero, List.set_cons_succ]
  refine wpB_take (i := 4) (d := 74) (v := ?v7eqx4) rfl rfl (by kernel_rfl) (by kernel_rfl) (by kernel_rfl) (fun _ _ _ h => h) (by rfl) ?y7eqx4 ?r7eqx4
  case y7eqx4 => (intro w' hSw; go_simp; try (with_reducible rfl))
  simp only [Act.put, List.setIfInBounds_toArray, List.set_cons_zero, List.set_cons_succ]
  refine wpB_take (i := 5) (d := 75) (v := ?v7eqx5) rfl rfl (by kernel_rfl) (by kernel_rfl) (by kernel_rfl) (fun _ _ _ h => h) (by rfl) ?y7eqx5 ?r7eqx5
  case y7eqx5 => (intro w' hSw; go_simp; try (with_reducible rfl))
  simp only [Act.put, List.setIfInBounds_toArray, List.set_cons_zero, List.set_cons_succ]
  refine wpB_take (i := 6) (d := 76) (v := ?v7eqx6) rfl rfl (by kernel_rfl) (by kernel_rfl) (by kernel_rfl) (fun _ _ _ h => h) (by rfl) ?y7eqx6 ?r7eqx6
  case y7eqx6 => (intro w' hSw; go_simp; try (with_reducible rfl))
  simp only [Act.put, List.setIfInBounds_toArray, List.set_cons_zero, List.set_cons_succ]
  refine wpB_take (i := 7) (d := 77) (v := ?v7eqx7) rfl rfl (by kernel_rfl) (by kernel_rfl) (by kernel_rfl) (fun _ _ _ h => h) (by rfl) ?y7eqx7 ?r7eqx7
  case y7eqx7 => (intro w' hSw; go_simp; try (with_reducible rfl))
  simp only [Act.put, List.setIfInBounds_toArray, List.set_cons_zero, List.set_cons_succ]
  refine wpB_take (i := 8) (d := 78) (v := ?v7eqx8) rfl rfl (by kernel_rfl) (by kernel_rfl) (by kernel_rfl) (fun _ _ _ h => h) (by rfl) ?y7eqx8 ?r7eqx8
  case y7eqx8 => (intro w' hSw; go_simp; try (with_reducible rfl))
  simp only [Act.put, List.setIfInBounds_toArray, List.set_cons_zero, List.set_cons_succ]
  refine wpB_take (i := 9) (d := 79) (v := ?v7eqx9) rfl rfl (by kernel_rfl) (by kernel_rfl) (by kernel_rfl) (fun _ _ _ h => h) (by rfl) ?y7eqx9 ?r7eqx9
  case y7eqx9 => (intro w' hSw; go_simp; try (with_reducible rfl))
  simp only [Act.put, List.setIfInBounds_toArray, List.set_cons_zero, List.set_cons_succ]
  refine wpB_take (i := 10) (d := 80) (v := ?v7eqx10) rfl rfl (by kernel_rfl) (by kernel_rfl) (by kernel_rfl) (fun _ _ _ h => h) (by rfl) ?y7eqx10 ?r7eqx10
  case y7eqx10 => (intro w' hSw; go_simp; try (with_reducible rfl))
  simp only [Act.put, List.setIfInBounds_toArray, List.set_cons_zero, List.set_cons_succ]
  refine wpB_take (i := 11) (d := 81) (v := ?v7eqx11) rfl rfl (by kernel_rfl) (by kernel_rfl) (by kernel_rfl) (fun _ _ _ h => h) (by rfl) ?y7eqx11 ?r7eqx11
  case y7eqx11 => (intro w' hSw; go_simp; try (with_reducible rfl))
  simp only [Act.put, List.setIfInBounds_toArray, List.set_cons_zero, List.set_cons_succ]
  refine wpB_take (i := 12) (d := 82) (v := ?v7eqx12) rfl rfl (by kernel_rfl) (by kernel_rfl) (by kernel_rfl) (fun _ _ _ h => h) (by rfl) ?y7eqx12 ?r7eqx12
  case y7eqx12 => (intro w' hSw; go_simp; try (with_reducible rfl))
  simp only [Act.put, List.setIfInBounds_toArray, List.set_cons_zero, List.set_cons_succ]
  refine wpB_take (i := 13) (d := 83) (v := ?v7eqx13) rfl rfl (by kernel_rfl) (by kernel_rfl) (by kernel_rfl) (fun _ _ _ h => h) (by rfl) ?y7eqx13 ?r7eqx13
  case y7eqx13 => (intro w' hSw; go_simp; try (with_reducible rfl))
  simp only [Act.put, List.setIfInBounds_toArray, List.set_cons_zero, List.set_cons_succ]
  refine wpB_take (i := 15) (d := 85) (v := ?v7eqx15) rfl rfl (by kernel_rfl) (by kernel_rfl) (by kernel_rfl) (fun _ _ _ h => h) (by rfl) ?y7eqx15 ?r7eqx15
  case y7eqx15 => (intro w' hSw; go_simp; try (with_reducible rfl))
  simp only [Act.put, List.setIfInBounds_toArray, List.set_cons_zero, List.set_cons_succ]
  refine wpB_take (i := 16) (d := 86) (v := ?v7eqx16) rfl rfl (by kernel_rfl) (by kernel_rfl) (by kernel_rfl) (fun _ _ _ h => h) (by rfl) ?y7eqx16 ?r7eqx16
  case y7eqx16 => (intro w' hSw; go_simp; try (with_reducible rfl))
  simp only [Act.put, List.setIfInBounds_toArray, List.set_cons_zero, List.set_cons_succ]
  refine wpB_do (i := 14) (by kernel_rfl) rfl (by rfl) (fun K hK => ?_)
  go_simp
  refine (need_any c P.m a w8).mono ?_
  rintro e w9 ⟨rfl, hb⟩
  have HV9 : Hid (At c w w9 ∧ Box w9 g1 25 #[.int .i64 P.s, .int .i64 P.u, .int .i64 P.i, .int .i64 P.m, .int .i64 P.p]) := ⟨HV8.out.1.later hb, HV8.out.2.later hb⟩
  have HB9 : Hid (B ≤ w9.heap.size) := Nat.le_trans HB8.out hb.size
  have hbk := hb.mono HB8.out
  go_simp
  refine hK.out B _ _ (Nat.le_refl _) hbk ?_
  clear hK hb hbk HV8 HB8 p0 p1 p2 p3 p4 q0 q1 q2 q3 q4 q5 q6 q7 q8 q9 q10
  have q0 : ∀ w', Below B w9 w' → w'.cell? ⟨w.heap.size, 0, none⟩ = some (.int .i64 c.id) := fun w' h => (box11 (HV9.out.1.1.under h HB.out.1)).1
  have q1 : ∀ w', Below B w9 w' → w'.cell? ⟨w.heap.size, 1, none⟩ = some (.int .i64 c.m) := fun w' h => (box11 (HV9.out.1.1.under h HB.out.1)).2.1
  have q2 : ∀ w', Below B w9 w' → w'.cell? ⟨w.heap.size, 2, none⟩ = some (.int .i64 c.u) := fun w' h => (box11 (HV9.out.1.1.under h HB.out.1)).2.2.1
  have q3 : ∀ w', Below B w9 w' → w'.cell? ⟨w.heap.size, 3, none⟩ = some (.int .i64 c.b) := fun w' h => (box11 (HV9.out.1.1.under h HB.out.1)).2.2.2.1
  have q4 : ∀ w', Below B w9 w' → w'.cell? ⟨w.heap.size, 4, none⟩ = some (.int .i64 c.cp) := fun w' h => (box11 (HV9.out.1.1.under h HB.out.1)).2.2.2.2.1
  have q5 : ∀ w', Below B w9 w' → w'.cell? ⟨w.heap.size, 5, none⟩ = some (.int .i64 c.z) := fun w' h => (box11 (HV9.out.1.1.under h HB.out.1)).2.2.2.2.2.1
  have q6 : ∀ w', Below B w9 w' → w'.cell? ⟨w.heap.size, 6, none⟩ = some (.int .i64 c.s) := fun w' h => (box11 (HV9.out.1.1.under h HB.out.1)).2.2.2.2.2.2.1
  have q7 : ∀ w', Below B w9 w' → w'.cell? ⟨w.heap.size, 7, none⟩ = some (.int .i64 c.mt) := fun w' h => (box11 (HV9.out.1.1.under h HB.out.1)).2.2.2.2.2.2.2.1
  have q8 : ∀ w', Below B w9 w' → w'.cell? ⟨w.heap.size, 8, none⟩ = some (.int .i64 c.o) := fun w' h => (box11 (HV9.out.1.1.under h HB.out.1)).2.2.2.2.2.2.2.2.1
  have q9 : ∀ w', Below B w9 w' → w'.cell? ⟨w.heap.size, 9, none⟩ = some (.int .i64 c.a) := fun w' h => (box11 (HV9.out.1.1.under h HB.out.1)).2.2.2.2.2.2.2.2.2.1
  have q10 : ∀ w', Below B w9 w' → w'.cell? ⟨w.heap.size, 10, none⟩ = some (.int .i64 c.l) := fun w' h => (box11 (HV9.out.1.1.under h HB.out.1)).2.2.2.2.2.2.2.2.2.2
  have p0 : ∀ w', Below B w9 w' → w'.cell? ⟨g1, 0, none⟩ = some (.int .i64 P.s) := fun w' h => (box5 (HV9.out.2.under h HB.out.2)).1.1
  have p1 : ∀ w', Below B w9 w' → w'.cell? ⟨g1, 1, none⟩ = some (.int .i64 P.u) := fun w' h => (box5 (HV9.out.2.under h HB.out.2)).1.2.1
  have p2 : ∀ w', Below B w9 w' → w'.cell? ⟨g1, 2, none⟩ = some (.int .i64 P.i) := fun w' h => (box5 (HV9.out.2.under h HB.out.2)).1.2.2.1
  have p3 : ∀ w', Below B w9 w' → w'.cell? ⟨g1, 3, none⟩ = some (.int .i64 P.m) := fun w' h => (box5 (HV9.out.2.under h HB.out.2)).1.2.2.2.1
  have p4 : ∀ w', Below B w9 w' → w'.cell? ⟨g1, 4, none⟩ = some (.int .i64 P.p) := fun w' h => (box5 (HV9.out.2.under h HB.out.2)).1.2.2.2.2
  rw [HN.out]
  refine wpB_take (i := 17) (d := 87) (v := ?v7eqx17) rfl rfl (by kernel_rfl) (by kernel_rfl) (by kernel_rfl) (fun _ _ _ h => h) (by rfl) ?y7eqx17 ?r7eqx17
  case y7eqx17 => (intro w' hSw; go_simp; try (with_reducible rfl))
  simp only [Act.put, List.setIfInBounds_toArray, List.set_cons_zero, List.set_cons_succ]
  refine wpB_take (i := 18) (d := 88) (v := ?v7eqx18) rfl rfl (by kernel_rfl) (by kernel_rfl) (by kernel_rfl) (fun _ _ _ h => h) (by rfl) ?y7eqx18 ?r7eqx18
  case y7eqx18 => (intro w' hSw; go_simp; try (with_reducible rfl))
  simp only [Act.put, List.setIfInBounds_toArray, List.set_cons_zero, List.set_cons_succ]
  refine wpB_take (i := 19) (d := 89) (v := ?v7eqx19) rfl rfl (by kernel_rfl) (by kernel_rfl) (by kernel_rfl) (fun _ _ _ h => h) (by rfl) ?y7eqx19 ?r7eqx19
  case y7eqx19 => (intro w' hSw; go_simp; try (with_reducible rfl))
  simp only [Act.put, List.setIfInBounds_toArray, List.set_cons_zero, List.set_cons_succ]
  refine wpB_take (i := 20) (d := 90) (v := ?v7eqx20) rfl rfl (by kernel_rfl) (by kernel_rfl) (by kernel_rfl) (fun _ _ _ h => h) (by rfl) ?y7eqx20 ?r7eqx20
  case y7eqx20 => (intro w' hSw; go_simp; try (with_reducible rfl))
  simp only [Act.put, List.setIfInBounds_toArray, List.set_cons_zero, List.set_cons_succ]
  refine wpB_take (i := 21) (d := 91) (v := ?v7eqx21) rfl rfl (by kernel_rfl) (by kernel_rfl) (by kernel_rfl) (fun _ _ _ h => h) (by rfl) ?y7eqx21 ?r7eqx21
  case y7eqx21 => (intro w' hSw; go_simp; try (with_reducible rfl))
  simp only [Act.put, List.setIfInBounds_toArray, List.set_cons_zero, List.set_cons_succ]
  refine wpB_take (i := 22) (d := 92) (v := ?v7eqx22) rfl rfl (by kernel_rfl) (by kernel_rfl) (by kernel_rfl) (fun _ _ _ h => h) (by rfl) ?y7eqx22 ?r7eqx22
  case y7eqx22 => (intro w' hSw; go_simp; try (with_reducible rfl))
  simp only [Act.put, List.setIfInBounds_toArray, List.set_cons_zero, List.set_cons_succ]
  refine wpB_take (i := 23) (d := 93) (v := ?v7eqx23) rfl rfl (by kernel_rfl) (by kernel_rfl) (by kernel_rfl) (fun _ _ _ h => h) (by rfl) ?y7eqx23 ?r7eqx23
  case y7eqx23 => (intro w' hSw; go_simp; try (with_reducible rfl))
  simp only [Act.put, List.setIfInBounds_toArray, List.set_cons_zero, List.set_cons_succ]
  have hw1 : IntKind.i64.wrap (a + 1) = a + 1 := wrapk_in (by omega) (by omega)
  refine wpB_take (i := 24) (d := 94) (v := ?v7eqx24) rfl rfl (by kernel_rfl) (by kernel_rfl) (by kernel_rfl) (fun _ _ _ h => h) (by rfl) ?y7eqx24 ?r7eqx24
  case y7eqx24 => (intro w' hSw; go_simp; try (with_reducible rfl))
  simp only [Act.put, List.setIfInBounds_toArray, List.set_cons_zero, List.set_cons_succ]
  clear hw1
  refine wpB_take (i := 26) (d := 96) (v := ?v7eqx26) rfl rfl (by kernel_rfl) (by kernel_rfl) (by kernel_rfl) (fun _ _ _ h => h) (by rfl) ?y7eqx26 ?r7eqx26
  case y7eqx26 => (intro w' hSw; go_simp; try (with_reducible rfl))
  simp only [Act.put, List.setIfInBounds_toArray, List.set_cons_zero, List.set_cons_succ]
  refine wpB_take (i := 27) (d := 97) (v := ?v7eqx27) rfl rfl (by kernel_rfl) (by kernel_rfl) (by kernel_rfl) (fun _ _ _ h => h) (by rfl) ?y7eqx27 ?r7eqx27
  case y7eqx27 => (intro w' hSw; go_simp; try (with_reducible rfl))
  simp only [Act.put, List.setIfInBounds_toArray, List.set_cons_zero, List.set_cons_succ]
  refine wpB_take (i := 28) (d := 98) (v := ?v7eqx28) rfl rfl (by kernel_rfl) (by kernel_rfl) (by kernel_rfl) (fun _ _ _ h => h) (by rfl) ?y7eqx28 ?r7eqx28
  case y7eqx28 => (intro w' hSw; go_simp; try (with_reducible rfl))
  simp only [Act.put, List.setIfInBounds_toArray, List.set_cons_zero, List.set_cons_succ]
  refine wpB_take (i := 29) (d := 99) (v := ?v7eqx29) rfl rfl (by kernel_rfl) (by kernel_rfl) (by kernel_rfl) (fun _ _ _ h => h) (by rfl) ?y7eqx29 ?r7eqx29
  case y7eqx29 => (intro w' hSw; go_simp; try (with_reducible rfl))
  simp only [Act.put, List.setIfInBounds_toArray, List.set_cons_zero, List.set_cons_succ]
  refine wpB_take (i := 31) (d := 101) (v := ?v7eqx31) rfl rfl (by kernel_rfl) (by kernel_rfl) (by kernel_rfl) (fun _ _ _ h => h) (by rfl) ?y7eqx31 ?r7eqx31
  case y7eqx31 => (intro w' hSw; go_simp; try (with_reducible rfl))
  simp only [Act.put, List.setIfInBounds_toArray, List.set_cons_zero, List.set_cons_succ]
  refine wpB_take (i := 32) (d := 102) (v := ?v7eqx32) rfl rfl (by kernel_rfl) (by kernel_rfl) (by kernel_rfl) (fun _ _ _ h => h) (by rfl) ?y7eqx32 ?r7eqx32
  case y7eqx32 => (intro w' hSw; go_simp; try (with_reducible rfl))
  simp only [Act.put, List.setIfInBounds_toArray, List.set_cons_zero, List.set_cons_succ]
  refine wpB_take (i := 33) (d := 103) (v := ?v7eqx33) rfl rfl (by kernel_rfl) (by kernel_rfl) (by kernel_rfl) (fun _ _ _ h => h) (by rfl) ?y7eqx33 ?r7eqx33
  case y7eqx33 => (intro w' hSw; go_simp; try (with_reducible rfl))
  simp only [Act.put, List.setIfInBounds_toArray, List.set_cons_zero, List.set_cons_succ]
  refine wpB_do (i := 25) (by kernel_rfl) rfl (by rfl) (fun K hK => ?_)
  go_simp
  refine (need_any c P.m (a + 1) w9).mono ?_
  rintro e w10 ⟨rfl, hb⟩
  have HV10 : Hid (At c w w10 ∧ Box w10 g1 25 #[.int .i64 P.s, .int .i64 P.u, .int .i64 P.i, .int .i64 P.m, .int .i64 P.p]) := ⟨HV9.out.1.later hb, HV9.out.2.later hb⟩
  have HB10 : Hid (B ≤ w10.heap.size) := Nat.le_trans HB9.out hb.size
  have hbk := hb.mono HB9.out
  go_simp
  refine hK.out B _ _ (Nat.le_refl _) hbk ?_
  clear hK hb hbk HV9 HB9 p0 p1 p2 p3 p4 q0 q1 q2 q3 q4 q5 q6 q7 q8 q9 q10
  have q0 : ∀ w', Below B w10 w' → w'.cell? ⟨w.heap.size, 0, none⟩ = some (.int .i64 c.id) := fun w' h => (box11 (HV10.out.1.1.under h HB.out.1)).1
  have q1 : ∀ w', Below B w10 w' → w'.cell? ⟨w.heap.size, 1, none⟩ = some (.int .i64 c.m) := fun w' h => (box11 (HV10.out.1.1.under h HB.out.1)).2.1
  have q2 : ∀ w', Below B w10 w' → w'.cell? ⟨w.heap.size, 2, none⟩ = some (.int .i64 c.u) := fun w' h => (box11 (HV10.out.1.1.under h HB.out.1)).2.2.1
  have q3 : ∀ w', Below B w10 w' → w'.cell? ⟨w.heap.size, 3, none⟩ = some (.int .i64 c.b) := fun w' h => (box11 (HV10.out.1.1.under h HB.out.1)).2.2.2.1
  have q4 : ∀ w', Below B w10 w' → w'.cell? ⟨w.heap.size, 4, none⟩ = some (.int .i64 c.cp) := fun w' h => (box11 (HV10.out.1.1.under h HB.out.1)).2.2.2.2.1
  have q5 : ∀ w', Below B w10 w' → w'.cell? ⟨w.heap.size, 5, none⟩ = some (.int .i64 c.z) := fun w' h => (box11 (HV10.out.1.1.under h HB.out.1)).2.2.2.2.2.1
  have q6 : ∀ w', Below B w10 w' → w'.cell? ⟨w.heap.size, 6, none⟩ = some (.int .i64 c.s) := fun w' h => (box11 (HV10.out.1.1.under h HB.out.1)).2.2.2.2.2.2.1
  have q7 : ∀ w', Below B w10 w' → w'.cell? ⟨w.heap.size, 7, none⟩ = some (.int .i64 c.mt) := fun w' h => (box11 (HV10.out.1.1.under h HB.out.1)).2.2.2.2.2.2.2.1
  have q8 : ∀ w', Below B w10 w' → w'.cell? ⟨w.heap.size, 8, none⟩ = some (.int .i64 c.o) := fun w' h => (box11 (HV10.out.1.1.under h HB.out.1)).2.2.2.2.2.2.2.2.1
  have q9 : ∀ w', Below B w10 w' → w'.cell? ⟨w.heap.size, 9, none⟩ = some (.int .i64 c.a) := fun w' h => (box11 (HV10.out.1.1.under h HB.out.1)).2.2.2.2.2.2.2.2.2.1
  have q10 : ∀ w', Below B w10 w' → w'.cell? ⟨w.heap.size, 10, none⟩ = some (.int .i64 c.l) := fun w' h => (box11 (HV10.out.1.1.under h HB.out.1)).2.2.2.2.2.2.2.2.2.2
  have p0 : ∀ w', Below B w10 w' → w'.cell? ⟨g1, 0, none⟩ = some (.int .i64 P.s) := fun w' h => (box5 (HV10.out.2.under h HB.out.2)).1.1
  have p1 : ∀ w', Below B w10 w' → w'.cell? ⟨g1, 1, none⟩ = some (.int .i64 P.u) := fun w' h => (box5 (HV10.out.2.under h HB.out.2)).1.2.1
  have p2 : ∀ w', Below B w10 w' → w'.cell? ⟨g1, 2, none⟩ = some (.int .i64 P.i) := fun w' h => (box5 (HV10.out.2.under h HB.out.2)).1.2.2.1
  have p3 : ∀ w', Below B w10 w' → w'.cell? ⟨g1, 3, none⟩ = some (.int .i64 P.m) := fun w' h => (box5 (HV10.out.2.under h HB.out.2)).1.2.2.2.1
  have p4 : ∀ w', Below B w10 w' → w'.cell? ⟨g1, 4, none⟩ = some (.int .i64 P.p) := fun w' h => (box5 (HV10.out.2.under h HB.out.2)).1.2.2.2.2
  rw [HX.out]
  refine wpB_do (i := 30) (by kernel_rfl) rfl (by rfl) (fun K hK => ?_)
  go_simp
  refine (need_any c P.m a w10).mono ?_
  rintro e w11 ⟨rfl, hb⟩
  have HV11 : Hid (At c w w11 ∧ Box w11 g1 25 #[.int .i64 P.s, .int .i64 P.u, .int .i64 P.i, .int .i64 P.m, .int .i64 P.p]) := ⟨HV10.out.1.later hb, HV10.out.2.later hb⟩
  have HB11 : Hid (B ≤ w11.heap.size) := Nat.le_trans HB10.out hb.size
  have hbk := hb.mono HB10.out
  go_simp
  refine hK.out B _ _ (Nat.le_refl _) hbk ?_
  clear hK hb hbk HV10 HB10 p0 p1 p2 p3 p4 q0 q1 q2 q3 q4 q5 q6 q7 q8 q9 q10
  have q0 : ∀ w', Below B w11 w' → w'.cell? ⟨w.heap.size, 0, none⟩ = some (.int .i64 c.id) := fun w' h => (box11 (HV11.out.1.1.under h HB.out.1)).1
  have q1 : ∀ w', Below B w11 w' → w'.cell? ⟨w.heap.size, 1, none⟩ = some (.int .i64 c.m) := fun w' h => (box11 (HV11.out.1.1.under h HB.out.1)).2.1
  have q2 : ∀ w', Below B w11 w' → w'.cell? ⟨w.heap.size, 2, none⟩ = some (.int .i64 c.u) := fun w' h => (box11 (HV11.out.1.1.under h HB.out.1)).2.2.1
  have q3 : ∀ w', Below B w11 w' → w'.cell? ⟨w.heap.size, 3, none⟩ = some (.int .i64 c.b) := fun w' h => (box11 (HV11.out.1.1.under h HB.out.1)).2.2.2.1
  have q4 : ∀ w', Below B w11 w' → w'.cell? ⟨w.heap.size, 4, none⟩ = some (.int .i64 c.cp) := fun w' h => (box11 (HV11.out.1.1.under h HB.out.1)).2.2.2.2.1
  have q5 : ∀ w', Below B w11 w' → w'.cell? ⟨w.heap.size, 5, none⟩ = some (.int .i64 c.z) := fun w' h => (box11 (HV11.out.1.1.under h HB.out.1)).2.2.2.2.2.1
  have q6 : ∀ w', Below B w11 w' → w'.cell? ⟨w.heap.size, 6, none⟩ = some (.int .i64 c.s) := fun w' h => (box11 (HV11.out.1.1.under h HB.out.1)).2.2.2.2.2.2.1
  have q7 : ∀ w', Below B w11 w' → w'.cell? ⟨w.heap.size, 7, none⟩ = some (.int .i64 c.mt) := fun w' h => (box11 (HV11.out.1.1.under h HB.out.1)).2.2.2.2.2.2.2.1
  have q8 : ∀ w', Below B w11 w' → w'.cell? ⟨w.heap.size, 8, none⟩ = some (.int .i64 c.o) := fun w' h => (box11 (HV11.out.1.1.under h HB.out.1)).2.2.2.2.2.2.2.2.1
  have q9 : ∀ w', Below B w11 w' → w'.cell? ⟨w.heap.size, 9, none⟩ = some (.int .i64 c.a) := fun w' h => (box11 (HV11.out.1.1.under h HB.out.1)).2.2.2.2.2.2.2.2.2.1
  have q10 : ∀ w', Below B w11 w' → w'.cell? ⟨w.heap.size, 10, none⟩ = some (.int .i64 c.l) := fun w' h => (box11 (HV11.out.1.1.under h HB.out.1)).2.2.2.2.2.2.2.2.2.2
  have p0 : ∀ w', Below B w11 w' → w'.cell? ⟨g1, 0, none⟩ = some (.int .i64 P.s) := fun w' h => (box5 (HV11.out.2.under h HB.out.2)).1.1
  have p1 : ∀ w', Below B w11 w' → w'.cell? ⟨g1, 1, none⟩ = some (.int .i64 P.u) := fun w' h => (box5 (HV11.out.2.under h HB.out.2)).1.2.1
  have p2 : ∀ w', Below B w11 w' → w'.cell? ⟨g1, 2, none⟩ = some (.int .i64 P.i) := fun w' h => (box5 (HV11.out.2.under h HB.out.2)).1.2.2.1
  have p3 : ∀ w', Below B w11 w' → w'.cell? ⟨g1, 3, none⟩ = some (.int .i64 P.m) := fun w' h => (box5 (HV11.out.2.under h HB.out.2)).1.2.2.2.1
  have p4 : ∀ w', Below B w11 w' → w'.cell? ⟨g1, 4, none⟩ = some (.int .i64 P.p) := fun w' h => (box5 (HV11.out.2.under h HB.out.2)).1.2.2.2.2
  rw [HN.out]
  refine wpB_do (i := 34) (by kernel_rfl) rfl (by rfl) (fun K hK => ?_)
  go_simp
  refine (grows_any c a P w11 HL.out HC.out HA.out.1 HA.out.2).mono ?_
  rintro e w12 ⟨rfl, hb⟩
  have HV12 : Hid (At c w w12 ∧ Box w12 g1 25 #[.int .i64 P.s, .int .i64 P.u, .int .i64 P.i, .int .i64 P.m, .int .i64 P.p]) := ⟨HV11.out.1.later hb, HV11.out.2.later hb⟩
  have HB12 : Hid (B ≤ w12.heap.size) := Nat.le_trans HB11.out hb.size
  have hbk := hb.mono HB11.out
  go_simp
  refine hK.out B _ _ (Nat.le_refl _) hbk ?_
  clear hK hb hbk HV11 HB11 p0 p1 p2 p3 p4 q0 q1 q2 q3 q4 q5 q6 q7 q8 q9 q10
  have q0 : ∀ w', Below B w12 w' → w'.cell? ⟨w.heap.size, 0, none⟩ = some (.int .i64 c.id) := fun w' h => (box11 (HV12.out.1.1.under h HB.out.1)).1
  have q1 : ∀ w', Below B w12 w' → w'.cell? ⟨w.heap.size, 1, none⟩ = some (.int .i64 c.m) := fun w' h => (box11 (HV12.out.1.1.under h HB.out.1)).2.1
  have q2 : ∀ w', Below B w12 w' → w'.cell? ⟨w.heap.size, 2, none⟩ = some (.int .i64 c.u) := fun w' h => (box11 (HV12.out.1.1.under h HB.out.1)).2.2.1
  have q3 : ∀ w', Below B w12 w' → w'.cell? ⟨w.heap.size, 3, none⟩ = some (.int .i64 c.b) := fun w' h => (box11 (HV12.out.1.1.under h HB.out.1)).2.2.2.1
  have q4 : ∀ w', Below B w12 w' → w'.cell? ⟨w.heap.size, 4, none⟩ = some (.int .i64 c.cp) := fun w' h => (box11 (HV12.out.1.1.under h HB.out.1)).2.2.2.2.1
  have q5 : ∀ w', Below B w12 w' → w'.cell? ⟨w.heap.size, 5, none⟩ = some (.int .i64 c.z) := fun w' h => (box11 (HV12.out.1.1.under h HB.out.1)).2.2.2.2.2.1
  have q6 : ∀ w', Below B w12 w' → w'.cell? ⟨w.heap.size, 6, none⟩ = some (.int .i64 c.s) := fun w' h => (box11 (HV12.out.1.1.under h HB.out.1)).2.2.2.2.2.2.1
  have q7 : ∀ w', Below B w12 w' → w'.cell? ⟨w.heap.size, 7, none⟩ = some (.int .i64 c.mt) := fun w' h => (box11 (HV12.out.1.1.under h HB.out.1)).2.2.2.2.2.2.2.1
  have q8 : ∀ w', Below B w12 w' → w'.cell? ⟨w.heap.size, 8, none⟩ = some (.int .i64 c.o) := fun w' h => (box11 (HV12.out.1.1.under h HB.out.1)).2.2.2.2.2.2.2.2.1
  have q9 : ∀ w', Below B w12 w' → w'.cell? ⟨w.heap.size, 9, none⟩ = some (.int .i64 c.a) := fun w' h => (box11 (HV12.out.1.1.under h HB.out.1)).2.2.2.2.2.2.2.2.2.1
  have q10 : ∀ w', Below B w12 w' → w'.cell? ⟨w.heap.size, 10, none⟩ = some (.int .i64 c.l) := fun w' h => (box11 (HV12.out.1.1.under h HB.out.1)).2.2.2.2.2.2.2.2.2.2
  have p0 : ∀ w', Below B w12 w' → w'.cell? ⟨g1, 0, none⟩ = some (.int .i64 P.s) := fun w' h => (box5 (HV12.out.2.under h HB.out.2)).1.1
  have p1 : ∀ w', Below B w12 w' → w'.cell? ⟨g1, 1, none⟩ = some (.int .i64 P.u) := fun w' h => (box5 (HV12.out.2.under h HB.out.2)).1.2.1
  have p2 : ∀ w', Below B w12 w' → w'.cell? ⟨g1, 2, none⟩ = some (.int .i64 P.i) := fun w' h => (box5 (HV12.out.2.under h HB.out.2)).1.2.2.1
  have p3 : ∀ w', Below B w12 w' → w'.cell? ⟨g1, 3, none⟩ = some (.int .i64 P.m) := fun w' h => (box5 (HV12.out.2.under h HB.out.2)).1.2.2.2.1
  have p4 : ∀ w', Below B w12 w' → w'.cell? ⟨g1, 4, none⟩ = some (.int .i64 P.p) := fun w' h => (box5 (HV12.out.2.under h HB.out.2)).1.2.2.2.2
  rw [HX.out]
  have hw2 : IntKind.i64.wrap (P.p + (X - P.p)) = X := by rw [show P.p + (X - P.p) = X by omega]; exact wrapk_in (by omega) (by omega)
  refine wpB_take (i := 35) (d := 105) (v := ?v7eqx35) rfl rfl (by kernel_rfl) (by kernel_rfl) (by kernel_rfl) (fun _ _ _ h => h) (by rfl) ?y7eqx35 ?r7eqx35
  case y7eqx35 => (intro w' hSw; go_simp; try (with_reducible rfl))
  simp only [Act.put, List.setIfInBounds_toArray, List.set_cons_zero, List.set_cons_succ]
  clear hw2
  refine wpB_take (i := 36) (d := 106) (v := ?v7eqx36) rfl rfl (by kernel_rfl) (by kernel_rfl) (by kernel_rfl) (fun _ _ _ h => h) (by rfl) ?y7eqx36 ?r7eqx36
  case y7eqx36 => (intro w' hSw; go_simp; try (with_reducible rfl))
  simp only [Act.put, List.setIfInBounds_toArray, List.set_cons_zero, List.set_cons_succ]
  refine wpB_take (i := 37) (d := 107) (v := ?v7eqx37) rfl rfl (by kernel_rfl) (by kernel_rfl) (by kernel_rfl) (fun _ _ _ h => h) (by rfl) ?y7eqx37 ?r7eqx37
  case y7eqx37 => (intro w' hSw; go_simp; try (with_reducible rfl))
  simp only [Act.put, List.setIfInBounds_toArray, List.set_cons_zero, List.set_cons_succ]
  refine wpB_take (i := 38) (d := 108) (v := ?v7eqx38) rfl rfl (by kernel_rfl) (by kernel_rfl) (by kernel_rfl) (fun _ _ _ h => h) (by rfl) ?y7eqx38 ?r7eqx38
  case y7eqx38 => (intro w' hSw; go_simp; try (with_reducible rfl))
  simp only [Act.put, List.setIfInBounds_toArray, List.set_cons_zero, List.set_cons_succ]
  refine wpB_do (i := 39) (by kernel_rfl) rfl (by rfl) (fun K hK => ?_)
  go_simp
  refine (live_any w12).mono ?_
  rintro e w13 ⟨rfl, hb⟩
  have HV13 : Hid (At c w w13 ∧ Box w13 g1 25 #[.int .i64 P.s, .int .i64 P.u, .int .i64 P.i, .int .i64 P.m, .int .i64 P.p]) := ⟨HV12.out.1.later hb, HV12.out.2.later hb⟩
  have HB13 : Hid (B ≤ w13.heap.size) := Nat.le_trans HB12.out hb.size
  have hbk := hb.mono HB12.out
  go_simp
  refine hK.out B _ _ (Nat.le_refl _) hbk ?_
  clear hK hb hbk HV12 HB12 p0 p1 p2 p3 p4 q0 q1 q2 q3 q4 q5 q6 q7 q8 q9 q10
  have q0 : ∀ w', Below B w13 w' → w'.cell? ⟨w.heap.size, 0, none⟩ = some (.int .i64 c.id) := fun w' h => (box11 (HV13.out.1.1.under h HB.out.1)).1
  have q1 : ∀ w', Below B w13 w' → w'.cell? ⟨w.heap.size, 1, none⟩ = some (.int .i64 c.m) := fun w' h => (box11 (HV13.out.1.1.under h HB.out.1)).2.1
  have q2 : ∀ w', Below B w13 w' → w'.cell? ⟨w.heap.size, 2, none⟩ = some (.int .i64 c.u) := fun w' h => (box11 (HV13.out.1.1.under h HB.out.1)).2.2.1
  have q3 : ∀ w', Below B w13 w' → w'.cell? ⟨w.heap.size, 3, none⟩ = some (.int .i64 c.b) := fun w' h => (box11 (HV13.out.1.1.under h HB.out.1)).2.2.2.1
  have q4 : ∀ w', Below B w13 w' → w'.cell? ⟨w.heap.size, 4, none⟩ = some (.int .i64 c.cp) := fun w' h => (box11 (HV13.out.1.1.under h HB.out.1)).2.2.2.2.1
  have q5 : ∀ w', Below B w13 w' → w'.cell? ⟨w.heap.size, 5, none⟩ = some (.int .i64 c.z) := fun w' h => (box11 (HV13.out.1.1.under h HB.out.1)).2.2.2.2.2.1
  have q6 : ∀ w', Below B w13 w' → w'.cell? ⟨w.heap.size, 6, none⟩ = some (.int .i64 c.s) := fun w' h => (box11 (HV13.out.1.1.under h HB.out.1)).2.2.2.2.2.2.1
  have q7 : ∀ w', Below B w13 w' → w'.cell? ⟨w.heap.size, 7, none⟩ = some (.int .i64 c.mt) := fun w' h => (box11 (HV13.out.1.1.under h HB.out.1)).2.2.2.2.2.2.2.1
  have q8 : ∀ w', Below B w13 w' → w'.cell? ⟨w.heap.size, 8, none⟩ = some (.int .i64 c.o) := fun w' h => (box11 (HV13.out.1.1.under h HB.out.1)).2.2.2.2.2.2.2.2.1
  have q9 : ∀ w', Below B w13 w' → w'.cell? ⟨w.heap.size, 9, none⟩ = some (.int .i64 c.a) := fun w' h => (box11 (HV13.out.1.1.under h HB.out.1)).2.2.2.2.2.2.2.2.2.1
  have q10 : ∀ w', Below B w13 w' → w'.cell? ⟨w.heap.size, 10, none⟩ = some (.int .i64 c.l) := fun w' h => (box11 (HV13.out.1.1.under h HB.out.1)).2.2.2.2.2.2.2.2.2.2
  have p0 : ∀ w', Below B w13 w' → w'.cell? ⟨g1, 0, none⟩ = some (.int .i64 P.s) := fun w' h => (box5 (HV13.out.2.under h HB.out.2)).1.1
  have p1 : ∀ w', Below B w13 w' → w'.cell? ⟨g1, 1, none⟩ = some (.int .i64 P.u) := fun w' h => (box5 (HV13.out.2.under h HB.out.2)).1.2.1
  have p2 : ∀ w', Below B w13 w' → w'.cell? ⟨g1, 2, none⟩ = some (.int .i64 P.i) := fun w' h => (box5 (HV13.out.2.under h HB.out.2)).1.2.2.1
  have p3 : ∀ w', Below B w13 w' → w'.cell? ⟨g1, 3, none⟩ = some (.int .i64 P.m) := fun w' h => (box5 (HV13.out.2.under h HB.out.2)).1.2.2.2.1
  have p4 : ∀ w', Below B w13 w' → w'.cell? ⟨g1, 4, none⟩ = some (.int .i64 P.p) := fun w' h => (box5 (HV13.out.2.under h HB.out.2)).1.2.2.2.2
  refine wpB_take (i := 40) (d := 110) (v := ?v7eqx40) rfl rfl (by kernel_rfl) (by kernel_rfl) (by kernel_rfl) (fun _ _ _ h => h) (by rfl) ?y7eqx40 ?r7eqx40
  case y7eqx40 => (intro w' hSw; go_simp; try (with_reducible rfl))
  simp only [Act.put, List.setIfInBounds_toArray, List.set_cons_zero, List.set_cons_succ]
  refine wpB_take (i := 41) (d := 6) (v := ?v7eqx41) rfl rfl (by kernel_rfl) (by kernel_rfl) (by kernel_rfl) (fun _ _ _ h => h) (by rfl) ?y7eqx41 ?r7eqx41
  case y7eqx41 => (intro w' hSw; go_simp; try (with_reducible rfl))
  simp only [Act.put, List.setIfInBounds_toArray, List.set_cons_zero, List.set_cons_succ]
  refine wpB_done (by kernel_rfl) ?_
  go_wp2
  go_ret
  exact ⟨rfl, HV13.out.1.2.1⟩
set_option maxRecDepth 100000 in
set_option maxHeartbeats 2000000 in
theorem apart_m (c : Cf) (a b X : Int) (P Q : Pl) (w : World) (hc : checkC c = 0) (hP : ofA c a = P) (hQ : ofA c b = Q) (hPb : ofB c a = true) (hQb : ofB c b = true) (hl : Lies c a P) (h0 : 0 ≤ a) (h1 : a < stripesC c * (dataC c * c.u)) (hX : needA c P.m (a + 1) = X) (hX0 : 0 ≤ X) (hX1 : X ≤ 61440000) (hab : ¬ a = b) (hm : ¬ P.m = Q.m) :
    Calls Try.prog 5 #[(.agg #[.int .i64 c.id, .int .i64 c.m, .int .i64 c.u, .int .i64 c.b, .int .i64 c.cp, .int .i64 c.z, .int .i64 c.s, .int .i64 c.mt, .int .i64 c.o, .int .i64 c.a, .int .i64 c.l]), .int .i64 a, .int .i64 b] w (Says w (.bool true)) := by
  have HC := Lib.hid hc
  have HL := Lib.hid hl
  have HA := Lib.hid (And.intro h0 h1)
  have HP := Lib.hid (And.intro hP hPb)
  have HQ := Lib.hid (And.intro hQ hQb)
  have HX := Lib.hid hX
  have HN := Lib.hid (hl.need hc h0 h1)
  have HK := Lib.hid (hl.back hc)
  have g1 := hl.big hc
  have g2 : a ≤ 61440 := by have := (ok_of hc).z2; omega
  clear hc hl hP hQ hPb hQb hX h1
  have e1 : (a == b) = false := by simpa using hab
  have e2 : (P.m == Q.m) = false := by simpa using hm
  have e3 : (P.m != Q.m) = true := by simpa using hm
  go_enter Try.func5, Try.ntmps5
  go_wp2_with fail
  have HV0 := Lib.hid (At.new c w)
  generalize (w.alloc (.cells #[.int .i64 c.id, .int .i64 c.m, .int .i64 c.u, .int .i64 c.b, .int .i64 c.cp, .int .i64 c.z, .int .i64 c.s, .int .i64 c.mt, .int .i64 c.o, .int .i64 c.a, .int .i64 c.l] 23)) = w0 at HV0 ⊢
  obtain ⟨y0, y1, y2, y3, y4, y5, y6, y7, y8, y9, y10⟩ := box11 HV0.out.1
  refine (of_any c a w0).mono ?_
  rintro e w1 ⟨rfl, hb⟩
  rw [HP.out.1, HP.out.2]
  have HV1 := Lib.hid (HV0.out.later hb)
  clear hb HV0 y0 y1 y2 y3 y4 y5 y6 y7 y8 y9 y10
  obtain ⟨y0, y1, y2, y3, y4, y5, y6, y7, y8, y9, y10⟩ := box11 HV1.out.1
  go_upto_region 2 with fail
  have HV2 : Hid (At c w (w1.alloc (.cells #[.int .i64 P.s, .int .i64 P.u, .int .i64 P.i, .int .i64 P.m, .int .i64 P.p] 25)) ∧ Box (w1.alloc (.cells #[.int .i64 P.s, .int .i64 P.u, .int .i64 P.i, .int .i64 P.m, .int .i64 P.p] 25)) w1.heap.size 25 #[.int .i64 P.s, .int .i64 P.u, .int .i64 P.i, .int .i64 P.m, .int .i64 P.p]) := ⟨HV1.out.alloc _, Box.fresh w1 25 _⟩
  generalize (w1.alloc (.cells #[.int .i64 P.s, .int .i64 P.u, .int .i64 P.i, .int .i64 P.m, .int .i64 P.p] 25)) = w2 at HV2 ⊢
  generalize w1.heap.size = g1 at HV2 ⊢
  clear HV1 y0 y1 y2 y3 y4 y5 y6 y7 y8 y9 y10
  obtain ⟨y0, y1, y2, y3, y4, y5, y6, y7, y8, y9, y10⟩ := box11 HV2.out.1.1
  go_wp2_with fail
  refine (of_any c b w2).mono ?_
  rintro e w3 ⟨rfl, hb⟩
  rw [HQ.out.1, HQ.out.2]
  have HV3 : Hid (At c w w3 ∧ Box w3 g1 25 #[.int .i64 P.s, .int .i64 P.u, .int .i64 P.i, .int .i64 P.m, .int .i64 P.p]) := ⟨HV2.out.1.later hb, HV2.out.2.later hb⟩
  clear hb HV2 y0 y1 y2 y3 y4 y5 y6 y7 y8 y9 y10
  obtain ⟨y0, y1, y2, y3, y4, y5, y6, y7, y8, y9, y10⟩ := box11 HV3.out.1.1
  go_upto_region 3 with fail
  have HV4 : Hid ((At c w (w3.alloc (.cells #[.int .i64 Q.s, .int .i64 Q.u, .int .i64 Q.i, .int .i64 Q.m, .int .i64 Q.p] 25)) ∧ Box (w3.alloc (.cells #[.int .i64 Q.s, .int .i64 Q.u, .int .i64 Q.i, .int .i64 Q.m, .int .i64 Q.p] 25)) g1 25 #[.int .i64 P.s, .int .i64 P.u, .int .i64 P.i, .int .i64 P.m, .int .i64 P.p]) ∧ Box (w3.alloc (.cells #[.int .i64 Q.s, .int .i64 Q.u, .int .i64 Q.i, .int .i64 Q.m, .int .i64 Q.p] 25)) w3.heap.size 25 #[.int .i64 Q.s, .int .i64 Q.u, .int .i64 Q.i, .int .i64 Q.m, .int .i64 Q.p]) := ⟨⟨HV3.out.1.alloc _, HV3.out.2.later ((Below.refl _ _).alloc (Nat.le_refl _) _)⟩, Box.fresh w3 25 _⟩
  generalize (w3.alloc (.cells #[.int .i64 Q.s, .int .i64 Q.u, .int .i64 Q.i, .int .i64 Q.m, .int .i64 Q.p] 25)) = w4 at HV4 ⊢
  generalize w3.heap.size = g2 at HV4 ⊢
  clear HV3 y0 y1 y2 y3 y4 y5 y6 y7 y8 y9 y10
  obtain ⟨y0, y1, y2, y3, y4, y5, y6, y7, y8, y9, y10⟩ := box11 HV4.out.1.1.1
  obtain ⟨⟨z0, z1, z2, z3, z4⟩, f0, f1, f2, f3, f4⟩ := box5 HV4.out.1.2
  go_wp2_with fail
  refine (back_any c P.m P.p w4).mono ?_
  rintro e w5 ⟨rfl, hb⟩
  rw [HK.out]
  have HV5 : Hid ((At c w w5 ∧ Box w5 g1 25 #[.int .i64 P.s, .int .i64 P.u, .int .i64 P.i, .int .i64 P.m, .int .i64 P.p]) ∧ Box w5 g2 25 #[.int .i64 Q.s, .int .i64 Q.u, .int .i64 Q.i, .int .i64 Q.m, .int .i64 Q.p]) := ⟨⟨HV4.out.1.1.later hb, HV4.out.1.2.later hb⟩, HV4.out.2.later hb⟩
  clear hb HV4 y0 y1 y2 y3 y4 y5 y6 y7 y8 y9 y10 z0 z1 z2 z3 z4 f0 f1 f2 f3 f4
  obtain ⟨y0, y1, y2, y3, y4, y5, y6, y7, y8, y9, y10⟩ := box11 HV5.out.1.1.1
  obtain ⟨⟨z0, z1, z2, z3, z4⟩, f0, f1, f2, f3, f4⟩ := box5 HV5.out.1.2
  obtain ⟨⟨t0, t1, t2, t3, t4⟩, j0, j1, j2, j3, j4⟩ := box5 HV5.out.2
  go_wp2_with fail
  clear y0 y1 y2 y3 y4 y5 y6 y7 y8 y9 y10 z0 z1 z2 z3 z4 f0 f1 f2 f3 f4 t0 t1 t2 t3 t4 j0 j1 j2 j3 j4
  refine wpB_start w5.drew.heap.size (by kernel_rfl) ?_
  have HV8 : Hid (At c w w5.drew ∧ Box w5.drew g1 25 #[.int .i64 P.s, .int .i64 P.u, .int .i64 P.i, .int .i64 P.m, .int .i64 P.p]) := ⟨HV5.out.1.1.drew, HV5.out.1.2.later (Below.refl _ _).drew⟩
  generalize w5.drew = w8 at HV8 ⊢
  have HB : Hid (w.heap.size < w8.heap.size ∧ g1 < w8.heap.size) := ⟨HV8.out.1.2.2, HV8.out.2.lt⟩
  generalize hBe : w8.heap.size = B at HB ⊢
  have HB8 : Hid (B ≤ w8.heap.size) := Nat.le_of_eq hBe.symm
  clear hBe HV5
  have q0 : ∀ w', Below B w8 w' → w'.cell? ⟨w.heap.size, 0, none⟩ = some (.int .i64 c.id) := fun w' h => (box11 (HV8.out.1.1.under h HB.out.1)).1
  have q1 : ∀ w', Below B w8 w' → w'.cell? ⟨w.heap.size, 1, none⟩ = some (.int .i64 c.m) := fun w' h => (box11 (HV8.out.1.1.under h HB.out.1)).2.1
  have q2 : ∀ w', Below B w8 w' → w'.cell? ⟨w.heap.size, 2, none⟩ = some (.int .i64 c.u) := fun w' h => (box11 (HV8.out.1.1.under h HB.out.1)).2.2.1
  have q3 : ∀ w', Below B w8 w' → w'.cell? ⟨w.heap.size, 3, none⟩ = some (.int .i64 c.b) := fun w' h => (box11 (HV8.out.1.1.under h HB.out.1)).2.2.2.1
  have q4 : ∀ w', Below B w8 w' → w'.cell? ⟨w.heap.size, 4, none⟩ = some (.int .i64 c.cp) := fun w' h => (box11 (HV8.out.1.1.under h HB.out.1)).2.2.2.2.1
  have q5 : ∀ w', Below B w8 w' → w'.cell? ⟨w.heap.size, 5, none⟩ = some (.int .i64 c.z) := fun w' h => (box11 (HV8.out.1.1.under h HB.out.1)).2.2.2.2.2.1
  have q6 : ∀ w', Below B w8 w' → w'.cell? ⟨w.heap.size, 6, none⟩ = some (.int .i64 c.s) := fun w' h => (box11 (HV8.out.1.1.under h HB.out.1)).2.2.2.2.2.2.1
  have q7 : ∀ w', Below B w8 w' → w'.cell? ⟨w.heap.size, 7, none⟩ = some (.int .i64 c.mt) := fun w' h => (box11 (HV8.out.1.1.under h HB.out.1)).2.2.2.2.2.2.2.1
  have q8 : ∀ w', Below B w8 w' → w'.cell? ⟨w.heap.size, 8, none⟩ = some (.int .i64 c.o) := fun w' h => (box11 (HV8.out.1.1.under h HB.out.1)).2.2.2.2.2.2.2.2.1
  have q9 : ∀ w', Below B w8 w' → w'.cell? ⟨w.heap.size, 9, none⟩ = some (.int .i64 c.a) := fun w' h => (box11 (HV8.out.1.1.under h HB.out.1)).2.2.2.2.2.2.2.2.2.1
  have q10 : ∀ w', Below B w8 w' → w'.cell? ⟨w.heap.size, 10, none⟩ = some (.int .i64 c.l) := fun w' h => (box11 (HV8.out.1.1.under h HB.out.1)).2.2.2.2.2.2.2.2.2.2
  have p0 : ∀ w', Below B w8 w' → w'.cell? ⟨g1, 0, none⟩ = some (.int .i64 P.s) := fun w' h => (box5 (HV8.out.2.under h HB.out.2)).1.1
  have p1 : ∀ w', Below B w8 w' → w'.cell? ⟨g1, 1, none⟩ = some (.int .i64 P.u) := fun w' h => (box5 (HV8.out.2.under h HB.out.2)).1.2.1
  have p2 : ∀ w', Below B w8 w' → w'.cell? ⟨g1, 2, none⟩ = some (.int .i64 P.i) := fun w' h => (box5 (HV8.out.2.under h HB.out.2)).1.2.2.1
  have p3 : ∀ w', Below B w8 w' → w'.cell? ⟨g1, 3, none⟩ = some (.int .i64 P.m) := fun w' h => (box5 (HV8.out.2.under h HB.out.2)).1.2.2.2.1
  have p4 : ∀ w', Below B w8 w' → w'.cell? ⟨g1, 4, none⟩ = some (.int .i64 P.p) := fun w' h => (box5 (HV8.out.2.under h HB.out.2)).1.2.2.2.2
  refine wpB_take (i := 0) (d := 70) (v := ?v7mx0) rfl rfl (by kernel_rfl) (by kernel_rfl) (by kernel_rfl) (fun _ _ _ h => h) (by rfl) ?y7mx0 ?r7mx0
  case y7mx0 => (intro w' hSw; go_simp; try (with_reducible rfl))
  simp only [Act.put, List.setIfInBounds_toArray, List.set_cons_zero, List.set_cons_succ]
  refine wpB_take (i := 1) (d := 71) (v := ?v7mx1) rfl rfl (by kernel_rfl) (by kernel_rfl) (by kernel_rfl) (fun _ _ _ h => h) (by rfl) ?y7mx1 ?r7mx1
  case y7mx1 => (intro w' hSw; go_simp; try (with_reducible rfl))
  simp only [Act.put, List.setIfInBounds_toArray, List.set_cons_zero, List.set_cons_succ]
  refine wpB_take (i := 2) (d := 72) (v := ?v7mx2) rfl rfl (by kernel_rfl) (by kernel_rfl) (by kernel_rfl) (fun _ _ _ h => h) (by rfl) ?y7mx2 ?r7mx2
  case y7mx2 => (intro w' hSw; go_simp; try (with_reducible rfl))
  simp only [Act.put, List.setIfInBounds_toArray, List.set_cons_zero, List.set_cons_succ]
  refine wpB_take (i := 3) (d := 73) (v := ?v7mx3) rfl rfl (by kernel_rfl) (by kernel_rfl) (by kernel_rfl) (fun _ _ _ h => h) (by rfl) ?y7mx3 ?r7mx3
  case y7mx3 => (intro w' hSw; go_simp; try (with_reducible rfl))
  simp only [Act.put, List.setIfInBounds_toArray, List.set_cons_zero, List.set_cons_succ]
  refine wpB_take (i := 4) (d := 74) (v := ?v7mx4) rfl rfl (by kernel_rfl) (by kernel_rfl) (by kernel_rfl) (fun _ _ _ h => h) (by rfl) ?y7mx4 ?r7mx4
  case y7mx4 => (intro w' hSw; go_simp; try (with_reducible rfl))
  simp only [Act.put, List.setIfInBounds_toArray, List.set_cons_zero, List.set_cons_succ]
  refine wpB_take (i := 5) (d := 75) (v := ?v7mx5) rfl rfl (by kernel_rfl) (by kernel_rfl) (by kernel_rfl) (fun _ _ _ h => h) (by rfl) ?y7mx5 ?r7mx5
  case y7mx5 => (intro w' hSw; go_simp; try (with_reducible rfl))
  simp only [Act.put, List.setIfInBounds_toArray, List.set_cons_zero, List.set_cons_succ]
  refine wpB_take (i := 6) (d := 76) (v := ?v7mx6) rfl rfl (by kernel_rfl) (by kernel_rfl) (by kernel_rfl) (fun _ _ _ h => h) (by rfl) ?y7mx6 ?r7mx6
  case y7mx6 => (intro w' hSw; go_simp; try (with_reducible rfl))
  simp only [Act.put, List.setIfInBounds_toArray, List.set_cons_zero, List.set_cons_succ]
  refine wpB_take (i := 7) (d := 77) (v := ?v7mx7) rfl rfl (by kernel_rfl) (by kernel_rfl) (by kernel_rfl) (fun _ _ _ h => h) (by rfl) ?y7mx7 ?r7mx7
  case y7mx7 => (intro w' hSw; go_simp; try (with_reducible rfl))
  simp only [Act.put, List.setIfInBounds_toArray, List.set_cons_zero, List.set_cons_succ]
  refine wpB_take (i := 8) (d := 78) (v := ?v7mx8) rfl rfl (by kernel_rfl) (by kernel_rfl) (by kernel_rfl) (fun _ _ _ h => h) (by rfl) ?y7mx8 ?r7mx8
  case y7mx8 => (intro w' hSw; go_simp; try (with_reducible rfl))
  simp only [Act.put, List.setIfInBounds_toArray, List.set_cons_zero, List.set_cons_succ]
  refine wpB_take (i := 9) (d := 79) (v := ?v7mx9) rfl rfl (by kernel_rfl) (by kernel_rfl) (by kernel_rfl) (fun _ _ _ h => h) (by rfl) ?y7mx9 ?r7mx9
  case y7mx9 => (intro w' hSw; go_simp; try (with_reducible rfl))
  simp only [Act.put, List.setIfInBounds_toArray, List.set_cons_zero, List.set_cons_succ]
  refine wpB_take (i := 10) (d := 80) (v := ?v7mx10) rfl rfl (by kernel_rfl) (by kernel_rfl) (by kernel_rfl) (fun _ _ _ h => h) (by rfl) ?y7mx10 ?r7mx10
  case y7mx10 => (intro w' hSw; go_simp; try (with_reducible rfl))
  simp only [Act.put, List.setIfInBounds_toArray, List.set_cons_zero, List.set_cons_succ]
  refine wpB_take (i := 11) (d := 81) (v := ?v7mx11) rfl rfl (by kernel_rfl) (by kernel_rfl) (by kernel_rfl) (fun _ _ _ h => h) (by rfl) ?y7mx11 ?r7mx11
  case y7mx11 => (intro w' hSw; go_simp; try (with_reducible rfl))
  simp only [Act.put, List.setIfInBounds_toArray, List.set_cons_zero, List.set_cons_succ]
  refine wpB_take (i := 12) (d := 82) (v := ?v7mx12) rfl rfl (by kernel_rfl) (by kernel_rfl) (by kernel_rfl) (fun _ _ _ h => h) (by rfl) ?y7mx12 ?r7mx12
  case y7mx12 => (intro w' hSw; go_simp; try (with_reducible rfl))
  simp only [Act.put, List.setIfInBounds_toArray, List.set_cons_zero, List.set_cons_succ]
  refine wpB_take (i := 13) (d := 83) (v := ?v7mx13) rfl rfl (by kernel_rfl) (by kernel_rfl) (by kernel_rfl) (fun _ _ _ h => h) (by rfl) ?y7mx13 ?r7mx13
  case y7mx13 => (intro w' hSw; go_simp; try (with_reducible rfl))
  simp only [Act.put, List.setIfInBounds_toArray, List.set_cons_zero, List.set_cons_succ]
  refine wpB_take (i := 15) (d := 85) (v := ?v7mx15) rfl rfl (by kernel_rfl) (by kernel_rfl) (by kernel_rfl) (fun _ _ _ h => h) (by rfl) ?y7mx15 ?r7mx15
  case y7mx15 => (intro w' hSw; go_simp; try (with_reducible rfl))
  simp only [Act.put, List.setIfInBounds_toArray, List.set_cons_zero, List.set_cons_succ]
  refine wpB_take (i := 16) (d := 86) (v := ?v7mx16) rfl rfl (by kernel_rfl) (by kernel_rfl) (by kernel_rfl) (fun _ _ _ h => h) (by rfl) ?y7mx16 ?r7mx16
  case y7mx16 => (intro w' hSw; go_simp; try (with_reducible rfl))
  simp only [Act.put, List.setIfInBounds_toArray, List.set_cons_zero, List.set_cons_succ]
  refine wpB_do (i := 14) (by kernel_rfl) rfl (by rfl) (fun K hK => ?_)
  go_simp
  refine (need_any c P.m a w8).mono ?_
  rintro e w9 ⟨rfl, hb⟩
  have HV9 : Hid (At c w w9 ∧ Box w9 g1 25 #[.int .i64 P.s, .int .i64 P.u, .int .i64 P.i, .int .i64 P.m, .int .i64 P.p]) := ⟨HV8.out.1.later hb, HV8.out.2.later hb⟩
  have HB9 : Hid (B ≤ w9.heap.size) := Nat.le_trans HB8.out hb.size
  have hbk := hb.mono HB8.out
  go_simp
  refine hK.out B _ _ (Nat.le_refl _) hbk ?_
  clear hK hb hbk HV8 HB8 p0 p1 p2 p3 p4 q0 q1 q2 q3 q4 q5 q6 q7 q8 q9 q10
  have q0 : ∀ w', Below B w9 w' → w'.cell? ⟨w.heap.size, 0, none⟩ = some (.int .i64 c.id) := fun w' h => (box11 (HV9.out.1.1.under h HB.out.1)).1
  have q1 : ∀ w', Below B w9 w' → w'.cell? ⟨w.heap.size, 1, none⟩ = some (.int .i64 c.m) := fun w' h => (box11 (HV9.out.1.1.under h HB.out.1)).2.1
  have q2 : ∀ w', Below B w9 w' → w'.cell? ⟨w.heap.size, 2, none⟩ = some (.int .i64 c.u) := fun w' h => (box11 (HV9.out.1.1.under h HB.out.1)).2.2.1
  have q3 : ∀ w', Below B w9 w' → w'.cell? ⟨w.heap.size, 3, none⟩ = some (.int .i64 c.b) := fun w' h => (box11 (HV9.out.1.1.under h HB.out.1)).2.2.2.1
  have q4 : ∀ w', Below B w9 w' → w'.cell? ⟨w.heap.size, 4, none⟩ = some (.int .i64 c.cp) := fun w' h => (box11 (HV9.out.1.1.under h HB.out.1)).2.2.2.2.1
  have q5 : ∀ w', Below B w9 w' → w'.cell? ⟨w.heap.size, 5, none⟩ = some (.int .i64 c.z) := fun w' h => (box11 (HV9.out.1.1.under h HB.out.1)).2.2.2.2.2.1
  have q6 : ∀ w', Below B w9 w' → w'.cell? ⟨w.heap.size, 6, none⟩ = some (.int .i64 c.s) := fun w' h => (box11 (HV9.out.1.1.under h HB.out.1)).2.2.2.2.2.2.1
  have q7 : ∀ w', Below B w9 w' → w'.cell? ⟨w.heap.size, 7, none⟩ = some (.int .i64 c.mt) := fun w' h => (box11 (HV9.out.1.1.under h HB.out.1)).2.2.2.2.2.2.2.1
  have q8 : ∀ w', Below B w9 w' → w'.cell? ⟨w.heap.size, 8, none⟩ = some (.int .i64 c.o) := fun w' h => (box11 (HV9.out.1.1.under h HB.out.1)).2.2.2.2.2.2.2.2.1
  have q9 : ∀ w', Below B w9 w' → w'.cell? ⟨w.heap.size, 9, none⟩ = some (.int .i64 c.a) := fun w' h => (box11 (HV9.out.1.1.under h HB.out.1)).2.2.2.2.2.2.2.2.2.1
  have q10 : ∀ w', Below B w9 w' → w'.cell? ⟨w.heap.size, 10, none⟩ = some (.int .i64 c.l) := fun w' h => (box11 (HV9.out.1.1.under h HB.out.1)).2.2.2.2.2.2.2.2.2.2
  have p0 : ∀ w', Below B w9 w' → w'.cell? ⟨g1, 0, none⟩ = some (.int .i64 P.s) := fun w' h => (box5 (HV9.out.2.under h HB.out.2)).1.1
  have p1 : ∀ w', Below B w9 w' → w'.cell? ⟨g1, 1, none⟩ = some (.int .i64 P.u) := fun w' h => (box5 (HV9.out.2.under h HB.out.2)).1.2.1
  have p2 : ∀ w', Below B w9 w' → w'.cell? ⟨g1, 2, none⟩ = some (.int .i64 P.i) := fun w' h => (box5 (HV9.out.2.under h HB.out.2)).1.2.2.1
  have p3 : ∀ w', Below B w9 w' → w'.cell? ⟨g1, 3, none⟩ = some (.int .i64 P.m) := fun w' h => (box5 (HV9.out.2.under h HB.out.2)).1.2.2.2.1
  have p4 : ∀ w', Below B w9 w' → w'.cell? ⟨g1, 4, none⟩ = some (.int .i64 P.p) := fun w' h => (box5 (HV9.out.2.under h HB.out.2)).1.2.2.2.2
  rw [HN.out]
  refine wpB_take (i := 17) (d := 87) (v := ?v7mx17) rfl rfl (by kernel_rfl) (by kernel_rfl) (by kernel_rfl) (fun _ _ _ h => h) (by rfl) ?y7mx17 ?r7mx17
  case y7mx17 => (intro w' hSw; go_simp; try (with_reducible rfl))
  simp only [Act.put, List.setIfInBounds_toArray, List.set_cons_zero, List.set_cons_succ]
  refine wpB_take (i := 18) (d := 88) (v := ?v7mx18) rfl rfl (by kernel_rfl) (by kernel_rfl) (by kernel_rfl) (fun _ _ _ h => h) (by rfl) ?y7mx18 ?r7mx18
  case y7mx18 => (intro w' hSw; go_simp; try (with_reducible rfl))
  simp only [Act.put, List.setIfInBounds_toArray, List.set_cons_zero, List.set_cons_succ]
  refine wpB_take (i := 19) (d := 89) (v := ?v7mx19) rfl rfl (by kernel_rfl) (by kernel_rfl) (by kernel_rfl) (fun _ _ _ h => h) (by rfl) ?y7mx19 ?r7mx19
  case y7mx19 => (intro w' hSw; go_simp; try (with_reducible rfl))
  simp only [Act.put, List.setIfInBounds_toArray, List.set_cons_zero, List.set_cons_succ]
  refine wpB_take (i := 20) (d := 90) (v := ?v7mx20) rfl rfl (by kernel_rfl) (by kernel_rfl) (by kernel_rfl) (fun _ _ _ h => h) (by rfl) ?y7mx20 ?r7mx20
  case y7mx20 => (intro w' hSw; go_simp; try (with_reducible rfl))
  simp only [Act.put, List.setIfInBounds_toArray, List.set_cons_zero, List.set_cons_succ]
  refine wpB_take (i := 21) (d := 91) (v := ?v7mx21) rfl rfl (by kernel_rfl) (by kernel_rfl) (by kernel_rfl) (fun _ _ _ h => h) (by rfl) ?y7mx21 ?r7mx21
  case y7mx21 => (intro w' hSw; go_simp; try (with_reducible rfl))
  simp only [Act.put, List.setIfInBounds_toArray, List.set_cons_zero, List.set_cons_succ]
  refine wpB_take (i := 22) (d := 92) (v := ?v7mx22) rfl rfl (by kernel_rfl) (by kernel_rfl) (by kernel_rfl) (fun _ _ _ h => h) (by rfl) ?y7mx22 ?r7mx22
  case y7mx22 => (intro w' hSw; go_simp; try (with_reducible rfl))
  simp only [Act.put, List.setIfInBounds_toArray, List.set_cons_zero, List.set_cons_succ]
  refine wpB_take (i := 23) (d := 93) (v := ?v7mx23) rfl rfl (by kernel_rfl) (by kernel_rfl) (by kernel_rfl) (fun _ _ _ h => h) (by rfl) ?y7mx23 ?r7mx23
  case y7mx23 => (intro w' hSw; go_simp; try (with_reducible rfl))
  simp only [Act.put, List.setIfInBounds_toArray, List.set_cons_zero, List.set_cons_succ]
  have hw1 : IntKind.i64.wrap (a + 1) = a + 1 := wrapk_in (by omega) (by omega)
  refine wpB_take (i := 24) (d := 94) (v := ?v7mx24) rfl rfl (by kernel_rfl) (by kernel_rfl) (by kernel_rfl) (fun _ _ _ h => h) (by rfl) ?y7mx24 ?r7mx24
  case y7mx24 => (intro w' hSw; go_simp; try (with_reducible rfl))
  simp only [Act.put, List.setIfInBounds_toArray, List.set_cons_zero, List.set_cons_succ]
  clear hw1
  refine wpB_take (i := 26) (d := 96) (v := ?v7mx26) rfl rfl (by kernel_rfl) (by kernel_rfl) (by kernel_rfl) (fun _ _ _ h => h) (by rfl) ?y7mx26 ?r7mx26
  case y7mx26 => (intro w' hSw; go_simp; try (with_reducible rfl))
  simp only [Act.put, List.setIfInBounds_toArray, List.set_cons_zero, List.set_cons_succ]
  refine wpB_take (i := 27) (d := 97) (v := ?v7mx27) rfl rfl (by kernel_rfl) (by kernel_rfl) (by kernel_rfl) (fun _ _ _ h => h) (by rfl) ?y7mx27 ?r7mx27
  case y7mx27 => (intro w' hSw; go_simp; try (with_reducible rfl))
  simp only [Act.put, List.setIfInBounds_toArray, List.set_cons_zero, List.set_cons_succ]
  refine wpB_take (i := 28) (d := 98) (v := ?v7mx28) rfl rfl (by kernel_rfl) (by kernel_rfl) (by kernel_rfl) (fun _ _ _ h => h) (by rfl) ?y7mx28 ?r7mx28
  case y7mx28 => (intro w' hSw; go_simp; try (with_reducible rfl))
  simp only [Act.put, List.setIfInBounds_toArray, List.set_cons_zero, List.set_cons_succ]
  refine wpB_take (i := 29) (d := 99) (v := ?v7mx29) rfl rfl (by kernel_rfl) (by kernel_rfl) (by kernel_rfl) (fun _ _ _ h => h) (by rfl) ?y7mx29 ?r7mx29
  case y7mx29 => (intro w' hSw; go_simp; try (with_reducible rfl))
  simp only [Act.put, List.setIfInBounds_toArray, List.set_cons_zero, List.set_cons_succ]
  refine wpB_take (i := 31) (d := 101) (v := ?v7mx31) rfl rfl (by kernel_rfl) (by kernel_rfl) (by kernel_rfl) (fun _ _ _ h => h) (by rfl) ?y7mx31 ?r7mx31
  case y7mx31 => (intro w' hSw; go_simp; try (with_reducible rfl))
  simp only [Act.put, List.setIfInBounds_toArray, List.set_cons_zero, List.set_cons_succ]
  refine wpB_take (i := 32) (d := 102) (v := ?v7mx32) rfl rfl (by kernel_rfl) (by kernel_rfl) (by kernel_rfl) (fun _ _ _ h => h) (by rfl) ?y7mx32 ?r7mx32
  case y7mx32 => (intro w' hSw; go_simp; try (with_reducible rfl))
  simp only [Act.put, List.setIfInBounds_toArray, List.set_cons_zero, List.set_cons_succ]
  refine wpB_take (i := 33) (d := 103) (v := ?v7mx33) rfl rfl (by kernel_rfl) (by kernel_rfl) (by kernel_rfl) (fun _ _ _ h => h) (by rfl) ?y7mx33 ?r7mx33
  case y7mx33 => (intro w' hSw; go_simp; try (with_reducible rfl))
  simp only [Act.put, List.setIfInBounds_toArray, List.set_cons_zero, List.set_cons_succ]
  refine wpB_do (i := 25) (by kernel_rfl) rfl (by rfl) (fun K hK => ?_)
  go_simp
  refine (need_any c P.m (a + 1) w9).mono ?_
  rintro e w10 ⟨rfl, hb⟩
  have HV10 : Hid (At c w w10 ∧ Box w10 g1 25 #[.int .i64 P.s, .int .i64 P.u, .int .i64 P.i, .int .i64 P.m, .int .i64 P.p]) := ⟨HV9.out.1.later hb, HV9.out.2.later hb⟩
  have HB10 : Hid (B ≤ w10.heap.size) := Nat.le_trans HB9.out hb.size
  have hbk := hb.mono HB9.out
  go_simp
  refine hK.out B _ _ (Nat.le_refl _) hbk ?_
  clear hK hb hbk HV9 HB9 p0 p1 p2 p3 p4 q0 q1 q2 q3 q4 q5 q6 q7 q8 q9 q10
  have q0 : ∀ w', Below B w10 w' → w'.cell? ⟨w.heap.size, 0, none⟩ = some (.int .i64 c.id) := fun w' h => (box11 (HV10.out.1.1.under h HB.out.1)).1
  have q1 : ∀ w', Below B w10 w' → w'.cell? ⟨w.heap.size, 1, none⟩ = some (.int .i64 c.m) := fun w' h => (box11 (HV10.out.1.1.under h HB.out.1)).2.1
  have q2 : ∀ w', Below B w10 w' → w'.cell? ⟨w.heap.size, 2, none⟩ = some (.int .i64 c.u) := fun w' h => (box11 (HV10.out.1.1.under h HB.out.1)).2.2.1
  have q3 : ∀ w', Below B w10 w' → w'.cell? ⟨w.heap.size, 3, none⟩ = some (.int .i64 c.b) := fun w' h => (box11 (HV10.out.1.1.under h HB.out.1)).2.2.2.1
  have q4 : ∀ w', Below B w10 w' → w'.cell? ⟨w.heap.size, 4, none⟩ = some (.int .i64 c.cp) := fun w' h => (box11 (HV10.out.1.1.under h HB.out.1)).2.2.2.2.1
  have q5 : ∀ w', Below B w10 w' → w'.cell? ⟨w.heap.size, 5, none⟩ = some (.int .i64 c.z) := fun w' h => (box11 (HV10.out.1.1.under h HB.out.1)).2.2.2.2.2.1
  have q6 : ∀ w', Below B w10 w' → w'.cell? ⟨w.heap.size, 6, none⟩ = some (.int .i64 c.s) := fun w' h => (box11 (HV10.out.1.1.under h HB.out.1)).2.2.2.2.2.2.1
  have q7 : ∀ w', Below B w10 w' → w'.cell? ⟨w.heap.size, 7, none⟩ = some (.int .i64 c.mt) := fun w' h => (box11 (HV10.out.1.1.under h HB.out.1)).2.2.2.2.2.2.2.1
  have q8 : ∀ w', Below B w10 w' → w'.cell? ⟨w.heap.size, 8, none⟩ = some (.int .i64 c.o) := fun w' h => (box11 (HV10.out.1.1.under h HB.out.1)).2.2.2.2.2.2.2.2.1
  have q9 : ∀ w', Below B w10 w' → w'.cell? ⟨w.heap.size, 9, none⟩ = some (.int .i64 c.a) := fun w' h => (box11 (HV10.out.1.1.under h HB.out.1)).2.2.2.2.2.2.2.2.2.1
  have q10 : ∀ w', Below B w10 w' → w'.cell? ⟨w.heap.size, 10, none⟩ = some (.int .i64 c.l) := fun w' h => (box11 (HV10.out.1.1.under h HB.out.1)).2.2.2.2.2.2.2.2.2.2
  have p0 : ∀ w', Below B w10 w' → w'.cell? ⟨g1, 0, none⟩ = some (.int .i64 P.s) := fun w' h => (box5 (HV10.out.2.under h HB.out.2)).1.1
  have p1 : ∀ w', Below B w10 w' → w'.cell? ⟨g1, 1, none⟩ = some (.int .i64 P.u) := fun w' h => (box5 (HV10.out.2.under h HB.out.2)).1.2.1
  have p2 : ∀ w', Below B w10 w' → w'.cell? ⟨g1, 2, none⟩ = some (.int .i64 P.i) := fun w' h => (box5 (HV10.out.2.under h HB.out.2)).1.2.2.1
  have p3 : ∀ w', Below B w10 w' → w'.cell? ⟨g1, 3, none⟩ = some (.int .i64 P.m) := fun w' h => (box5 (HV10.out.2.under h HB.out.2)).1.2.2.2.1
  have p4 : ∀ w', Below B w10 w' → w'.cell? ⟨g1, 4, none⟩ = some (.int .i64 P.p) := fun w' h => (box5 (HV10.out.2.under h HB.out.2)).1.2.2.2.2
  rw [HX.out]
  refine wpB_do (i := 30) (by kernel_rfl) rfl (by rfl) (fun K hK => ?_)
  go_simp
  refine (need_any c P.m a w10).mono ?_
  rintro e w11 ⟨rfl, hb⟩
  have HV11 : Hid (At c w w11 ∧ Box w11 g1 25 #[.int .i64 P.s, .int .i64 P.u, .int .i64 P.i, .int .i64 P.m, .int .i64 P.p]) := ⟨HV10.out.1.later hb, HV10.out.2.later hb⟩
  have HB11 : Hid (B ≤ w11.heap.size) := Nat.le_trans HB10.out hb.size
  have hbk := hb.mono HB10.out
  go_simp
  refine hK.out B _ _ (Nat.le_refl _) hbk ?_
  clear hK hb hbk HV10 HB10 p0 p1 p2 p3 p4 q0 q1 q2 q3 q4 q5 q6 q7 q8 q9 q10
  have q0 : ∀ w', Below B w11 w' → w'.cell? ⟨w.heap.size, 0, none⟩ = some (.int .i64 c.id) := fun w' h => (box11 (HV11.out.1.1.under h HB.out.1)).1
  have q1 : ∀ w', Below B w11 w' → w'.cell? ⟨w.heap.size, 1, none⟩ = some (.int .i64 c.m) := fun w' h => (box11 (HV11.out.1.1.under h HB.out.1)).2.1
  have q2 : ∀ w', Below B w11 w' → w'.cell? ⟨w.heap.size, 2, none⟩ = some (.int .i64 c.u) := fun w' h => (box11 (HV11.out.1.1.under h HB.out.1)).2.2.1
  have q3 : ∀ w', Below B w11 w' → w'.cell? ⟨w.heap.size, 3, none⟩ = some (.int .i64 c.b) := fun w' h => (box11 (HV11.out.1.1.under h HB.out.1)).2.2.2.1
  have q4 : ∀ w', Below B w11 w' → w'.cell? ⟨w.heap.size, 4, none⟩ = some (.int .i64 c.cp) := fun w' h => (box11 (HV11.out.1.1.under h HB.out.1)).2.2.2.2.1
  have q5 : ∀ w', Below B w11 w' → w'.cell? ⟨w.heap.size, 5, none⟩ = some (.int .i64 c.z) := fun w' h => (box11 (HV11.out.1.1.under h HB.out.1)).2.2.2.2.2.1
  have q6 : ∀ w', Below B w11 w' → w'.cell? ⟨w.heap.size, 6, none⟩ = some (.int .i64 c.s) := fun w' h => (box11 (HV11.out.1.1.under h HB.out.1)).2.2.2.2.2.2.1
  have q7 : ∀ w', Below B w11 w' → w'.cell? ⟨w.heap.size, 7, none⟩ = some (.int .i64 c.mt) := fun w' h => (box11 (HV11.out.1.1.under h HB.out.1)).2.2.2.2.2.2.2.1
  have q8 : ∀ w', Below B w11 w' → w'.cell? ⟨w.heap.size, 8, none⟩ = some (.int .i64 c.o) := fun w' h => (box11 (HV11.out.1.1.under h HB.out.1)).2.2.2.2.2.2.2.2.1
  have q9 : ∀ w', Below B w11 w' → w'.cell? ⟨w.heap.size, 9, none⟩ = some (.int .i64 c.a) := fun w' h => (box11 (HV11.out.1.1.under h HB.out.1)).2.2.2.2.2.2.2.2.2.1
  have q10 : ∀ w', Below B w11 w' → w'.cell? ⟨w.heap.size, 10, none⟩ = some (.int .i64 c.l) := fun w' h => (box11 (HV11.out.1.1.under h HB.out.1)).2.2.2.2.2.2.2.2.2.2
  have p0 : ∀ w', Below B w11 w' → w'.cell? ⟨g1, 0, none⟩ = some (.int .i64 P.s) := fun w' h => (box5 (HV11.out.2.under h HB.out.2)).1.1
  have p1 : ∀ w', Below B w11 w' → w'.cell? ⟨g1, 1, none⟩ = some (.int .i64 P.u) := fun w' h => (box5 (HV11.out.2.under h HB.out.2)).1.2.1
  have p2 : ∀ w', Below B w11 w' → w'.cell? ⟨g1, 2, none⟩ = some (.int .i64 P.i) := fun w' h => (box5 (HV11.out.2.under h HB.out.2)).1.2.2.1
  have p3 : ∀ w', Below B w11 w' → w'.cell? ⟨g1, 3, none⟩ = some (.int .i64 P.m) := fun w' h => (box5 (HV11.out.2.under h HB.out.2)).1.2.2.2.1
  have p4 : ∀ w', Below B w11 w' → w'.cell? ⟨g1, 4, none⟩ = some (.int .i64 P.p) := fun w' h => (box5 (HV11.out.2.under h HB.out.2)).1.2.2.2.2
  rw [HN.out]
  refine wpB_do (i := 34) (by kernel_rfl) rfl (by rfl) (fun K hK => ?_)
  go_simp
  refine (grows_any c a P w11 HL.out HC.out HA.out.1 HA.out.2).mono ?_
  rintro e w12 ⟨rfl, hb⟩
  have HV12 : Hid (At c w w12 ∧ Box w12 g1 25 #[.int .i64 P.s, .int .i64 P.u, .int .i64 P.i, .int .i64 P.m, .int .i64 P.p]) := ⟨HV11.out.1.later hb, HV11.out.2.later hb⟩
  have HB12 : Hid (B ≤ w12.heap.size) := Nat.le_trans HB11.out hb.size
  have hbk := hb.mono HB11.out
  go_simp
  refine hK.out B _ _ (Nat.le_refl _) hbk ?_
  clear hK hb hbk HV11 HB11 p0 p1 p2 p3 p4 q0 q1 q2 q3 q4 q5 q6 q7 q8 q9 q10
  have q0 : ∀ w', Below B w12 w' → w'.cell? ⟨w.heap.size, 0, none⟩ = some (.int .i64 c.id) := fun w' h => (box11 (HV12.out.1.1.under h HB.out.1)).1
  have q1 : ∀ w', Below B w12 w' → w'.cell? ⟨w.heap.size, 1, none⟩ = some (.int .i64 c.m) := fun w' h => (box11 (HV12.out.1.1.under h HB.out.1)).2.1
  have q2 : ∀ w', Below B w12 w' → w'.cell? ⟨w.heap.size, 2, none⟩ = some (.int .i64 c.u) := fun w' h => (box11 (HV12.out.1.1.under h HB.out.1)).2.2.1
  have q3 : ∀ w', Below B w12 w' → w'.cell? ⟨w.heap.size, 3, none⟩ = some (.int .i64 c.b) := fun w' h => (box11 (HV12.out.1.1.under h HB.out.1)).2.2.2.1
  have q4 : ∀ w', Below B w12 w' → w'.cell? ⟨w.heap.size, 4, none⟩ = some (.int .i64 c.cp) := fun w' h => (box11 (HV12.out.1.1.under h HB.out.1)).2.2.2.2.1
  have q5 : ∀ w', Below B w12 w' → w'.cell? ⟨w.heap.size, 5, none⟩ = some (.int .i64 c.z) := fun w' h => (box11 (HV12.out.1.1.under h HB.out.1)).2.2.2.2.2.1
  have q6 : ∀ w', Below B w12 w' → w'.cell? ⟨w.heap.size, 6, none⟩ = some (.int .i64 c.s) := fun w' h => (box11 (HV12.out.1.1.under h HB.out.1)).2.2.2.2.2.2.1
  have q7 : ∀ w', Below B w12 w' → w'.cell? ⟨w.heap.size, 7, none⟩ = some (.int .i64 c.mt) := fun w' h => (box11 (HV12.out.1.1.under h HB.out.1)).2.2.2.2.2.2.2.1
  have q8 : ∀ w', Below B w12 w' → w'.cell? ⟨w.heap.size, 8, none⟩ = some (.int .i64 c.o) := fun w' h => (box11 (HV12.out.1.1.under h HB.out.1)).2.2.2.2.2.2.2.2.1
  have q9 : ∀ w', Below B w12 w' → w'.cell? ⟨w.heap.size, 9, none⟩ = some (.int .i64 c.a) := fun w' h => (box11 (HV12.out.1.1.under h HB.out.1)).2.2.2.2.2.2.2.2.2.1
  have q10 : ∀ w', Below B w12 w' → w'.cell? ⟨w.heap.size, 10, none⟩ = some (.int .i64 c.l) := fun w' h => (box11 (HV12.out.1.1.under h HB.out.1)).2.2.2.2.2.2.2.2.2.2
  have p0 : ∀ w', Below B w12 w' → w'.cell? ⟨g1, 0, none⟩ = some (.int .i64 P.s) := fun w' h => (box5 (HV12.out.2.under h HB.out.2)).1.1
  have p1 : ∀ w', Below B w12 w' → w'.cell? ⟨g1, 1, none⟩ = some (.int .i64 P.u) := fun w' h => (box5 (HV12.out.2.under h HB.out.2)).1.2.1
  have p2 : ∀ w', Below B w12 w' → w'.cell? ⟨g1, 2, none⟩ = some (.int .i64 P.i) := fun w' h => (box5 (HV12.out.2.under h HB.out.2)).1.2.2.1
  have p3 : ∀ w', Below B w12 w' → w'.cell? ⟨g1, 3, none⟩ = some (.int .i64 P.m) := fun w' h => (box5 (HV12.out.2.under h HB.out.2)).1.2.2.2.1
  have p4 : ∀ w', Below B w12 w' → w'.cell? ⟨g1, 4, none⟩ = some (.int .i64 P.p) := fun w' h => (box5 (HV12.out.2.under h HB.out.2)).1.2.2.2.2
  rw [HX.out]
  have hw2 : IntKind.i64.wrap (P.p + (X - P.p)) = X := by rw [show P.p + (X - P.p) = X by omega]; exact wrapk_in (by omega) (by omega)
  refine wpB_take (i := 35) (d := 105) (v := ?v7mx35) rfl rfl (by kernel_rfl) (by kernel_rfl) (by kernel_rfl) (fun _ _ _ h => h) (by rfl) ?y7mx35 ?r7mx35
  case y7mx35 => (intro w' hSw; go_simp; try (with_reducible rfl))
  simp only [Act.put, List.setIfInBounds_toArray, List.set_cons_zero, List.set_cons_succ]
  clear hw2
  refine wpB_take (i := 36) (d := 106) (v := ?v7mx36) rfl rfl (by kernel_rfl) (by kernel_rfl) (by kernel_rfl) (fun _ _ _ h => h) (by rfl) ?y7mx36 ?r7mx36
  case y7mx36 => (intro w' hSw; go_simp; try (with_reducible rfl))
  simp only [Act.put, List.setIfInBounds_toArray, List.set_cons_zero, List.set_cons_succ]
  refine wpB_take (i := 37) (d := 107) (v := ?v7mx37) rfl rfl (by kernel_rfl) (by kernel_rfl) (by kernel_rfl) (fun _ _ _ h => h) (by rfl) ?y7mx37 ?r7mx37
  case y7mx37 => (intro w' hSw; go_simp; try (with_reducible rfl))
  simp only [Act.put, List.setIfInBounds_toArray, List.set_cons_zero, List.set_cons_succ]
  refine wpB_take (i := 38) (d := 108) (v := ?v7mx38) rfl rfl (by kernel_rfl) (by kernel_rfl) (by kernel_rfl) (fun _ _ _ h => h) (by rfl) ?y7mx38 ?r7mx38
  case y7mx38 => (intro w' hSw; go_simp; try (with_reducible rfl))
  simp only [Act.put, List.setIfInBounds_toArray, List.set_cons_zero, List.set_cons_succ]
  refine wpB_do (i := 39) (by kernel_rfl) rfl (by rfl) (fun K hK => ?_)
  go_simp
  refine (live_any w12).mono ?_
  rintro e w13 ⟨rfl, hb⟩
  have HV13 : Hid (At c w w13 ∧ Box w13 g1 25 #[.int .i64 P.s, .int .i64 P.u, .int .i64 P.i, .int .i64 P.m, .int .i64 P.p]) := ⟨HV12.out.1.later hb, HV12.out.2.later hb⟩
  have HB13 : Hid (B ≤ w13.heap.size) := Nat.le_trans HB12.out hb.size
  have hbk := hb.mono HB12.out
  go_simp
  refine hK.out B _ _ (Nat.le_refl _) hbk ?_
  clear hK hb hbk HV12 HB12 p0 p1 p2 p3 p4 q0 q1 q2 q3 q4 q5 q6 q7 q8 q9 q10
  have q0 : ∀ w', Below B w13 w' → w'.cell? ⟨w.heap.size, 0, none⟩ = some (.int .i64 c.id) := fun w' h => (box11 (HV13.out.1.1.under h HB.out.1)).1
  have q1 : ∀ w', Below B w13 w' → w'.cell? ⟨w.heap.size, 1, none⟩ = some (.int .i64 c.m) := fun w' h => (box11 (HV13.out.1.1.under h HB.out.1)).2.1
  have q2 : ∀ w', Below B w13 w' → w'.cell? ⟨w.heap.size, 2, none⟩ = some (.int .i64 c.u) := fun w' h => (box11 (HV13.out.1.1.under h HB.out.1)).2.2.1
  have q3 : ∀ w', Below B w13 w' → w'.cell? ⟨w.heap.size, 3, none⟩ = some (.int .i64 c.b) := fun w' h => (box11 (HV13.out.1.1.under h HB.out.1)).2.2.2.1
  have q4 : ∀ w', Below B w13 w' → w'.cell? ⟨w.heap.size, 4, none⟩ = some (.int .i64 c.cp) := fun w' h => (box11 (HV13.out.1.1.under h HB.out.1)).2.2.2.2.1
  have q5 : ∀ w', Below B w13 w' → w'.cell? ⟨w.heap.size, 5, none⟩ = some (.int .i64 c.z) := fun w' h => (box11 (HV13.out.1.1.under h HB.out.1)).2.2.2.2.2.1
  have q6 : ∀ w', Below B w13 w' → w'.cell? ⟨w.heap.size, 6, none⟩ = some (.int .i64 c.s) := fun w' h => (box11 (HV13.out.1.1.under h HB.out.1)).2.2.2.2.2.2.1
  have q7 : ∀ w', Below B w13 w' → w'.cell? ⟨w.heap.size, 7, none⟩ = some (.int .i64 c.mt) := fun w' h => (box11 (HV13.out.1.1.under h HB.out.1)).2.2.2.2.2.2.2.1
  have q8 : ∀ w', Below B w13 w' → w'.cell? ⟨w.heap.size, 8, none⟩ = some (.int .i64 c.o) := fun w' h => (box11 (HV13.out.1.1.under h HB.out.1)).2.2.2.2.2.2.2.2.1
  have q9 : ∀ w', Below B w13 w' → w'.cell? ⟨w.heap.size, 9, none⟩ = some (.int .i64 c.a) := fun w' h => (box11 (HV13.out.1.1.under h HB.out.1)).2.2.2.2.2.2.2.2.2.1
  have q10 : ∀ w', Below B w13 w' → w'.cell? ⟨w.heap.size, 10, none⟩ = some (.int .i64 c.l) := fun w' h => (box11 (HV13.out.1.1.under h HB.out.1)).2.2.2.2.2.2.2.2.2.2
  have p0 : ∀ w', Below B w13 w' → w'.cell? ⟨g1, 0, none⟩ = some (.int .i64 P.s) := fun w' h => (box5 (HV13.out.2.under h HB.out.2)).1.1
  have p1 : ∀ w', Below B w13 w' → w'.cell? ⟨g1, 1, none⟩ = some (.int .i64 P.u) := fun w' h => (box5 (HV13.out.2.under h HB.out.2)).1.2.1
  have p2 : ∀ w', Below B w13 w' → w'.cell? ⟨g1, 2, none⟩ = some (.int .i64 P.i) := fun w' h => (box5 (HV13.out.2.under h HB.out.2)).1.2.2.1
  have p3 : ∀ w', Below B w13 w' → w'.cell? ⟨g1, 3, none⟩ = some (.int .i64 P.m) := fun w' h => (box5 (HV13.out.2.under h HB.out.2)).1.2.2.2.1
  have p4 : ∀ w', Below B w13 w' → w'.cell? ⟨g1, 4, none⟩ = some (.int .i64 P.p) := fun w' h => (box5 (HV13.out.2.under h HB.out.2)).1.2.2.2.2
  refine wpB_take (i := 40) (d := 110) (v := ?v7mx40) rfl rfl (by kernel_rfl) (by kernel_rfl) (by kernel_rfl) (fun _ _ _ h => h) (by rfl) ?y7mx40 ?r7mx40
  case y7mx40 => (intro w' hSw; go_simp; try (with_reducible rfl))
  simp only [Act.put, List.setIfInBounds_toArray, List.set_cons_zero, List.set_cons_succ]
  refine wpB_take (i := 41) (d := 6) (v := ?v7mx41) rfl rfl (by kernel_rfl) (by kernel_rfl) (by kernel_rfl) (fun _ _ _ h => h) (by rfl) ?y7mx41 ?r7mx41
  case y7mx41 => (intro w' hSw; go_simp; try (with_reducible rfl))
  simp only [Act.put, List.setIfInBounds_toArray, List.set_cons_zero, List.set_cons_succ]
  refine wpB_done (by kernel_rfl) ?_
  go_wp2
  go_ret
  exact ⟨rfl, HV13.out.1.2.1⟩
end Go.Proofs.Ytlefjllpeapomaa
