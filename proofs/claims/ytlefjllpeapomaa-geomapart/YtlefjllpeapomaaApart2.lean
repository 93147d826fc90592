/- For all settings and numbers the law GeomApart returns true: the walk, where one lies behind the other. -/
import Derived.Test.YtlefjllpeapomaaZ
namespace Go.Proofs.Ytlefjllpeapomaa
set_option linter.unusedVariables false
set_option linter.unusedSimpArgs false
open Go.RowKit
open Go.RowKit (wrap64)

set_option maxRecDepth 100000 in
set_option maxHeartbeats 2000000 in
theorem apart_lt (c : Cf) (a b X : Int) (P Q : Pl) (w : World) (hc : checkC c = 0) (hP : ofA c a = P) (hQ : ofA c b = Q) (hPb : ofB c a = true) (hQb : ofB c b = true) (hl : Lies c a P) (h0 : 0 ≤ a) (h1 : a < stripesC c * (dataC c * c.u)) (hX : needA c P.m (a + 1) = X) (hX0 : 0 ≤ X) (hX1 : X ≤ 61440000) (hab : a < b) (hm : P.m = Q.m) (hp : P.p < Q.p) :
    Calls Try.prog 5 #[(.agg #[.int .i64 c.id, .int .i64 c.m, .int .i64 c.u, .int .i64 c.b, .int .i64 c.cp, .int .i64 c.z, .int .i64 c.s, .int .i64 c.mt, .int .i64 c.o, .int .i64 c.a, .int .i64 c.l]), .int .i64 a, .int .i64 b] w (Says w (.bool true)) := by
  have HC := Lib.hid hc
  have HL := Lib.hid hl
  have HA := Lib.hid (And.intro h0 h1)
  have HP := Lib.hid (And.intro hP hPb)
  have HQ := Lib.hid (And.intro hQ hQb)
  have HX := Lib.hid hX
  have HN := Lib.hid (hl.need hc h0 h1)
  have HK := Lib.hid (hl.back hc)
  have g1 := hl.big hc
  have g2 : a ≤ 61440 := by have := (ok_of hc).z2; omega
  clear hc hl hP hQ hPb hQb hX h1
  have e0 : ¬ a = b := by omega
  have e1 : (a == b) = false := by simpa using e0
  have e2 : (P.m == Q.m) = true := by simpa using hm
  have e2b : (P.m != Q.m) = false := by simpa using hm
  clear hm
  have e3 : ¬ P.p = Q.p := by omega
  have e4 : (P.p == Q.p) = false := by simpa using e3
  have e4b : (P.p != Q.p) = true := by simpa using e3
  go_enter Try.func5, Try.ntmps5
  go_wp2_with fail
  have HV0 := Lib.hid (At.new c w)
  generalize (w.alloc (.cells #[.int .i64 c.id, .int .i64 c.m, .int .i64 c.u, .int .i64 c.b, .int .i64 c.cp, .int .i64 c.z, .int .i64 c.s, .int .i64 c.mt, .int .i64 c.o, .int .i64 c.a, .int .i64 c.l] 23)) = w0 at HV0 ⊢
  obtain ⟨y0, y1, y2, y3, y4, y5, y6, y7, y8, y9, y10⟩ := box11 HV0.out.1
  refine (of_any c a w0).mono ?_
  rintro e w1 ⟨rfl, hb⟩
  rw [HP.out.1, HP.out.2]
  have HV1 := Lib.hid (HV0.out.later hb)
  clear hb HV0 y0 y1 y2 y3 y4 y5 y6 y7 y8 y9 y10
  obtain ⟨y0, y1, y2, y3, y4, y5, y6, y7, y8, y9, y10⟩ := box11 HV1.out.1
  go_upto_region 2 with fail
  have HV2 : Hid (At c w (w1.alloc (.cells #[.int .i64 P.s, .int .i64 P.u, .int .i64 P.i, .int .i64 P.m, .int .i64 P.p] 25)) ∧ Box (w1.alloc (.cells #[.int .i64 P.s, .int .i64 P.u, .int .i64 P.i, .int .i64 P.m, .int .i64 P.p] 25)) w1.heap.size 25 #[.int .i64 P.s, .int .i64 P.u, .int .i64 P.i, .int .i64 P.m, .int .i64 P.p]) := ⟨HV1.out.alloc _, Box.fresh w1 25 _⟩
  generalize (w1.alloc (.cells #[.int .i64 P.s, .int .i64 P.u, .int .i64 P.i, .int .i64 P.m, .int .i64 P.p] 25)) = w2 at HV2 ⊢
  generalize w1.heap.size = g1 at HV2 ⊢
  clear HV1 y0 y1 y2 y3 y4 y5 y6 y7 y8 y9 y10
  obtain ⟨y0, y1, y2, y3, y4, y5, y6, y7, y8, y9, y10⟩ := box11 HV2.out.1.1
  go_wp2_with fail
  refine (of_any c b w2).mono ?_
  rintro e w3 ⟨rfl, hb⟩
  rw [HQ.out.1, HQ.out.2]
  have HV3 : Hid (At c w w3 ∧ Box w3 g1 25 #[.int .i64 P.s, .int .i64 P.u, .int .i64 P.i, .int .i64 P.m, .int .i64 P.p]) := ⟨HV2.out.1.later hb, HV2.out.2.later hb⟩
  clear hb HV2 y0 y1 y2 y3 y4 y5 y6 y7 y8 y9 y10
  obtain ⟨y0, y1, y2, y3, y4, y5, y6, y7, y8, y9, y10⟩ := box11 HV3.out.1.1
  go_upto_region 3 with fail
  have HV4 : Hid ((At c w (w3.alloc (.cells #[.int .i64 Q.s, .int .i64 Q.u, .int .i64 Q.i, .int .i64 Q.m, .int .i64 Q.p] 25)) ∧ Box (w3.alloc (.cells #[.int .i64 Q.s, .int .i64 Q.u, .int .i64 Q.i, .int .i64 Q.m, .int .i64 Q.p] 25)) g1 25 #[.int .i64 P.s, .int .i64 P.u, .int .i64 P.i, .int .i64 P.m, .int .i64 P.p]) ∧ Box (w3.alloc (.cells #[.int .i64 Q.s, .int .i64 Q.u, .int .i64 Q.i, .int .i64 Q.m, .int .i64 Q.p] 25)) w3.heap.size 25 #[.int .i64 Q.s, .int .i64 Q.u, .int .i64 Q.i, .int .i64 Q.m, .int .i64 Q.p]) := ⟨⟨HV3.out.1.alloc _, HV3.out.2.later ((Below.refl _ _).alloc (Nat.le_refl _) _)⟩, Box.fresh w3 25 _⟩
  generalize (w3.alloc (.cells #[.int .i64 Q.s, .int .i64 Q.u, .int .i64 Q.i, .int .i64 Q.m, .int .i64 Q.p] 25)) = w4 at HV4 ⊢
  generalize w3.heap.size = g2 at HV4 ⊢
  clear HV3 y0 y1 y2 y3 y4 y5 y6 y7 y8 y9 y10
  obtain ⟨y0, y1, y2, y3, y4, y5, y6, y7, y8, y9, y10⟩ := box11 HV4.out.1.1.1
  obtain ⟨⟨z0, z1, z2, z3, z4⟩, f0, f1, f2, f3, f4⟩ := box5 HV4.out.1.2
  go_wp2_with fail
  refine (back_any c P.m P.p w4).mono ?_
  rintro e w5 ⟨rfl, hb⟩
  rw [HK.out]
  have HV5 : Hid ((At c w w5 ∧ Box w5 g1 25 #[.int .i64 P.s, .int .i64 P.u, .int .i64 P.i, .int .i64 P.m, .int .i64 P.p]) ∧ Box w5 g2 25 #[.int .i64 Q.s, .int .i64 Q.u, .int .i64 Q.i, .int .i64 Q.m, .int .i64 Q.p]) := ⟨⟨HV4.out.1.1.later hb, HV4.out.1.2.later hb⟩, HV4.out.2.later hb⟩
  clear hb HV4 y0 y1 y2 y3 y4 y5 y6 y7 y8 y9 y10 z0 z1 z2 z3 z4 f0 f1 f2 f3 f4
  obtain ⟨y0, y1, y2, y3, y4, y5, y6, y7, y8, y9, y10⟩ := box11 HV5.out.1.1.1
  obtain ⟨⟨z0, z1, z2, z3, z4⟩, f0, f1, f2, f3, f4⟩ := box5 HV5.out.1.2
  obtain ⟨⟨t0, t1, t2, t3, t4⟩, j0, j1, j2, j3, j4⟩ := box5 HV5.out.2
  go_wp2_with fail
  clear y0 y1 y2 y3 y4 y5 y6 y7 y8 y9 y10 z0 z1 z2 z3 z4 f0 f1 f2 f3 f4 t0 t1 t2 t3 t4 j0 j1 j2 j3 j4
  refine wpB_start w5.drew.heap.size (by kernel_rfl) ?_
  have HV8 : Hid (At c w w5.drew ∧ Box w5.drew g1 25 #[.int .i64 P.s, .int .i64 P.u, .int .i64 P.i, .int .i64 P.m, .int .i64 P.p]) := ⟨HV5.out.1.1.drew, HV5.out.1.2.later (Below.refl _ _).drew⟩
  generalize w5.drew = w8 at HV8 ⊢
  have HB : Hid (w.heap.size < w8.heap.size ∧ g1 < w8.heap.size) := ⟨HV8.out.1.2.2, HV8.out.2.lt⟩
  generalize hBe : w8.heap.size = B at HB ⊢
  have HB8 : Hid (B ≤ w8.heap.size) := Nat.le_of_eq hBe.symm
  clear hBe HV5
  have q0 : ∀ w', Below B w8 w' → w'.cell? ⟨w.heap.size, 0, none⟩ = some (.int .i64 c.id) := fun w' h => (box11 (HV8.out.1.1.under h HB.out.1)).1
  have q1 : ∀ w', Below B w8 w' → w'.cell? ⟨w.heap.size, 1, none⟩ = some (.int .i64 c.m) := fun w' h => (box11 (HV8.out.1.1.under h HB.out.1)).2.1
  have q2 : ∀ w', Below B w8 w' → w'.cell? ⟨w.heap.size, 2, none⟩ = some (.int .i64 c.u) := fun w' h => (box11 (HV8.out.1.1.under h HB.out.1)).2.2.1
  have q3 : ∀ w', Below B w8 w' → w'.cell? ⟨w.heap.size, 3, none⟩ = some (.int .i64 c.b) := fun w' h => (box11 (HV8.out.1.1.under h HB.out.1)).2.2.2.1
  have q4 : ∀ w', Below B w8 w' → w'.cell? ⟨w.heap.size, 4, none⟩ = some (.int .i64 c.cp) := fun w' h => (box11 (HV8.out.1.1.under h HB.out.1)).2.2.2.2.1
  have q5 : ∀ w', Below B w8 w' → w'.cell? ⟨w.heap.size, 5, none⟩ = some (.int .i64 c.z) := fun w' h => (box11 (HV8.out.1.1.under h HB.out.1)).2.2.2.2.2.1
  have q6 : ∀ w', Below B w8 w' → w'.cell? ⟨w.heap.size, 6, none⟩ = some (.int .i64 c.s) := fun w' h => (box11 (HV8.out.1.1.under h HB.out.1)).2.2.2.2.2.2.1
  have q7 : ∀ w', Below B w8 w' → w'.cell? ⟨w.heap.size, 7, none⟩ = some (.int .i64 c.mt) := fun w' h => (box11 (HV8.out.1.1.under h HB.out.1)).2.2.2.2.2.2.2.1
  have q8 : ∀ w', Below B w8 w' → w'.cell? ⟨w.heap.size, 8, none⟩ = some (.int .i64 c.o) := fun w' h => (box11 (HV8.out.1.1.under h HB.out.1)).2.2.2.2.2.2.2.2.1
  have q9 : ∀ w', Below B w8 w' → w'.cell? ⟨w.heap.size, 9, none⟩ = some (.int .i64 c.a) := fun w' h => (box11 (HV8.out.1.1.under h HB.out.1)).2.2.2.2.2.2.2.2.2.1
  have q10 : ∀ w', Below B w8 w' → w'.cell? ⟨w.heap.size, 10, none⟩ = some (.int .i64 c.l) := fun w' h => (box11 (HV8.out.1.1.under h HB.out.1)).2.2.2.2.2.2.2.2.2.2
  have p0 : ∀ w', Below B w8 w' → w'.cell? ⟨g1, 0, none⟩ = some (.int .i64 P.s) := fun w' h => (box5 (HV8.out.2.under h HB.out.2)).1.1
  have p1 : ∀ w', Below B w8 w' → w'.cell? ⟨g1, 1, none⟩ = some (.int .i64 P.u) := fun w' h => (box5 (HV8.out.2.under h HB.out.2)).1.2.1
  have p2 : ∀ w', Below B w8 w' → w'.cell? ⟨g1, 2, none⟩ = some (.int .i64 P.i) := fun w' h => (box5 (HV8.out.2.under h HB.out.2)).1.2.2.1
  have p3 : ∀ w', Below B w8 w' → w'.cell? ⟨g1, 3, none⟩ = some (.int .i64 P.m) := fun w' h => (box5 (HV8.out.2.under h HB.out.2)).1.2.2.2.1
  have p4 : ∀ w', Below B w8 w' → w'.cell? ⟨g1, 4, none⟩ = some (.int .i64 P.p) := fun w' h => (box5 (HV8.out.2.under h HB.out.2)).1.2.2.2.2
  refine wpB_take (i := 0) (d := 70) (v := ?v7ltx0) rfl rfl (by kernel_rfl) (by kernel_rfl) (by kernel_rfl) (fun _ _ _ h => h) (by rfl) ?y7ltx0 ?r7ltx0
  case y7ltx0 => (intro w' hSw; go_simp; try (with_reducible rfl))
  simp only [Act.put, List.setIfInBounds_toArray, List.set_cons_zero, List.set_cons_succ]
  refine wpB_take (i := 1) (d := 71) (v := ?v7ltx1) rfl rfl (by kernel_rfl) (by kernel_rfl) (by kernel_rfl) (fun _ _ _ h => h) (by rfl) ?y7ltx1 ?r7ltx1
  case y7ltx1 => (intro w' hSw; go_simp; try (with_reducible rfl))
  simp only [Act.put, List.setIfInBounds_toArray, List.set_cons_zero, List.set_cons_succ]
  refine wpB_take (i := 2) (d := 72) (v := ?v7ltx2) rfl rfl (by kernel_rfl) (by kernel_rfl) (by kernel_rfl) (fun _ _ _ h => h) (by rfl) ?y7ltx2 ?r7ltx2
  case y7ltx2 => (intro w' hSw; go_simp; try (with_reducible rfl))
  simp only [Act.put, List.setIfInBounds_toArray, List.set_cons_zero, List.set_cons_succ]
  refine wpB_take (i := 3) (d := 73) (v := ?v7ltx3) rfl rfl (by kernel_rfl) (by kernel_rfl) (by kernel_rfl) (fun _ _ _ h => h) (by rfl) ?y7ltx3 ?r7ltx3
  case y7ltx3 => (intro w' hSw; go_simp; try (with_reducible rfl))
  simp only [Act.put, List.setIfInBounds_toArray, List.set_cons_zero, List.set_cons_succ]
  refine wpB_take (i := 4) (d := 74) (v := ?v7ltx4) rfl rfl (by kernel_rfl) (by kernel_rfl) (by kernel_rfl) (fun _ _ _ h => h) (by rfl) ?y7ltx4 ?r7ltx4
  case y7ltx4 => (intro w' hSw; go_simp; try (with_reducible rfl))
  simp only [Act.put, List.setIfInBounds_toArray, List.set_cons_zero, List.set_cons_succ]
  refine wpB_take (i := 5) (d := 75) (v := ?v7ltx5) rfl rfl (by kernel_rfl) (by kernel_rfl) (by kernel_rfl) (fun _ _ _ h => h) (by rfl) ?y7ltx5 ?r7ltx5
  case y7ltx5 => (intro w' hSw; go_simp; try (with_reducible rfl))
  simp only [Act.put, List.setIfInBounds_toArray, List.set_cons_zero, List.set_cons_succ]
  refine wpB_take (i := 6) (d := 76) (v := ?v7ltx6) rfl rfl (by kernel_rfl) (by kernel_rfl) (by kernel_rfl) (fun _ _ _ h => h) (by rfl) ?y7ltx6 ?r7ltx6
  case y7ltx6 => (intro w' hSw; go_simp; try (with_reducible rfl))
  simp only [Act.put, List.setIfInBounds_toArray, List.set_cons_zero, List.set_cons_succ]
  refine wpB_take (i := 7) (d := 77) (v := ?v7ltx7) rfl rfl (by kernel_rfl) (by kernel_rfl) (by kernel_rfl) (fun _ _ _ h => h) (by rfl) ?y7ltx7 ?r7ltx7
  case y7ltx7 => (intro w' hSw; go_simp; try (with_reducible rfl))
  simp only [Act.put, List.setIfInBounds_toArray, List.set_cons_zero, List.set_cons_succ]
  refine wpB_take (i := 8) (d := 78) (v := ?v7ltx8) rfl rfl (by kernel_rfl) (by kernel_rfl) (by kernel_rfl) (fun _ _ _ h => h) (by rfl) ?y7ltx8 ?r7ltx8
  case y7ltx8 => (intro w' hSw; go_simp; try (with_reducible rfl))
  simp only [Act.put, List.setIfInBounds_toArray, List.set_cons_zero, List.set_cons_succ]
  refine wpB_take (i := 9) (d := 79) (v := ?v7ltx9) rfl rfl (by kernel_rfl) (by kernel_rfl) (by kernel_rfl) (fun _ _ _ h => h) (by rfl) ?y7ltx9 ?r7ltx9
  case y7ltx9 => (intro w' hSw; go_simp; try (with_reducible rfl))
  simp only [Act.put, List.setIfInBounds_toArray, List.set_cons_zero, List.set_cons_succ]
  refine wpB_take (i := 10) (d := 80) (v := ?v7ltx10) rfl rfl (by kernel_rfl) (by kernel_rfl) (by kernel_rfl) (fun _ _ _ h => h) (by rfl) ?y7ltx10 ?r7ltx10
  case y7ltx10 => (intro w' hSw; go_simp; try (with_reducible rfl))
  simp only [Act.put, List.setIfInBounds_toArray, List.set_cons_zero, List.set_cons_succ]
  refine wpB_take (i := 11) (d := 81) (v := ?v7ltx11) rfl rfl (by kernel_rfl) (by kernel_rfl) (by kernel_rfl) (fun _ _ _ h => h) (by rfl) ?y7ltx11 ?r7ltx11
  case y7ltx11 => (intro w' hSw; go_simp; try (with_reducible rfl))
  simp only [Act.put, List.setIfInBounds_toArray, List.set_cons_zero, List.set_cons_succ]
  refine wpB_take (i := 12) (d := 82) (v := ?v7ltx12) rfl rfl (by kernel_rfl) (by kernel_rfl) (by kernel_rfl) (fun _ _ _ h => h) (by rfl) ?y7ltx12 ?r7ltx12
  case y7ltx12 => (intro w' hSw; go_simp; try (with_reducible rfl))
  simp only [Act.put, List.setIfInBounds_toArray, List.set_cons_zero, List.set_cons_succ]
  refine wpB_take (i := 13) (d := 83) (v := ?v7ltx13) rfl rfl (by kernel_rfl) (by kernel_rfl) (by kernel_rfl) (fun _ _ _ h => h) (by rfl) ?y7ltx13 ?r7ltx13
  case y7ltx13 => (intro w' hSw; go_simp; try (with_reducible rfl))
  simp only [Act.put, List.setIfInBounds_toArray, List.set_cons_zero, List.set_cons_succ]
  refine wpB_take (i := 15) (d := 85) (v := ?v7ltx15) rfl rfl (by kernel_rfl) (by kernel_rfl) (by kernel_rfl) (fun _ _ _ h => h) (by rfl) ?y7ltx15 ?r7ltx15
  case y7ltx15 => (intro w' hSw; go_simp; try (with_reducible rfl))
  simp only [Act.put, List.setIfInBounds_toArray, List.set_cons_zero, List.set_cons_succ]
  refine wpB_take (i := 16) (d := 86) (v := ?v7ltx16) rfl rfl (by kernel_rfl) (by kernel_rfl) (by kernel_rfl) (fun _ _ _ h => h) (by rfl) ?y7ltx16 ?r7ltx16
  case y7ltx16 => (intro w' hSw; go_simp; try (with_reducible rfl))
  simp only [Act.put, List.setIfInBounds_toArray, List.set_cons_zero, List.set_cons_succ]
  refine wpB_do (i := 14) (by kernel_rfl) rfl (by rfl) (fun K hK => ?_)
  go_simp
  refine (need_any c P.m a w8).mono ?_
  rintro e w9 ⟨rfl, hb⟩
  have HV9 : Hid (At c w w9 ∧ Box w9 g1 25 #[.int .i64 P.s, .int .i64 P.u, .int .i64 P.i, .int .i64 P.m, .int .i64 P.p]) := ⟨HV8.out.1.later hb, HV8.out.2.later hb⟩
  have HB9 : Hid (B ≤ w9.heap.size) := Nat.le_trans HB8.out hb.size
  have hbk := hb.mono HB8.out
  go_simp
  refine hK.out B _ _ (Nat.le_refl _) hbk ?_
  clear hK hb hbk HV8 HB8 p0 p1 p2 p3 p4 q0 q1 q2 q3 q4 q5 q6 q7 q8 q9 q10
  have q0 : ∀ w', Below B w9 w' → w'.cell? ⟨w.heap.size, 0, none⟩ = some (.int .i64 c.id) := fun w' h => (box11 (HV9.out.1.1.under h HB.out.1)).1
  have q1 : ∀ w', Below B w9 w' → w'.cell? ⟨w.heap.size, 1, none⟩ = some (.int .i64 c.m) := fun w' h => (box11 (HV9.out.1.1.under h HB.out.1)).2.1
  have q2 : ∀ w', Below B w9 w' → w'.cell? ⟨w.heap.size, 2, none⟩ = some (.int .i64 c.u) := fun w' h => (box11 (HV9.out.1.1.under h HB.out.1)).2.2.1
  have q3 : ∀ w', Below B w9 w' → w'.cell? ⟨w.heap.size, 3, none⟩ = some (.int .i64 c.b) := fun w' h => (box11 (HV9.out.1.1.under h HB.out.1)).2.2.2.1
  have q4 : ∀ w', Below B w9 w' → w'.cell? ⟨w.heap.size, 4, none⟩ = some (.int .i64 c.cp) := fun w' h => (box11 (HV9.out.1.1.under h HB.out.1)).2.2.2.2.1
  have q5 : ∀ w', Below B w9 w' → w'.cell? ⟨w.heap.size, 5, none⟩ = some (.int .i64 c.z) := fun w' h => (box11 (HV9.out.1.1.under h HB.out.1)).2.2.2.2.2.1
  have q6 : ∀ w', Below B w9 w' → w'.cell? ⟨w.heap.size, 6, none⟩ = some (.int .i64 c.s) := fun w' h => (box11 (HV9.out.1.1.under h HB.out.1)).2.2.2.2.2.2.1
  have q7 : ∀ w', Below B w9 w' → w'.cell? ⟨w.heap.size, 7, none⟩ = some (.int .i64 c.mt) := fun w' h => (box11 (HV9.out.1.1.under h HB.out.1)).2.2.2.2.2.2.2.1
  have q8 : ∀ w', Below B w9 w' → w'.cell? ⟨w.heap.size, 8, none⟩ = some (.int .i64 c.o) := fun w' h => (box11 (HV9.out.1.1.under h HB.out.1)).2.2.2.2.2.2.2.2.1
  have q9 : ∀ w', Below B w9 w' → w'.cell? ⟨w.heap.size, 9, none⟩ = some (.int .i64 c.a) := fun w' h => (box11 (HV9.out.1.1.under h HB.out.1)).2.2.2.2.2.2.2.2.2.1
  have q10 : ∀ w', Below B w9 w' → w'.cell? ⟨w.heap.size, 10, none⟩ = some (.int .i64 c.l) := fun w' h => (box11 (HV9.out.1.1.under h HB.out.1)).2.2.2.2.2.2.2.2.2.2
  have p0 : ∀ w', Below B w9 w' → w'.cell? ⟨g1, 0, none⟩ = some (.int .i64 P.s) := fun w' h => (box5 (HV9.out.2.under h HB.out.2)).1.1
  have p1 : ∀ w', Below B w9 w' → w'.cell? ⟨g1, 1, none⟩ = some (.int .i64 P.u) := fun w' h => (box5 (HV9.out.2.under h HB.out.2)).1.2.1
  have p2 : ∀ w', Below B w9 w' → w'.cell? ⟨g1, 2, none⟩ = some (.int .i64 P.i) := fun w' h => (box5 (HV9.out.2.under h HB.out.2)).1.2.2.1
  have p3 : ∀ w', Below B w9 w' → w'.cell? ⟨g1, 3, none⟩ = some (.int .i64 P.m) := fun w' h => (box5 (HV9.out.2.under h HB.out.2)).1.2.2.2.1
  have p4 : ∀ w', Below B w9 w' → w'.cell? ⟨g1, 4, none⟩ = some (.int .i64 P.p) := fun w' h => (box5 (HV9.out.2.under h HB.out.2)).1.2.2.2.2
  rw [HN.out]
  refine wpB_take (i := 17) (d := 87) (v := ?v7ltx17) rfl rfl (by kernel_rfl) (by kernel_rfl) (by kernel_rfl) (fun _ _ _ h => h) (by rfl) ?y7ltx17 ?r7ltx17
  case y7ltx17 => (intro w' hSw; go_simp; try (with_reducible rfl))
  simp only [Act.put, List.setIfInBounds_toArray, List.set_cons_zero, List.set_cons_succ]
  refine wpB_take (i := 18) (d := 88) (v := ?v7ltx18) rfl rfl (by kernel_rfl) (by kernel_rfl) (by kernel_rfl) (fun _ _ _ h => h) (by rfl) ?y7ltx18 ?r7ltx18
  case y7ltx18 => (intro w' hSw; go_simp; try (with_reducible rfl))
  simp only [Act.put, List.setIfInBounds_toArray, List.set_cons_zero, List.set_cons_succ]
  refine wpB_take (i := 19) (d := 89) (v := ?v7ltx19) rfl rfl (by kernel_rfl) (by kernel_rfl) (by kernel_rfl) (fun _ _ _ h => h) (by rfl) ?y7ltx19 ?r7ltx19
  case y7ltx19 => (intro w' hSw; go_simp; try (with_reducible rfl))
  simp only [Act.put, List.setIfInBounds_toArray, List.set_cons_zero, List.set_cons_succ]
  refine wpB_take (i := 20) (d := 90) (v := ?v7ltx20) rfl rfl (by kernel_rfl) (by kernel_rfl) (by kernel_rfl) (fun _ _ _ h => h) (by rfl) ?y7ltx20 ?r7ltx20
  case y7ltx20 => (intro w' hSw; go_simp; try (with_reducible rfl))
  simp only [Act.put, List.setIfInBounds_toArray, List.set_cons_zero, List.set_cons_succ]
  refine wpB_take (i := 21) (d := 91) (v := ?v7ltx21) rfl rfl (by kernel_rfl) (by kernel_rfl) (by kernel_rfl) (fun _ _ _ h => h) (by rfl) ?y7ltx21 ?r7ltx21
  case y7ltx21 => (intro w' hSw; go_simp; try (with_reducible rfl))
  simp only [Act.put, List.setIfInBounds_toArray, List.set_cons_zero, List.set_cons_succ]
  refine wpB_take (i := 22) (d := 92) (v := ?v7ltx22) rfl rfl (by kernel_rfl) (by kernel_rfl) (by kernel_rfl) (fun _ _ _ h => h) (by rfl) ?y7ltx22 ?r7ltx22
  case y7ltx22 => (intro w' hSw; go_simp; try (with_reducible rfl))
  simp only [Act.put, List.setIfInBounds_toArray, List.set_cons_zero, List.set_cons_succ]
  refine wpB_take (i := 23) (d := 93) (v := ?v7ltx23) rfl rfl (by kernel_rfl) (by kernel_rfl) (by kernel_rfl) (fun _ _ _ h => h) (by rfl) ?y7ltx23 ?r7ltx23
  case y7ltx23 => (intro w' hSw; go_simp; try (with_reducible rfl))
  simp only [Act.put, List.setIfInBounds_toArray, List.set_cons_zero, List.set_cons_succ]
  have hw1 : IntKind.i64.wrap (a + 1) = a + 1 := wrapk_in (by omega) (by omega)
  refine wpB_take (i := 24) (d := 94) (v := ?v7ltx24) rfl rfl (by kernel_rfl) (by kernel_rfl) (by kernel_rfl) (fun _ _ _ h => h) (by rfl) ?y7ltx24 ?r7ltx24
  case y7ltx24 => (intro w' hSw; go_simp; try (with_reducible rfl))
  simp only [Act.put, List.setIfInBounds_toArray, List.set_cons_zero, List.set_cons_succ]
  clear hw1
  refine wpB_take (i := 26) (d := 96) (v := ?v7ltx26) rfl rfl (by kernel_rfl) (by kernel_rfl) (by kernel_rfl) (fun _ _ _ h => h) (by rfl) ?y7ltx26 ?r7ltx26
  case y7ltx26 => (intro w' hSw; go_simp; try (with_reducible rfl))
  simp only [Act.put, List.setIfInBounds_toArray, List.set_cons_zero, List.set_cons_succ]
  refine wpB_take (i := 27) (d := 97) (v := ?v7ltx27) rfl rfl (by kernel_rfl) (by kernel_rfl) (by kernel_rfl) (fun _ _ _ h => h) (by rfl) ?y7ltx27 ?r7ltx27
  case y7ltx27 => (intro w' hSw; go_simp; try (with_reducible rfl))
  simp only [Act.put, List.setIfInBounds_toArray, List.set_cons_zero, List.set_cons_succ]
  refine wpB_take (i := 28) (d := 98) (v := ?v7ltx28) rfl rfl (by kernel_rfl) (by kernel_rfl) (by kernel_rfl) (fun _ _ _ h => h) (by rfl) ?y7ltx28 ?r7ltx28
  case y7ltx28 => (intro w' hSw; go_simp; try (with_reducible rfl))
  simp only [Act.put, List.setIfInBounds_toArray, List.set_cons_zero, List.set_cons_succ]
  refine wpB_take (i := 29) (d := 99) (v := ?v7ltx29) rfl rfl (by kernel_rfl) (by kernel_rfl) (by kernel_rfl) (fun _ _ _ h => h) (by rfl) ?y7ltx29 ?r7ltx29
  case y7ltx29 => (intro w' hSw; go_simp; try (with_reducible rfl))
  simp only [Act.put, List.setIfInBounds_toArray, List.set_cons_zero, List.set_cons_succ]
  refine wpB_take (i := 31) (d := 101) (v := ?v7ltx31) rfl rfl (by kernel_rfl) (by kernel_rfl) (by kernel_rfl) (fun _ _ _ h => h) (by rfl) ?y7ltx31 ?r7ltx31
  case y7ltx31 => (intro w' hSw; go_simp; try (with_reducible rfl))
  simp only [Act.put, List.setIfInBounds_toArray, List.set_cons_zero, List.set_cons_succ]
  refine wpB_take (i := 32) (d := 102) (v := ?v7ltx32) rfl rfl (by kernel_rfl) (by kernel_rfl) (by kernel_rfl) (fun _ _ _ h => h) (by rfl) ?y7ltx32 ?r7ltx32
  case y7ltx32 => (intro w' hSw; go_simp; try (with_reducible rfl))
  simp only [Act.put, List.setIfInBounds_toArray, List.set_cons_zero, List.set_cons_succ]
  refine wpB_take (i := 33) (d := 103) (v := ?v7ltx33) rfl rfl (by kernel_rfl) (by kernel_rfl) (by kernel_rfl) (fun _ _ _ h => h) (by rfl) ?y7ltx33 ?r7ltx33
  case y7ltx33 => (intro w' hSw; go_simp; try (with_reducible rfl))
  simp only [Act.put, List.setIfInBounds_toArray, List.set_cons_zero, List.set_cons_succ]
  refine wpB_do (i := 25) (by kernel_rfl) rfl (by rfl) (fun K hK => ?_)
  go_simp
  refine (need_any c P.m (a + 1) w9).mono ?_
  rintro e w10 ⟨rfl, hb⟩
  have HV10 : Hid (At c w w10 ∧ Box w10 g1 25 #[.int .i64 P.s, .int .i64 P.u, .int .i64 P.i, .int .i64 P.m, .int .i64 P.p]) := ⟨HV9.out.1.later hb, HV9.out.2.later hb⟩
  have HB10 : Hid (B ≤ w10.heap.size) := Nat.le_trans HB9.out hb.size
  have hbk := hb.mono HB9.out
  go_simp
  refine hK.out B _ _ (Nat.le_refl _) hbk ?_
  clear hK hb hbk HV9 HB9 p0 p1 p2 p3 p4 q0 q1 q2 q3 q4 q5 q6 q7 q8 q9 q10
  have q0 : ∀ w', Below B w10 w' → w'.cell? ⟨w.heap.size, 0, none⟩ = some (.int .i64 c.id) := fun w' h => (box11 (HV10.out.1.1.under h HB.out.1)).1
  have q1 : ∀ w', Below B w10 w' → w'.cell? ⟨w.heap.size, 1, none⟩ = some (.int .i64 c.m) := fun w' h => (box11 (HV10.out.1.1.under h HB.out.1)).2.1
  have q2 : ∀ w', Below B w10 w' → w'.cell? ⟨w.heap.size, 2, none⟩ = some (.int .i64 c.u) := fun w' h => (box11 (HV10.out.1.1.under h HB.out.1)).2.2.1
  have q3 : ∀ w', Below B w10 w' → w'.cell? ⟨w.heap.size, 3, none⟩ = some (.int .i64 c.b) := fun w' h => (box11 (HV10.out.1.1.under h HB.out.1)).2.2.2.1
  have q4 : ∀ w', Below B w10 w' → w'.cell? ⟨w.heap.size, 4, none⟩ = some (.int .i64 c.cp) := fun w' h => (box11 (HV10.out.1.1.under h HB.out.1)).2.2.2.2.1
  have q5 : ∀ w', Below B w10 w' → w'.cell? ⟨w.heap.size, 5, none⟩ = some (.int .i64 c.z) := fun w' h => (box11 (HV10.out.1.1.under h HB.out.1)).2.2.2.2.2.1
  have q6 : ∀ w', Below B w10 w' → w'.cell? ⟨w.heap.size, 6, none⟩ = some (.int .i64 c.s) := fun w' h => (box11 (HV10.out.1.1.under h HB.out.1)).2.2.2.2.2.2.1
  have q7 : ∀ w', Below B w10 w' → w'.cell? ⟨w.heap.size, 7, none⟩ = some (.int .i64 c.mt) := fun w' h => (box11 (HV10.out.1.1.under h HB.out.1)).2.2.2.2.2.2.2.1
  have q8 : ∀ w', Below B w10 w' → w'.cell? ⟨w.heap.size, 8, none⟩ = some (.int .i64 c.o) := fun w' h => (box11 (HV10.out.1.1.under h HB.out.1)).2.2.2.2.2.2.2.2.1
  have q9 : ∀ w', Below B w10 w' → w'.cell? ⟨w.heap.size, 9, none⟩ = some (.int .i64 c.a) := fun w' h => (box11 (HV10.out.1.1.under h HB.out.1)).2.2.2.2.2.2.2.2.2.1
  have q10 : ∀ w', Below B w10 w' → w'.cell? ⟨w.heap.size, 10, none⟩ = some (.int .i64 c.l) := fun w' h => (box11 (HV10.out.1.1.under h HB.out.1)).2.2.2.2.2.2.2.2.2.2
  have p0 : ∀ w', Below B w10 w' → w'.cell? ⟨g1, 0, none⟩ = some (.int .i64 P.s) := fun w' h => (box5 (HV10.out.2.under h HB.out.2)).1.1
  have p1 : ∀ w', Below B w10 w' → w'.cell? ⟨g1, 1, none⟩ = some (.int .i64 P.u) := fun w' h => (box5 (HV10.out.2.under h HB.out.2)).1.2.1
  have p2 : ∀ w', Below B w10 w' → w'.cell? ⟨g1, 2, none⟩ = some (.int .i64 P.i) := fun w' h => (box5 (HV10.out.2.under h HB.out.2)).1.2.2.1
  have p3 : ∀ w', Below B w10 w' → w'.cell? ⟨g1, 3, none⟩ = some (.int .i64 P.m) := fun w' h => (box5 (HV10.out.2.under h HB.out.2)).1.2.2.2.1
  have p4 : ∀ w', Below B w10 w' → w'.cell? ⟨g1, 4, none⟩ = some (.int .i64 P.p) := fun w' h => (box5 (HV10.out.2.under h HB.out.2)).1.2.2.2.2
  rw [HX.out]
  refine wpB_do (i := 30) (by kernel_rfl) rfl (by rfl) (fun K hK => ?_)
  go_simp
  refine (need_any c P.m a w10).mono ?_
  rintro e w11 ⟨rfl, hb⟩
  have HV11 : Hid (At c w w11 ∧ Box w11 g1 25 #[.int .i64 P.s, .int .i64 P.u, .int .i64 P.i, .int .i64 P.m, .int .i64 P.p]) := ⟨HV10.out.1.later hb, HV10.out.2.later hb⟩
  have HB11 : Hid (B ≤ w11.heap.size) := Nat.le_trans HB10.out hb.size
  have hbk := hb.mono HB10.out
  go_simp
  refine hK.out B _ _ (Nat.le_refl _) hbk ?_
  clear hK hb hbk HV10 HB10 p0 p1 p2 p3 p4 q0 q1 q2 q3 q4 q5 q6 q7 q8 q9 q10
  have q0 : ∀ w', Below B w11 w' → w'.cell? ⟨w.heap.size, 0, none⟩ = some (.int .i64 c.id) := fun w' h => (box11 (HV11.out.1.1.under h HB.out.1)).1
  have q1 : ∀ w', Below B w11 w' → w'.cell? ⟨w.heap.size, 1, none⟩ = some (.int .i64 c.m) := fun w' h => (box11 (HV11.out.1.1.under h HB.out.1)).2.1
  have q2 : ∀ w', Below B w11 w' → w'.cell? ⟨w.heap.size, 2, none⟩ = some (.int .i64 c.u) := fun w' h => (box11 (HV11.out.1.1.under h HB.out.1)).2.2.1
  have q3 : ∀ w', Below B w11 w' → w'.cell? ⟨w.heap.size, 3, none⟩ = some (.int .i64 c.b) := fun w' h => (box11 (HV11.out.1.1.under h HB.out.1)).2.2.2.1
  have q4 : ∀ w', Below B w11 w' → w'.cell? ⟨w.heap.size, 4, none⟩ = some (.int .i64 c.cp) := fun w' h => (box11 (HV11.out.1.1.under h HB.out.1)).2.2.2.2.1
  have q5 : ∀ w', Below B w11 w' → w'.cell? ⟨w.heap.size, 5, none⟩ = some (.int .i64 c.z) := fun w' h => (box11 (HV11.out.1.1.under h HB.out.1)).2.2.2.2.2.1
  have q6 : ∀ w', Below B w11 w' → w'.cell? ⟨w.heap.size, 6, none⟩ = some (.int .i64 c.s) := fun w' h => (box11 (HV11.out.1.1.under h HB.out.1)).2.2.2.2.2.2.1
  have q7 : ∀ w', Below B w11 w' → w'.cell? ⟨w.heap.size, 7, none⟩ = some (.int .i64 c.mt) := fun w' h => (box11 (HV11.out.1.1.under h HB.out.1)).2.2.2.2.2.2.2.1
  have q8 : ∀ w', Below B w11 w' → w'.cell? ⟨w.heap.size, 8, none⟩ = some (.int .i64 c.o) := fun w' h => (box11 (HV11.out.1.1.under h HB.out.1)).2.2.2.2.2.2.2.2.1
  have q9 : ∀ w', Below B w11 w' → w'.cell? ⟨w.heap.size, 9, none⟩ = some (.int .i64 c.a) := fun w' h => (box11 (HV11.out.1.1.under h HB.out.1)).2.2.2.2.2.2.2.2.2.1
  have q10 : ∀ w', Below B w11 w' → w'.cell? ⟨w.heap.size, 10, none⟩ = some (.int .i64 c.l) := fun w' h => (box11 (HV11.out.1.1.under h HB.out.1)).2.2.2.2.2.2.2.2.2.2
  have p0 : ∀ w', Below B w11 w' → w'.cell? ⟨g1, 0, none⟩ = some (.int .i64 P.s) := fun w' h => (box5 (HV11.out.2.under h HB.out.2)).1.1
  have p1 : ∀ w', Below B w11 w' → w'.cell? ⟨g1, 1, none⟩ = some (.int .i64 P.u) := fun w' h => (box5 (HV11.out.2.under h HB.out.2)).1.2.1
  have p2 : ∀ w', Below B w11 w' → w'.cell? ⟨g1, 2, none⟩ = some (.int .i64 P.i) := fun w' h => (box5 (HV11.out.2.under h HB.out.2)).1.2.2.1
  have p3 : ∀ w', Below B w11 w' → w'.cell? ⟨g1, 3, none⟩ = some (.int .i64 P.m) := fun w' h => (box5 (HV11.out.2.under h HB.out.2)).1.2.2.2.1
  have p4 : ∀ w', Below B w11 w' → w'.cell? ⟨g1, 4, none⟩ = some (.int .i64 P.p) := fun w' h => (box5 (HV11.out.2.under h HB.out.2)).1.2.2.2.2
  rw [HN.out]
  refine wpB_do (i := 34) (by kernel_rfl) rfl (by rfl) (fun K hK => ?_)
  go_simp
  refine (grows_any c a P w11 HL.out HC.out HA.out.1 HA.out.2).mono ?_
  rintro e w12 ⟨rfl, hb⟩
  have HV12 : Hid (At c w w12 ∧ Box w12 g1 25 #[.int .i64 P.s, .int .i64 P.u, .int .i64 P.i, .int .i64 P.m, .int .i64 P.p]) := ⟨HV11.out.1.later hb, HV11.out.2.later hb⟩
  have HB12 : Hid (B ≤ w12.heap.size) := Nat.le_trans HB11.out hb.size
  have hbk := hb.mono HB11.out
  go_simp
  refine hK.out B _ _ (Nat.le_refl _) hbk ?_
  clear hK hb hbk HV11 HB11 p0 p1 p2 p3 p4 q0 q1 q2 q3 q4 q5 q6 q7 q8 q9 q10
  have q0 : ∀ w', Below B w12 w' → w'.cell? ⟨w.heap.size, 0, none⟩ = some (.int .i64 c.id) := fun w' h => (box11 (HV12.out.1.1.under h HB.out.1)).1
  have q1 : ∀ w', Below B w12 w' → w'.cell? ⟨w.heap.size, 1, none⟩ = some (.int .i64 c.m) := fun w' h => (box11 (HV12.out.1.1.under h HB.out.1)).2.1
  have q2 : ∀ w', Below B w12 w' → w'.cell? ⟨w.heap.size, 2, none⟩ = some (.int .i64 c.u) := fun w' h => (box11 (HV12.out.1.1.under h HB.out.1)).2.2.1
  have q3 : ∀ w', Below B w12 w' → w'.cell? ⟨w.heap.size, 3, none⟩ = some (.int .i64 c.b) := fun w' h => (box11 (HV12.out.1.1.under h HB.out.1)).2.2.2.1
  have q4 : ∀ w', Below B w12 w' → w'.cell? ⟨w.heap.size, 4, none⟩ = some (.int .i64 c.cp) := fun w' h => (box11 (HV12.out.1.1.under h HB.out.1)).2.2.2.2.1
  have q5 : ∀ w', Below B w12 w' → w'.cell? ⟨w.heap.size, 5, none⟩ = some (.int .i64 c.z) := fun w' h => (box11 (HV12.out.1.1.under h HB.out.1)).2.2.2.2.2.1
  have q6 : ∀ w', Below B w12 w' → w'.cell? ⟨w.heap.size, 6, none⟩ = some (.int .i64 c.s) := fun w' h => (box11 (HV12.out.1.1.under h HB.out.1)).2.2.2.2.2.2.1
  have q7 : ∀ w', Below B w12 w' → w'.cell? ⟨w.heap.size, 7, none⟩ = some (.int .i64 c.mt) := fun w' h => (box11 (HV12.out.1.1.under h HB.out.1)).2.2.2.2.2.2.2.1
  have q8 : ∀ w', Below B w12 w' → w'.cell? ⟨w.heap.size, 8, none⟩ = some (.int .i64 c.o) := fun w' h => (box11 (HV12.out.1.1.under h HB.out.1)).2.2.2.2.2.2.2.2.1
  have q9 : ∀ w', Below B w12 w' → w'.cell? ⟨w.heap.size, 9, none⟩ = some (.int .i64 c.a) := fun w' h => (box11 (HV12.out.1.1.under h HB.out.1)).2.2.2.2.2.2.2.2.2.1
  have q10 : ∀ w', Below B w12 w' → w'.cell? ⟨w.heap.size, 10, none⟩ = some (.int .i64 c.l) := fun w' h => (box11 (HV12.out.1.1.under h HB.out.1)).2.2.2.2.2.2.2.2.2.2
  have p0 : ∀ w', Below B w12 w' → w'.cell? ⟨g1, 0, none⟩ = some (.int .i64 P.s) := fun w' h => (box5 (HV12.out.2.under h HB.out.2)).1.1
  have p1 : ∀ w', Below B w12 w' → w'.cell? ⟨g1, 1, none⟩ = some (.int .i64 P.u) := fun w' h => (box5 (HV12.out.2.under h HB.out.2)).1.2.1
  have p2 : ∀ w', Below B w12 w' → w'.cell? ⟨g1, 2, none⟩ = some (.int .i64 P.i) := fun w' h => (box5 (HV12.out.2.under h HB.out.2)).1.2.2.1
  have p3 : ∀ w', Below B w12 w' → w'.cell? ⟨g1, 3, none⟩ = some (.int .i64 P.m) := fun w' h => (box5 (HV12.out.2.under h HB.out.2)).1.2.2.2.1
  have p4 : ∀ w', Below B w12 w' → w'.cell? ⟨g1, 4, none⟩ = some (.int .i64 P.p) := fun w' h => (box5 (HV12.out.2.under h HB.out.2)).1.2.2.2.2
  rw [HX.out]
  have hw2 : IntKind.i64.wrap (P.p + (X - P.p)) = X := by rw [show P.p + (X - P.p) = X by omega]; exact wrapk_in (by omega) (by omega)
  refine wpB_take (i := 35) (d := 105) (v := ?v7ltx35) rfl rfl (by kernel_rfl) (by kernel_rfl) (by kernel_rfl) (fun _ _ _ h => h) (by rfl) ?y7ltx35 ?r7ltx35
  case y7ltx35 => (intro w' hSw; go_simp; try (with_reducible rfl))
  simp only [Act.put, List.setIfInBounds_toArray, List.set_cons_zero, List.set_cons_succ]
  clear hw2
  refine wpB_take (i := 36) (d := 106) (v := ?v7ltx36) rfl rfl (by kernel_rfl) (by kernel_rfl) (by kernel_rfl) (fun _ _ _ h => h) (by rfl) ?y7ltx36 ?r7ltx36
  case y7ltx36 => (intro w' hSw; go_simp; try (with_reducible rfl))
  simp only [Act.put, List.setIfInBounds_toArray, List.set_cons_zero, List.set_cons_succ]
  refine wpB_take (i := 37) (d := 107) (v := ?v7ltx37) rfl rfl (by kernel_rfl) (by kernel_rfl) (by kernel_rfl) (fun _ _ _ h => h) (by rfl) ?y7ltx37 ?r7ltx37
  case y7ltx37 => (intro w' hSw; go_simp; try (with_reducible rfl))
  simp only [Act.put, List.setIfInBounds_toArray, List.set_cons_zero, List.set_cons_succ]
  refine wpB_take (i := 38) (d := 108) (v := ?v7ltx38) rfl rfl (by kernel_rfl) (by kernel_rfl) (by kernel_rfl) (fun _ _ _ h => h) (by rfl) ?y7ltx38 ?r7ltx38
  case y7ltx38 => (intro w' hSw; go_simp; try (with_reducible rfl))
  simp only [Act.put, List.setIfInBounds_toArray, List.set_cons_zero, List.set_cons_succ]
  refine wpB_do (i := 39) (by kernel_rfl) rfl (by rfl) (fun K hK => ?_)
  go_simp
  refine (live_any w12).mono ?_
  rintro e w13 ⟨rfl, hb⟩
  have HV13 : Hid (At c w w13 ∧ Box w13 g1 25 #[.int .i64 P.s, .int .i64 P.u, .int .i64 P.i, .int .i64 P.m, .int .i64 P.p]) := ⟨HV12.out.1.later hb, HV12.out.2.later hb⟩
  have HB13 : Hid (B ≤ w13.heap.size) := Nat.le_trans HB12.out hb.size
  have hbk := hb.mono HB12.out
  go_simp
  refine hK.out B _ _ (Nat.le_refl _) hbk ?_
  clear hK hb hbk HV12 HB12 p0 p1 p2 p3 p4 q0 q1 q2 q3 q4 q5 q6 q7 q8 q9 q10
  have q0 : ∀ w', Below B w13 w' → w'.cell? ⟨w.heap.size, 0, none⟩ = some (.int .i64 c.id) := fun w' h => (box11 (HV13.out.1.1.under h HB.out.1)).1
  have q1 : ∀ w', Below B w13 w' → w'.cell? ⟨w.heap.size, 1, none⟩ = some (.int .i64 c.m) := fun w' h => (box11 (HV13.out.1.1.under h HB.out.1)).2.1
  have q2 : ∀ w', Below B w13 w' → w'.cell? ⟨w.heap.size, 2, none⟩ = some (.int .i64 c.u) := fun w' h => (box11 (HV13.out.1.1.under h HB.out.1)).2.2.1
  have q3 : ∀ w', Below B w13 w' → w'.cell? ⟨w.heap.size, 3, none⟩ = some (.int .i64 c.b) := fun w' h => (box11 (HV13.out.1.1.under h HB.out.1)).2.2.2.1
  have q4 : ∀ w', Below B w13 w' → w'.cell? ⟨w.heap.size, 4, none⟩ = some (.int .i64 c.cp) := fun w' h => (box11 (HV13.out.1.1.under h HB.out.1)).2.2.2.2.1
  have q5 : ∀ w', Below B w13 w' → w'.cell? ⟨w.heap.size, 5, none⟩ = some (.int .i64 c.z) := fun w' h => (box11 (HV13.out.1.1.under h HB.out.1)).2.2.2.2.2.1
  have q6 : ∀ w', Below B w13 w' → w'.cell? ⟨w.heap.size, 6, none⟩ = some (.int .i64 c.s) := fun w' h => (box11 (HV13.out.1.1.under h HB.out.1)).2.2.2.2.2.2.1
  have q7 : ∀ w', Below B w13 w' → w'.cell? ⟨w.heap.size, 7, none⟩ = some (.int .i64 c.mt) := fun w' h => (box11 (HV13.out.1.1.under h HB.out.1)).2.2.2.2.2.2.2.1
  have q8 : ∀ w', Below B w13 w' → w'.cell? ⟨w.heap.size, 8, none⟩ = some (.int .i64 c.o) := fun w' h => (box11 (HV13.out.1.1.under h HB.out.1)).2.2.2.2.2.2.2.2.1
  have q9 : ∀ w', Below B w13 w' → w'.cell? ⟨w.heap.size, 9, none⟩ = some (.int .i64 c.a) := fun w' h => (box11 (HV13.out.1.1.under h HB.out.1)).2.2.2.2.2.2.2.2.2.1
  have q10 : ∀ w', Below B w13 w' → w'.cell? ⟨w.heap.size, 10, none⟩ = some (.int .i64 c.l) := fun w' h => (box11 (HV13.out.1.1.under h HB.out.1)).2.2.2.2.2.2.2.2.2.2
  have p0 : ∀ w', Below B w13 w' → w'.cell? ⟨g1, 0, none⟩ = some (.int .i64 P.s) := fun w' h => (box5 (HV13.out.2.under h HB.out.2)).1.1
  have p1 : ∀ w', Below B w13 w' → w'.cell? ⟨g1, 1, none⟩ = some (.int .i64 P.u) := fun w' h => (box5 (HV13.out.2.under h HB.out.2)).1.2.1
  have p2 : ∀ w', Below B w13 w' → w'.cell? ⟨g1, 2, none⟩ = some (.int .i64 P.i) := fun w' h => (box5 (HV13.out.2.under h HB.out.2)).1.2.2.1
  have p3 : ∀ w', Below B w13 w' → w'.cell? ⟨g1, 3, none⟩ = some (.int .i64 P.m) := fun w' h => (box5 (HV13.out.2.under h HB.out.2)).1.2.2.2.1
  have p4 : ∀ w', Below B w13 w' → w'.cell? ⟨g1, 4, none⟩ = some (.int .i64 P.p) := fun w' h => (box5 (HV13.out.2.under h HB.out.2)).1.2.2.2.2
  refine wpB_take (i := 40) (d := 110) (v := ?v7ltx40) rfl rfl (by kernel_rfl) (by kernel_rfl) (by kernel_rfl) (fun _ _ _ h => h) (by rfl) ?y7ltx40 ?r7ltx40
  case y7ltx40 => (intro w' hSw; go_simp; try (with_reducible rfl))
  simp only [Act.put, List.setIfInBounds_toArray, List.set_cons_zero, List.set_cons_succ]
  refine wpB_take (i := 41) (d := 6) (v := ?v7ltx41) rfl rfl (by kernel_rfl) (by kernel_rfl) (by kernel_rfl) (fun _ _ _ h => h) (by rfl) ?y7ltx41 ?r7ltx41
  case y7ltx41 => (intro w' hSw; go_simp; try (with_reducible rfl))
  simp only [Act.put, List.setIfInBounds_toArray, List.set_cons_zero, List.set_cons_succ]
  refine wpB_done (by kernel_rfl) ?_
  go_wp2
  go_ret
  exact ⟨rfl, HV13.out.1.2.1⟩
set_option maxRecDepth 100000 in
set_option maxHeartbeats 2000000 in
theorem apart_gt (c : Cf) (a b X : Int) (P Q : Pl) (w : World) (hc : checkC c = 0) (hP : ofA c a = P) (hQ : ofA c b = Q) (hPb : ofB c a = true) (hQb : ofB c b = true) (hl : Lies c a P) (h0 : 0 ≤ a) (h1 : a < stripesC c * (dataC c * c.u)) (hX : needA c P.m (a + 1) = X) (hX0 : 0 ≤ X) (hX1 : X ≤ 61440000) (hab : b < a) (hm : P.m = Q.m) (hp : Q.p < P.p) :
    Calls Try.prog 5 #[(.agg #[.int .i64 c.id, .int .i64 c.m, .int .i64 c.u, .int .i64 c.b, .int .i64 c.cp, .int .i64 c.z, .int .i64 c.s, .int .i64 c.mt, .int .i64 c.o, .int .i64 c.a, .int .i64 c.l]), .int .i64 a, .int .i64 b] w (Says w (.bool true)) := by
  have HC := Lib.hid hc
  have HL := Lib.hid hl
  have HA := Lib.hid (And.intro h0 h1)
  have HP := Lib.hid (And.intro hP hPb)
  have HQ := Lib.hid (And.intro hQ hQb)
  have HX := Lib.hid hX
  have HN := Lib.hid (hl.need hc h0 h1)
  have HK := Lib.hid (hl.back hc)
  have g1 := hl.big hc
  have g2 : a ≤ 61440 := by have := (ok_of hc).z2; omega
  clear hc hl hP hQ hPb hQb hX h1
  have e0 : ¬ a = b := by omega
  have e1 : (a == b) = false := by simpa using e0
  have e2 : (P.m == Q.m) = true := by simpa using hm
  have e2b : (P.m != Q.m) = false := by simpa using hm
  clear hm
  have e3 : ¬ P.p = Q.p := by omega
  have e4 : (P.p == Q.p) = false := by simpa using e3
  have e4b : (P.p != Q.p) = true := by simpa using e3
  have e5 : ¬ a < b := by omega
  have e6 : ¬ P.p < Q.p := by omega
  go_enter Try.func5, Try.ntmps5
  go_wp2_with fail
  have HV0 := Lib.hid (At.new c w)
  generalize (w.alloc (.cells #[.int .i64 c.id, .int .i64 c.m, .int .i64 c.u, .int .i64 c.b, .int .i64 c.cp, .int .i64 c.z, .int .i64 c.s, .int .i64 c.mt, .int .i64 c.o, .int .i64 c.a, .int .i64 c.l] 23)) = w0 at HV0 ⊢
  obtain ⟨y0, y1, y2, y3, y4, y5, y6, y7, y8, y9, y10⟩ := box11 HV0.out.1
  refine (of_any c a w0).mono ?_
  rintro e w1 ⟨rfl, hb⟩
  rw [HP.out.1, HP.out.2]
  have HV1 := Lib.hid (HV0.out.later hb)
  clear hb HV0 y0 y1 y2 y3 y4 y5 y6 y7 y8 y9 y10
  obtain ⟨y0, y1, y2, y3, y4, y5, y6, y7, y8, y9, y10⟩ := box11 HV1.out.1
  go_upto_region 2 with fail
  have HV2 : Hid (At c w (w1.alloc (.cells #[.int .i64 P.s, .int .i64 P.u, .int .i64 P.i, .int .i64 P.m, .int .i64 P.p] 25)) ∧ Box (w1.alloc (.cells #[.int .i64 P.s, .int .i64 P.u, .int .i64 P.i, .int .i64 P.m, .int .i64 P.p] 25)) w1.heap.size 25 #[.int .i64 P.s, .int .i64 P.u, .int .i64 P.i, .int .i64 P.m, .int .i64 P.p]) := ⟨HV1.out.alloc _, Box.fresh w1 25 _⟩
  generalize (w1.alloc (.cells #[.int .i64 P.s, .int .i64 P.u, .int .i64 P.i, .int .i64 P.m, .int .i64 P.p] 25)) = w2 at HV2 ⊢
  generalize w1.heap.size = g1 at HV2 ⊢
  clear HV1 y0 y1 y2 y3 y4 y5 y6 y7 y8 y9 y10
  obtain ⟨y0, y1, y2, y3, y4, y5, y6, y7, y8, y9, y10⟩ := box11 HV2.out.1.1
  go_wp2_with fail
  refine (of_any c b w2).mono ?_
  rintro e w3 ⟨rfl, hb⟩
  rw [HQ.out.1, HQ.out.2]
  have HV3 : Hid (At c w w3 ∧ Box w3 g1 25 #[.int .i64 P.s, .int .i64 P.u, .int .i64 P.i, .int .i64 P.m, .int .i64 P.p]) := ⟨HV2.out.1.later hb, HV2.out.2.later hb⟩
  clear hb HV2 y0 y1 y2 y3 y4 y5 y6 y7 y8 y9 y10
  obtain ⟨y0, y1, y2, y3, y4, y5, y6, y7, y8, y9, y10⟩ := box11 HV3.out.1.1
  go_upto_region 3 with fail
  have HV4 : Hid ((At c w (w3.alloc (.cells #[.int .i64 Q.s, .int .i64 Q.u, .int .i64 Q.i, .int .i64 Q.m, .int .i64 Q.p] 25)) ∧ Box (w3.alloc (.cells #[.int .i64 Q.s, .int .i64 Q.u, .int .i64 Q.i, .int .i64 Q.m, .int .i64 Q.p] 25)) g1 25 #[.int .i64 P.s, .int .i64 P.u, .int .i64 P.i, .int .i64 P.m, .int .i64 P.p]) ∧ Box (w3.alloc (.cells #[.int .i64 Q.s, .int .i64 Q.u, .int .i64 Q.i, .int .i64 Q.m, .int .i64 Q.p] 25)) w3.heap.size 25 #[.int .i64 Q.s, .int .i64 Q.u, .int .i64 Q.i, .int .i64 Q.m, .int .i64 Q.p]) := ⟨⟨HV3.out.1.alloc _, HV3.out.2.later ((Below.refl _ _).alloc (Nat.le_refl _) _)⟩, Box.fresh w3 25 _⟩
  generalize (w3.alloc (.cells #[.int .i64 Q.s, .int .i64 Q.u, .int .i64 Q.i, .int .i64 Q.m, .int .i64 Q.p] 25)) = w4 at HV4 ⊢
  generalize w3.heap.size = g2 at HV4 ⊢
  clear HV3 y0 y1 y2 y3 y4 y5 y6 y7 y8 y9 y10
  obtain ⟨y0, y1, y2, y3, y4, y5, y6, y7, y8, y9, y10⟩ := box11 HV4.out.1.1.1
  obtain ⟨⟨z0, z1, z2, z3, z4⟩, f0, f1, f2, f3, f4⟩ := box5 HV4.out.1.2
  go_wp2_with fail
  refine (back_any c P.m P.p w4).mono ?_
  rintro e w5 ⟨rfl, hb⟩
  rw [HK.out]
  have HV5 : Hid ((At c w w5 ∧ Box w5 g1 25 #[.int .i64 P.s, .int .i64 P.u, .int .i64 P.i, .int .i64 P.m, .int .i64 P.p]) ∧ Box w5 g2 25 #[.int .i64 Q.s, .int .i64 Q.u, .int .i64 Q.i, .int .i64 Q.m, .int .i64 Q.p]) := ⟨⟨HV4.out.1.1.later hb, HV4.out.1.2.later hb⟩, HV4.out.2.later hb⟩
  clear hb HV4 y0 y1 y2 y3 y4 y5 y6 y7 y8 y9 y10 z0 z1 z2 z3 z4 f0 f1 f2 f3 f4
  obtain ⟨y0, y1, y2, y3, y4, y5, y6, y7, y8, y9, y10⟩ := box11 HV5.out.1.1.1
  obtain ⟨⟨z0, z1, z2, z3, z4⟩, f0, f1, f2, f3, f4⟩ := box5 HV5.out.1.2
  obtain ⟨⟨t0, t1, t2, t3, t4⟩, j0, j1, j2, j3, j4⟩ := box5 HV5.out.2
  go_wp2_with fail
  clear y0 y1 y2 y3 y4 y5 y6 y7 y8 y9 y10 z0 z1 z2 z3 z4 f0 f1 f2 f3 f4 t0 t1 t2 t3 t4 j0 j1 j2 j3 j4
  refine wpB_start w5.drew.heap.size (by kernel_rfl) ?_
  have HV8 : Hid (At c w w5.drew ∧ Box w5.drew g1 25 #[.int .i64 P.s, .int .i64 P.u, .int .i64 P.i, .int .i64 P.m, .int .i64 P.p]) := ⟨HV5.out.1.1.drew, HV5.out.1.2.later (Below.refl _ _).drew⟩
  generalize w5.drew = w8 at HV8 ⊢
  have HB : Hid (w.heap.size < w8.heap.size ∧ g1 < w8.heap.size) := ⟨HV8.out.1.2.2, HV8.out.2.lt⟩
  generalize hBe : w8.heap.size = B at HB ⊢
  have HB8 : Hid (B ≤ w8.heap.size) := Nat.le_of_eq hBe.symm
  clear hBe HV5
  have q0 : ∀ w', Below B w8 w' → w'.cell? ⟨w.heap.size, 0, none⟩ = some (.int .i64 c.id) := fun w' h => (box11 (HV8.out.1.1.under h HB.out.1)).1
  have q1 : ∀ w', Below B w8 w' → w'.cell? ⟨w.heap.size, 1, none⟩ = some (.int .i64 c.m) := fun w' h => (box11 (HV8.out.1.1.under h HB.out.1)).2.1
  have q2 : ∀ w', Below B w8 w' → w'.cell? ⟨w.heap.size, 2, none⟩ = some (.int .i64 c.u) := fun w' h => (box11 (HV8.out.1.1.under h HB.out.1)).2.2.1
  have q3 : ∀ w', Below B w8 w' → w'.cell? ⟨w.heap.size, 3, none⟩ = some (.int .i64 c.b) := fun w' h => (box11 (HV8.out.1.1.under h HB.out.1)).2.2.2.1
  have q4 : ∀ w', Below B w8 w' → w'.cell? ⟨w.heap.size, 4, none⟩ = some (.int .i64 c.cp) := fun w' h => (box11 (HV8.out.1.1.under h HB.out.1)).2.2.2.2.1
  have q5 : ∀ w', Below B w8 w' → w'.cell? ⟨w.heap.size, 5, none⟩ = some (.int .i64 c.z) := fun w' h => (box11 (HV8.out.1.1.under h HB.out.1)).2.2.2.2.2.1
  have q6 : ∀ w', Below B w8 w' → w'.cell? ⟨w.heap.size, 6, none⟩ = some (.int .i64 c.s) := fun w' h => (box11 (HV8.out.1.1.under h HB.out.1)).2.2.2.2.2.2.1
  have q7 : ∀ w', Below B w8 w' → w'.cell? ⟨w.heap.size, 7, none⟩ = some (.int .i64 c.mt) := fun w' h => (box11 (HV8.out.1.1.under h HB.out.1)).2.2.2.2.2.2.2.1
  have q8 : ∀ w', Below B w8 w' → w'.cell? ⟨w.heap.size, 8, none⟩ = some (.int .i64 c.o) := fun w' h => (box11 (HV8.out.1.1.under h HB.out.1)).2.2.2.2.2.2.2.2.1
  have q9 : ∀ w', Below B w8 w' → w'.cell? ⟨w.heap.size, 9, none⟩ = some (.int .i64 c.a) := fun w' h => (box11 (HV8.out.1.1.under h HB.out.1)).2.2.2.2.2.2.2.2.2.1
  have q10 : ∀ w', Below B w8 w' → w'.cell? ⟨w.heap.size, 10, none⟩ = some (.int .i64 c.l) := fun w' h => (box11 (HV8.out.1.1.under h HB.out.1)).2.2.2.2.2.2.2.2.2.2
  have p0 : ∀ w', Below B w8 w' → w'.cell? ⟨g1, 0, none⟩ = some (.int .i64 P.s) := fun w' h => (box5 (HV8.out.2.under h HB.out.2)).1.1
  have p1 : ∀ w', Below B w8 w' → w'.cell? ⟨g1, 1, none⟩ = some (.int .i64 P.u) := fun w' h => (box5 (HV8.out.2.under h HB.out.2)).1.2.1
  have p2 : ∀ w', Below B w8 w' → w'.cell? ⟨g1, 2, none⟩ = some (.int .i64 P.i) := fun w' h => (box5 (HV8.out.2.under h HB.out.2)).1.2.2.1
  have p3 : ∀ w', Below B w8 w' → w'.cell? ⟨g1, 3, none⟩ = some (.int .i64 P.m) := fun w' h => (box5 (HV8.out.2.under h HB.out.2)).1.2.2.2.1
  have p4 : ∀ w', Below B w8 w' → w'.cell? ⟨g1, 4, none⟩ = some (.int .i64 P.p) := fun w' h => (box5 (HV8.out.2.under h HB.out.2)).1.2.2.2.2
  refine wpB_take (i := 0) (d := 70) (v := ?v7gtx0) rfl rfl (by kernel_rfl) (by kernel_rfl) (by kernel_rfl) (fun _ _ _ h => h) (by rfl) ?y7gtx0 ?r7gtx0
  case y7gtx0 => (intro w' hSw; go_simp; try (with_reducible rfl))
  simp only [Act.put, List.setIfInBounds_toArray, List.set_cons_zero, List.set_cons_succ]
  refine wpB_take (i := 1) (d := 71) (v := ?v7gtx1) rfl rfl (by kernel_rfl) (by kernel_rfl) (by kernel_rfl) (fun _ _ _ h => h) (by rfl) ?y7gtx1 ?r7gtx1
  case y7gtx1 => (intro w' hSw; go_simp; try (with_reducible rfl))
  simp only [Act.put, List.setIfInBounds_toArray, List.set_cons_zero, List.set_cons_succ]
  refine wpB_take (i := 2) (d := 72) (v := ?v7gtx2) rfl rfl (by kernel_rfl) (by kernel_rfl) (by kernel_rfl) (fun _ _ _ h => h) (by rfl) ?y7gtx2 ?r7gtx2
  case y7gtx2 => (intro w' hSw; go_simp; try (with_reducible rfl))
  simp only [Act.put, List.setIfInBounds_toArray, List.set_cons_zero, List.set_cons_succ]
  refine wpB_take (i := 3) (d := 73) (v := ?v7gtx3) rfl rfl (by kernel_rfl) (by kernel_rfl) (by kernel_rfl) (fun _ _ _ h => h) (by rfl) ?y7gtx3 ?r7gtx3
  case y7gtx3 => (intro w' hSw; go_simp; try (with_reducible rfl))
  simp only [Act.put, List.setIfInBounds_toArray, List.set_cons_zero, List.set_cons_succ]
  refine wpB_take (i := 4) (d := 74) (v := ?v7gtx4) rfl rfl (by kernel_rfl) (by kernel_rfl) (by kernel_rfl) (fun _ _ _ h => h) (by rfl) ?y7gtx4 ?r7gtx4
  case y7gtx4 => (intro w' hSw; go_simp; try (with_reducible rfl))
  simp only [Act.put, List.setIfInBounds_toArray, List.set_cons_zero, List.set_cons_succ]
  refine wpB_take (i := 5) (d := 75) (v := ?v7gtx5) rfl rfl (by kernel_rfl) (by kernel_rfl) (by kernel_rfl) (fun _ _ _ h => h) (by rfl) ?y7gtx5 ?r7gtx5
  case y7gtx5 => (intro w' hSw; go_simp; try (with_reducible rfl))
  simp only [Act.put, List.setIfInBounds_toArray, List.set_cons_zero, List.set_cons_succ]
  refine wpB_take (i := 6) (d := 76) (v := ?v7gtx6) rfl rfl (by kernel_rfl) (by kernel_rfl) (by kernel_rfl) (fun _ _ _ h => h) (by rfl) ?y7gtx6 ?r7gtx6
  case y7gtx6 => (intro w' hSw; go_simp; try (with_reducible rfl))
  simp only [Act.put, List.setIfInBounds_toArray, List.set_cons_zero, List.set_cons_succ]
  refine wpB_take (i := 7) (d := 77) (v := ?v7gtx7) rfl rfl (by kernel_rfl) (by kernel_rfl) (by kernel_rfl) (fun _ _ _ h => h) (by rfl) ?y7gtx7 ?r7gtx7
  case y7gtx7 => (intro w' hSw; go_simp; try (with_reducible rfl))
  simp only [Act.put, List.setIfInBounds_toArray, List.set_cons_zero, List.set_cons_succ]
  refine wpB_take (i := 8) (d := 78) (v := ?v7gtx8) rfl rfl (by kernel_rfl) (by kernel_rfl) (by kernel_rfl) (fun _ _ _ h => h) (by rfl) ?y7gtx8 ?r7gtx8
  case y7gtx8 => (intro w' hSw; go_simp; try (with_reducible rfl))
  simp only [Act.put, List.setIfInBounds_toArray, List.set_cons_zero, List.set_cons_succ]
  refine wpB_take (i := 9) (d := 79) (v := ?v7gtx9) rfl rfl (by kernel_rfl) (by kernel_rfl) (by kernel_rfl) (fun _ _ _ h => h) (by rfl) ?y7gtx9 ?r7gtx9
  case y7gtx9 => (intro w' hSw; go_simp; try (with_reducible rfl))
  simp only [Act.put, List.setIfInBounds_toArray, List.set_cons_zero, List.set_cons_succ]
  refine wpB_take (i := 10) (d := 80) (v := ?v7gtx10) rfl rfl (by kernel_rfl) (by kernel_rfl) (by kernel_rfl) (fun _ _ _ h => h) (by rfl) ?y7gtx10 ?r7gtx10
  case y7gtx10 => (intro w' hSw; go_simp; try (with_reducible rfl))
  simp only [Act.put, List.setIfInBounds_toArray, List.set_cons_zero, List.set_cons_succ]
  refine wpB_take (i := 11) (d := 81) (v := ?v7gtx11) rfl rfl (by kernel_rfl) (by kernel_rfl) (by kernel_rfl) (fun _ _ _ h => h) (by rfl) ?y7gtx11 ?r7gtx11
  case y7gtx11 => (intro w' hSw; go_simp; try (with_reducible rfl))
  simp only [Act.put, List.setIfInBounds_toArray, List.set_cons_zero, List.set_cons_succ]
  refine wpB_take (i := 12) (d := 82) (v := ?v7gtx12) rfl rfl (by kernel_rfl) (by kernel_rfl) (by kernel_rfl) (fun _ _ _ h => h) (by rfl) ?y7gtx12 ?r7gtx12
  case y7gtx12 => (intro w' hSw; go_simp; try (with_reducible rfl))
  simp only [Act.put, List.setIfInBounds_toArray, List.set_cons_zero, List.set_cons_succ]
  refine wpB_take (i := 13) (d := 83) (v := ?v7gtx13) rfl rfl (by kernel_rfl) (by kernel_rfl) (by kernel_rfl) (fun _ _ _ h => h) (by rfl) ?y7gtx13 ?r7gtx13
  case y7gtx13 => (intro w' hSw; go_simp; try (with_reducible rfl))
  simp only [Act.put, List.setIfInBounds_toArray, List.set_cons_zero, List.set_cons_succ]
  refine wpB_take (i := 15) (d := 85) (v := ?v7gtx15) rfl rfl (by kernel_rfl) (by kernel_rfl) (by kernel_rfl) (fun _ _ _ h => h) (by rfl) ?y7gtx15 ?r7gtx15
  case y7gtx15 => (intro w' hSw; go_simp; try (with_reducible rfl))
  simp only [Act.put, List.setIfInBounds_toArray, List.set_cons_zero, List.set_cons_succ]
  refine wpB_take (i := 16) (d := 86) (v := ?v7gtx16) rfl rfl (by kernel_rfl) (by kernel_rfl) (by kernel_rfl) (fun _ _ _ h => h) (by rfl) ?y7gtx16 ?r7gtx16
  case y7gtx16 => (intro w' hSw; go_simp; try (with_reducible rfl))
  simp only [Act.put, List.setIfInBounds_toArray, List.set_cons_zero, List.set_cons_succ]
  refine wpB_do (i := 14) (by kernel_rfl) rfl (by rfl) (fun K hK => ?_)
  go_simp
  refine (need_any c P.m a w8).mono ?_
  rintro e w9 ⟨rfl, hb⟩
  have HV9 : Hid (At c w w9 ∧ Box w9 g1 25 #[.int .i64 P.s, .int .i64 P.u, .int .i64 P.i, .int .i64 P.m, .int .i64 P.p]) := ⟨HV8.out.1.later hb, HV8.out.2.later hb⟩
  have HB9 : Hid (B ≤ w9.heap.size) := Nat.le_trans HB8.out hb.size
  have hbk := hb.mono HB8.out
  go_simp
  refine hK.out B _ _ (Nat.le_refl _) hbk ?_
  clear hK hb hbk HV8 HB8 p0 p1 p2 p3 p4 q0 q1 q2 q3 q4 q5 q6 q7 q8 q9 q10
  have q0 : ∀ w', Below B w9 w' → w'.cell? ⟨w.heap.size, 0, none⟩ = some (.int .i64 c.id) := fun w' h => (box11 (HV9.out.1.1.under h HB.out.1)).1
  have q1 : ∀ w', Below B w9 w' → w'.cell? ⟨w.heap.size, 1, none⟩ = some (.int .i64 c.m) := fun w' h => (box11 (HV9.out.1.1.under h HB.out.1)).2.1
  have q2 : ∀ w', Below B w9 w' → w'.cell? ⟨w.heap.size, 2, none⟩ = some (.int .i64 c.u) := fun w' h => (box11 (HV9.out.1.1.under h HB.out.1)).2.2.1
  have q3 : ∀ w', Below B w9 w' → w'.cell? ⟨w.heap.size, 3, none⟩ = some (.int .i64 c.b) := fun w' h => (box11 (HV9.out.1.1.under h HB.out.1)).2.2.2.1
  have q4 : ∀ w', Below B w9 w' → w'.cell? ⟨w.heap.size, 4, none⟩ = some (.int .i64 c.cp) := fun w' h => (box11 (HV9.out.1.1.under h HB.out.1)).2.2.2.2.1
  have q5 : ∀ w', Below B w9 w' → w'.cell? ⟨w.heap.size, 5, none⟩ = some (.int .i64 c.z) := fun w' h => (box11 (HV9.out.1.1.under h HB.out.1)).2.2.2.2.2.1
  have q6 : ∀ w', Below B w9 w' → w'.cell? ⟨w.heap.size, 6, none⟩ = some (.int .i64 c.s) := fun w' h => (box11 (HV9.out.1.1.under h HB.out.1)).2.2.2.2.2.2.1
  have q7 : ∀ w', Below B w9 w' → w'.cell? ⟨w.heap.size, 7, none⟩ = some (.int .i64 c.mt) := fun w' h => (box11 (HV9.out.1.1.under h HB.out.1)).2.2.2.2.2.2.2.1
  have q8 : ∀ w', Below B w9 w' → w'.cell? ⟨w.heap.size, 8, none⟩ = some (.int .i64 c.o) := fun w' h => (box11 (HV9.out.1.1.under h HB.out.1)).2.2.2.2.2.2.2.2.1
  have q9 : ∀ w', Below B w9 w' → w'.cell? ⟨w.heap.size, 9, none⟩ = some (.int .i64 c.a) := fun w' h => (box11 (HV9.out.1.1.under h HB.out.1)).2.2.2.2.2.2.2.2.2.1
  have q10 : ∀ w', Below B w9 w' → w'.cell? ⟨w.heap.size, 10, none⟩ = some (.int .i64 c.l) := fun w' h => (box11 (HV9.out.1.1.under h HB.out.1)).2.2.2.2.2.2.2.2.2.2
  have p0 : ∀ w', Below B w9 w' → w'.cell? ⟨g1, 0, none⟩ = some (.int .i64 P.s) := fun w' h => (box5 (HV9.out.2.under h HB.out.2)).1.1
  have p1 : ∀ w', Below B w9 w' → w'.cell? ⟨g1, 1, none⟩ = some (.int .i64 P.u) := fun w' h => (box5 (HV9.out.2.under h HB.out.2)).1.2.1
  have p2 : ∀ w', Below B w9 w' → w'.cell? ⟨g1, 2, none⟩ = some (.int .i64 P.i) := fun w' h => (box5 (HV9.out.2.under h HB.out.2)).1.2.2.1
  have p3 : ∀ w', Below B w9 w' → w'.cell? ⟨g1, 3, none⟩ = some (.int .i64 P.m) := fun w' h => (box5 (HV9.out.2.under h HB.out.2)).1.2.2.2.1
  have p4 : ∀ w', Below B w9 w' → w'.cell? ⟨g1, 4, none⟩ = some (.int .i64 P.p) := fun w' h => (box5 (HV9.out.2.under h HB.out.2)).1.2.2.2.2
  rw [HN.out]
  refine wpB_take (i := 17) (d := 87) (v := ?v7gtx17) rfl rfl (by kernel_rfl) (by kernel_rfl) (by kernel_rfl) (fun _ _ _ h => h) (by rfl) ?y7gtx17 ?r7gtx17
  case y7gtx17 => (intro w' hSw; go_simp; try (with_reducible rfl))
  simp only [Act.put, List.setIfInBounds_toArray, List.set_cons_zero, List.set_cons_succ]
  refine wpB_take (i := 18) (d := 88) (v := ?v7gtx18) rfl rfl (by kernel_rfl) (by kernel_rfl) (by kernel_rfl) (fun _ _ _ h => h) (by rfl) ?y7gtx18 ?r7gtx18
  case y7gtx18 => (intro w' hSw; go_simp; try (with_reducible rfl))
  simp only [Act.put, List.setIfInBounds_toArray, List.set_cons_zero, List.set_cons_succ]
  refine wpB_take (i := 19) (d := 89) (v := ?v7gtx19) rfl rfl (by kernel_rfl) (by kernel_rfl) (by kernel_rfl) (fun _ _ _ h => h) (by rfl) ?y7gtx19 ?r7gtx19
  case y7gtx19 => (intro w' hSw; go_simp; try (with_reducible rfl))
  simp only [Act.put, List.setIfInBounds_toArray, List.set_cons_zero, List.set_cons_succ]
  refine wpB_take (i := 20) (d := 90) (v := ?v7gtx20) rfl rfl (by kernel_rfl) (by kernel_rfl) (by kernel_rfl) (fun _ _ _ h => h) (by rfl) ?y7gtx20 ?r7gtx20
  case y7gtx20 => (intro w' hSw; go_simp; try (with_reducible rfl))
  simp only [Act.put, List.setIfInBounds_toArray, List.set_cons_zero, List.set_cons_succ]
  refine wpB_take (i := 21) (d := 91) (v := ?v7gtx21) rfl rfl (by kernel_rfl) (by kernel_rfl) (by kernel_rfl) (fun _ _ _ h => h) (by rfl) ?y7gtx21 ?r7gtx21
  case y7gtx21 => (intro w' hSw; go_simp; try (with_reducible rfl))
  simp only [Act.put, List.setIfInBounds_toArray, List.set_cons_zero, List.set_cons_succ]
  refine wpB_take (i := 22) (d := 92) (v := ?v7gtx22) rfl rfl (by kernel_rfl) (by kernel_rfl) (by kernel_rfl) (fun _ _ _ h => h) (by rfl) ?y7gtx22 ?r7gtx22
  case y7gtx22 => (intro w' hSw; go_simp; try (with_reducible rfl))
  simp only [Act.put, List.setIfInBounds_toArray, List.set_cons_zero, List.set_cons_succ]
  refine wpB_take (i := 23) (d := 93) (v := ?v7gtx23) rfl rfl (by kernel_rfl) (by kernel_rfl) (by kernel_rfl) (fun _ _ _ h => h) (by rfl) ?y7gtx23 ?r7gtx23
  case y7gtx23 => (intro w' hSw; go_simp; try (with_reducible rfl))
  simp only [Act.put, List.setIfInBounds_toArray, List.set_cons_zero, List.set_cons_succ]
  have hw1 : IntKind.i64.wrap (a + 1) = a + 1 := wrapk_in (by omega) (by omega)
  refine wpB_take (i := 24) (d := 94) (v := ?v7gtx24) rfl rfl (by kernel_rfl) (by kernel_rfl) (by kernel_rfl) (fun _ _ _ h => h) (by rfl) ?y7gtx24 ?r7gtx24
  case y7gtx24 => (intro w' hSw; go_simp; try (with_reducible rfl))
  simp only [Act.put, List.setIfInBounds_toArray, List.set_cons_zero, List.set_cons_succ]
  clear hw1
  refine wpB_take (i := 26) (d := 96) (v := ?v7gtx26) rfl rfl (by kernel_rfl) (by kernel_rfl) (by kernel_rfl) (fun _ _ _ h => h) (by rfl) ?y7gtx26 ?r7gtx26
  case y7gtx26 => (intro w' hSw; go_simp; try (with_reducible rfl))
  simp only [Act.put, List.setIfInBounds_toArray, List.set_cons_zero, List.set_cons_succ]
  refine wpB_take (i := 27) (d := 97) (v := ?v7gtx27) rfl rfl (by kernel_rfl) (by kernel_rfl) (by kernel_rfl) (fun _ _ _ h => h) (by rfl) ?y7gtx27 ?r7gtx27
  case y7gtx27 => (intro w' hSw; go_simp; try (with_reducible rfl))
  simp only [Act.put, List.setIfInBounds_toArray, List.set_cons_zero, List.set_cons_succ]
  refine wpB_take (i := 28) (d := 98) (v := ?v7gtx28) rfl rfl (by kernel_rfl) (by kernel_rfl) (by kernel_rfl) (fun _ _ _ h => h) (by rfl) ?y7gtx28 ?r7gtx28
  case y7gtx28 => (intro w' hSw; go_simp; try (with_reducible rfl))
  simp only [Act.put, List.setIfInBounds_toArray, List.set_cons_zero, List.set_cons_succ]
  refine wpB_take (i := 29) (d := 99) (v := ?v7gtx29) rfl rfl (by kernel_rfl) (by kernel_rfl) (by kernel_rfl) (fun _ _ _ h => h) (by rfl) ?y7gtx29 ?r7gtx29
  case y7gtx29 => (intro w' hSw; go_simp; try (with_reducible rfl))
  simp only [Act.put, List.setIfInBounds_toArray, List.set_cons_zero, List.set_cons_succ]
  refine wpB_take (i := 31) (d := 101) (v := ?v7gtx31) rfl rfl (by kernel_rfl) (by kernel_rfl) (by kernel_rfl) (fun _ _ _ h => h) (by rfl) ?y7gtx31 ?r7gtx31
  case y7gtx31 => (intro w' hSw; go_simp; try (with_reducible rfl))
  simp only [Act.put, List.setIfInBounds_toArray, List.set_cons_zero, List.set_cons_succ]
  refine wpB_take (i := 32) (d := 102) (v := ?v7gtx32) rfl rfl (by kernel_rfl) (by kernel_rfl) (by kernel_rfl) (fun _ _ _ h => h) (by rfl) ?y7gtx32 ?r7gtx32
  case y7gtx32 => (intro w' hSw; go_simp; try (with_reducible rfl))
  simp only [Act.put, List.setIfInBounds_toArray, List.set_cons_zero, List.set_cons_succ]
  refine wpB_take (i := 33) (d := 103) (v := ?v7gtx33) rfl rfl (by kernel_rfl) (by kernel_rfl) (by kernel_rfl) (fun _ _ _ h => h) (by rfl) ?y7gtx33 ?r7gtx33
  case y7gtx33 => (intro w' hSw; go_simp; try (with_reducible rfl))
  simp only [Act.put, List.setIfInBounds_toArray, List.set_cons_zero, List.set_cons_succ]
  refine wpB_do (i := 25) (by kernel_rfl) rfl (by rfl) (fun K hK => ?_)
  go_simp
  refine (need_any c P.m (a + 1) w9).mono ?_
  rintro e w10 ⟨rfl, hb⟩
  have HV10 : Hid (At c w w10 ∧ Box w10 g1 25 #[.int .i64 P.s, .int .i64 P.u, .int .i64 P.i, .int .i64 P.m, .int .i64 P.p]) := ⟨HV9.out.1.later hb, HV9.out.2.later hb⟩
  have HB10 : Hid (B ≤ w10.heap.size) := Nat.le_trans HB9.out hb.size
  have hbk := hb.mono HB9.out
  go_simp
  refine hK.out B _ _ (Nat.le_refl _) hbk ?_
  clear hK hb hbk HV9 HB9 p0 p1 p2 p3 p4 q0 q1 q2 q3 q4 q5 q6 q7 q8 q9 q10
  have q0 : ∀ w', Below B w10 w' → w'.cell? ⟨w.heap.size, 0, none⟩ = some (.int .i64 c.id) := fun w' h => (box11 (HV10.out.1.1.under h HB.out.1)).1
  have q1 : ∀ w', Below B w10 w' → w'.cell? ⟨w.heap.size, 1, none⟩ = some (.int .i64 c.m) := fun w' h => (box11 (HV10.out.1.1.under h HB.out.1)).2.1
  have q2 : ∀ w', Below B w10 w' → w'.cell? ⟨w.heap.size, 2, none⟩ = some (.int .i64 c.u) := fun w' h => (box11 (HV10.out.1.1.under h HB.out.1)).2.2.1
  have q3 : ∀ w', Below B w10 w' → w'.cell? ⟨w.heap.size, 3, none⟩ = some (.int .i64 c.b) := fun w' h => (box11 (HV10.out.1.1.under h HB.out.1)).2.2.2.1
  have q4 : ∀ w', Below B w10 w' → w'.cell? ⟨w.heap.size, 4, none⟩ = some (.int .i64 c.cp) := fun w' h => (box11 (HV10.out.1.1.under h HB.out.1)).2.2.2.2.1
  have q5 : ∀ w', Below B w10 w' → w'.cell? ⟨w.heap.size, 5, none⟩ = some (.int .i64 c.z) := fun w' h => (box11 (HV10.out.1.1.under h HB.out.1)).2.2.2.2.2.1
  have q6 : ∀ w', Below B w10 w' → w'.cell? ⟨w.heap.size, 6, none⟩ = some (.int .i64 c.s) := fun w' h => (box11 (HV10.out.1.1.under h HB.out.1)).2.2.2.2.2.2.1
  have q7 : ∀ w', Below B w10 w' → w'.cell? ⟨w.heap.size, 7, none⟩ = some (.int .i64 c.mt) := fun w' h => (box11 (HV10.out.1.1.under h HB.out.1)).2.2.2.2.2.2.2.1
  have q8 : ∀ w', Below B w10 w' → w'.cell? ⟨w.heap.size, 8, none⟩ = some (.int .i64 c.o) := fun w' h => (box11 (HV10.out.1.1.under h HB.out.1)).2.2.2.2.2.2.2.2.1
  have q9 : ∀ w', Below B w10 w' → w'.cell? ⟨w.heap.size, 9, none⟩ = some (.int .i64 c.a) := fun w' h => (box11 (HV10.out.1.1.under h HB.out.1)).2.2.2.2.2.2.2.2.2.1
  have q10 : ∀ w', Below B w10 w' → w'.cell? ⟨w.heap.size, 10, none⟩ = some (.int .i64 c.l) := fun w' h => (box11 (HV10.out.1.1.under h HB.out.1)).2.2.2.2.2.2.2.2.2.2
  have p0 : ∀ w', Below B w10 w' → w'.cell? ⟨g1, 0, none⟩ = some (.int .i64 P.s) := fun w' h => (box5 (HV10.out.2.under h HB.out.2)).1.1
  have p1 : ∀ w', Below B w10 w' → w'.cell? ⟨g1, 1, none⟩ = some (.int .i64 P.u) := fun w' h => (box5 (HV10.out.2.under h HB.out.2)).1.2.1
  have p2 : ∀ w', Below B w10 w' → w'.cell? ⟨g1, 2, none⟩ = some (.int .i64 P.i) := fun w' h => (box5 (HV10.out.2.under h HB.out.2)).1.2.2.1
  have p3 : ∀ w', Below B w10 w' → w'.cell? ⟨g1, 3, none⟩ = some (.int .i64 P.m) := fun w' h => (box5 (HV10.out.2.under h HB.out.2)).1.2.2.2.1
  have p4 : ∀ w', Below B w10 w' → w'.cell? ⟨g1, 4, none⟩ = some (.int .i64 P.p) := fun w' h => (box5 (HV10.out.2.under h HB.out.2)).1.2.2.2.2
  rw [HX.out]
  refine wpB_do (i := 30) (by kernel_rfl) rfl (by rfl) (fun K hK => ?_)
  go_simp
  refine (need_any c P.m a w10).mono ?_
  rintro e w11 ⟨rfl, hb⟩
  have HV11 : Hid (At c w w11 ∧ Box w11 g1 25 #[.int .i64 P.s, .int .i64 P.u, .int .i64 P.i, .int .i64 P.m, .int .i64 P.p]) := ⟨HV10.out.1.later hb, HV10.out.2.later hb⟩
  have HB11 : Hid (B ≤ w11.heap.size) := Nat.le_trans HB10.out hb.size
  have hbk := hb.mono HB10.out
  go_simp
  refine hK.out B _ _ (Nat.le_refl _) hbk ?_
  clear hK hb hbk HV10 HB10 p0 p1 p2 p3 p4 q0 q1 q2 q3 q4 q5 q6 q7 q8 q9 q10
  have q0 : ∀ w', Below B w11 w' → w'.cell? ⟨w.heap.size, 0, none⟩ = some (.int .i64 c.id) := fun w' h => (box11 (HV11.out.1.1.under h HB.out.1)).1
  have q1 : ∀ w', Below B w11 w' → w'.cell? ⟨w.heap.size, 1, none⟩ = some (.int .i64 c.m) := fun w' h => (box11 (HV11.out.1.1.under h HB.out.1)).2.1
  have q2 : ∀ w', Below B w11 w' → w'.cell? ⟨w.heap.size, 2, none⟩ = some (.int .i64 c.u) := fun w' h => (box11 (HV11.out.1.1.under h HB.out.1)).2.2.1
  have q3 : ∀ w', Below B w11 w' → w'.cell? ⟨w.heap.size, 3, none⟩ = some (.int .i64 c.b) := fun w' h => (box11 (HV11.out.1.1.under h HB.out.1)).2.2.2.1
  have q4 : ∀ w', Below B w11 w' → w'.cell? ⟨w.heap.size, 4, none⟩ = some (.int .i64 c.cp) := fun w' h => (box11 (HV11.out.1.1.under h HB.out.1)).2.2.2.2.1
  have q5 : ∀ w', Below B w11 w' → w'.cell? ⟨w.heap.size, 5, none⟩ = some (.int .i64 c.z) := fun w' h => (box11 (HV11.out.1.1.under h HB.out.1)).2.2.2.2.2.1
  have q6 : ∀ w', Below B w11 w' → w'.cell? ⟨w.heap.size, 6, none⟩ = some (.int .i64 c.s) := fun w' h => (box11 (HV11.out.1.1.under h HB.out.1)).2.2.2.2.2.2.1
  have q7 : ∀ w', Below B w11 w' → w'.cell? ⟨w.heap.size, 7, none⟩ = some (.int .i64 c.mt) := fun w' h => (box11 (HV11.out.1.1.under h HB.out.1)).2.2.2.2.2.2.2.1
  have q8 : ∀ w', Below B w11 w' → w'.cell? ⟨w.heap.size, 8, none⟩ = some (.int .i64 c.o) := fun w' h => (box11 (HV11.out.1.1.under h HB.out.1)).2.2.2.2.2.2.2.2.1
  have q9 : ∀ w', Below B w11 w' → w'.cell? ⟨w.heap.size, 9, none⟩ = some (.int .i64 c.a) := fun w' h => (box11 (HV11.out.1.1.under h HB.out.1)).2.2.2.2.2.2.2.2.2.1
  have q10 : ∀ w', Below B w11 w' → w'.cell? ⟨w.heap.size, 10, none⟩ = some (.int .i64 c.l) := fun w' h => (box11 (HV11.out.1.1.under h HB.out.1)).2.2.2.2.2.2.2.2.2.2
  have p0 : ∀ w', Below B w11 w' → w'.cell? ⟨g1, 0, none⟩ = some (.int .i64 P.s) := fun w' h => (box5 (HV11.out.2.under h HB.out.2)).1.1
  have p1 : ∀ w', Below B w11 w' → w'.cell? ⟨g1, 1, none⟩ = some (.int .i64 P.u) := fun w' h => (box5 (HV11.out.2.under h HB.out.2)).1.2.1
  have p2 : ∀ w', Below B w11 w' → w'.cell? ⟨g1, 2, none⟩ = some (.int .i64 P.i) := fun w' h => (box5 (HV11.out.2.under h HB.out.2)).1.2.2.1
  have p3 : ∀ w', Below B w11 w' → w'.cell? ⟨g1, 3, none⟩ = some (.int .i64 P.m) := fun w' h => (box5 (HV11.out.2.under h HB.out.2)).1.2.2.2.1
  have p4 : ∀ w', Below B w11 w' → w'.cell? ⟨g1, 4, none⟩ = some (.int .i64 P.p) := fun w' h => (box5 (HV11.out.2.under h HB.out.2)).1.2.2.2.2
  rw [HN.out]
  refine wpB_do (i := 34) (by kernel_rfl) rfl (by rfl) (fun K hK => ?_)
  go_simp
  refine (grows_any c a P w11 HL.out HC.out HA.out.1 HA.out.2).mono ?_
  rintro e w12 ⟨rfl, hb⟩
  have HV12 : Hid (At c w w12 ∧ Box w12 g1 25 #[.int .i64 P.s, .int .i64 P.u, .int .i64 P.i, .int .i64 P.m, .int .i64 P.p]) := ⟨HV11.out.1.later hb, HV11.out.2.later hb⟩
  have HB12 : Hid (B ≤ w12.heap.size) := Nat.le_trans HB11.out hb.size
  have hbk := hb.mono HB11.out
  go_simp
  refine hK.out B _ _ (Nat.le_refl _) hbk ?_
  clear hK hb hbk HV11 HB11 p0 p1 p2 p3 p4 q0 q1 q2 q3 q4 q5 q6 q7 q8 q9 q10
  have q0 : ∀ w', Below B w12 w' → w'.cell? ⟨w.heap.size, 0, none⟩ = some (.int .i64 c.id) := fun w' h => (box11 (HV12.out.1.1.under h HB.out.1)).1
  have q1 : ∀ w', Below B w12 w' → w'.cell? ⟨w.heap.size, 1, none⟩ = some (.int .i64 c.m) := fun w' h => (box11 (HV12.out.1.1.under h HB.out.1)).2.1
  have q2 : ∀ w', Below B w12 w' → w'.cell? ⟨w.heap.size, 2, none⟩ = some (.int .i64 c.u) := fun w' h => (box11 (HV12.out.1.1.under h HB.out.1)).2.2.1
  have q3 : ∀ w', Below B w12 w' → w'.cell? ⟨w.heap.size, 3, none⟩ = some (.int .i64 c.b) := fun w' h => (box11 (HV12.out.1.1.under h HB.out.1)).2.2.2.1
  have q4 : ∀ w', Below B w12 w' → w'.cell? ⟨w.heap.size, 4, none⟩ = some (.int .i64 c.cp) := fun w' h => (box11 (HV12.out.1.1.under h HB.out.1)).2.2.2.2.1
  have q5 : ∀ w', Below B w12 w' → w'.cell? ⟨w.heap.size, 5, none⟩ = some (.int .i64 c.z) := fun w' h => (box11 (HV12.out.1.1.under h HB.out.1)).2.2.2.2.2.1
  have q6 : ∀ w', Below B w12 w' → w'.cell? ⟨w.heap.size, 6, none⟩ = some (.int .i64 c.s) := fun w' h => (box11 (HV12.out.1.1.under h HB.out.1)).2.2.2.2.2.2.1
  have q7 : ∀ w', Below B w12 w' → w'.cell? ⟨w.heap.size, 7, none⟩ = some (.int .i64 c.mt) := fun w' h => (box11 (HV12.out.1.1.under h HB.out.1)).2.2.2.2.2.2.2.1
  have q8 : ∀ w', Below B w12 w' → w'.cell? ⟨w.heap.size, 8, none⟩ = some (.int .i64 c.o) := fun w' h => (box11 (HV12.out.1.1.under h HB.out.1)).2.2.2.2.2.2.2.2.1
  have q9 : ∀ w', Below B w12 w' → w'.cell? ⟨w.heap.size, 9, none⟩ = some (.int .i64 c.a) := fun w' h => (box11 (HV12.out.1.1.under h HB.out.1)).2.2.2.2.2.2.2.2.2.1
  have q10 : ∀ w', Below B w12 w' → w'.cell? ⟨w.heap.size, 10, none⟩ = some (.int .i64 c.l) := fun w' h => (box11 (HV12.out.1.1.under h HB.out.1)).2.2.2.2.2.2.2.2.2.2
  have p0 : ∀ w', Below B w12 w' → w'.cell? ⟨g1, 0, none⟩ = some (.int .i64 P.s) := fun w' h => (box5 (HV12.out.2.under h HB.out.2)).1.1
  have p1 : ∀ w', Below B w12 w' → w'.cell? ⟨g1, 1, none⟩ = some (.int .i64 P.u) := fun w' h => (box5 (HV12.out.2.under h HB.out.2)).1.2.1
  have p2 : ∀ w', Below B w12 w' → w'.cell? ⟨g1, 2, none⟩ = some (.int .i64 P.i) := fun w' h => (box5 (HV12.out.2.under h HB.out.2)).1.2.2.1
  have p3 : ∀ w', Below B w12 w' → w'.cell? ⟨g1, 3, none⟩ = some (.int .i64 P.m) := fun w' h => (box5 (HV12.out.2.under h HB.out.2)).1.2.2.2.1
  have p4 : ∀ w', Below B w12 w' → w'.cell? ⟨g1, 4, none⟩ = some (.int .i64 P.p) := fun w' h => (box5 (HV12.out.2.under h HB.out.2)).1.2.2.2.2
  rw [HX.out]
  have hw2 : IntKind.i64.wrap (P.p + (X - P.p)) = X := by rw [show P.p + (X - P.p) = X by omega]; exact wrapk_in (by omega) (by omega)
  refine wpB_take (i := 35) (d := 105) (v := ?v7gtx35) rfl rfl (by kernel_rfl) (by kernel_rfl) (by kernel_rfl) (fun _ _ _ h => h) (by rfl) ?y7gtx35 ?r7gtx35
  case y7gtx35 => (intro w' hSw; go_simp; try (with_reducible rfl))
  simp only [Act.put, List.setIfInBounds_toArray, List.set_cons_zero, List.set_cons_succ]
  clear hw2
  refine wpB_take (i := 36) (d := 106) (v := ?v7gtx36) rfl rfl (by kernel_rfl) (by kernel_rfl) (by kernel_rfl) (fun _ _ _ h => h) (by rfl) ?y7gtx36 ?r7gtx36
  case y7gtx36 => (intro w' hSw; go_simp; try (with_reducible rfl))
  simp only [Act.put, List.setIfInBounds_toArray, List.set_cons_zero, List.set_cons_succ]
  refine wpB_take (i := 37) (d := 107) (v := ?v7gtx37) rfl rfl (by kernel_rfl) (by kernel_rfl) (by kernel_rfl) (fun _ _ _ h => h) (by rfl) ?y7gtx37 ?r7gtx37
  case y7gtx37 => (intro w' hSw; go_simp; try (with_reducible rfl))
  simp only [Act.put, List.setIfInBounds_toArray, List.set_cons_zero, List.set_cons_succ]
  refine wpB_take (i := 38) (d := 108) (v := ?v7gtx38) rfl rfl (by kernel_rfl) (by kernel_rfl) (by kernel_rfl) (fun _ _ _ h => h) (by rfl) ?y7gtx38 ?r7gtx38
  case y7gtx38 => (intro w' hSw; go_simp; try (with_reducible rfl))
  simp only [Act.put, List.setIfInBounds_toArray, List.set_cons_zero, List.set_cons_succ]
  refine wpB_do (i := 39) (by kernel_rfl) rfl (by rfl) (fun K hK => ?_)
  go_simp
  refine (live_any w12).mono ?_
  rintro e w13 ⟨rfl, hb⟩
  have HV13 : Hid (At c w w13 ∧ Box w13 g1 25 #[.int .i64 P.s, .int .i64 P.u, .int .i64 P.i, .int .i64 P.m, .int .i64 P.p]) := ⟨HV12.out.1.later hb, HV12.out.2.later hb⟩
  have HB13 : Hid (B ≤ w13.heap.size) := Nat.le_trans HB12.out hb.size
  have hbk := hb.mono HB12.out
  go_simp
  refine hK.out B _ _ (Nat.le_refl _) hbk ?_
  clear hK hb hbk HV12 HB12 p0 p1 p2 p3 p4 q0 q1 q2 q3 q4 q5 q6 q7 q8 q9 q10
  have q0 : ∀ w', Below B w13 w' → w'.cell? ⟨w.heap.size, 0, none⟩ = some (.int .i64 c.id) := fun w' h => (box11 (HV13.out.1.1.under h HB.out.1)).1
  have q1 : ∀ w', Below B w13 w' → w'.cell? ⟨w.heap.size, 1, none⟩ = some (.int .i64 c.m) := fun w' h => (box11 (HV13.out.1.1.under h HB.out.1)).2.1
  have q2 : ∀ w', Below B w13 w' → w'.cell? ⟨w.heap.size, 2, none⟩ = some (.int .i64 c.u) := fun w' h => (box11 (HV13.out.1.1.under h HB.out.1)).2.2.1
  have q3 : ∀ w', Below B w13 w' → w'.cell? ⟨w.heap.size, 3, none⟩ = some (.int .i64 c.b) := fun w' h => (box11 (HV13.out.1.1.under h HB.out.1)).2.2.2.1
  have q4 : ∀ w', Below B w13 w' → w'.cell? ⟨w.heap.size, 4, none⟩ = some (.int .i64 c.cp) := fun w' h => (box11 (HV13.out.1.1.under h HB.out.1)).2.2.2.2.1
  have q5 : ∀ w', Below B w13 w' → w'.cell? ⟨w.heap.size, 5, none⟩ = some (.int .i64 c.z) := fun w' h => (box11 (HV13.out.1.1.under h HB.out.1)).2.2.2.2.2.1
  have q6 : ∀ w', Below B w13 w' → w'.cell? ⟨w.heap.size, 6, none⟩ = some (.int .i64 c.s) := fun w' h => (box11 (HV13.out.1.1.under h HB.out.1)).2.2.2.2.2.2.1
  have q7 : ∀ w', Below B w13 w' → w'.cell? ⟨w.heap.size, 7, none⟩ = some (.int .i64 c.mt) := fun w' h => (box11 (HV13.out.1.1.under h HB.out.1)).2.2.2.2.2.2.2.1
  have q8 : ∀ w', Below B w13 w' → w'.cell? ⟨w.heap.size, 8, none⟩ = some (.int .i64 c.o) := fun w' h => (box11 (HV13.out.1.1.under h HB.out.1)).2.2.2.2.2.2.2.2.1
  have q9 : ∀ w', Below B w13 w' → w'.cell? ⟨w.heap.size, 9, none⟩ = some (.int .i64 c.a) := fun w' h => (box11 (HV13.out.1.1.under h HB.out.1)).2.2.2.2.2.2.2.2.2.1
  have q10 : ∀ w', Below B w13 w' → w'.cell? ⟨w.heap.size, 10, none⟩ = some (.int .i64 c.l) := fun w' h => (box11 (HV13.out.1.1.under h HB.out.1)).2.2.2.2.2.2.2.2.2.2
  have p0 : ∀ w', Below B w13 w' → w'.cell? ⟨g1, 0, none⟩ = some (.int .i64 P.s) := fun w' h => (box5 (HV13.out.2.under h HB.out.2)).1.1
  have p1 : ∀ w', Below B w13 w' → w'.cell? ⟨g1, 1, none⟩ = some (.int .i64 P.u) := fun w' h => (box5 (HV13.out.2.under h HB.out.2)).1.2.1
  have p2 : ∀ w', Below B w13 w' → w'.cell? ⟨g1, 2, none⟩ = some (.int .i64 P.i) := fun w' h => (box5 (HV13.out.2.under h HB.out.2)).1.2.2.1
  have p3 : ∀ w', Below B w13 w' → w'.cell? ⟨g1, 3, none⟩ = some (.int .i64 P.m) := fun w' h => (box5 (HV13.out.2.under h HB.out.2)).1.2.2.2.1
  have p4 : ∀ w', Below B w13 w' → w'.cell? ⟨g1, 4, none⟩ = some (.int .i64 P.p) := fun w' h => (box5 (HV13.out.2.under h HB.out.2)).1.2.2.2.2
  refine wpB_take (i := 40) (d := 110) (v := ?v7gtx40) rfl rfl (by kernel_rfl) (by kernel_rfl) (by kernel_rfl) (fun _ _ _ h => h) (by rfl) ?y7gtx40 ?r7gtx40
  case y7gtx40 => (intro w' hSw; go_simp; try (with_reducible rfl))
  simp only [Act.put, List.setIfInBounds_toArray, List.set_cons_zero, List.set_cons_succ]
  refine wpB_take (i := 41) (d := 6) (v := ?v7gtx41) rfl rfl (by kernel_rfl) (by kernel_rfl) (by kernel_rfl) (fun _ _ _ h => h) (by rfl) ?y7gtx41 ?r7gtx41
  case y7gtx41 => (intro w' hSw; go_simp; try (with_reducible rfl))
  simp only [Act.put, List.setIfInBounds_toArray, List.set_cons_zero, List.set_cons_succ]
  refine wpB_done (by kernel_rfl) ?_
  go_wp2
  go_ret
  exact ⟨rfl, HV13.out.1.2.1⟩
end Go.Proofs.Ytlefjllpeapomaa
