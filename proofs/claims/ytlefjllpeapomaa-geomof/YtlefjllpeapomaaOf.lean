/- For all settings and numbers the law GeomOf returns true: the walk. -/
import Derived.Test.YtlefjllpeapomaaY
namespace Go.Proofs.Ytlefjllpeapomaa
set_option linter.unusedVariables false
set_option linter.unusedSimpArgs false
open Go.RowKit
open Go.RowKit (wrap64)

set_option maxRecDepth 100000 in
set_option maxHeartbeats 8000000 in
theorem geomOf_walk (c : Cf) (lb s u m phys : Int) (w : World) : Calls Try.prog 3 #[(.agg #[.int .i64 c.id, .int .i64 c.m, .int .i64 c.u, .int .i64 c.b, .int .i64 c.cp, .int .i64 c.z, .int .i64 c.s, .int .i64 c.mt, .int .i64 c.o, .int .i64 c.a, .int .i64 c.l]), .int .i64 lb, .int .i64 s, .int .i64 u, .int .i64 m, .int .i64 phys] w (Says w (.bool true)) := by
  go_enter Try.func3, Try.ntmps3
  go_wp2_with fail
  have HV0 := Lib.hid (At.new c w)
  generalize (w.alloc (.cells #[.int .i64 c.id, .int .i64 c.m, .int .i64 c.u, .int .i64 c.b, .int .i64 c.cp, .int .i64 c.z, .int .i64 c.s, .int .i64 c.mt, .int .i64 c.o, .int .i64 c.a, .int .i64 c.l] 23)) = w0 at HV0 ⊢
  obtain ⟨y0, y1, y2, y3, y4, y5, y6, y7, y8, y9, y10⟩ := box11 HV0.out.1
  refine (of_any c lb w0).mono ?_
  rintro e w1 ⟨rfl, hb⟩
  have HV1 := Lib.hid (HV0.out.later hb)
  clear hb HV0 y0 y1 y2 y3 y4 y5 y6 y7 y8 y9 y10
  have HR := Lib.hid (rOf_any c lb)
  generalize ofA c lb = P at HR ⊢
  generalize ofB c lb = ok at HR ⊢
  obtain ⟨y0, y1, y2, y3, y4, y5, y6, y7, y8, y9, y10⟩ := box11 HV1.out.1
  go_upto_region 2 with fail
  have HV2 := Lib.hid (HV1.out.alloc (.cells #[.int .i64 P.s, .int .i64 P.u, .int .i64 P.i, .int .i64 P.m, .int .i64 P.p] 25))
  have HP2 := Lib.hid (Box.fresh w1 25 #[.int .i64 P.s, .int .i64 P.u, .int .i64 P.i, .int .i64 P.m, .int .i64 P.p])
  generalize (w1.alloc (.cells #[.int .i64 P.s, .int .i64 P.u, .int .i64 P.i, .int .i64 P.m, .int .i64 P.p] 25)) = w2 at HV2 HP2 ⊢
  generalize w1.heap.size = g1 at HP2 ⊢
  clear HV1 y0 y1 y2 y3 y4 y5 y6 y7 y8 y9 y10
  obtain ⟨y0, y1, y2, y3, y4, y5, y6, y7, y8, y9, y10⟩ := box11 HV2.out.1
  go_wp2_with fail
  refine (HR.out w2).mono ?_
  rintro e w3 ⟨rfl, hb⟩
  have HV3 := Lib.hid (HV2.out.later hb)
  have HP3 := Lib.hid (HP2.out.later hb)
  clear hb HV2 HP2 HR y0 y1 y2 y3 y4 y5 y6 y7 y8 y9 y10
  obtain ⟨y0, y1, y2, y3, y4, y5, y6, y7, y8, y9, y10⟩ := box11 HV3.out.1
  go_upto_region 3 with fail
  have HV4 := Lib.hid (HV3.out.alloc (.cells #[.int .i64 P.s, .int .i64 P.u, .int .i64 P.i, .int .i64 P.m, .int .i64 P.p] 25))
  have HP4 := Lib.hid (HP3.out.later ((Below.refl w3.heap.size w3).alloc (Nat.le_refl _) (.cells #[.int .i64 P.s, .int .i64 P.u, .int .i64 P.i, .int .i64 P.m, .int .i64 P.p] 25)))
  have HQ4 := Lib.hid (Box.fresh w3 25 #[.int .i64 P.s, .int .i64 P.u, .int .i64 P.i, .int .i64 P.m, .int .i64 P.p])
  generalize (w3.alloc (.cells #[.int .i64 P.s, .int .i64 P.u, .int .i64 P.i, .int .i64 P.m, .int .i64 P.p] 25)) = w4 at HV4 HP4 HQ4 ⊢
  generalize w3.heap.size = g2 at HQ4 ⊢
  clear HV3 HP3 y0 y1 y2 y3 y4 y5 y6 y7 y8 y9 y10
  obtain ⟨y0, y1, y2, y3, y4, y5, y6, y7, y8, y9, y10⟩ := box11 HV4.out.1
  go_wp2_with fail
  refine (back_any c m phys w4).mono ?_
  rintro e w5 ⟨rfl, hb⟩
  have HV5 := Lib.hid (HV4.out.later hb)
  have HP5 := Lib.hid (HP4.out.later hb)
  have HQ5 := Lib.hid (HQ4.out.later hb)
  clear hb HV4 HP4 HQ4 y0 y1 y2 y3 y4 y5 y6 y7 y8 y9 y10
  have HR := Lib.hid (rBack_any c m phys)
  generalize backA c m phys = B at HR ⊢
  obtain ⟨y0, y1, y2, y3, y4, y5, y6, y7, y8, y9, y10⟩ := box11 HV5.out.1
  go_wp2_with fail
  refine (HR.out w5).mono ?_
  rintro e w6 ⟨rfl, hb⟩
  have HV6 := Lib.hid (HV5.out.later hb)
  have HP6 := Lib.hid (HP5.out.later hb)
  have HQ6 := Lib.hid (HQ5.out.later hb)
  clear hb HV5 HP5 HQ5 HR y0 y1 y2 y3 y4 y5 y6 y7 y8 y9 y10
  obtain ⟨y0, y1, y2, y3, y4, y5, y6, y7, y8, y9, y10⟩ := box11 HV6.out.1
  obtain ⟨⟨z0, z1, z2, z3, z4⟩, f0, f1, f2, f3, f4⟩ := box5 HP6.out
  obtain ⟨⟨t0, t1, t2, t3, t4⟩, j0, j1, j2, j3, j4⟩ := box5 HQ6.out
  go_wp2_with fail
  clear z0 z1 z2 z3 z4 f0 f1 f2 f3 f4 t0 t1 t2 t3 t4 j0 j1 j2 j3 j4 HP6 HQ6
  have HV7 := HV6
  clear HV6
  refine wpB_start (w.heap.size + 1) (by kernel_rfl) ?_
  have HV8 := Lib.hid HV7.out.drew
  generalize w6.drew = w8 at HV8 ⊢
  clear HV7 y0 y1 y2 y3 y4 y5 y6 y7 y8 y9 y10
  have q0 : ∀ w', Below (w.heap.size + 1) w8 w' → w'.cell? ⟨w.heap.size, 0, none⟩ = some (.int .i64 c.id) := fun w' h => (box11 (HV8.out.below h)).1
  have q1 : ∀ w', Below (w.heap.size + 1) w8 w' → w'.cell? ⟨w.heap.size, 1, none⟩ = some (.int .i64 c.m) := fun w' h => (box11 (HV8.out.below h)).2.1
  have q2 : ∀ w', Below (w.heap.size + 1) w8 w' → w'.cell? ⟨w.heap.size, 2, none⟩ = some (.int .i64 c.u) := fun w' h => (box11 (HV8.out.below h)).2.2.1
  have q3 : ∀ w', Below (w.heap.size + 1) w8 w' → w'.cell? ⟨w.heap.size, 3, none⟩ = some (.int .i64 c.b) := fun w' h => (box11 (HV8.out.below h)).2.2.2.1
  have q4 : ∀ w', Below (w.heap.size + 1) w8 w' → w'.cell? ⟨w.heap.size, 4, none⟩ = some (.int .i64 c.cp) := fun w' h => (box11 (HV8.out.below h)).2.2.2.2.1
  have q5 : ∀ w', Below (w.heap.size + 1) w8 w' → w'.cell? ⟨w.heap.size, 5, none⟩ = some (.int .i64 c.z) := fun w' h => (box11 (HV8.out.below h)).2.2.2.2.2.1
  have q6 : ∀ w', Below (w.heap.size + 1) w8 w' → w'.cell? ⟨w.heap.size, 6, none⟩ = some (.int .i64 c.s) := fun w' h => (box11 (HV8.out.below h)).2.2.2.2.2.2.1
  have q7 : ∀ w', Below (w.heap.size + 1) w8 w' → w'.cell? ⟨w.heap.size, 7, none⟩ = some (.int .i64 c.mt) := fun w' h => (box11 (HV8.out.below h)).2.2.2.2.2.2.2.1
  have q8 : ∀ w', Below (w.heap.size + 1) w8 w' → w'.cell? ⟨w.heap.size, 8, none⟩ = some (.int .i64 c.o) := fun w' h => (box11 (HV8.out.below h)).2.2.2.2.2.2.2.2.1
  have q9 : ∀ w', Below (w.heap.size + 1) w8 w' → w'.cell? ⟨w.heap.size, 9, none⟩ = some (.int .i64 c.a) := fun w' h => (box11 (HV8.out.below h)).2.2.2.2.2.2.2.2.2.1
  have q10 : ∀ w', Below (w.heap.size + 1) w8 w' → w'.cell? ⟨w.heap.size, 10, none⟩ = some (.int .i64 c.l) := fun w' h => (box11 (HV8.out.below h)).2.2.2.2.2.2.2.2.2.2
  refine wpB_take (i := 0) (d := 65) (v := ?v7x0) rfl rfl (by kernel_rfl) (by kernel_rfl) (by kernel_rfl) (fun _ _ _ h => h) (by rfl) ?y7x0 ?r7x0
  case y7x0 => (intro w' hSw; go_simp; try (with_reducible rfl))
  simp only [Act.put, List.setIfInBounds_toArray, List.set_cons_zero, List.set_cons_succ]
  refine wpB_take (i := 1) (d := 66) (v := ?v7x1) rfl rfl (by kernel_rfl) (by kernel_rfl) (by kernel_rfl) (fun _ _ _ h => h) (by rfl) ?y7x1 ?r7x1
  case y7x1 => (intro w' hSw; go_simp; try (with_reducible rfl))
  simp only [Act.put, List.setIfInBounds_toArray, List.set_cons_zero, List.set_cons_succ]
  refine wpB_take (i := 3) (d := 68) (v := ?v7x3) rfl rfl (by kernel_rfl) (by kernel_rfl) (by kernel_rfl) (fun _ _ _ h => h) (by rfl) ?y7x3 ?r7x3
  case y7x3 => (intro w' hSw; go_simp; try (with_reducible rfl))
  simp only [Act.put, List.setIfInBounds_toArray, List.set_cons_zero, List.set_cons_succ]
  refine wpB_take (i := 4) (d := 69) (v := ?v7x4) rfl rfl (by kernel_rfl) (by kernel_rfl) (by kernel_rfl) (fun _ _ _ h => h) (by rfl) ?y7x4 ?r7x4
  case y7x4 => (intro w' hSw; go_simp; try (with_reducible rfl))
  simp only [Act.put, List.setIfInBounds_toArray, List.set_cons_zero, List.set_cons_succ]
  refine wpB_do (i := 2) (by kernel_rfl) rfl (by rfl) (fun K hK => ?_)
  go_simp
  refine (parity_any c s w8).mono ?_
  rintro e w9 ⟨rfl, hb⟩
  have HV9 := Lib.hid (HV8.out.later hb)
  have hbk := hb.mono HV8.out.2.2
  go_simp
  refine hK.out (w.heap.size + 1) _ _ (Nat.le_refl _) hbk ?_
  clear hK hb hbk HV8 q0 q1 q2 q3 q4 q5 q6 q7 q8 q9 q10
  have q0 : ∀ w', Below (w.heap.size + 1) w9 w' → w'.cell? ⟨w.heap.size, 0, none⟩ = some (.int .i64 c.id) := fun w' h => (box11 (HV9.out.below h)).1
  have q1 : ∀ w', Below (w.heap.size + 1) w9 w' → w'.cell? ⟨w.heap.size, 1, none⟩ = some (.int .i64 c.m) := fun w' h => (box11 (HV9.out.below h)).2.1
  have q2 : ∀ w', Below (w.heap.size + 1) w9 w' → w'.cell? ⟨w.heap.size, 2, none⟩ = some (.int .i64 c.u) := fun w' h => (box11 (HV9.out.below h)).2.2.1
  have q3 : ∀ w', Below (w.heap.size + 1) w9 w' → w'.cell? ⟨w.heap.size, 3, none⟩ = some (.int .i64 c.b) := fun w' h => (box11 (HV9.out.below h)).2.2.2.1
  have q4 : ∀ w', Below (w.heap.size + 1) w9 w' → w'.cell? ⟨w.heap.size, 4, none⟩ = some (.int .i64 c.cp) := fun w' h => (box11 (HV9.out.below h)).2.2.2.2.1
  have q5 : ∀ w', Below (w.heap.size + 1) w9 w' → w'.cell? ⟨w.heap.size, 5, none⟩ = some (.int .i64 c.z) := fun w' h => (box11 (HV9.out.below h)).2.2.2.2.2.1
  have q6 : ∀ w', Below (w.heap.size + 1) w9 w' → w'.cell? ⟨w.heap.size, 6, none⟩ = some (.int .i64 c.s) := fun w' h => (box11 (HV9.out.below h)).2.2.2.2.2.2.1
  have q7 : ∀ w', Below (w.heap.size + 1) w9 w' → w'.cell? ⟨w.heap.size, 7, none⟩ = some (.int .i64 c.mt) := fun w' h => (box11 (HV9.out.below h)).2.2.2.2.2.2.2.1
  have q8 : ∀ w', Below (w.heap.size + 1) w9 w' → w'.cell? ⟨w.heap.size, 8, none⟩ = some (.int .i64 c.o) := fun w' h => (box11 (HV9.out.below h)).2.2.2.2.2.2.2.2.1
  have q9 : ∀ w', Below (w.heap.size + 1) w9 w' → w'.cell? ⟨w.heap.size, 9, none⟩ = some (.int .i64 c.a) := fun w' h => (box11 (HV9.out.below h)).2.2.2.2.2.2.2.2.2.1
  have q10 : ∀ w', Below (w.heap.size + 1) w9 w' → w'.cell? ⟨w.heap.size, 10, none⟩ = some (.int .i64 c.l) := fun w' h => (box11 (HV9.out.below h)).2.2.2.2.2.2.2.2.2.2
  refine wpB_do (i := 5) (by kernel_rfl) rfl (by rfl) (fun K hK => ?_)
  go_simp
  refine (rParity_any c s w9).mono ?_
  rintro e w10 ⟨rfl, hb⟩
  have HV10 := Lib.hid (HV9.out.later hb)
  have hbk := hb.mono HV9.out.2.2
  go_simp
  refine hK.out (w.heap.size + 1) _ _ (Nat.le_refl _) hbk ?_
  clear hK hb hbk HV9 q0 q1 q2 q3 q4 q5 q6 q7 q8 q9 q10
  have q0 : ∀ w', Below (w.heap.size + 1) w10 w' → w'.cell? ⟨w.heap.size, 0, none⟩ = some (.int .i64 c.id) := fun w' h => (box11 (HV10.out.below h)).1
  have q1 : ∀ w', Below (w.heap.size + 1) w10 w' → w'.cell? ⟨w.heap.size, 1, none⟩ = some (.int .i64 c.m) := fun w' h => (box11 (HV10.out.below h)).2.1
  have q2 : ∀ w', Below (w.heap.size + 1) w10 w' → w'.cell? ⟨w.heap.size, 2, none⟩ = some (.int .i64 c.u) := fun w' h => (box11 (HV10.out.below h)).2.2.1
  have q3 : ∀ w', Below (w.heap.size + 1) w10 w' → w'.cell? ⟨w.heap.size, 3, none⟩ = some (.int .i64 c.b) := fun w' h => (box11 (HV10.out.below h)).2.2.2.1
  have q4 : ∀ w', Below (w.heap.size + 1) w10 w' → w'.cell? ⟨w.heap.size, 4, none⟩ = some (.int .i64 c.cp) := fun w' h => (box11 (HV10.out.below h)).2.2.2.2.1
  have q5 : ∀ w', Below (w.heap.size + 1) w10 w' → w'.cell? ⟨w.heap.size, 5, none⟩ = some (.int .i64 c.z) := fun w' h => (box11 (HV10.out.below h)).2.2.2.2.2.1
  have q6 : ∀ w', Below (w.heap.size + 1) w10 w' → w'.cell? ⟨w.heap.size, 6, none⟩ = some (.int .i64 c.s) := fun w' h => (box11 (HV10.out.below h)).2.2.2.2.2.2.1
  have q7 : ∀ w', Below (w.heap.size + 1) w10 w' → w'.cell? ⟨w.heap.size, 7, none⟩ = some (.int .i64 c.mt) := fun w' h => (box11 (HV10.out.below h)).2.2.2.2.2.2.2.1
  have q8 : ∀ w', Below (w.heap.size + 1) w10 w' → w'.cell? ⟨w.heap.size, 8, none⟩ = some (.int .i64 c.o) := fun w' h => (box11 (HV10.out.below h)).2.2.2.2.2.2.2.2.1
  have q9 : ∀ w', Below (w.heap.size + 1) w10 w' → w'.cell? ⟨w.heap.size, 9, none⟩ = some (.int .i64 c.a) := fun w' h => (box11 (HV10.out.below h)).2.2.2.2.2.2.2.2.2.1
  have q10 : ∀ w', Below (w.heap.size + 1) w10 w' → w'.cell? ⟨w.heap.size, 10, none⟩ = some (.int .i64 c.l) := fun w' h => (box11 (HV10.out.below h)).2.2.2.2.2.2.2.2.2.2
  refine wpB_take (i := 6) (d := 71) (v := ?v7x6) rfl rfl (by kernel_rfl) (by kernel_rfl) (by kernel_rfl) (fun _ _ _ h => h) (by rfl) ?y7x6 ?r7x6
  case y7x6 => (intro w' hSw; go_simp; try (with_reducible rfl))
  simp only [Act.put, List.setIfInBounds_toArray, List.set_cons_zero, List.set_cons_succ]
  refine wpB_take (i := 7) (d := 72) (v := ?v7x7) rfl rfl (by kernel_rfl) (by kernel_rfl) (by kernel_rfl) (fun _ _ _ h => h) (by rfl) ?y7x7 ?r7x7
  case y7x7 => (intro w' hSw; go_simp; try (with_reducible rfl))
  simp only [Act.put, List.setIfInBounds_toArray, List.set_cons_zero, List.set_cons_succ]
  refine wpB_take (i := 8) (d := 73) (v := ?v7x8) rfl rfl (by kernel_rfl) (by kernel_rfl) (by kernel_rfl) (fun _ _ _ h => h) (by rfl) ?y7x8 ?r7x8
  case y7x8 => (intro w' hSw; go_simp; try (with_reducible rfl))
  simp only [Act.put, List.setIfInBounds_toArray, List.set_cons_zero, List.set_cons_succ]
  refine wpB_take (i := 9) (d := 74) (v := ?v7x9) rfl rfl (by kernel_rfl) (by kernel_rfl) (by kernel_rfl) (fun _ _ _ h => h) (by rfl) ?y7x9 ?r7x9
  case y7x9 => (intro w' hSw; go_simp; try (with_reducible rfl))
  simp only [Act.put, List.setIfInBounds_toArray, List.set_cons_zero, List.set_cons_succ]
  refine wpB_take (i := 10) (d := 75) (v := ?v7x10) rfl rfl (by kernel_rfl) (by kernel_rfl) (by kernel_rfl) (fun _ _ _ h => h) (by rfl) ?y7x10 ?r7x10
  case y7x10 => (intro w' hSw; go_simp; try (with_reducible rfl))
  simp only [Act.put, List.setIfInBounds_toArray, List.set_cons_zero, List.set_cons_succ]
  refine wpB_take (i := 12) (d := 77) (v := ?v7x12) rfl rfl (by kernel_rfl) (by kernel_rfl) (by kernel_rfl) (fun _ _ _ h => h) (by rfl) ?y7x12 ?r7x12
  case y7x12 => (intro w' hSw; go_simp; try (with_reducible rfl))
  simp only [Act.put, List.setIfInBounds_toArray, List.set_cons_zero, List.set_cons_succ]
  refine wpB_take (i := 13) (d := 78) (v := ?v7x13) rfl rfl (by kernel_rfl) (by kernel_rfl) (by kernel_rfl) (fun _ _ _ h => h) (by rfl) ?y7x13 ?r7x13
  case y7x13 => (intro w' hSw; go_simp; try (with_reducible rfl))
  simp only [Act.put, List.setIfInBounds_toArray, List.set_cons_zero, List.set_cons_succ]
  refine wpB_take (i := 14) (d := 79) (v := ?v7x14) rfl rfl (by kernel_rfl) (by kernel_rfl) (by kernel_rfl) (fun _ _ _ h => h) (by rfl) ?y7x14 ?r7x14
  case y7x14 => (intro w' hSw; go_simp; try (with_reducible rfl))
  simp only [Act.put, List.setIfInBounds_toArray, List.set_cons_zero, List.set_cons_succ]
  refine wpB_do (i := 11) (by kernel_rfl) rfl (by rfl) (fun K hK => ?_)
  go_simp
  refine (member_any c s u w10).mono ?_
  rintro e w11 ⟨rfl, hb⟩
  have HV11 := Lib.hid (HV10.out.later hb)
  have hbk := hb.mono HV10.out.2.2
  go_simp
  refine hK.out (w.heap.size + 1) _ _ (Nat.le_refl _) hbk ?_
  clear hK hb hbk HV10 q0 q1 q2 q3 q4 q5 q6 q7 q8 q9 q10
  have q0 : ∀ w', Below (w.heap.size + 1) w11 w' → w'.cell? ⟨w.heap.size, 0, none⟩ = some (.int .i64 c.id) := fun w' h => (box11 (HV11.out.below h)).1
  have q1 : ∀ w', Below (w.heap.size + 1) w11 w' → w'.cell? ⟨w.heap.size, 1, none⟩ = some (.int .i64 c.m) := fun w' h => (box11 (HV11.out.below h)).2.1
  have q2 : ∀ w', Below (w.heap.size + 1) w11 w' → w'.cell? ⟨w.heap.size, 2, none⟩ = some (.int .i64 c.u) := fun w' h => (box11 (HV11.out.below h)).2.2.1
  have q3 : ∀ w', Below (w.heap.size + 1) w11 w' → w'.cell? ⟨w.heap.size, 3, none⟩ = some (.int .i64 c.b) := fun w' h => (box11 (HV11.out.below h)).2.2.2.1
  have q4 : ∀ w', Below (w.heap.size + 1) w11 w' → w'.cell? ⟨w.heap.size, 4, none⟩ = some (.int .i64 c.cp) := fun w' h => (box11 (HV11.out.below h)).2.2.2.2.1
  have q5 : ∀ w', Below (w.heap.size + 1) w11 w' → w'.cell? ⟨w.heap.size, 5, none⟩ = some (.int .i64 c.z) := fun w' h => (box11 (HV11.out.below h)).2.2.2.2.2.1
  have q6 : ∀ w', Below (w.heap.size + 1) w11 w' → w'.cell? ⟨w.heap.size, 6, none⟩ = some (.int .i64 c.s) := fun w' h => (box11 (HV11.out.below h)).2.2.2.2.2.2.1
  have q7 : ∀ w', Below (w.heap.size + 1) w11 w' → w'.cell? ⟨w.heap.size, 7, none⟩ = some (.int .i64 c.mt) := fun w' h => (box11 (HV11.out.below h)).2.2.2.2.2.2.2.1
  have q8 : ∀ w', Below (w.heap.size + 1) w11 w' → w'.cell? ⟨w.heap.size, 8, none⟩ = some (.int .i64 c.o) := fun w' h => (box11 (HV11.out.below h)).2.2.2.2.2.2.2.2.1
  have q9 : ∀ w', Below (w.heap.size + 1) w11 w' → w'.cell? ⟨w.heap.size, 9, none⟩ = some (.int .i64 c.a) := fun w' h => (box11 (HV11.out.below h)).2.2.2.2.2.2.2.2.2.1
  have q10 : ∀ w', Below (w.heap.size + 1) w11 w' → w'.cell? ⟨w.heap.size, 10, none⟩ = some (.int .i64 c.l) := fun w' h => (box11 (HV11.out.below h)).2.2.2.2.2.2.2.2.2.2
  refine wpB_do (i := 15) (by kernel_rfl) rfl (by rfl) (fun K hK => ?_)
  go_simp
  refine (rMember_any c s u w11).mono ?_
  rintro e w12 ⟨rfl, hb⟩
  have HV12 := Lib.hid (HV11.out.later hb)
  have hbk := hb.mono HV11.out.2.2
  go_simp
  refine hK.out (w.heap.size + 1) _ _ (Nat.le_refl _) hbk ?_
  clear hK hb hbk HV11 q0 q1 q2 q3 q4 q5 q6 q7 q8 q9 q10
  have q0 : ∀ w', Below (w.heap.size + 1) w12 w' → w'.cell? ⟨w.heap.size, 0, none⟩ = some (.int .i64 c.id) := fun w' h => (box11 (HV12.out.below h)).1
  have q1 : ∀ w', Below (w.heap.size + 1) w12 w' → w'.cell? ⟨w.heap.size, 1, none⟩ = some (.int .i64 c.m) := fun w' h => (box11 (HV12.out.below h)).2.1
  have q2 : ∀ w', Below (w.heap.size + 1) w12 w' → w'.cell? ⟨w.heap.size, 2, none⟩ = some (.int .i64 c.u) := fun w' h => (box11 (HV12.out.below h)).2.2.1
  have q3 : ∀ w', Below (w.heap.size + 1) w12 w' → w'.cell? ⟨w.heap.size, 3, none⟩ = some (.int .i64 c.b) := fun w' h => (box11 (HV12.out.below h)).2.2.2.1
  have q4 : ∀ w', Below (w.heap.size + 1) w12 w' → w'.cell? ⟨w.heap.size, 4, none⟩ = some (.int .i64 c.cp) := fun w' h => (box11 (HV12.out.below h)).2.2.2.2.1
  have q5 : ∀ w', Below (w.heap.size + 1) w12 w' → w'.cell? ⟨w.heap.size, 5, none⟩ = some (.int .i64 c.z) := fun w' h => (box11 (HV12.out.below h)).2.2.2.2.2.1
  have q6 : ∀ w', Below (w.heap.size + 1) w12 w' → w'.cell? ⟨w.heap.size, 6, none⟩ = some (.int .i64 c.s) := fun w' h => (box11 (HV12.out.below h)).2.2.2.2.2.2.1
  have q7 : ∀ w', Below (w.heap.size + 1) w12 w' → w'.cell? ⟨w.heap.size, 7, none⟩ = some (.int .i64 c.mt) := fun w' h => (box11 (HV12.out.below h)).2.2.2.2.2.2.2.1
  have q8 : ∀ w', Below (w.heap.size + 1) w12 w' → w'.cell? ⟨w.heap.size, 8, none⟩ = some (.int .i64 c.o) := fun w' h => (box11 (HV12.out.below h)).2.2.2.2.2.2.2.2.1
  have q9 : ∀ w', Below (w.heap.size + 1) w12 w' → w'.cell? ⟨w.heap.size, 9, none⟩ = some (.int .i64 c.a) := fun w' h => (box11 (HV12.out.below h)).2.2.2.2.2.2.2.2.2.1
  have q10 : ∀ w', Below (w.heap.size + 1) w12 w' → w'.cell? ⟨w.heap.size, 10, none⟩ = some (.int .i64 c.l) := fun w' h => (box11 (HV12.out.below h)).2.2.2.2.2.2.2.2.2.2
  refine wpB_take (i := 16) (d := 81) (v := ?v7x16) rfl rfl (by kernel_rfl) (by kernel_rfl) (by kernel_rfl) (fun _ _ _ h => h) (by rfl) ?y7x16 ?r7x16
  case y7x16 => (intro w' hSw; go_simp; try (with_reducible rfl))
  simp only [Act.put, List.setIfInBounds_toArray, List.set_cons_zero, List.set_cons_succ]
  refine wpB_take (i := 17) (d := 82) (v := ?v7x17) rfl rfl (by kernel_rfl) (by kernel_rfl) (by kernel_rfl) (fun _ _ _ h => h) (by rfl) ?y7x17 ?r7x17
  case y7x17 => (intro w' hSw; go_simp; try (with_reducible rfl))
  simp only [Act.put, List.setIfInBounds_toArray, List.set_cons_zero, List.set_cons_succ]
  refine wpB_take (i := 18) (d := 83) (v := ?v7x18) rfl rfl (by kernel_rfl) (by kernel_rfl) (by kernel_rfl) (fun _ _ _ h => h) (by rfl) ?y7x18 ?r7x18
  case y7x18 => (intro w' hSw; go_simp; try (with_reducible rfl))
  simp only [Act.put, List.setIfInBounds_toArray, List.set_cons_zero, List.set_cons_succ]
  refine wpB_take (i := 19) (d := 84) (v := ?v7x19) rfl rfl (by kernel_rfl) (by kernel_rfl) (by kernel_rfl) (fun _ _ _ h => h) (by rfl) ?y7x19 ?r7x19
  case y7x19 => (intro w' hSw; go_simp; try (with_reducible rfl))
  simp only [Act.put, List.setIfInBounds_toArray, List.set_cons_zero, List.set_cons_succ]
  refine wpB_take (i := 20) (d := 85) (v := ?v7x20) rfl rfl (by kernel_rfl) (by kernel_rfl) (by kernel_rfl) (fun _ _ _ h => h) (by rfl) ?y7x20 ?r7x20
  case y7x20 => (intro w' hSw; go_simp; try (with_reducible rfl))
  simp only [Act.put, List.setIfInBounds_toArray, List.set_cons_zero, List.set_cons_succ]
  refine wpB_take (i := 21) (d := 86) (v := ?v7x21) rfl rfl (by kernel_rfl) (by kernel_rfl) (by kernel_rfl) (fun _ _ _ h => h) (by rfl) ?y7x21 ?r7x21
  case y7x21 => (intro w' hSw; go_simp; try (with_reducible rfl))
  simp only [Act.put, List.setIfInBounds_toArray, List.set_cons_zero, List.set_cons_succ]
  refine wpB_take (i := 23) (d := 88) (v := ?v7x23) rfl rfl (by kernel_rfl) (by kernel_rfl) (by kernel_rfl) (fun _ _ _ h => h) (by rfl) ?y7x23 ?r7x23
  case y7x23 => (intro w' hSw; go_simp; try (with_reducible rfl))
  simp only [Act.put, List.setIfInBounds_toArray, List.set_cons_zero, List.set_cons_succ]
  refine wpB_take (i := 24) (d := 89) (v := ?v7x24) rfl rfl (by kernel_rfl) (by kernel_rfl) (by kernel_rfl) (fun _ _ _ h => h) (by rfl) ?y7x24 ?r7x24
  case y7x24 => (intro w' hSw; go_simp; try (with_reducible rfl))
  simp only [Act.put, List.setIfInBounds_toArray, List.set_cons_zero, List.set_cons_succ]
  refine wpB_take (i := 25) (d := 90) (v := ?v7x25) rfl rfl (by kernel_rfl) (by kernel_rfl) (by kernel_rfl) (fun _ _ _ h => h) (by rfl) ?y7x25 ?r7x25
  case y7x25 => (intro w' hSw; go_simp; try (with_reducible rfl))
  simp only [Act.put, List.setIfInBounds_toArray, List.set_cons_zero, List.set_cons_succ]
  refine wpB_do (i := 22) (by kernel_rfl) rfl (by rfl) (fun K hK => ?_)
  go_simp
  refine (unit_any c s m w12).mono ?_
  rintro e w13 ⟨rfl, hb⟩
  have HV13 := Lib.hid (HV12.out.later hb)
  have hbk := hb.mono HV12.out.2.2
  go_simp
  refine hK.out (w.heap.size + 1) _ _ (Nat.le_refl _) hbk ?_
  clear hK hb hbk HV12 q0 q1 q2 q3 q4 q5 q6 q7 q8 q9 q10
  have q0 : ∀ w', Below (w.heap.size + 1) w13 w' → w'.cell? ⟨w.heap.size, 0, none⟩ = some (.int .i64 c.id) := fun w' h => (box11 (HV13.out.below h)).1
  have q1 : ∀ w', Below (w.heap.size + 1) w13 w' → w'.cell? ⟨w.heap.size, 1, none⟩ = some (.int .i64 c.m) := fun w' h => (box11 (HV13.out.below h)).2.1
  have q2 : ∀ w', Below (w.heap.size + 1) w13 w' → w'.cell? ⟨w.heap.size, 2, none⟩ = some (.int .i64 c.u) := fun w' h => (box11 (HV13.out.below h)).2.2.1
  have q3 : ∀ w', Below (w.heap.size + 1) w13 w' → w'.cell? ⟨w.heap.size, 3, none⟩ = some (.int .i64 c.b) := fun w' h => (box11 (HV13.out.below h)).2.2.2.1
  have q4 : ∀ w', Below (w.heap.size + 1) w13 w' → w'.cell? ⟨w.heap.size, 4, none⟩ = some (.int .i64 c.cp) := fun w' h => (box11 (HV13.out.below h)).2.2.2.2.1
  have q5 : ∀ w', Below (w.heap.size + 1) w13 w' → w'.cell? ⟨w.heap.size, 5, none⟩ = some (.int .i64 c.z) := fun w' h => (box11 (HV13.out.below h)).2.2.2.2.2.1
  have q6 : ∀ w', Below (w.heap.size + 1) w13 w' → w'.cell? ⟨w.heap.size, 6, none⟩ = some (.int .i64 c.s) := fun w' h => (box11 (HV13.out.below h)).2.2.2.2.2.2.1
  have q7 : ∀ w', Below (w.heap.size + 1) w13 w' → w'.cell? ⟨w.heap.size, 7, none⟩ = some (.int .i64 c.mt) := fun w' h => (box11 (HV13.out.below h)).2.2.2.2.2.2.2.1
  have q8 : ∀ w', Below (w.heap.size + 1) w13 w' → w'.cell? ⟨w.heap.size, 8, none⟩ = some (.int .i64 c.o) := fun w' h => (box11 (HV13.out.below h)).2.2.2.2.2.2.2.2.1
  have q9 : ∀ w', Below (w.heap.size + 1) w13 w' → w'.cell? ⟨w.heap.size, 9, none⟩ = some (.int .i64 c.a) := fun w' h => (box11 (HV13.out.below h)).2.2.2.2.2.2.2.2.2.1
  have q10 : ∀ w', Below (w.heap.size + 1) w13 w' → w'.cell? ⟨w.heap.size, 10, none⟩ = some (.int .i64 c.l) := fun w' h => (box11 (HV13.out.below h)).2.2.2.2.2.2.2.2.2.2
  refine wpB_do (i := 26) (by kernel_rfl) rfl (by rfl) (fun K hK => ?_)
  go_simp
  refine (rUnit_any c s m w13).mono ?_
  rintro e w14 ⟨rfl, hb⟩
  have HV14 := Lib.hid (HV13.out.later hb)
  have hbk := hb.mono HV13.out.2.2
  go_simp
  refine hK.out (w.heap.size + 1) _ _ (Nat.le_refl _) hbk ?_
  clear hK hb hbk HV13 q0 q1 q2 q3 q4 q5 q6 q7 q8 q9 q10
  have q0 : ∀ w', Below (w.heap.size + 1) w14 w' → w'.cell? ⟨w.heap.size, 0, none⟩ = some (.int .i64 c.id) := fun w' h => (box11 (HV14.out.below h)).1
  have q1 : ∀ w', Below (w.heap.size + 1) w14 w' → w'.cell? ⟨w.heap.size, 1, none⟩ = some (.int .i64 c.m) := fun w' h => (box11 (HV14.out.below h)).2.1
  have q2 : ∀ w', Below (w.heap.size + 1) w14 w' → w'.cell? ⟨w.heap.size, 2, none⟩ = some (.int .i64 c.u) := fun w' h => (box11 (HV14.out.below h)).2.2.1
  have q3 : ∀ w', Below (w.heap.size + 1) w14 w' → w'.cell? ⟨w.heap.size, 3, none⟩ = some (.int .i64 c.b) := fun w' h => (box11 (HV14.out.below h)).2.2.2.1
  have q4 : ∀ w', Below (w.heap.size + 1) w14 w' → w'.cell? ⟨w.heap.size, 4, none⟩ = some (.int .i64 c.cp) := fun w' h => (box11 (HV14.out.below h)).2.2.2.2.1
  have q5 : ∀ w', Below (w.heap.size + 1) w14 w' → w'.cell? ⟨w.heap.size, 5, none⟩ = some (.int .i64 c.z) := fun w' h => (box11 (HV14.out.below h)).2.2.2.2.2.1
  have q6 : ∀ w', Below (w.heap.size + 1) w14 w' → w'.cell? ⟨w.heap.size, 6, none⟩ = some (.int .i64 c.s) := fun w' h => (box11 (HV14.out.below h)).2.2.2.2.2.2.1
  have q7 : ∀ w', Below (w.heap.size + 1) w14 w' → w'.cell? ⟨w.heap.size, 7, none⟩ = some (.int .i64 c.mt) := fun w' h => (box11 (HV14.out.below h)).2.2.2.2.2.2.2.1
  have q8 : ∀ w', Below (w.heap.size + 1) w14 w' → w'.cell? ⟨w.heap.size, 8, none⟩ = some (.int .i64 c.o) := fun w' h => (box11 (HV14.out.below h)).2.2.2.2.2.2.2.2.1
  have q9 : ∀ w', Below (w.heap.size + 1) w14 w' → w'.cell? ⟨w.heap.size, 9, none⟩ = some (.int .i64 c.a) := fun w' h => (box11 (HV14.out.below h)).2.2.2.2.2.2.2.2.2.1
  have q10 : ∀ w', Below (w.heap.size + 1) w14 w' → w'.cell? ⟨w.heap.size, 10, none⟩ = some (.int .i64 c.l) := fun w' h => (box11 (HV14.out.below h)).2.2.2.2.2.2.2.2.2.2
  refine wpB_take (i := 27) (d := 92) (v := ?v7x27) rfl rfl (by kernel_rfl) (by kernel_rfl) (by kernel_rfl) (fun _ _ _ h => h) (by rfl) ?y7x27 ?r7x27
  case y7x27 => (intro w' hSw; go_simp; try (with_reducible rfl))
  simp only [Act.put, List.setIfInBounds_toArray, List.set_cons_zero, List.set_cons_succ]
  refine wpB_take (i := 28) (d := 93) (v := ?v7x28) rfl rfl (by kernel_rfl) (by kernel_rfl) (by kernel_rfl) (fun _ _ _ h => h) (by rfl) ?y7x28 ?r7x28
  case y7x28 => (intro w' hSw; go_simp; try (with_reducible rfl))
  simp only [Act.put, List.setIfInBounds_toArray, List.set_cons_zero, List.set_cons_succ]
  refine wpB_take (i := 29) (d := 94) (v := ?v7x29) rfl rfl (by kernel_rfl) (by kernel_rfl) (by kernel_rfl) (fun _ _ _ h => h) (by rfl) ?y7x29 ?r7x29
  case y7x29 => (intro w' hSw; go_simp; try (with_reducible rfl))
  simp only [Act.put, List.setIfInBounds_toArray, List.set_cons_zero, List.set_cons_succ]
  refine wpB_do (i := 30) (by kernel_rfl) rfl (by rfl) (fun K hK => ?_)
  go_simp
  refine (live_any w14).mono ?_
  rintro e w15 ⟨rfl, hb⟩
  have HV15 := Lib.hid (HV14.out.later hb)
  have hbk := hb.mono HV14.out.2.2
  go_simp
  refine hK.out (w.heap.size + 1) _ _ (Nat.le_refl _) hbk ?_
  clear hK hb hbk HV14 q0 q1 q2 q3 q4 q5 q6 q7 q8 q9 q10
  have q0 : ∀ w', Below (w.heap.size + 1) w15 w' → w'.cell? ⟨w.heap.size, 0, none⟩ = some (.int .i64 c.id) := fun w' h => (box11 (HV15.out.below h)).1
  have q1 : ∀ w', Below (w.heap.size + 1) w15 w' → w'.cell? ⟨w.heap.size, 1, none⟩ = some (.int .i64 c.m) := fun w' h => (box11 (HV15.out.below h)).2.1
  have q2 : ∀ w', Below (w.heap.size + 1) w15 w' → w'.cell? ⟨w.heap.size, 2, none⟩ = some (.int .i64 c.u) := fun w' h => (box11 (HV15.out.below h)).2.2.1
  have q3 : ∀ w', Below (w.heap.size + 1) w15 w' → w'.cell? ⟨w.heap.size, 3, none⟩ = some (.int .i64 c.b) := fun w' h => (box11 (HV15.out.below h)).2.2.2.1
  have q4 : ∀ w', Below (w.heap.size + 1) w15 w' → w'.cell? ⟨w.heap.size, 4, none⟩ = some (.int .i64 c.cp) := fun w' h => (box11 (HV15.out.below h)).2.2.2.2.1
  have q5 : ∀ w', Below (w.heap.size + 1) w15 w' → w'.cell? ⟨w.heap.size, 5, none⟩ = some (.int .i64 c.z) := fun w' h => (box11 (HV15.out.below h)).2.2.2.2.2.1
  have q6 : ∀ w', Below (w.heap.size + 1) w15 w' → w'.cell? ⟨w.heap.size, 6, none⟩ = some (.int .i64 c.s) := fun w' h => (box11 (HV15.out.below h)).2.2.2.2.2.2.1
  have q7 : ∀ w', Below (w.heap.size + 1) w15 w' → w'.cell? ⟨w.heap.size, 7, none⟩ = some (.int .i64 c.mt) := fun w' h => (box11 (HV15.out.below h)).2.2.2.2.2.2.2.1
  have q8 : ∀ w', Below (w.heap.size + 1) w15 w' → w'.cell? ⟨w.heap.size, 8, none⟩ = some (.int .i64 c.o) := fun w' h => (box11 (HV15.out.below h)).2.2.2.2.2.2.2.2.1
  have q9 : ∀ w', Below (w.heap.size + 1) w15 w' → w'.cell? ⟨w.heap.size, 9, none⟩ = some (.int .i64 c.a) := fun w' h => (box11 (HV15.out.below h)).2.2.2.2.2.2.2.2.2.1
  have q10 : ∀ w', Below (w.heap.size + 1) w15 w' → w'.cell? ⟨w.heap.size, 10, none⟩ = some (.int .i64 c.l) := fun w' h => (box11 (HV15.out.below h)).2.2.2.2.2.2.2.2.2.2
  refine wpB_take (i := 31) (d := 96) (v := ?v7x31) rfl rfl (by kernel_rfl) (by kernel_rfl) (by kernel_rfl) (fun _ _ _ h => h) (by rfl) ?y7x31 ?r7x31
  case y7x31 => (intro w' hSw; go_simp; try (with_reducible rfl))
  simp only [Act.put, List.setIfInBounds_toArray, List.set_cons_zero, List.set_cons_succ]
  refine wpB_take (i := 32) (d := 12) (v := ?v7x32) rfl rfl (by kernel_rfl) (by kernel_rfl) (by kernel_rfl) (fun _ _ _ h => h) (by rfl) ?y7x32 ?r7x32
  case y7x32 => (intro w' hSw; go_simp; try (with_reducible rfl))
  simp only [Act.put, List.setIfInBounds_toArray, List.set_cons_zero, List.set_cons_succ]
  refine wpB_done (by kernel_rfl) ?_
  clear q0 q1 q2 q3 q4 q5 q6 q7 q8 q9 q10
  go_wp2
  go_ret
  exact ⟨rfl, HV15.out.2.1⟩
end Go.Proofs.Ytlefjllpeapomaa
