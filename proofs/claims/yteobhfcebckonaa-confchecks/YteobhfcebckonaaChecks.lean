/- For all settings the law ConfChecks returns true: the walk. -/
import Derived.Test.YteobhfcebckonaaN
namespace Go.Proofs.Yteobhfcebckonaa
set_option linter.unusedVariables false
set_option linter.unusedSimpArgs false
open Go.RowKit
open Go.RowKit (wrap64)

/-- The settings lie in block w.heap.size, the reference's numbers in block g. -/
structure At2 (c : Cf) (w : World) (g : Nat) (w' : World) : Prop where
  box : Box w' w.heap.size 23 #[.int .i64 c.id, .int .i64 c.m, .int .i64 c.u, .int .i64 c.b, .int .i64 c.cp, .int .i64 c.z, .int .i64 c.s, .int .i64 c.mt, .int .i64 c.o, .int .i64 c.a, .int .i64 c.l]
  nums : Box w' g 24 #[.int .i64 (dataC c), .int .i64 (dataC c * c.u), .int .i64 (stripesC c), .int .i64 (stripesC c * (dataC c * c.u)), .int .i64 (slotsC c), .int .i64 (allC c), .int .i64 (roomC c)]
  bel : Below w.heap.size w w'
  gt : w.heap.size < g
  sz : g + 1 ≤ w'.heap.size
theorem At2.a {c : Cf} {w w' w2 : World} {g : Nat} (h : At2 c w g w') (hb : Below (g + 1) w' w2) : Box w2 w.heap.size 23 #[.int .i64 c.id, .int .i64 c.m, .int .i64 c.u, .int .i64 c.b, .int .i64 c.cp, .int .i64 c.z, .int .i64 c.s, .int .i64 c.mt, .int .i64 c.o, .int .i64 c.a, .int .i64 c.l] := h.box.under hb (by have := h.gt; omega)
theorem At2.b {c : Cf} {w w' w2 : World} {g : Nat} (h : At2 c w g w') (hb : Below (g + 1) w' w2) : Box w2 g 24 #[.int .i64 (dataC c), .int .i64 (dataC c * c.u), .int .i64 (stripesC c), .int .i64 (stripesC c * (dataC c * c.u)), .int .i64 (slotsC c), .int .i64 (allC c), .int .i64 (roomC c)] := h.nums.under hb (by omega)
theorem At2.later {c : Cf} {w w' w2 : World} {g : Nat} (h : At2 c w g w') (hb : Below w'.heap.size w' w2) : At2 c w g w2 := ⟨h.box.later hb, h.nums.later hb, h.bel.trans (hb.mono h.bel.size), h.gt, Nat.le_trans h.sz hb.size⟩
theorem At2.drew {c : Cf} {w w' : World} {g : Nat} (h : At2 c w g w') : At2 c w g w'.drew := h.later (Below.refl _ _).drew
theorem At2.of {c : Cf} {w w' : World} (h : At c w w') : At2 c w w'.heap.size (w'.alloc (.cells #[.int .i64 (dataC c), .int .i64 (dataC c * c.u), .int .i64 (stripesC c), .int .i64 (stripesC c * (dataC c * c.u)), .int .i64 (slotsC c), .int .i64 (allC c), .int .i64 (roomC c)] 24)) :=
  ⟨(h.alloc _).1, Box.fresh w' 24 _, (h.alloc _).2.1, h.2.2, by simp⟩

set_option maxRecDepth 100000 in
set_option maxHeartbeats 8000000 in
theorem confChecks_walk (c : Cf) (w : World) : Calls Try.prog 3 #[(.agg #[.int .i64 c.id, .int .i64 c.m, .int .i64 c.u, .int .i64 c.b, .int .i64 c.cp, .int .i64 c.z, .int .i64 c.s, .int .i64 c.mt, .int .i64 c.o, .int .i64 c.a, .int .i64 c.l])] w (Says w (.bool true)) := by
  go_enter Try.func3, Try.ntmps3
  go_wp2_with fail
  have HA0 := Lib.hid (At.new c w)
  generalize (w.alloc (.cells #[.int .i64 c.id, .int .i64 c.m, .int .i64 c.u, .int .i64 c.b, .int .i64 c.cp, .int .i64 c.z, .int .i64 c.s, .int .i64 c.mt, .int .i64 c.o, .int .i64 c.a, .int .i64 c.l] 23)) = wa at HA0 ⊢
  refine (nums_any c wa).mono ?_
  rintro e wb ⟨rfl, hb⟩
  have HA1 := Lib.hid (HA0.out.later hb)
  clear hb HA0
  go_wp2_with fail
  refine wpB_start (wb.heap.size + 1) (by kernel_rfl) ?_
  have HV0 := Lib.hid (At2.of HA1.out).drew
  generalize (wb.alloc (.cells #[.int .i64 (dataC c), .int .i64 (dataC c * c.u), .int .i64 (stripesC c), .int .i64 (stripesC c * (dataC c * c.u)), .int .i64 (slotsC c), .int .i64 (allC c), .int .i64 (roomC c)] 24)).drew = w0 at HV0 ⊢
  generalize wb.heap.size = g at HV0 ⊢
  clear HA1
  have q0 : ∀ w', Below (g + 1) w0 w' → w'.cell? ⟨w.heap.size, 0, none⟩ = some (.int .i64 c.id) := fun w' h => (box11 (HV0.out.a h)).1
  have q1 : ∀ w', Below (g + 1) w0 w' → w'.cell? ⟨w.heap.size, 1, none⟩ = some (.int .i64 c.m) := fun w' h => (box11 (HV0.out.a h)).2.1
  have q2 : ∀ w', Below (g + 1) w0 w' → w'.cell? ⟨w.heap.size, 2, none⟩ = some (.int .i64 c.u) := fun w' h => (box11 (HV0.out.a h)).2.2.1
  have q3 : ∀ w', Below (g + 1) w0 w' → w'.cell? ⟨w.heap.size, 3, none⟩ = some (.int .i64 c.b) := fun w' h => (box11 (HV0.out.a h)).2.2.2.1
  have q4 : ∀ w', Below (g + 1) w0 w' → w'.cell? ⟨w.heap.size, 4, none⟩ = some (.int .i64 c.cp) := fun w' h => (box11 (HV0.out.a h)).2.2.2.2.1
  have q5 : ∀ w', Below (g + 1) w0 w' → w'.cell? ⟨w.heap.size, 5, none⟩ = some (.int .i64 c.z) := fun w' h => (box11 (HV0.out.a h)).2.2.2.2.2.1
  have q6 : ∀ w', Below (g + 1) w0 w' → w'.cell? ⟨w.heap.size, 6, none⟩ = some (.int .i64 c.s) := fun w' h => (box11 (HV0.out.a h)).2.2.2.2.2.2.1
  have q7 : ∀ w', Below (g + 1) w0 w' → w'.cell? ⟨w.heap.size, 7, none⟩ = some (.int .i64 c.mt) := fun w' h => (box11 (HV0.out.a h)).2.2.2.2.2.2.2.1
  have q8 : ∀ w', Below (g + 1) w0 w' → w'.cell? ⟨w.heap.size, 8, none⟩ = some (.int .i64 c.o) := fun w' h => (box11 (HV0.out.a h)).2.2.2.2.2.2.2.2.1
  have q9 : ∀ w', Below (g + 1) w0 w' → w'.cell? ⟨w.heap.size, 9, none⟩ = some (.int .i64 c.a) := fun w' h => (box11 (HV0.out.a h)).2.2.2.2.2.2.2.2.2.1
  have q10 : ∀ w', Below (g + 1) w0 w' → w'.cell? ⟨w.heap.size, 10, none⟩ = some (.int .i64 c.l) := fun w' h => (box11 (HV0.out.a h)).2.2.2.2.2.2.2.2.2.2
  have n0 : ∀ w', Below (g + 1) w0 w' → w'.cell? ⟨g, 0, none⟩ = some (.int .i64 (dataC c)) := fun w' h => (box7 (HV0.out.b h)).1.1
  have n1 : ∀ w', Below (g + 1) w0 w' → w'.cell? ⟨g, 1, none⟩ = some (.int .i64 (dataC c * c.u)) := fun w' h => (box7 (HV0.out.b h)).1.2.1
  have n2 : ∀ w', Below (g + 1) w0 w' → w'.cell? ⟨g, 2, none⟩ = some (.int .i64 (stripesC c)) := fun w' h => (box7 (HV0.out.b h)).1.2.2.1
  have n3 : ∀ w', Below (g + 1) w0 w' → w'.cell? ⟨g, 3, none⟩ = some (.int .i64 (stripesC c * (dataC c * c.u))) := fun w' h => (box7 (HV0.out.b h)).1.2.2.2.1
  have n4 : ∀ w', Below (g + 1) w0 w' → w'.cell? ⟨g, 4, none⟩ = some (.int .i64 (slotsC c)) := fun w' h => (box7 (HV0.out.b h)).1.2.2.2.2.1
  have n5 : ∀ w', Below (g + 1) w0 w' → w'.cell? ⟨g, 5, none⟩ = some (.int .i64 (allC c)) := fun w' h => (box7 (HV0.out.b h)).1.2.2.2.2.2.1
  have n6 : ∀ w', Below (g + 1) w0 w' → w'.cell? ⟨g, 6, none⟩ = some (.int .i64 (roomC c)) := fun w' h => (box7 (HV0.out.b h)).1.2.2.2.2.2.2
  refine wpB_take (i := 0) (d := 7) (v := ?v2x0) rfl rfl (by kernel_rfl) (by kernel_rfl) (by kernel_rfl) (fun _ _ _ h => h) (by rfl) ?y2x0 ?r2x0
  case y2x0 => (intro w' hSw; go_simp; try (with_reducible rfl))
  simp only [Act.put, List.setIfInBounds_toArray, List.set_cons_zero, List.set_cons_succ]
  refine wpB_take (i := 2) (d := 9) (v := ?v2x2) rfl rfl (by kernel_rfl) (by kernel_rfl) (by kernel_rfl) (fun _ _ _ h => h) (by rfl) ?y2x2 ?r2x2
  case y2x2 => (intro w' hSw; go_simp; try (with_reducible rfl))
  simp only [Act.put, List.setIfInBounds_toArray, List.set_cons_zero, List.set_cons_succ]
  refine wpB_take (i := 3) (d := 10) (v := ?v2x3) rfl rfl (by kernel_rfl) (by kernel_rfl) (by kernel_rfl) (fun _ _ _ h => h) (by rfl) ?y2x3 ?r2x3
  case y2x3 => (intro w' hSw; go_simp; try (with_reducible rfl))
  simp only [Act.put, List.setIfInBounds_toArray, List.set_cons_zero, List.set_cons_succ]
  refine wpB_do (i := 1) (by kernel_rfl) rfl (by rfl) (fun K hK => ?_)
  go_simp
  refine (data_any c w0).mono ?_
  rintro e w1 ⟨rfl, hb⟩
  have HV1 := Lib.hid (HV0.out.later hb)
  have hbk := hb.mono HV0.out.sz
  go_simp
  refine hK.out (g + 1) _ _ (Nat.le_refl _) hbk ?_
  clear hK hb hbk HV0 q0 q1 q2 q3 q4 q5 q6 q7 q8 q9 q10 n0 n1 n2 n3 n4 n5 n6
  have q0 : ∀ w', Below (g + 1) w1 w' → w'.cell? ⟨w.heap.size, 0, none⟩ = some (.int .i64 c.id) := fun w' h => (box11 (HV1.out.a h)).1
  have q1 : ∀ w', Below (g + 1) w1 w' → w'.cell? ⟨w.heap.size, 1, none⟩ = some (.int .i64 c.m) := fun w' h => (box11 (HV1.out.a h)).2.1
  have q2 : ∀ w', Below (g + 1) w1 w' → w'.cell? ⟨w.heap.size, 2, none⟩ = some (.int .i64 c.u) := fun w' h => (box11 (HV1.out.a h)).2.2.1
  have q3 : ∀ w', Below (g + 1) w1 w' → w'.cell? ⟨w.heap.size, 3, none⟩ = some (.int .i64 c.b) := fun w' h => (box11 (HV1.out.a h)).2.2.2.1
  have q4 : ∀ w', Below (g + 1) w1 w' → w'.cell? ⟨w.heap.size, 4, none⟩ = some (.int .i64 c.cp) := fun w' h => (box11 (HV1.out.a h)).2.2.2.2.1
  have q5 : ∀ w', Below (g + 1) w1 w' → w'.cell? ⟨w.heap.size, 5, none⟩ = some (.int .i64 c.z) := fun w' h => (box11 (HV1.out.a h)).2.2.2.2.2.1
  have q6 : ∀ w', Below (g + 1) w1 w' → w'.cell? ⟨w.heap.size, 6, none⟩ = some (.int .i64 c.s) := fun w' h => (box11 (HV1.out.a h)).2.2.2.2.2.2.1
  have q7 : ∀ w', Below (g + 1) w1 w' → w'.cell? ⟨w.heap.size, 7, none⟩ = some (.int .i64 c.mt) := fun w' h => (box11 (HV1.out.a h)).2.2.2.2.2.2.2.1
  have q8 : ∀ w', Below (g + 1) w1 w' → w'.cell? ⟨w.heap.size, 8, none⟩ = some (.int .i64 c.o) := fun w' h => (box11 (HV1.out.a h)).2.2.2.2.2.2.2.2.1
  have q9 : ∀ w', Below (g + 1) w1 w' → w'.cell? ⟨w.heap.size, 9, none⟩ = some (.int .i64 c.a) := fun w' h => (box11 (HV1.out.a h)).2.2.2.2.2.2.2.2.2.1
  have q10 : ∀ w', Below (g + 1) w1 w' → w'.cell? ⟨w.heap.size, 10, none⟩ = some (.int .i64 c.l) := fun w' h => (box11 (HV1.out.a h)).2.2.2.2.2.2.2.2.2.2
  have n0 : ∀ w', Below (g + 1) w1 w' → w'.cell? ⟨g, 0, none⟩ = some (.int .i64 (dataC c)) := fun w' h => (box7 (HV1.out.b h)).1.1
  have n1 : ∀ w', Below (g + 1) w1 w' → w'.cell? ⟨g, 1, none⟩ = some (.int .i64 (dataC c * c.u)) := fun w' h => (box7 (HV1.out.b h)).1.2.1
  have n2 : ∀ w', Below (g + 1) w1 w' → w'.cell? ⟨g, 2, none⟩ = some (.int .i64 (stripesC c)) := fun w' h => (box7 (HV1.out.b h)).1.2.2.1
  have n3 : ∀ w', Below (g + 1) w1 w' → w'.cell? ⟨g, 3, none⟩ = some (.int .i64 (stripesC c * (dataC c * c.u))) := fun w' h => (box7 (HV1.out.b h)).1.2.2.2.1
  have n4 : ∀ w', Below (g + 1) w1 w' → w'.cell? ⟨g, 4, none⟩ = some (.int .i64 (slotsC c)) := fun w' h => (box7 (HV1.out.b h)).1.2.2.2.2.1
  have n5 : ∀ w', Below (g + 1) w1 w' → w'.cell? ⟨g, 5, none⟩ = some (.int .i64 (allC c)) := fun w' h => (box7 (HV1.out.b h)).1.2.2.2.2.2.1
  have n6 : ∀ w', Below (g + 1) w1 w' → w'.cell? ⟨g, 6, none⟩ = some (.int .i64 (roomC c)) := fun w' h => (box7 (HV1.out.b h)).1.2.2.2.2.2.2
  refine wpB_take (i := 4) (d := 11) (v := ?v2x4) rfl rfl (by kernel_rfl) (by kernel_rfl) (by kernel_rfl) (fun _ _ _ h => h) (by rfl) ?y2x4 ?r2x4
  case y2x4 => (intro w' hSw; go_simp; try (with_reducible rfl))
  simp only [Act.put, List.setIfInBounds_toArray, List.set_cons_zero, List.set_cons_succ]
  refine wpB_take (i := 5) (d := 12) (v := ?v2x5) rfl rfl (by kernel_rfl) (by kernel_rfl) (by kernel_rfl) (fun _ _ _ h => h) (by rfl) ?y2x5 ?r2x5
  case y2x5 => (intro w' hSw; go_simp; try (with_reducible rfl))
  simp only [Act.put, List.setIfInBounds_toArray, List.set_cons_zero, List.set_cons_succ]
  refine wpB_take (i := 6) (d := 13) (v := ?v2x6) rfl rfl (by kernel_rfl) (by kernel_rfl) (by kernel_rfl) (fun _ _ _ h => h) (by rfl) ?y2x6 ?r2x6
  case y2x6 => (intro w' hSw; go_simp; try (with_reducible rfl))
  simp only [Act.put, List.setIfInBounds_toArray, List.set_cons_zero, List.set_cons_succ]
  refine wpB_take (i := 8) (d := 15) (v := ?v2x8) rfl rfl (by kernel_rfl) (by kernel_rfl) (by kernel_rfl) (fun _ _ _ h => h) (by rfl) ?y2x8 ?r2x8
  case y2x8 => (intro w' hSw; go_simp; try (with_reducible rfl))
  simp only [Act.put, List.setIfInBounds_toArray, List.set_cons_zero, List.set_cons_succ]
  refine wpB_take (i := 9) (d := 16) (v := ?v2x9) rfl rfl (by kernel_rfl) (by kernel_rfl) (by kernel_rfl) (fun _ _ _ h => h) (by rfl) ?y2x9 ?r2x9
  case y2x9 => (intro w' hSw; go_simp; try (with_reducible rfl))
  simp only [Act.put, List.setIfInBounds_toArray, List.set_cons_zero, List.set_cons_succ]
  refine wpB_do (i := 7) (by kernel_rfl) rfl (by rfl) (fun K hK => ?_)
  go_simp
  refine (row_any c w1).mono ?_
  rintro e w2 ⟨rfl, hb⟩
  have HV2 := Lib.hid (HV1.out.later hb)
  have hbk := hb.mono HV1.out.sz
  go_simp
  refine hK.out (g + 1) _ _ (Nat.le_refl _) hbk ?_
  clear hK hb hbk HV1 q0 q1 q2 q3 q4 q5 q6 q7 q8 q9 q10 n0 n1 n2 n3 n4 n5 n6
  have q0 : ∀ w', Below (g + 1) w2 w' → w'.cell? ⟨w.heap.size, 0, none⟩ = some (.int .i64 c.id) := fun w' h => (box11 (HV2.out.a h)).1
  have q1 : ∀ w', Below (g + 1) w2 w' → w'.cell? ⟨w.heap.size, 1, none⟩ = some (.int .i64 c.m) := fun w' h => (box11 (HV2.out.a h)).2.1
  have q2 : ∀ w', Below (g + 1) w2 w' → w'.cell? ⟨w.heap.size, 2, none⟩ = some (.int .i64 c.u) := fun w' h => (box11 (HV2.out.a h)).2.2.1
  have q3 : ∀ w', Below (g + 1) w2 w' → w'.cell? ⟨w.heap.size, 3, none⟩ = some (.int .i64 c.b) := fun w' h => (box11 (HV2.out.a h)).2.2.2.1
  have q4 : ∀ w', Below (g + 1) w2 w' → w'.cell? ⟨w.heap.size, 4, none⟩ = some (.int .i64 c.cp) := fun w' h => (box11 (HV2.out.a h)).2.2.2.2.1
  have q5 : ∀ w', Below (g + 1) w2 w' → w'.cell? ⟨w.heap.size, 5, none⟩ = some (.int .i64 c.z) := fun w' h => (box11 (HV2.out.a h)).2.2.2.2.2.1
  have q6 : ∀ w', Below (g + 1) w2 w' → w'.cell? ⟨w.heap.size, 6, none⟩ = some (.int .i64 c.s) := fun w' h => (box11 (HV2.out.a h)).2.2.2.2.2.2.1
  have q7 : ∀ w', Below (g + 1) w2 w' → w'.cell? ⟨w.heap.size, 7, none⟩ = some (.int .i64 c.mt) := fun w' h => (box11 (HV2.out.a h)).2.2.2.2.2.2.2.1
  have q8 : ∀ w', Below (g + 1) w2 w' → w'.cell? ⟨w.heap.size, 8, none⟩ = some (.int .i64 c.o) := fun w' h => (box11 (HV2.out.a h)).2.2.2.2.2.2.2.2.1
  have q9 : ∀ w', Below (g + 1) w2 w' → w'.cell? ⟨w.heap.size, 9, none⟩ = some (.int .i64 c.a) := fun w' h => (box11 (HV2.out.a h)).2.2.2.2.2.2.2.2.2.1
  have q10 : ∀ w', Below (g + 1) w2 w' → w'.cell? ⟨w.heap.size, 10, none⟩ = some (.int .i64 c.l) := fun w' h => (box11 (HV2.out.a h)).2.2.2.2.2.2.2.2.2.2
  have n0 : ∀ w', Below (g + 1) w2 w' → w'.cell? ⟨g, 0, none⟩ = some (.int .i64 (dataC c)) := fun w' h => (box7 (HV2.out.b h)).1.1
  have n1 : ∀ w', Below (g + 1) w2 w' → w'.cell? ⟨g, 1, none⟩ = some (.int .i64 (dataC c * c.u)) := fun w' h => (box7 (HV2.out.b h)).1.2.1
  have n2 : ∀ w', Below (g + 1) w2 w' → w'.cell? ⟨g, 2, none⟩ = some (.int .i64 (stripesC c)) := fun w' h => (box7 (HV2.out.b h)).1.2.2.1
  have n3 : ∀ w', Below (g + 1) w2 w' → w'.cell? ⟨g, 3, none⟩ = some (.int .i64 (stripesC c * (dataC c * c.u))) := fun w' h => (box7 (HV2.out.b h)).1.2.2.2.1
  have n4 : ∀ w', Below (g + 1) w2 w' → w'.cell? ⟨g, 4, none⟩ = some (.int .i64 (slotsC c)) := fun w' h => (box7 (HV2.out.b h)).1.2.2.2.2.1
  have n5 : ∀ w', Below (g + 1) w2 w' → w'.cell? ⟨g, 5, none⟩ = some (.int .i64 (allC c)) := fun w' h => (box7 (HV2.out.b h)).1.2.2.2.2.2.1
  have n6 : ∀ w', Below (g + 1) w2 w' → w'.cell? ⟨g, 6, none⟩ = some (.int .i64 (roomC c)) := fun w' h => (box7 (HV2.out.b h)).1.2.2.2.2.2.2
  refine wpB_take (i := 10) (d := 17) (v := ?v2x10) rfl rfl (by kernel_rfl) (by kernel_rfl) (by kernel_rfl) (fun _ _ _ h => h) (by rfl) ?y2x10 ?r2x10
  case y2x10 => (intro w' hSw; go_simp; try (with_reducible rfl))
  simp only [Act.put, List.setIfInBounds_toArray, List.set_cons_zero, List.set_cons_succ]
  refine wpB_take (i := 11) (d := 18) (v := ?v2x11) rfl rfl (by kernel_rfl) (by kernel_rfl) (by kernel_rfl) (fun _ _ _ h => h) (by rfl) ?y2x11 ?r2x11
  case y2x11 => (intro w' hSw; go_simp; try (with_reducible rfl))
  simp only [Act.put, List.setIfInBounds_toArray, List.set_cons_zero, List.set_cons_succ]
  refine wpB_take (i := 12) (d := 19) (v := ?v2x12) rfl rfl (by kernel_rfl) (by kernel_rfl) (by kernel_rfl) (fun _ _ _ h => h) (by rfl) ?y2x12 ?r2x12
  case y2x12 => (intro w' hSw; go_simp; try (with_reducible rfl))
  simp only [Act.put, List.setIfInBounds_toArray, List.set_cons_zero, List.set_cons_succ]
  refine wpB_take (i := 13) (d := 20) (v := ?v2x13) rfl rfl (by kernel_rfl) (by kernel_rfl) (by kernel_rfl) (fun _ _ _ h => h) (by rfl) ?y2x13 ?r2x13
  case y2x13 => (intro w' hSw; go_simp; try (with_reducible rfl))
  simp only [Act.put, List.setIfInBounds_toArray, List.set_cons_zero, List.set_cons_succ]
  refine wpB_take (i := 15) (d := 22) (v := ?v2x15) rfl rfl (by kernel_rfl) (by kernel_rfl) (by kernel_rfl) (fun _ _ _ h => h) (by rfl) ?y2x15 ?r2x15
  case y2x15 => (intro w' hSw; go_simp; try (with_reducible rfl))
  simp only [Act.put, List.setIfInBounds_toArray, List.set_cons_zero, List.set_cons_succ]
  refine wpB_take (i := 16) (d := 23) (v := ?v2x16) rfl rfl (by kernel_rfl) (by kernel_rfl) (by kernel_rfl) (fun _ _ _ h => h) (by rfl) ?y2x16 ?r2x16
  case y2x16 => (intro w' hSw; go_simp; try (with_reducible rfl))
  simp only [Act.put, List.setIfInBounds_toArray, List.set_cons_zero, List.set_cons_succ]
  refine wpB_do (i := 14) (by kernel_rfl) rfl (by rfl) (fun K hK => ?_)
  go_simp
  refine (stripes_any c w2).mono ?_
  rintro e w3 ⟨rfl, hb⟩
  have HV3 := Lib.hid (HV2.out.later hb)
  have hbk := hb.mono HV2.out.sz
  go_simp
  refine hK.out (g + 1) _ _ (Nat.le_refl _) hbk ?_
  clear hK hb hbk HV2 q0 q1 q2 q3 q4 q5 q6 q7 q8 q9 q10 n0 n1 n2 n3 n4 n5 n6
  have q0 : ∀ w', Below (g + 1) w3 w' → w'.cell? ⟨w.heap.size, 0, none⟩ = some (.int .i64 c.id) := fun w' h => (box11 (HV3.out.a h)).1
  have q1 : ∀ w', Below (g + 1) w3 w' → w'.cell? ⟨w.heap.size, 1, none⟩ = some (.int .i64 c.m) := fun w' h => (box11 (HV3.out.a h)).2.1
  have q2 : ∀ w', Below (g + 1) w3 w' → w'.cell? ⟨w.heap.size, 2, none⟩ = some (.int .i64 c.u) := fun w' h => (box11 (HV3.out.a h)).2.2.1
  have q3 : ∀ w', Below (g + 1) w3 w' → w'.cell? ⟨w.heap.size, 3, none⟩ = some (.int .i64 c.b) := fun w' h => (box11 (HV3.out.a h)).2.2.2.1
  have q4 : ∀ w', Below (g + 1) w3 w' → w'.cell? ⟨w.heap.size, 4, none⟩ = some (.int .i64 c.cp) := fun w' h => (box11 (HV3.out.a h)).2.2.2.2.1
  have q5 : ∀ w', Below (g + 1) w3 w' → w'.cell? ⟨w.heap.size, 5, none⟩ = some (.int .i64 c.z) := fun w' h => (box11 (HV3.out.a h)).2.2.2.2.2.1
  have q6 : ∀ w', Below (g + 1) w3 w' → w'.cell? ⟨w.heap.size, 6, none⟩ = some (.int .i64 c.s) := fun w' h => (box11 (HV3.out.a h)).2.2.2.2.2.2.1
  have q7 : ∀ w', Below (g + 1) w3 w' → w'.cell? ⟨w.heap.size, 7, none⟩ = some (.int .i64 c.mt) := fun w' h => (box11 (HV3.out.a h)).2.2.2.2.2.2.2.1
  have q8 : ∀ w', Below (g + 1) w3 w' → w'.cell? ⟨w.heap.size, 8, none⟩ = some (.int .i64 c.o) := fun w' h => (box11 (HV3.out.a h)).2.2.2.2.2.2.2.2.1
  have q9 : ∀ w', Below (g + 1) w3 w' → w'.cell? ⟨w.heap.size, 9, none⟩ = some (.int .i64 c.a) := fun w' h => (box11 (HV3.out.a h)).2.2.2.2.2.2.2.2.2.1
  have q10 : ∀ w', Below (g + 1) w3 w' → w'.cell? ⟨w.heap.size, 10, none⟩ = some (.int .i64 c.l) := fun w' h => (box11 (HV3.out.a h)).2.2.2.2.2.2.2.2.2.2
  have n0 : ∀ w', Below (g + 1) w3 w' → w'.cell? ⟨g, 0, none⟩ = some (.int .i64 (dataC c)) := fun w' h => (box7 (HV3.out.b h)).1.1
  have n1 : ∀ w', Below (g + 1) w3 w' → w'.cell? ⟨g, 1, none⟩ = some (.int .i64 (dataC c * c.u)) := fun w' h => (box7 (HV3.out.b h)).1.2.1
  have n2 : ∀ w', Below (g + 1) w3 w' → w'.cell? ⟨g, 2, none⟩ = some (.int .i64 (stripesC c)) := fun w' h => (box7 (HV3.out.b h)).1.2.2.1
  have n3 : ∀ w', Below (g + 1) w3 w' → w'.cell? ⟨g, 3, none⟩ = some (.int .i64 (stripesC c * (dataC c * c.u))) := fun w' h => (box7 (HV3.out.b h)).1.2.2.2.1
  have n4 : ∀ w', Below (g + 1) w3 w' → w'.cell? ⟨g, 4, none⟩ = some (.int .i64 (slotsC c)) := fun w' h => (box7 (HV3.out.b h)).1.2.2.2.2.1
  have n5 : ∀ w', Below (g + 1) w3 w' → w'.cell? ⟨g, 5, none⟩ = some (.int .i64 (allC c)) := fun w' h => (box7 (HV3.out.b h)).1.2.2.2.2.2.1
  have n6 : ∀ w', Below (g + 1) w3 w' → w'.cell? ⟨g, 6, none⟩ = some (.int .i64 (roomC c)) := fun w' h => (box7 (HV3.out.b h)).1.2.2.2.2.2.2
  refine wpB_take (i := 17) (d := 24) (v := ?v2x17) rfl rfl (by kernel_rfl) (by kernel_rfl) (by kernel_rfl) (fun _ _ _ h => h) (by rfl) ?y2x17 ?r2x17
  case y2x17 => (intro w' hSw; go_simp; try (with_reducible rfl))
  simp only [Act.put, List.setIfInBounds_toArray, List.set_cons_zero, List.set_cons_succ]
  refine wpB_take (i := 18) (d := 25) (v := ?v2x18) rfl rfl (by kernel_rfl) (by kernel_rfl) (by kernel_rfl) (fun _ _ _ h => h) (by rfl) ?y2x18 ?r2x18
  case y2x18 => (intro w' hSw; go_simp; try (with_reducible rfl))
  simp only [Act.put, List.setIfInBounds_toArray, List.set_cons_zero, List.set_cons_succ]
  refine wpB_take (i := 19) (d := 26) (v := ?v2x19) rfl rfl (by kernel_rfl) (by kernel_rfl) (by kernel_rfl) (fun _ _ _ h => h) (by rfl) ?y2x19 ?r2x19
  case y2x19 => (intro w' hSw; go_simp; try (with_reducible rfl))
  simp only [Act.put, List.setIfInBounds_toArray, List.set_cons_zero, List.set_cons_succ]
  refine wpB_take (i := 20) (d := 27) (v := ?v2x20) rfl rfl (by kernel_rfl) (by kernel_rfl) (by kernel_rfl) (fun _ _ _ h => h) (by rfl) ?y2x20 ?r2x20
  case y2x20 => (intro w' hSw; go_simp; try (with_reducible rfl))
  simp only [Act.put, List.setIfInBounds_toArray, List.set_cons_zero, List.set_cons_succ]
  refine wpB_take (i := 22) (d := 29) (v := ?v2x22) rfl rfl (by kernel_rfl) (by kernel_rfl) (by kernel_rfl) (fun _ _ _ h => h) (by rfl) ?y2x22 ?r2x22
  case y2x22 => (intro w' hSw; go_simp; try (with_reducible rfl))
  simp only [Act.put, List.setIfInBounds_toArray, List.set_cons_zero, List.set_cons_succ]
  refine wpB_take (i := 23) (d := 30) (v := ?v2x23) rfl rfl (by kernel_rfl) (by kernel_rfl) (by kernel_rfl) (fun _ _ _ h => h) (by rfl) ?y2x23 ?r2x23
  case y2x23 => (intro w' hSw; go_simp; try (with_reducible rfl))
  simp only [Act.put, List.setIfInBounds_toArray, List.set_cons_zero, List.set_cons_succ]
  refine wpB_do (i := 21) (by kernel_rfl) rfl (by rfl) (fun K hK => ?_)
  go_simp
  refine (size_any c w3).mono ?_
  rintro e w4 ⟨rfl, hb⟩
  have HV4 := Lib.hid (HV3.out.later hb)
  have hbk := hb.mono HV3.out.sz
  go_simp
  refine hK.out (g + 1) _ _ (Nat.le_refl _) hbk ?_
  clear hK hb hbk HV3 q0 q1 q2 q3 q4 q5 q6 q7 q8 q9 q10 n0 n1 n2 n3 n4 n5 n6
  have q0 : ∀ w', Below (g + 1) w4 w' → w'.cell? ⟨w.heap.size, 0, none⟩ = some (.int .i64 c.id) := fun w' h => (box11 (HV4.out.a h)).1
  have q1 : ∀ w', Below (g + 1) w4 w' → w'.cell? ⟨w.heap.size, 1, none⟩ = some (.int .i64 c.m) := fun w' h => (box11 (HV4.out.a h)).2.1
  have q2 : ∀ w', Below (g + 1) w4 w' → w'.cell? ⟨w.heap.size, 2, none⟩ = some (.int .i64 c.u) := fun w' h => (box11 (HV4.out.a h)).2.2.1
  have q3 : ∀ w', Below (g + 1) w4 w' → w'.cell? ⟨w.heap.size, 3, none⟩ = some (.int .i64 c.b) := fun w' h => (box11 (HV4.out.a h)).2.2.2.1
  have q4 : ∀ w', Below (g + 1) w4 w' → w'.cell? ⟨w.heap.size, 4, none⟩ = some (.int .i64 c.cp) := fun w' h => (box11 (HV4.out.a h)).2.2.2.2.1
  have q5 : ∀ w', Below (g + 1) w4 w' → w'.cell? ⟨w.heap.size, 5, none⟩ = some (.int .i64 c.z) := fun w' h => (box11 (HV4.out.a h)).2.2.2.2.2.1
  have q6 : ∀ w', Below (g + 1) w4 w' → w'.cell? ⟨w.heap.size, 6, none⟩ = some (.int .i64 c.s) := fun w' h => (box11 (HV4.out.a h)).2.2.2.2.2.2.1
  have q7 : ∀ w', Below (g + 1) w4 w' → w'.cell? ⟨w.heap.size, 7, none⟩ = some (.int .i64 c.mt) := fun w' h => (box11 (HV4.out.a h)).2.2.2.2.2.2.2.1
  have q8 : ∀ w', Below (g + 1) w4 w' → w'.cell? ⟨w.heap.size, 8, none⟩ = some (.int .i64 c.o) := fun w' h => (box11 (HV4.out.a h)).2.2.2.2.2.2.2.2.1
  have q9 : ∀ w', Below (g + 1) w4 w' → w'.cell? ⟨w.heap.size, 9, none⟩ = some (.int .i64 c.a) := fun w' h => (box11 (HV4.out.a h)).2.2.2.2.2.2.2.2.2.1
  have q10 : ∀ w', Below (g + 1) w4 w' → w'.cell? ⟨w.heap.size, 10, none⟩ = some (.int .i64 c.l) := fun w' h => (box11 (HV4.out.a h)).2.2.2.2.2.2.2.2.2.2
  have n0 : ∀ w', Below (g + 1) w4 w' → w'.cell? ⟨g, 0, none⟩ = some (.int .i64 (dataC c)) := fun w' h => (box7 (HV4.out.b h)).1.1
  have n1 : ∀ w', Below (g + 1) w4 w' → w'.cell? ⟨g, 1, none⟩ = some (.int .i64 (dataC c * c.u)) := fun w' h => (box7 (HV4.out.b h)).1.2.1
  have n2 : ∀ w', Below (g + 1) w4 w' → w'.cell? ⟨g, 2, none⟩ = some (.int .i64 (stripesC c)) := fun w' h => (box7 (HV4.out.b h)).1.2.2.1
  have n3 : ∀ w', Below (g + 1) w4 w' → w'.cell? ⟨g, 3, none⟩ = some (.int .i64 (stripesC c * (dataC c * c.u))) := fun w' h => (box7 (HV4.out.b h)).1.2.2.2.1
  have n4 : ∀ w', Below (g + 1) w4 w' → w'.cell? ⟨g, 4, none⟩ = some (.int .i64 (slotsC c)) := fun w' h => (box7 (HV4.out.b h)).1.2.2.2.2.1
  have n5 : ∀ w', Below (g + 1) w4 w' → w'.cell? ⟨g, 5, none⟩ = some (.int .i64 (allC c)) := fun w' h => (box7 (HV4.out.b h)).1.2.2.2.2.2.1
  have n6 : ∀ w', Below (g + 1) w4 w' → w'.cell? ⟨g, 6, none⟩ = some (.int .i64 (roomC c)) := fun w' h => (box7 (HV4.out.b h)).1.2.2.2.2.2.2
  refine wpB_take (i := 24) (d := 31) (v := ?v2x24) rfl rfl (by kernel_rfl) (by kernel_rfl) (by kernel_rfl) (fun _ _ _ h => h) (by rfl) ?y2x24 ?r2x24
  case y2x24 => (intro w' hSw; go_simp; try (with_reducible rfl))
  simp only [Act.put, List.setIfInBounds_toArray, List.set_cons_zero, List.set_cons_succ]
  refine wpB_take (i := 25) (d := 32) (v := ?v2x25) rfl rfl (by kernel_rfl) (by kernel_rfl) (by kernel_rfl) (fun _ _ _ h => h) (by rfl) ?y2x25 ?r2x25
  case y2x25 => (intro w' hSw; go_simp; try (with_reducible rfl))
  simp only [Act.put, List.setIfInBounds_toArray, List.set_cons_zero, List.set_cons_succ]
  refine wpB_take (i := 26) (d := 33) (v := ?v2x26) rfl rfl (by kernel_rfl) (by kernel_rfl) (by kernel_rfl) (fun _ _ _ h => h) (by rfl) ?y2x26 ?r2x26
  case y2x26 => (intro w' hSw; go_simp; try (with_reducible rfl))
  simp only [Act.put, List.setIfInBounds_toArray, List.set_cons_zero, List.set_cons_succ]
  refine wpB_take (i := 27) (d := 34) (v := ?v2x27) rfl rfl (by kernel_rfl) (by kernel_rfl) (by kernel_rfl) (fun _ _ _ h => h) (by rfl) ?y2x27 ?r2x27
  case y2x27 => (intro w' hSw; go_simp; try (with_reducible rfl))
  simp only [Act.put, List.setIfInBounds_toArray, List.set_cons_zero, List.set_cons_succ]
  refine wpB_take (i := 29) (d := 36) (v := ?v2x29) rfl rfl (by kernel_rfl) (by kernel_rfl) (by kernel_rfl) (fun _ _ _ h => h) (by rfl) ?y2x29 ?r2x29
  case y2x29 => (intro w' hSw; go_simp; try (with_reducible rfl))
  simp only [Act.put, List.setIfInBounds_toArray, List.set_cons_zero, List.set_cons_succ]
  refine wpB_take (i := 30) (d := 37) (v := ?v2x30) rfl rfl (by kernel_rfl) (by kernel_rfl) (by kernel_rfl) (fun _ _ _ h => h) (by rfl) ?y2x30 ?r2x30
  case y2x30 => (intro w' hSw; go_simp; try (with_reducible rfl))
  simp only [Act.put, List.setIfInBounds_toArray, List.set_cons_zero, List.set_cons_succ]
  refine wpB_do (i := 28) (by kernel_rfl) rfl (by rfl) (fun K hK => ?_)
  go_simp
  refine (slots_any c w4).mono ?_
  rintro e w5 ⟨rfl, hb⟩
  have HV5 := Lib.hid (HV4.out.later hb)
  have hbk := hb.mono HV4.out.sz
  go_simp
  refine hK.out (g + 1) _ _ (Nat.le_refl _) hbk ?_
  clear hK hb hbk HV4 q0 q1 q2 q3 q4 q5 q6 q7 q8 q9 q10 n0 n1 n2 n3 n4 n5 n6
  have q0 : ∀ w', Below (g + 1) w5 w' → w'.cell? ⟨w.heap.size, 0, none⟩ = some (.int .i64 c.id) := fun w' h => (box11 (HV5.out.a h)).1
  have q1 : ∀ w', Below (g + 1) w5 w' → w'.cell? ⟨w.heap.size, 1, none⟩ = some (.int .i64 c.m) := fun w' h => (box11 (HV5.out.a h)).2.1
  have q2 : ∀ w', Below (g + 1) w5 w' → w'.cell? ⟨w.heap.size, 2, none⟩ = some (.int .i64 c.u) := fun w' h => (box11 (HV5.out.a h)).2.2.1
  have q3 : ∀ w', Below (g + 1) w5 w' → w'.cell? ⟨w.heap.size, 3, none⟩ = some (.int .i64 c.b) := fun w' h => (box11 (HV5.out.a h)).2.2.2.1
  have q4 : ∀ w', Below (g + 1) w5 w' → w'.cell? ⟨w.heap.size, 4, none⟩ = some (.int .i64 c.cp) := fun w' h => (box11 (HV5.out.a h)).2.2.2.2.1
  have q5 : ∀ w', Below (g + 1) w5 w' → w'.cell? ⟨w.heap.size, 5, none⟩ = some (.int .i64 c.z) := fun w' h => (box11 (HV5.out.a h)).2.2.2.2.2.1
  have q6 : ∀ w', Below (g + 1) w5 w' → w'.cell? ⟨w.heap.size, 6, none⟩ = some (.int .i64 c.s) := fun w' h => (box11 (HV5.out.a h)).2.2.2.2.2.2.1
  have q7 : ∀ w', Below (g + 1) w5 w' → w'.cell? ⟨w.heap.size, 7, none⟩ = some (.int .i64 c.mt) := fun w' h => (box11 (HV5.out.a h)).2.2.2.2.2.2.2.1
  have q8 : ∀ w', Below (g + 1) w5 w' → w'.cell? ⟨w.heap.size, 8, none⟩ = some (.int .i64 c.o) := fun w' h => (box11 (HV5.out.a h)).2.2.2.2.2.2.2.2.1
  have q9 : ∀ w', Below (g + 1) w5 w' → w'.cell? ⟨w.heap.size, 9, none⟩ = some (.int .i64 c.a) := fun w' h => (box11 (HV5.out.a h)).2.2.2.2.2.2.2.2.2.1
  have q10 : ∀ w', Below (g + 1) w5 w' → w'.cell? ⟨w.heap.size, 10, none⟩ = some (.int .i64 c.l) := fun w' h => (box11 (HV5.out.a h)).2.2.2.2.2.2.2.2.2.2
  have n0 : ∀ w', Below (g + 1) w5 w' → w'.cell? ⟨g, 0, none⟩ = some (.int .i64 (dataC c)) := fun w' h => (box7 (HV5.out.b h)).1.1
  have n1 : ∀ w', Below (g + 1) w5 w' → w'.cell? ⟨g, 1, none⟩ = some (.int .i64 (dataC c * c.u)) := fun w' h => (box7 (HV5.out.b h)).1.2.1
  have n2 : ∀ w', Below (g + 1) w5 w' → w'.cell? ⟨g, 2, none⟩ = some (.int .i64 (stripesC c)) := fun w' h => (box7 (HV5.out.b h)).1.2.2.1
  have n3 : ∀ w', Below (g + 1) w5 w' → w'.cell? ⟨g, 3, none⟩ = some (.int .i64 (stripesC c * (dataC c * c.u))) := fun w' h => (box7 (HV5.out.b h)).1.2.2.2.1
  have n4 : ∀ w', Below (g + 1) w5 w' → w'.cell? ⟨g, 4, none⟩ = some (.int .i64 (slotsC c)) := fun w' h => (box7 (HV5.out.b h)).1.2.2.2.2.1
  have n5 : ∀ w', Below (g + 1) w5 w' → w'.cell? ⟨g, 5, none⟩ = some (.int .i64 (allC c)) := fun w' h => (box7 (HV5.out.b h)).1.2.2.2.2.2.1
  have n6 : ∀ w', Below (g + 1) w5 w' → w'.cell? ⟨g, 6, none⟩ = some (.int .i64 (roomC c)) := fun w' h => (box7 (HV5.out.b h)).1.2.2.2.2.2.2
  refine wpB_take (i := 31) (d := 38) (v := ?v2x31) rfl rfl (by kernel_rfl) (by kernel_rfl) (by kernel_rfl) (fun _ _ _ h => h) (by rfl) ?y2x31 ?r2x31
  case y2x31 => (intro w' hSw; go_simp; try (with_reducible rfl))
  simp only [Act.put, List.setIfInBounds_toArray, List.set_cons_zero, List.set_cons_succ]
  refine wpB_take (i := 32) (d := 39) (v := ?v2x32) rfl rfl (by kernel_rfl) (by kernel_rfl) (by kernel_rfl) (fun _ _ _ h => h) (by rfl) ?y2x32 ?r2x32
  case y2x32 => (intro w' hSw; go_simp; try (with_reducible rfl))
  simp only [Act.put, List.setIfInBounds_toArray, List.set_cons_zero, List.set_cons_succ]
  refine wpB_take (i := 33) (d := 40) (v := ?v2x33) rfl rfl (by kernel_rfl) (by kernel_rfl) (by kernel_rfl) (fun _ _ _ h => h) (by rfl) ?y2x33 ?r2x33
  case y2x33 => (intro w' hSw; go_simp; try (with_reducible rfl))
  simp only [Act.put, List.setIfInBounds_toArray, List.set_cons_zero, List.set_cons_succ]
  refine wpB_take (i := 34) (d := 41) (v := ?v2x34) rfl rfl (by kernel_rfl) (by kernel_rfl) (by kernel_rfl) (fun _ _ _ h => h) (by rfl) ?y2x34 ?r2x34
  case y2x34 => (intro w' hSw; go_simp; try (with_reducible rfl))
  simp only [Act.put, List.setIfInBounds_toArray, List.set_cons_zero, List.set_cons_succ]
  refine wpB_take (i := 36) (d := 43) (v := ?v2x36) rfl rfl (by kernel_rfl) (by kernel_rfl) (by kernel_rfl) (fun _ _ _ h => h) (by rfl) ?y2x36 ?r2x36
  case y2x36 => (intro w' hSw; go_simp; try (with_reducible rfl))
  simp only [Act.put, List.setIfInBounds_toArray, List.set_cons_zero, List.set_cons_succ]
  refine wpB_take (i := 37) (d := 44) (v := ?v2x37) rfl rfl (by kernel_rfl) (by kernel_rfl) (by kernel_rfl) (fun _ _ _ h => h) (by rfl) ?y2x37 ?r2x37
  case y2x37 => (intro w' hSw; go_simp; try (with_reducible rfl))
  simp only [Act.put, List.setIfInBounds_toArray, List.set_cons_zero, List.set_cons_succ]
  refine wpB_do (i := 35) (by kernel_rfl) rfl (by rfl) (fun K hK => ?_)
  go_simp
  refine (all_any c w5).mono ?_
  rintro e w6 ⟨rfl, hb⟩
  have HV6 := Lib.hid (HV5.out.later hb)
  have hbk := hb.mono HV5.out.sz
  go_simp
  refine hK.out (g + 1) _ _ (Nat.le_refl _) hbk ?_
  clear hK hb hbk HV5 q0 q1 q2 q3 q4 q5 q6 q7 q8 q9 q10 n0 n1 n2 n3 n4 n5 n6
  have q0 : ∀ w', Below (g + 1) w6 w' → w'.cell? ⟨w.heap.size, 0, none⟩ = some (.int .i64 c.id) := fun w' h => (box11 (HV6.out.a h)).1
  have q1 : ∀ w', Below (g + 1) w6 w' → w'.cell? ⟨w.heap.size, 1, none⟩ = some (.int .i64 c.m) := fun w' h => (box11 (HV6.out.a h)).2.1
  have q2 : ∀ w', Below (g + 1) w6 w' → w'.cell? ⟨w.heap.size, 2, none⟩ = some (.int .i64 c.u) := fun w' h => (box11 (HV6.out.a h)).2.2.1
  have q3 : ∀ w', Below (g + 1) w6 w' → w'.cell? ⟨w.heap.size, 3, none⟩ = some (.int .i64 c.b) := fun w' h => (box11 (HV6.out.a h)).2.2.2.1
  have q4 : ∀ w', Below (g + 1) w6 w' → w'.cell? ⟨w.heap.size, 4, none⟩ = some (.int .i64 c.cp) := fun w' h => (box11 (HV6.out.a h)).2.2.2.2.1
  have q5 : ∀ w', Below (g + 1) w6 w' → w'.cell? ⟨w.heap.size, 5, none⟩ = some (.int .i64 c.z) := fun w' h => (box11 (HV6.out.a h)).2.2.2.2.2.1
  have q6 : ∀ w', Below (g + 1) w6 w' → w'.cell? ⟨w.heap.size, 6, none⟩ = some (.int .i64 c.s) := fun w' h => (box11 (HV6.out.a h)).2.2.2.2.2.2.1
  have q7 : ∀ w', Below (g + 1) w6 w' → w'.cell? ⟨w.heap.size, 7, none⟩ = some (.int .i64 c.mt) := fun w' h => (box11 (HV6.out.a h)).2.2.2.2.2.2.2.1
  have q8 : ∀ w', Below (g + 1) w6 w' → w'.cell? ⟨w.heap.size, 8, none⟩ = some (.int .i64 c.o) := fun w' h => (box11 (HV6.out.a h)).2.2.2.2.2.2.2.2.1
  have q9 : ∀ w', Below (g + 1) w6 w' → w'.cell? ⟨w.heap.size, 9, none⟩ = some (.int .i64 c.a) := fun w' h => (box11 (HV6.out.a h)).2.2.2.2.2.2.2.2.2.1
  have q10 : ∀ w', Below (g + 1) w6 w' → w'.cell? ⟨w.heap.size, 10, none⟩ = some (.int .i64 c.l) := fun w' h => (box11 (HV6.out.a h)).2.2.2.2.2.2.2.2.2.2
  have n0 : ∀ w', Below (g + 1) w6 w' → w'.cell? ⟨g, 0, none⟩ = some (.int .i64 (dataC c)) := fun w' h => (box7 (HV6.out.b h)).1.1
  have n1 : ∀ w', Below (g + 1) w6 w' → w'.cell? ⟨g, 1, none⟩ = some (.int .i64 (dataC c * c.u)) := fun w' h => (box7 (HV6.out.b h)).1.2.1
  have n2 : ∀ w', Below (g + 1) w6 w' → w'.cell? ⟨g, 2, none⟩ = some (.int .i64 (stripesC c)) := fun w' h => (box7 (HV6.out.b h)).1.2.2.1
  have n3 : ∀ w', Below (g + 1) w6 w' → w'.cell? ⟨g, 3, none⟩ = some (.int .i64 (stripesC c * (dataC c * c.u))) := fun w' h => (box7 (HV6.out.b h)).1.2.2.2.1
  have n4 : ∀ w', Below (g + 1) w6 w' → w'.cell? ⟨g, 4, none⟩ = some (.int .i64 (slotsC c)) := fun w' h => (box7 (HV6.out.b h)).1.2.2.2.2.1
  have n5 : ∀ w', Below (g + 1) w6 w' → w'.cell? ⟨g, 5, none⟩ = some (.int .i64 (allC c)) := fun w' h => (box7 (HV6.out.b h)).1.2.2.2.2.2.1
  have n6 : ∀ w', Below (g + 1) w6 w' → w'.cell? ⟨g, 6, none⟩ = some (.int .i64 (roomC c)) := fun w' h => (box7 (HV6.out.b h)).1.2.2.2.2.2.2
  refine wpB_take (i := 38) (d := 45) (v := ?v2x38) rfl rfl (by kernel_rfl) (by kernel_rfl) (by kernel_rfl) (fun _ _ _ h => h) (by rfl) ?y2x38 ?r2x38
  case y2x38 => (intro w' hSw; go_simp; try (with_reducible rfl))
  simp only [Act.put, List.setIfInBounds_toArray, List.set_cons_zero, List.set_cons_succ]
  refine wpB_take (i := 39) (d := 46) (v := ?v2x39) rfl rfl (by kernel_rfl) (by kernel_rfl) (by kernel_rfl) (fun _ _ _ h => h) (by rfl) ?y2x39 ?r2x39
  case y2x39 => (intro w' hSw; go_simp; try (with_reducible rfl))
  simp only [Act.put, List.setIfInBounds_toArray, List.set_cons_zero, List.set_cons_succ]
  refine wpB_take (i := 40) (d := 47) (v := ?v2x40) rfl rfl (by kernel_rfl) (by kernel_rfl) (by kernel_rfl) (fun _ _ _ h => h) (by rfl) ?y2x40 ?r2x40
  case y2x40 => (intro w' hSw; go_simp; try (with_reducible rfl))
  simp only [Act.put, List.setIfInBounds_toArray, List.set_cons_zero, List.set_cons_succ]
  refine wpB_take (i := 41) (d := 48) (v := ?v2x41) rfl rfl (by kernel_rfl) (by kernel_rfl) (by kernel_rfl) (fun _ _ _ h => h) (by rfl) ?y2x41 ?r2x41
  case y2x41 => (intro w' hSw; go_simp; try (with_reducible rfl))
  simp only [Act.put, List.setIfInBounds_toArray, List.set_cons_zero, List.set_cons_succ]
  refine wpB_take (i := 43) (d := 50) (v := ?v2x43) rfl rfl (by kernel_rfl) (by kernel_rfl) (by kernel_rfl) (fun _ _ _ h => h) (by rfl) ?y2x43 ?r2x43
  case y2x43 => (intro w' hSw; go_simp; try (with_reducible rfl))
  simp only [Act.put, List.setIfInBounds_toArray, List.set_cons_zero, List.set_cons_succ]
  refine wpB_take (i := 44) (d := 51) (v := ?v2x44) rfl rfl (by kernel_rfl) (by kernel_rfl) (by kernel_rfl) (fun _ _ _ h => h) (by rfl) ?y2x44 ?r2x44
  case y2x44 => (intro w' hSw; go_simp; try (with_reducible rfl))
  simp only [Act.put, List.setIfInBounds_toArray, List.set_cons_zero, List.set_cons_succ]
  refine wpB_do (i := 42) (by kernel_rfl) rfl (by rfl) (fun K hK => ?_)
  go_simp
  refine (room_any c w6).mono ?_
  rintro e w7 ⟨rfl, hb⟩
  have HV7 := Lib.hid (HV6.out.later hb)
  have hbk := hb.mono HV6.out.sz
  go_simp
  refine hK.out (g + 1) _ _ (Nat.le_refl _) hbk ?_
  clear hK hb hbk HV6 q0 q1 q2 q3 q4 q5 q6 q7 q8 q9 q10 n0 n1 n2 n3 n4 n5 n6
  have q0 : ∀ w', Below (g + 1) w7 w' → w'.cell? ⟨w.heap.size, 0, none⟩ = some (.int .i64 c.id) := fun w' h => (box11 (HV7.out.a h)).1
  have q1 : ∀ w', Below (g + 1) w7 w' → w'.cell? ⟨w.heap.size, 1, none⟩ = some (.int .i64 c.m) := fun w' h => (box11 (HV7.out.a h)).2.1
  have q2 : ∀ w', Below (g + 1) w7 w' → w'.cell? ⟨w.heap.size, 2, none⟩ = some (.int .i64 c.u) := fun w' h => (box11 (HV7.out.a h)).2.2.1
  have q3 : ∀ w', Below (g + 1) w7 w' → w'.cell? ⟨w.heap.size, 3, none⟩ = some (.int .i64 c.b) := fun w' h => (box11 (HV7.out.a h)).2.2.2.1
  have q4 : ∀ w', Below (g + 1) w7 w' → w'.cell? ⟨w.heap.size, 4, none⟩ = some (.int .i64 c.cp) := fun w' h => (box11 (HV7.out.a h)).2.2.2.2.1
  have q5 : ∀ w', Below (g + 1) w7 w' → w'.cell? ⟨w.heap.size, 5, none⟩ = some (.int .i64 c.z) := fun w' h => (box11 (HV7.out.a h)).2.2.2.2.2.1
  have q6 : ∀ w', Below (g + 1) w7 w' → w'.cell? ⟨w.heap.size, 6, none⟩ = some (.int .i64 c.s) := fun w' h => (box11 (HV7.out.a h)).2.2.2.2.2.2.1
  have q7 : ∀ w', Below (g + 1) w7 w' → w'.cell? ⟨w.heap.size, 7, none⟩ = some (.int .i64 c.mt) := fun w' h => (box11 (HV7.out.a h)).2.2.2.2.2.2.2.1
  have q8 : ∀ w', Below (g + 1) w7 w' → w'.cell? ⟨w.heap.size, 8, none⟩ = some (.int .i64 c.o) := fun w' h => (box11 (HV7.out.a h)).2.2.2.2.2.2.2.2.1
  have q9 : ∀ w', Below (g + 1) w7 w' → w'.cell? ⟨w.heap.size, 9, none⟩ = some (.int .i64 c.a) := fun w' h => (box11 (HV7.out.a h)).2.2.2.2.2.2.2.2.2.1
  have q10 : ∀ w', Below (g + 1) w7 w' → w'.cell? ⟨w.heap.size, 10, none⟩ = some (.int .i64 c.l) := fun w' h => (box11 (HV7.out.a h)).2.2.2.2.2.2.2.2.2.2
  have n0 : ∀ w', Below (g + 1) w7 w' → w'.cell? ⟨g, 0, none⟩ = some (.int .i64 (dataC c)) := fun w' h => (box7 (HV7.out.b h)).1.1
  have n1 : ∀ w', Below (g + 1) w7 w' → w'.cell? ⟨g, 1, none⟩ = some (.int .i64 (dataC c * c.u)) := fun w' h => (box7 (HV7.out.b h)).1.2.1
  have n2 : ∀ w', Below (g + 1) w7 w' → w'.cell? ⟨g, 2, none⟩ = some (.int .i64 (stripesC c)) := fun w' h => (box7 (HV7.out.b h)).1.2.2.1
  have n3 : ∀ w', Below (g + 1) w7 w' → w'.cell? ⟨g, 3, none⟩ = some (.int .i64 (stripesC c * (dataC c * c.u))) := fun w' h => (box7 (HV7.out.b h)).1.2.2.2.1
  have n4 : ∀ w', Below (g + 1) w7 w' → w'.cell? ⟨g, 4, none⟩ = some (.int .i64 (slotsC c)) := fun w' h => (box7 (HV7.out.b h)).1.2.2.2.2.1
  have n5 : ∀ w', Below (g + 1) w7 w' → w'.cell? ⟨g, 5, none⟩ = some (.int .i64 (allC c)) := fun w' h => (box7 (HV7.out.b h)).1.2.2.2.2.2.1
  have n6 : ∀ w', Below (g + 1) w7 w' → w'.cell? ⟨g, 6, none⟩ = some (.int .i64 (roomC c)) := fun w' h => (box7 (HV7.out.b h)).1.2.2.2.2.2.2
  refine wpB_take (i := 45) (d := 52) (v := ?v2x45) rfl rfl (by kernel_rfl) (by kernel_rfl) (by kernel_rfl) (fun _ _ _ h => h) (by rfl) ?y2x45 ?r2x45
  case y2x45 => (intro w' hSw; go_simp; try (with_reducible rfl))
  simp only [Act.put, List.setIfInBounds_toArray, List.set_cons_zero, List.set_cons_succ]
  refine wpB_take (i := 46) (d := 53) (v := ?v2x46) rfl rfl (by kernel_rfl) (by kernel_rfl) (by kernel_rfl) (fun _ _ _ h => h) (by rfl) ?y2x46 ?r2x46
  case y2x46 => (intro w' hSw; go_simp; try (with_reducible rfl))
  simp only [Act.put, List.setIfInBounds_toArray, List.set_cons_zero, List.set_cons_succ]
  refine wpB_take (i := 47) (d := 4) (v := ?v2x47) rfl rfl (by kernel_rfl) (by kernel_rfl) (by kernel_rfl) (fun _ _ _ h => h) (by rfl) ?y2x47 ?r2x47
  case y2x47 => (intro w' hSw; go_simp; try (with_reducible rfl))
  simp only [Act.put, List.setIfInBounds_toArray, List.set_cons_zero, List.set_cons_succ]
  refine wpB_done (by kernel_rfl) ?_
  clear q0 q1 q2 q3 q4 q5 q6 q7 q8 q9 q10 n0 n1 n2 n3 n4 n5 n6
  go_wp2_with fail
  refine wpB_start (g + 1) (by kernel_rfl) ?_
  have HV8 := Lib.hid HV7.out.drew
  generalize w7.drew = w8 at HV8 ⊢
  clear HV7
  have q0 : ∀ w', Below (g + 1) w8 w' → w'.cell? ⟨w.heap.size, 0, none⟩ = some (.int .i64 c.id) := fun w' h => (box11 (HV8.out.a h)).1
  have q1 : ∀ w', Below (g + 1) w8 w' → w'.cell? ⟨w.heap.size, 1, none⟩ = some (.int .i64 c.m) := fun w' h => (box11 (HV8.out.a h)).2.1
  have q2 : ∀ w', Below (g + 1) w8 w' → w'.cell? ⟨w.heap.size, 2, none⟩ = some (.int .i64 c.u) := fun w' h => (box11 (HV8.out.a h)).2.2.1
  have q3 : ∀ w', Below (g + 1) w8 w' → w'.cell? ⟨w.heap.size, 3, none⟩ = some (.int .i64 c.b) := fun w' h => (box11 (HV8.out.a h)).2.2.2.1
  have q4 : ∀ w', Below (g + 1) w8 w' → w'.cell? ⟨w.heap.size, 4, none⟩ = some (.int .i64 c.cp) := fun w' h => (box11 (HV8.out.a h)).2.2.2.2.1
  have q5 : ∀ w', Below (g + 1) w8 w' → w'.cell? ⟨w.heap.size, 5, none⟩ = some (.int .i64 c.z) := fun w' h => (box11 (HV8.out.a h)).2.2.2.2.2.1
  have q6 : ∀ w', Below (g + 1) w8 w' → w'.cell? ⟨w.heap.size, 6, none⟩ = some (.int .i64 c.s) := fun w' h => (box11 (HV8.out.a h)).2.2.2.2.2.2.1
  have q7 : ∀ w', Below (g + 1) w8 w' → w'.cell? ⟨w.heap.size, 7, none⟩ = some (.int .i64 c.mt) := fun w' h => (box11 (HV8.out.a h)).2.2.2.2.2.2.2.1
  have q8 : ∀ w', Below (g + 1) w8 w' → w'.cell? ⟨w.heap.size, 8, none⟩ = some (.int .i64 c.o) := fun w' h => (box11 (HV8.out.a h)).2.2.2.2.2.2.2.2.1
  have q9 : ∀ w', Below (g + 1) w8 w' → w'.cell? ⟨w.heap.size, 9, none⟩ = some (.int .i64 c.a) := fun w' h => (box11 (HV8.out.a h)).2.2.2.2.2.2.2.2.2.1
  have q10 : ∀ w', Below (g + 1) w8 w' → w'.cell? ⟨w.heap.size, 10, none⟩ = some (.int .i64 c.l) := fun w' h => (box11 (HV8.out.a h)).2.2.2.2.2.2.2.2.2.2
  have n0 : ∀ w', Below (g + 1) w8 w' → w'.cell? ⟨g, 0, none⟩ = some (.int .i64 (dataC c)) := fun w' h => (box7 (HV8.out.b h)).1.1
  have n1 : ∀ w', Below (g + 1) w8 w' → w'.cell? ⟨g, 1, none⟩ = some (.int .i64 (dataC c * c.u)) := fun w' h => (box7 (HV8.out.b h)).1.2.1
  have n2 : ∀ w', Below (g + 1) w8 w' → w'.cell? ⟨g, 2, none⟩ = some (.int .i64 (stripesC c)) := fun w' h => (box7 (HV8.out.b h)).1.2.2.1
  have n3 : ∀ w', Below (g + 1) w8 w' → w'.cell? ⟨g, 3, none⟩ = some (.int .i64 (stripesC c * (dataC c * c.u))) := fun w' h => (box7 (HV8.out.b h)).1.2.2.2.1
  have n4 : ∀ w', Below (g + 1) w8 w' → w'.cell? ⟨g, 4, none⟩ = some (.int .i64 (slotsC c)) := fun w' h => (box7 (HV8.out.b h)).1.2.2.2.2.1
  have n5 : ∀ w', Below (g + 1) w8 w' → w'.cell? ⟨g, 5, none⟩ = some (.int .i64 (allC c)) := fun w' h => (box7 (HV8.out.b h)).1.2.2.2.2.2.1
  have n6 : ∀ w', Below (g + 1) w8 w' → w'.cell? ⟨g, 6, none⟩ = some (.int .i64 (roomC c)) := fun w' h => (box7 (HV8.out.b h)).1.2.2.2.2.2.2
  refine wpB_take (i := 0) (d := 54) (v := ?v3x0) rfl rfl (by kernel_rfl) (by kernel_rfl) (by kernel_rfl) (fun _ _ _ h => h) (by rfl) ?y3x0 ?r3x0
  case y3x0 => (intro w' hSw; go_simp; try (with_reducible rfl))
  simp only [Act.put, List.setIfInBounds_toArray, List.set_cons_zero, List.set_cons_succ]
  refine wpB_take (i := 3) (d := 57) (v := ?v3x3) rfl rfl (by kernel_rfl) (by kernel_rfl) (by kernel_rfl) (fun _ _ _ h => h) (by rfl) ?y3x3 ?r3x3
  case y3x3 => (intro w' hSw; go_simp; try (with_reducible rfl))
  simp only [Act.put, List.setIfInBounds_toArray, List.set_cons_zero, List.set_cons_succ]
  refine wpB_do (i := 1) (by kernel_rfl) rfl (by rfl) (fun K hK => ?_)
  go_simp
  refine (check_any c w8).mono ?_
  rintro e w9 ⟨rfl, hb⟩
  have HV9 := Lib.hid (HV8.out.later hb)
  have hbk := hb.mono HV8.out.sz
  go_simp
  refine hK.out (g + 1) _ _ (Nat.le_refl _) hbk ?_
  clear hK hb hbk HV8 q0 q1 q2 q3 q4 q5 q6 q7 q8 q9 q10 n0 n1 n2 n3 n4 n5 n6
  have q0 : ∀ w', Below (g + 1) w9 w' → w'.cell? ⟨w.heap.size, 0, none⟩ = some (.int .i64 c.id) := fun w' h => (box11 (HV9.out.a h)).1
  have q1 : ∀ w', Below (g + 1) w9 w' → w'.cell? ⟨w.heap.size, 1, none⟩ = some (.int .i64 c.m) := fun w' h => (box11 (HV9.out.a h)).2.1
  have q2 : ∀ w', Below (g + 1) w9 w' → w'.cell? ⟨w.heap.size, 2, none⟩ = some (.int .i64 c.u) := fun w' h => (box11 (HV9.out.a h)).2.2.1
  have q3 : ∀ w', Below (g + 1) w9 w' → w'.cell? ⟨w.heap.size, 3, none⟩ = some (.int .i64 c.b) := fun w' h => (box11 (HV9.out.a h)).2.2.2.1
  have q4 : ∀ w', Below (g + 1) w9 w' → w'.cell? ⟨w.heap.size, 4, none⟩ = some (.int .i64 c.cp) := fun w' h => (box11 (HV9.out.a h)).2.2.2.2.1
  have q5 : ∀ w', Below (g + 1) w9 w' → w'.cell? ⟨w.heap.size, 5, none⟩ = some (.int .i64 c.z) := fun w' h => (box11 (HV9.out.a h)).2.2.2.2.2.1
  have q6 : ∀ w', Below (g + 1) w9 w' → w'.cell? ⟨w.heap.size, 6, none⟩ = some (.int .i64 c.s) := fun w' h => (box11 (HV9.out.a h)).2.2.2.2.2.2.1
  have q7 : ∀ w', Below (g + 1) w9 w' → w'.cell? ⟨w.heap.size, 7, none⟩ = some (.int .i64 c.mt) := fun w' h => (box11 (HV9.out.a h)).2.2.2.2.2.2.2.1
  have q8 : ∀ w', Below (g + 1) w9 w' → w'.cell? ⟨w.heap.size, 8, none⟩ = some (.int .i64 c.o) := fun w' h => (box11 (HV9.out.a h)).2.2.2.2.2.2.2.2.1
  have q9 : ∀ w', Below (g + 1) w9 w' → w'.cell? ⟨w.heap.size, 9, none⟩ = some (.int .i64 c.a) := fun w' h => (box11 (HV9.out.a h)).2.2.2.2.2.2.2.2.2.1
  have q10 : ∀ w', Below (g + 1) w9 w' → w'.cell? ⟨w.heap.size, 10, none⟩ = some (.int .i64 c.l) := fun w' h => (box11 (HV9.out.a h)).2.2.2.2.2.2.2.2.2.2
  have n0 : ∀ w', Below (g + 1) w9 w' → w'.cell? ⟨g, 0, none⟩ = some (.int .i64 (dataC c)) := fun w' h => (box7 (HV9.out.b h)).1.1
  have n1 : ∀ w', Below (g + 1) w9 w' → w'.cell? ⟨g, 1, none⟩ = some (.int .i64 (dataC c * c.u)) := fun w' h => (box7 (HV9.out.b h)).1.2.1
  have n2 : ∀ w', Below (g + 1) w9 w' → w'.cell? ⟨g, 2, none⟩ = some (.int .i64 (stripesC c)) := fun w' h => (box7 (HV9.out.b h)).1.2.2.1
  have n3 : ∀ w', Below (g + 1) w9 w' → w'.cell? ⟨g, 3, none⟩ = some (.int .i64 (stripesC c * (dataC c * c.u))) := fun w' h => (box7 (HV9.out.b h)).1.2.2.2.1
  have n4 : ∀ w', Below (g + 1) w9 w' → w'.cell? ⟨g, 4, none⟩ = some (.int .i64 (slotsC c)) := fun w' h => (box7 (HV9.out.b h)).1.2.2.2.2.1
  have n5 : ∀ w', Below (g + 1) w9 w' → w'.cell? ⟨g, 5, none⟩ = some (.int .i64 (allC c)) := fun w' h => (box7 (HV9.out.b h)).1.2.2.2.2.2.1
  have n6 : ∀ w', Below (g + 1) w9 w' → w'.cell? ⟨g, 6, none⟩ = some (.int .i64 (roomC c)) := fun w' h => (box7 (HV9.out.b h)).1.2.2.2.2.2.2
  refine wpB_do (i := 2) (by kernel_rfl) rfl (by rfl) (fun K hK => ?_)
  go_simp
  refine (code_any (checkC c) w9).mono ?_
  rintro e w' ⟨rfl, rfl⟩
  go_simp
  refine hK.out (g + 1) _ _ (Nat.le_refl _) (Below.refl _ _) ?_
  clear hK
  refine wpB_do (i := 4) (by kernel_rfl) rfl (by rfl) (fun K hK => ?_)
  go_simp
  refine (refCheck_any c w9).mono ?_
  rintro e w10 ⟨rfl, hb⟩
  have HV10 := Lib.hid (HV9.out.later hb)
  have hbk := hb.mono HV9.out.sz
  go_simp
  refine hK.out (g + 1) _ _ (Nat.le_refl _) hbk ?_
  clear hK hb hbk HV9 q0 q1 q2 q3 q4 q5 q6 q7 q8 q9 q10 n0 n1 n2 n3 n4 n5 n6
  have q0 : ∀ w', Below (g + 1) w10 w' → w'.cell? ⟨w.heap.size, 0, none⟩ = some (.int .i64 c.id) := fun w' h => (box11 (HV10.out.a h)).1
  have q1 : ∀ w', Below (g + 1) w10 w' → w'.cell? ⟨w.heap.size, 1, none⟩ = some (.int .i64 c.m) := fun w' h => (box11 (HV10.out.a h)).2.1
  have q2 : ∀ w', Below (g + 1) w10 w' → w'.cell? ⟨w.heap.size, 2, none⟩ = some (.int .i64 c.u) := fun w' h => (box11 (HV10.out.a h)).2.2.1
  have q3 : ∀ w', Below (g + 1) w10 w' → w'.cell? ⟨w.heap.size, 3, none⟩ = some (.int .i64 c.b) := fun w' h => (box11 (HV10.out.a h)).2.2.2.1
  have q4 : ∀ w', Below (g + 1) w10 w' → w'.cell? ⟨w.heap.size, 4, none⟩ = some (.int .i64 c.cp) := fun w' h => (box11 (HV10.out.a h)).2.2.2.2.1
  have q5 : ∀ w', Below (g + 1) w10 w' → w'.cell? ⟨w.heap.size, 5, none⟩ = some (.int .i64 c.z) := fun w' h => (box11 (HV10.out.a h)).2.2.2.2.2.1
  have q6 : ∀ w', Below (g + 1) w10 w' → w'.cell? ⟨w.heap.size, 6, none⟩ = some (.int .i64 c.s) := fun w' h => (box11 (HV10.out.a h)).2.2.2.2.2.2.1
  have q7 : ∀ w', Below (g + 1) w10 w' → w'.cell? ⟨w.heap.size, 7, none⟩ = some (.int .i64 c.mt) := fun w' h => (box11 (HV10.out.a h)).2.2.2.2.2.2.2.1
  have q8 : ∀ w', Below (g + 1) w10 w' → w'.cell? ⟨w.heap.size, 8, none⟩ = some (.int .i64 c.o) := fun w' h => (box11 (HV10.out.a h)).2.2.2.2.2.2.2.2.1
  have q9 : ∀ w', Below (g + 1) w10 w' → w'.cell? ⟨w.heap.size, 9, none⟩ = some (.int .i64 c.a) := fun w' h => (box11 (HV10.out.a h)).2.2.2.2.2.2.2.2.2.1
  have q10 : ∀ w', Below (g + 1) w10 w' → w'.cell? ⟨w.heap.size, 10, none⟩ = some (.int .i64 c.l) := fun w' h => (box11 (HV10.out.a h)).2.2.2.2.2.2.2.2.2.2
  have n0 : ∀ w', Below (g + 1) w10 w' → w'.cell? ⟨g, 0, none⟩ = some (.int .i64 (dataC c)) := fun w' h => (box7 (HV10.out.b h)).1.1
  have n1 : ∀ w', Below (g + 1) w10 w' → w'.cell? ⟨g, 1, none⟩ = some (.int .i64 (dataC c * c.u)) := fun w' h => (box7 (HV10.out.b h)).1.2.1
  have n2 : ∀ w', Below (g + 1) w10 w' → w'.cell? ⟨g, 2, none⟩ = some (.int .i64 (stripesC c)) := fun w' h => (box7 (HV10.out.b h)).1.2.2.1
  have n3 : ∀ w', Below (g + 1) w10 w' → w'.cell? ⟨g, 3, none⟩ = some (.int .i64 (stripesC c * (dataC c * c.u))) := fun w' h => (box7 (HV10.out.b h)).1.2.2.2.1
  have n4 : ∀ w', Below (g + 1) w10 w' → w'.cell? ⟨g, 4, none⟩ = some (.int .i64 (slotsC c)) := fun w' h => (box7 (HV10.out.b h)).1.2.2.2.2.1
  have n5 : ∀ w', Below (g + 1) w10 w' → w'.cell? ⟨g, 5, none⟩ = some (.int .i64 (allC c)) := fun w' h => (box7 (HV10.out.b h)).1.2.2.2.2.2.1
  have n6 : ∀ w', Below (g + 1) w10 w' → w'.cell? ⟨g, 6, none⟩ = some (.int .i64 (roomC c)) := fun w' h => (box7 (HV10.out.b h)).1.2.2.2.2.2.2
  refine wpB_take (i := 5) (d := 59) (v := ?v3x5) rfl rfl (by kernel_rfl) (by kernel_rfl) (by kernel_rfl) (fun _ _ _ h => h) (by rfl) ?y3x5 ?r3x5
  case y3x5 => (intro w' hSw; go_simp; try (with_reducible rfl))
  simp only [Act.put, List.setIfInBounds_toArray, List.set_cons_zero, List.set_cons_succ]
  refine wpB_take (i := 6) (d := 60) (v := ?v3x6) rfl rfl (by kernel_rfl) (by kernel_rfl) (by kernel_rfl) (fun _ _ _ h => h) (by rfl) ?y3x6 ?r3x6
  case y3x6 => (intro w' hSw; go_simp; try (with_reducible rfl))
  simp only [Act.put, List.setIfInBounds_toArray, List.set_cons_zero, List.set_cons_succ]
  refine wpB_take (i := 7) (d := 61) (v := ?v3x7) rfl rfl (by kernel_rfl) (by kernel_rfl) (by kernel_rfl) (fun _ _ _ h => h) (by rfl) ?y3x7 ?r3x7
  case y3x7 => (intro w' hSw; go_simp; try (with_reducible rfl))
  simp only [Act.put, List.setIfInBounds_toArray, List.set_cons_zero, List.set_cons_succ]
  refine wpB_take (i := 8) (d := 62) (v := ?v3x8) rfl rfl (by kernel_rfl) (by kernel_rfl) (by kernel_rfl) (fun _ _ _ h => h) (by rfl) ?y3x8 ?r3x8
  case y3x8 => (intro w' hSw; go_simp; try (with_reducible rfl))
  simp only [Act.put, List.setIfInBounds_toArray, List.set_cons_zero, List.set_cons_succ]
  refine wpB_take (i := 9) (d := 63) (v := ?v3x9) rfl rfl (by kernel_rfl) (by kernel_rfl) (by kernel_rfl) (fun _ _ _ h => h) (by rfl) ?y3x9 ?r3x9
  case y3x9 => (intro w' hSw; go_simp; try (with_reducible rfl))
  simp only [Act.put, List.setIfInBounds_toArray, List.set_cons_zero, List.set_cons_succ]
  refine wpB_do (i := 10) (by kernel_rfl) rfl (by rfl) (fun K hK => ?_)
  go_simp
  refine (live_any w10).mono ?_
  rintro e w11 ⟨rfl, hb⟩
  have HV11 := Lib.hid (HV10.out.later hb)
  have hbk := hb.mono HV10.out.sz
  go_simp
  refine hK.out (g + 1) _ _ (Nat.le_refl _) hbk ?_
  clear hK hb hbk HV10 q0 q1 q2 q3 q4 q5 q6 q7 q8 q9 q10 n0 n1 n2 n3 n4 n5 n6
  have q0 : ∀ w', Below (g + 1) w11 w' → w'.cell? ⟨w.heap.size, 0, none⟩ = some (.int .i64 c.id) := fun w' h => (box11 (HV11.out.a h)).1
  have q1 : ∀ w', Below (g + 1) w11 w' → w'.cell? ⟨w.heap.size, 1, none⟩ = some (.int .i64 c.m) := fun w' h => (box11 (HV11.out.a h)).2.1
  have q2 : ∀ w', Below (g + 1) w11 w' → w'.cell? ⟨w.heap.size, 2, none⟩ = some (.int .i64 c.u) := fun w' h => (box11 (HV11.out.a h)).2.2.1
  have q3 : ∀ w', Below (g + 1) w11 w' → w'.cell? ⟨w.heap.size, 3, none⟩ = some (.int .i64 c.b) := fun w' h => (box11 (HV11.out.a h)).2.2.2.1
  have q4 : ∀ w', Below (g + 1) w11 w' → w'.cell? ⟨w.heap.size, 4, none⟩ = some (.int .i64 c.cp) := fun w' h => (box11 (HV11.out.a h)).2.2.2.2.1
  have q5 : ∀ w', Below (g + 1) w11 w' → w'.cell? ⟨w.heap.size, 5, none⟩ = some (.int .i64 c.z) := fun w' h => (box11 (HV11.out.a h)).2.2.2.2.2.1
  have q6 : ∀ w', Below (g + 1) w11 w' → w'.cell? ⟨w.heap.size, 6, none⟩ = some (.int .i64 c.s) := fun w' h => (box11 (HV11.out.a h)).2.2.2.2.2.2.1
  have q7 : ∀ w', Below (g + 1) w11 w' → w'.cell? ⟨w.heap.size, 7, none⟩ = some (.int .i64 c.mt) := fun w' h => (box11 (HV11.out.a h)).2.2.2.2.2.2.2.1
  have q8 : ∀ w', Below (g + 1) w11 w' → w'.cell? ⟨w.heap.size, 8, none⟩ = some (.int .i64 c.o) := fun w' h => (box11 (HV11.out.a h)).2.2.2.2.2.2.2.2.1
  have q9 : ∀ w', Below (g + 1) w11 w' → w'.cell? ⟨w.heap.size, 9, none⟩ = some (.int .i64 c.a) := fun w' h => (box11 (HV11.out.a h)).2.2.2.2.2.2.2.2.2.1
  have q10 : ∀ w', Below (g + 1) w11 w' → w'.cell? ⟨w.heap.size, 10, none⟩ = some (.int .i64 c.l) := fun w' h => (box11 (HV11.out.a h)).2.2.2.2.2.2.2.2.2.2
  have n0 : ∀ w', Below (g + 1) w11 w' → w'.cell? ⟨g, 0, none⟩ = some (.int .i64 (dataC c)) := fun w' h => (box7 (HV11.out.b h)).1.1
  have n1 : ∀ w', Below (g + 1) w11 w' → w'.cell? ⟨g, 1, none⟩ = some (.int .i64 (dataC c * c.u)) := fun w' h => (box7 (HV11.out.b h)).1.2.1
  have n2 : ∀ w', Below (g + 1) w11 w' → w'.cell? ⟨g, 2, none⟩ = some (.int .i64 (stripesC c)) := fun w' h => (box7 (HV11.out.b h)).1.2.2.1
  have n3 : ∀ w', Below (g + 1) w11 w' → w'.cell? ⟨g, 3, none⟩ = some (.int .i64 (stripesC c * (dataC c * c.u))) := fun w' h => (box7 (HV11.out.b h)).1.2.2.2.1
  have n4 : ∀ w', Below (g + 1) w11 w' → w'.cell? ⟨g, 4, none⟩ = some (.int .i64 (slotsC c)) := fun w' h => (box7 (HV11.out.b h)).1.2.2.2.2.1
  have n5 : ∀ w', Below (g + 1) w11 w' → w'.cell? ⟨g, 5, none⟩ = some (.int .i64 (allC c)) := fun w' h => (box7 (HV11.out.b h)).1.2.2.2.2.2.1
  have n6 : ∀ w', Below (g + 1) w11 w' → w'.cell? ⟨g, 6, none⟩ = some (.int .i64 (roomC c)) := fun w' h => (box7 (HV11.out.b h)).1.2.2.2.2.2.2
  refine wpB_take (i := 11) (d := 65) (v := ?v3x11) rfl rfl (by kernel_rfl) (by kernel_rfl) (by kernel_rfl) (fun _ _ _ h => h) (by rfl) ?y3x11 ?r3x11
  case y3x11 => (intro w' hSw; go_simp; try (with_reducible rfl))
  simp only [Act.put, List.setIfInBounds_toArray, List.set_cons_zero, List.set_cons_succ]
  refine wpB_take (i := 12) (d := 2) (v := ?v3x12) rfl rfl (by kernel_rfl) (by kernel_rfl) (by kernel_rfl) (fun _ _ _ h => h) (by rfl) ?y3x12 ?r3x12
  case y3x12 => (intro w' hSw; go_simp; try (with_reducible rfl))
  simp only [Act.put, List.setIfInBounds_toArray, List.set_cons_zero, List.set_cons_succ]
  refine wpB_done (by kernel_rfl) ?_
  clear q0 q1 q2 q3 q4 q5 q6 q7 q8 q9 q10 n0 n1 n2 n3 n4 n5 n6
  go_wp2
  go_ret
  exact ⟨rfl, HV11.out.bel⟩
end Go.Proofs.Yteobhfcebckonaa
