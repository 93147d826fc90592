/- For all settings and numbers the law GeomNeeds returns true: the walk. -/
import Derived.Test.YtlefjllpeapomaaY
namespace Go.Proofs.Ytlefjllpeapomaa
set_option linter.unusedVariables false
set_option linter.unusedSimpArgs false
open Go.RowKit
open Go.RowKit (wrap64)

theorem need_not {c : Cf} (hc : ¬ checkC c = 0) (m n : Int) : needA c m n = 0 := by
  unfold needA
  rw [if_neg (fun h => hc (hasM_iff.1 h).1)]
theorem needs_at {c : Cf} {n : Int} {M k : Nat} (hc : checkC c = 0) (hM : c.m = (M : Int)) (hk : k < M) : needA c k n = nedC c k (wriC c n) := by
  unfold needA
  rw [if_pos (hasM_iff.2 ⟨hc, by omega, by omega⟩)]
set_option maxHeartbeats 4000000 in
theorem needs_big1 (c : Cf) (m n : Int) (w : World) (hc : ¬ checkC c = 0) (h1 : 16 < c.m) : Calls Try.prog 4 #[(.agg #[.int .i64 c.id, .int .i64 c.m, .int .i64 c.u, .int .i64 c.b, .int .i64 c.cp, .int .i64 c.z, .int .i64 c.s, .int .i64 c.mt, .int .i64 c.o, .int .i64 c.a, .int .i64 c.l]), .int .i64 m, .int .i64 n] w (Says w (.bool true)) := by
  have HN := Lib.hid (need_not hc m n)
  have HC := Lib.hid hc
  clear hc
  go_enter Try.func4, Try.ntmps4
  go_wp2_with fail
  have HV0 := Lib.hid (At.new c w)
  generalize (w.alloc (.cells #[.int .i64 c.id, .int .i64 c.m, .int .i64 c.u, .int .i64 c.b, .int .i64 c.cp, .int .i64 c.z, .int .i64 c.s, .int .i64 c.mt, .int .i64 c.o, .int .i64 c.a, .int .i64 c.l] 23)) = w0 at HV0 ⊢
  obtain ⟨y0, y1, y2, y3, y4, y5, y6, y7, y8, y9, y10⟩ := box11 HV0.out.1
  refine (need_any c m n w0).mono ?_
  rintro e w1 ⟨rfl, hb⟩
  rw [HN.out]
  have HV1 := Lib.hid (HV0.out.later hb)
  clear hb HV0 y0 y1 y2 y3 y4 y5 y6 y7 y8 y9 y10
  obtain ⟨y0, y1, y2, y3, y4, y5, y6, y7, y8, y9, y10⟩ := box11 HV1.out.1
  go_wp2_with fail
  refine (needs_no c n w1 HC.out).mono ?_
  rintro e w2 ⟨rfl, hb⟩
  have HV2 := Lib.hid (HV1.out.later hb)
  clear hb HV1 y0 y1 y2 y3 y4 y5 y6 y7 y8 y9 y10
  obtain ⟨y0, y1, y2, y3, y4, y5, y6, y7, y8, y9, y10⟩ := box11 HV2.out.1
  go_wp2_with fail
  refine (live_any w2).mono ?_
  rintro e w3 ⟨rfl, hb⟩
  have HV3 := Lib.hid (HV2.out.later hb)
  clear hb HV2 y0 y1 y2 y3 y4 y5 y6 y7 y8 y9 y10
  obtain ⟨y0, y1, y2, y3, y4, y5, y6, y7, y8, y9, y10⟩ := box11 HV3.out.1
  go_wp2
  go_ret
  exact ⟨rfl, HV3.out.2.1⟩
set_option maxHeartbeats 4000000 in
theorem needs_big2 (c : Cf) (m n : Int) (w : World) (hc : ¬ checkC c = 0) (h1 : ¬ 16 < c.m) (h2 : 64 < c.u) : Calls Try.prog 4 #[(.agg #[.int .i64 c.id, .int .i64 c.m, .int .i64 c.u, .int .i64 c.b, .int .i64 c.cp, .int .i64 c.z, .int .i64 c.s, .int .i64 c.mt, .int .i64 c.o, .int .i64 c.a, .int .i64 c.l]), .int .i64 m, .int .i64 n] w (Says w (.bool true)) := by
  have HN := Lib.hid (need_not hc m n)
  have HC := Lib.hid hc
  clear hc
  go_enter Try.func4, Try.ntmps4
  go_wp2_with fail
  have HV0 := Lib.hid (At.new c w)
  generalize (w.alloc (.cells #[.int .i64 c.id, .int .i64 c.m, .int .i64 c.u, .int .i64 c.b, .int .i64 c.cp, .int .i64 c.z, .int .i64 c.s, .int .i64 c.mt, .int .i64 c.o, .int .i64 c.a, .int .i64 c.l] 23)) = w0 at HV0 ⊢
  obtain ⟨y0, y1, y2, y3, y4, y5, y6, y7, y8, y9, y10⟩ := box11 HV0.out.1
  refine (need_any c m n w0).mono ?_
  rintro e w1 ⟨rfl, hb⟩
  rw [HN.out]
  have HV1 := Lib.hid (HV0.out.later hb)
  clear hb HV0 y0 y1 y2 y3 y4 y5 y6 y7 y8 y9 y10
  obtain ⟨y0, y1, y2, y3, y4, y5, y6, y7, y8, y9, y10⟩ := box11 HV1.out.1
  go_wp2_with fail
  refine (needs_no c n w1 HC.out).mono ?_
  rintro e w2 ⟨rfl, hb⟩
  have HV2 := Lib.hid (HV1.out.later hb)
  clear hb HV1 y0 y1 y2 y3 y4 y5 y6 y7 y8 y9 y10
  obtain ⟨y0, y1, y2, y3, y4, y5, y6, y7, y8, y9, y10⟩ := box11 HV2.out.1
  go_wp2_with fail
  refine (live_any w2).mono ?_
  rintro e w3 ⟨rfl, hb⟩
  have HV3 := Lib.hid (HV2.out.later hb)
  clear hb HV2 y0 y1 y2 y3 y4 y5 y6 y7 y8 y9 y10
  obtain ⟨y0, y1, y2, y3, y4, y5, y6, y7, y8, y9, y10⟩ := box11 HV3.out.1
  go_wp2
  go_ret
  exact ⟨rfl, HV3.out.2.1⟩
set_option maxRecDepth 100000 in
set_option maxHeartbeats 4000000 in
theorem needs_bad (c : Cf) (m n : Int) (w : World) (hc : ¬ checkC c = 0) (h1 : ¬ 16 < c.m) (h2 : ¬ 64 < c.u) : Calls Try.prog 4 #[(.agg #[.int .i64 c.id, .int .i64 c.m, .int .i64 c.u, .int .i64 c.b, .int .i64 c.cp, .int .i64 c.z, .int .i64 c.s, .int .i64 c.mt, .int .i64 c.o, .int .i64 c.a, .int .i64 c.l]), .int .i64 m, .int .i64 n] w (Says w (.bool true)) := by
  have HC := Lib.hid hc
  clear hc
  go_enter Try.func4, Try.ntmps4
  go_wp2_with fail
  have HV0 := Lib.hid (At.new c w)
  generalize (w.alloc (.cells #[.int .i64 c.id, .int .i64 c.m, .int .i64 c.u, .int .i64 c.b, .int .i64 c.cp, .int .i64 c.z, .int .i64 c.s, .int .i64 c.mt, .int .i64 c.o, .int .i64 c.a, .int .i64 c.l] 23)) = w0 at HV0 ⊢
  obtain ⟨y0, y1, y2, y3, y4, y5, y6, y7, y8, y9, y10⟩ := box11 HV0.out.1
  refine wpB_start (w.heap.size + 1) (by kernel_rfl) ?_
  have HV1 := Lib.hid HV0.out.drew
  generalize w0.drew = w1 at HV1 ⊢
  clear HV0 y0 y1 y2 y3 y4 y5 y6 y7 y8 y9 y10
  have q0 : ∀ w', Below (w.heap.size + 1) w1 w' → w'.cell? ⟨w.heap.size, 0, none⟩ = some (.int .i64 c.id) := fun w' h => (box11 (HV1.out.below h)).1
  have q1 : ∀ w', Below (w.heap.size + 1) w1 w' → w'.cell? ⟨w.heap.size, 1, none⟩ = some (.int .i64 c.m) := fun w' h => (box11 (HV1.out.below h)).2.1
  have q2 : ∀ w', Below (w.heap.size + 1) w1 w' → w'.cell? ⟨w.heap.size, 2, none⟩ = some (.int .i64 c.u) := fun w' h => (box11 (HV1.out.below h)).2.2.1
  have q3 : ∀ w', Below (w.heap.size + 1) w1 w' → w'.cell? ⟨w.heap.size, 3, none⟩ = some (.int .i64 c.b) := fun w' h => (box11 (HV1.out.below h)).2.2.2.1
  have q4 : ∀ w', Below (w.heap.size + 1) w1 w' → w'.cell? ⟨w.heap.size, 4, none⟩ = some (.int .i64 c.cp) := fun w' h => (box11 (HV1.out.below h)).2.2.2.2.1
  have q5 : ∀ w', Below (w.heap.size + 1) w1 w' → w'.cell? ⟨w.heap.size, 5, none⟩ = some (.int .i64 c.z) := fun w' h => (box11 (HV1.out.below h)).2.2.2.2.2.1
  have q6 : ∀ w', Below (w.heap.size + 1) w1 w' → w'.cell? ⟨w.heap.size, 6, none⟩ = some (.int .i64 c.s) := fun w' h => (box11 (HV1.out.below h)).2.2.2.2.2.2.1
  have q7 : ∀ w', Below (w.heap.size + 1) w1 w' → w'.cell? ⟨w.heap.size, 7, none⟩ = some (.int .i64 c.mt) := fun w' h => (box11 (HV1.out.below h)).2.2.2.2.2.2.2.1
  have q8 : ∀ w', Below (w.heap.size + 1) w1 w' → w'.cell? ⟨w.heap.size, 8, none⟩ = some (.int .i64 c.o) := fun w' h => (box11 (HV1.out.below h)).2.2.2.2.2.2.2.2.1
  have q9 : ∀ w', Below (w.heap.size + 1) w1 w' → w'.cell? ⟨w.heap.size, 9, none⟩ = some (.int .i64 c.a) := fun w' h => (box11 (HV1.out.below h)).2.2.2.2.2.2.2.2.2.1
  have q10 : ∀ w', Below (w.heap.size + 1) w1 w' → w'.cell? ⟨w.heap.size, 10, none⟩ = some (.int .i64 c.l) := fun w' h => (box11 (HV1.out.below h)).2.2.2.2.2.2.2.2.2.2
  refine wpB_take (i := 0) (d := 32) (v := ?v3x0) rfl rfl (by kernel_rfl) (by kernel_rfl) (by kernel_rfl) (fun _ _ _ h => h) (by rfl) ?y3x0 ?r3x0
  case y3x0 => (intro w' hSw; go_simp; try (with_reducible rfl))
  simp only [Act.put, List.setIfInBounds_toArray, List.set_cons_zero, List.set_cons_succ]
  refine wpB_take (i := 1) (d := 33) (v := ?v3x1) rfl rfl (by kernel_rfl) (by kernel_rfl) (by kernel_rfl) (fun _ _ _ h => h) (by rfl) ?y3x1 ?r3x1
  case y3x1 => (intro w' hSw; go_simp; try (with_reducible rfl))
  simp only [Act.put, List.setIfInBounds_toArray, List.set_cons_zero, List.set_cons_succ]
  refine wpB_take (i := 2) (d := 34) (v := ?v3x2) rfl rfl (by kernel_rfl) (by kernel_rfl) (by kernel_rfl) (fun _ _ _ h => h) (by rfl) ?y3x2 ?r3x2
  case y3x2 => (intro w' hSw; go_simp; try (with_reducible rfl))
  simp only [Act.put, List.setIfInBounds_toArray, List.set_cons_zero, List.set_cons_succ]
  refine wpB_take (i := 4) (d := 36) (v := ?v3x4) rfl rfl (by kernel_rfl) (by kernel_rfl) (by kernel_rfl) (fun _ _ _ h => h) (by rfl) ?y3x4 ?r3x4
  case y3x4 => (intro w' hSw; go_simp; try (with_reducible rfl))
  simp only [Act.put, List.setIfInBounds_toArray, List.set_cons_zero, List.set_cons_succ]
  refine wpB_take (i := 5) (d := 37) (v := ?v3x5) rfl rfl (by kernel_rfl) (by kernel_rfl) (by kernel_rfl) (fun _ _ _ h => h) (by rfl) ?y3x5 ?r3x5
  case y3x5 => (intro w' hSw; go_simp; try (with_reducible rfl))
  simp only [Act.put, List.setIfInBounds_toArray, List.set_cons_zero, List.set_cons_succ]
  refine wpB_take (i := 6) (d := 38) (v := ?v3x6) rfl rfl (by kernel_rfl) (by kernel_rfl) (by kernel_rfl) (fun _ _ _ h => h) (by rfl) ?y3x6 ?r3x6
  case y3x6 => (intro w' hSw; go_simp; try (with_reducible rfl))
  simp only [Act.put, List.setIfInBounds_toArray, List.set_cons_zero, List.set_cons_succ]
  refine wpB_do (i := 3) (by kernel_rfl) rfl (by rfl) (fun K hK => ?_)
  go_simp
  refine (need_any c m n w1).mono ?_
  rintro e w2 ⟨rfl, hb⟩
  have HV2 := Lib.hid (HV1.out.later hb)
  have hbk := hb.mono HV1.out.2.2
  go_simp
  refine hK.out (w.heap.size + 1) _ _ (Nat.le_refl _) hbk ?_
  clear hK hb hbk HV1 q0 q1 q2 q3 q4 q5 q6 q7 q8 q9 q10
  have q0 : ∀ w', Below (w.heap.size + 1) w2 w' → w'.cell? ⟨w.heap.size, 0, none⟩ = some (.int .i64 c.id) := fun w' h => (box11 (HV2.out.below h)).1
  have q1 : ∀ w', Below (w.heap.size + 1) w2 w' → w'.cell? ⟨w.heap.size, 1, none⟩ = some (.int .i64 c.m) := fun w' h => (box11 (HV2.out.below h)).2.1
  have q2 : ∀ w', Below (w.heap.size + 1) w2 w' → w'.cell? ⟨w.heap.size, 2, none⟩ = some (.int .i64 c.u) := fun w' h => (box11 (HV2.out.below h)).2.2.1
  have q3 : ∀ w', Below (w.heap.size + 1) w2 w' → w'.cell? ⟨w.heap.size, 3, none⟩ = some (.int .i64 c.b) := fun w' h => (box11 (HV2.out.below h)).2.2.2.1
  have q4 : ∀ w', Below (w.heap.size + 1) w2 w' → w'.cell? ⟨w.heap.size, 4, none⟩ = some (.int .i64 c.cp) := fun w' h => (box11 (HV2.out.below h)).2.2.2.2.1
  have q5 : ∀ w', Below (w.heap.size + 1) w2 w' → w'.cell? ⟨w.heap.size, 5, none⟩ = some (.int .i64 c.z) := fun w' h => (box11 (HV2.out.below h)).2.2.2.2.2.1
  have q6 : ∀ w', Below (w.heap.size + 1) w2 w' → w'.cell? ⟨w.heap.size, 6, none⟩ = some (.int .i64 c.s) := fun w' h => (box11 (HV2.out.below h)).2.2.2.2.2.2.1
  have q7 : ∀ w', Below (w.heap.size + 1) w2 w' → w'.cell? ⟨w.heap.size, 7, none⟩ = some (.int .i64 c.mt) := fun w' h => (box11 (HV2.out.below h)).2.2.2.2.2.2.2.1
  have q8 : ∀ w', Below (w.heap.size + 1) w2 w' → w'.cell? ⟨w.heap.size, 8, none⟩ = some (.int .i64 c.o) := fun w' h => (box11 (HV2.out.below h)).2.2.2.2.2.2.2.2.1
  have q9 : ∀ w', Below (w.heap.size + 1) w2 w' → w'.cell? ⟨w.heap.size, 9, none⟩ = some (.int .i64 c.a) := fun w' h => (box11 (HV2.out.below h)).2.2.2.2.2.2.2.2.2.1
  have q10 : ∀ w', Below (w.heap.size + 1) w2 w' → w'.cell? ⟨w.heap.size, 10, none⟩ = some (.int .i64 c.l) := fun w' h => (box11 (HV2.out.below h)).2.2.2.2.2.2.2.2.2.2
  refine wpB_do (i := 7) (by kernel_rfl) rfl (by rfl) (fun K hK => ?_)
  go_simp
  refine (rNeed_any c m n w2).mono ?_
  rintro e w3 ⟨rfl, hb⟩
  have HV3 := Lib.hid (HV2.out.later hb)
  have hbk := hb.mono HV2.out.2.2
  go_simp
  refine hK.out (w.heap.size + 1) _ _ (Nat.le_refl _) hbk ?_
  clear hK hb hbk HV2 q0 q1 q2 q3 q4 q5 q6 q7 q8 q9 q10
  have q0 : ∀ w', Below (w.heap.size + 1) w3 w' → w'.cell? ⟨w.heap.size, 0, none⟩ = some (.int .i64 c.id) := fun w' h => (box11 (HV3.out.below h)).1
  have q1 : ∀ w', Below (w.heap.size + 1) w3 w' → w'.cell? ⟨w.heap.size, 1, none⟩ = some (.int .i64 c.m) := fun w' h => (box11 (HV3.out.below h)).2.1
  have q2 : ∀ w', Below (w.heap.size + 1) w3 w' → w'.cell? ⟨w.heap.size, 2, none⟩ = some (.int .i64 c.u) := fun w' h => (box11 (HV3.out.below h)).2.2.1
  have q3 : ∀ w', Below (w.heap.size + 1) w3 w' → w'.cell? ⟨w.heap.size, 3, none⟩ = some (.int .i64 c.b) := fun w' h => (box11 (HV3.out.below h)).2.2.2.1
  have q4 : ∀ w', Below (w.heap.size + 1) w3 w' → w'.cell? ⟨w.heap.size, 4, none⟩ = some (.int .i64 c.cp) := fun w' h => (box11 (HV3.out.below h)).2.2.2.2.1
  have q5 : ∀ w', Below (w.heap.size + 1) w3 w' → w'.cell? ⟨w.heap.size, 5, none⟩ = some (.int .i64 c.z) := fun w' h => (box11 (HV3.out.below h)).2.2.2.2.2.1
  have q6 : ∀ w', Below (w.heap.size + 1) w3 w' → w'.cell? ⟨w.heap.size, 6, none⟩ = some (.int .i64 c.s) := fun w' h => (box11 (HV3.out.below h)).2.2.2.2.2.2.1
  have q7 : ∀ w', Below (w.heap.size + 1) w3 w' → w'.cell? ⟨w.heap.size, 7, none⟩ = some (.int .i64 c.mt) := fun w' h => (box11 (HV3.out.below h)).2.2.2.2.2.2.2.1
  have q8 : ∀ w', Below (w.heap.size + 1) w3 w' → w'.cell? ⟨w.heap.size, 8, none⟩ = some (.int .i64 c.o) := fun w' h => (box11 (HV3.out.below h)).2.2.2.2.2.2.2.2.1
  have q9 : ∀ w', Below (w.heap.size + 1) w3 w' → w'.cell? ⟨w.heap.size, 9, none⟩ = some (.int .i64 c.a) := fun w' h => (box11 (HV3.out.below h)).2.2.2.2.2.2.2.2.2.1
  have q10 : ∀ w', Below (w.heap.size + 1) w3 w' → w'.cell? ⟨w.heap.size, 10, none⟩ = some (.int .i64 c.l) := fun w' h => (box11 (HV3.out.below h)).2.2.2.2.2.2.2.2.2.2
  refine wpB_take (i := 8) (d := 40) (v := ?v3x8) rfl rfl (by kernel_rfl) (by kernel_rfl) (by kernel_rfl) (fun _ _ _ h => h) (by rfl) ?y3x8 ?r3x8
  case y3x8 => (intro w' hSw; go_simp; try (with_reducible rfl))
  simp only [Act.put, List.setIfInBounds_toArray, List.set_cons_zero, List.set_cons_succ]
  refine wpB_done (by kernel_rfl) ?_
  clear q0 q1 q2 q3 q4 q5 q6 q7 q8 q9 q10
  obtain ⟨y0, y1, y2, y3, y4, y5, y6, y7, y8, y9, y10⟩ := box11 HV3.out.1
  go_wp2_with fail
  refine (needs_no c n w3 HC.out).mono ?_
  rintro e w4 ⟨rfl, hb⟩
  have HV4 := Lib.hid (HV3.out.later hb)
  clear hb HV3 y0 y1 y2 y3 y4 y5 y6 y7 y8 y9 y10
  obtain ⟨y0, y1, y2, y3, y4, y5, y6, y7, y8, y9, y10⟩ := box11 HV4.out.1
  go_wp2_with fail
  refine (refCheck_any c w4).mono ?_
  rintro e w5 ⟨rfl, hb⟩
  have hc := HC.out
  generalize checkC c = x at hc ⊢
  have e1 : (x == 0) = false := by simpa using hc
  have HV5 := Lib.hid (HV4.out.later hb)
  clear hb HV4 y0 y1 y2 y3 y4 y5 y6 y7 y8 y9 y10
  obtain ⟨y0, y1, y2, y3, y4, y5, y6, y7, y8, y9, y10⟩ := box11 HV5.out.1
  go_wp2_with fail
  refine (live_any w5).mono ?_
  rintro e w6 ⟨rfl, hb⟩
  have HV6 := Lib.hid (HV5.out.later hb)
  clear hb HV5 y0 y1 y2 y3 y4 y5 y6 y7 y8 y9 y10
  obtain ⟨y0, y1, y2, y3, y4, y5, y6, y7, y8, y9, y10⟩ := box11 HV6.out.1
  go_wp2
  go_ret
  exact ⟨rfl, HV6.out.2.1⟩
set_option maxRecDepth 100000 in
set_option maxHeartbeats 8000000 in
theorem needs_good (c : Cf) (m n : Int) (M : Nat) (w : World) (hc : checkC c = 0) (hM : c.m = (M : Int)) : Calls Try.prog 4 #[(.agg #[.int .i64 c.id, .int .i64 c.m, .int .i64 c.u, .int .i64 c.b, .int .i64 c.cp, .int .i64 c.z, .int .i64 c.s, .int .i64 c.mt, .int .i64 c.o, .int .i64 c.a, .int .i64 c.l]), .int .i64 m, .int .i64 n] w (Says w (.bool true)) := by
  have HC := Lib.hid hc
  have HO := Lib.hid (ok_of hc)
  have HM := Lib.hid hM
  have h1 : ¬ 16 < c.m := by have := HO.out.m2; omega
  have h2 : ¬ 64 < c.u := by have := HO.out.u2; omega
  have b1 : 3 ≤ M ∧ M ≤ 16 := by have := HO.out.m1; have := HO.out.m2; omega
  clear hM hc
  go_enter Try.func4, Try.ntmps4
  go_wp2_with fail
  have HV0 := Lib.hid (At.new c w)
  generalize (w.alloc (.cells #[.int .i64 c.id, .int .i64 c.m, .int .i64 c.u, .int .i64 c.b, .int .i64 c.cp, .int .i64 c.z, .int .i64 c.s, .int .i64 c.mt, .int .i64 c.o, .int .i64 c.a, .int .i64 c.l] 23)) = w0 at HV0 ⊢
  obtain ⟨y0, y1, y2, y3, y4, y5, y6, y7, y8, y9, y10⟩ := box11 HV0.out.1
  refine wpB_start (w.heap.size + 1) (by kernel_rfl) ?_
  have HV1 := Lib.hid HV0.out.drew
  generalize w0.drew = w1 at HV1 ⊢
  clear HV0 y0 y1 y2 y3 y4 y5 y6 y7 y8 y9 y10
  have q0 : ∀ w', Below (w.heap.size + 1) w1 w' → w'.cell? ⟨w.heap.size, 0, none⟩ = some (.int .i64 c.id) := fun w' h => (box11 (HV1.out.below h)).1
  have q1 : ∀ w', Below (w.heap.size + 1) w1 w' → w'.cell? ⟨w.heap.size, 1, none⟩ = some (.int .i64 c.m) := fun w' h => (box11 (HV1.out.below h)).2.1
  have q2 : ∀ w', Below (w.heap.size + 1) w1 w' → w'.cell? ⟨w.heap.size, 2, none⟩ = some (.int .i64 c.u) := fun w' h => (box11 (HV1.out.below h)).2.2.1
  have q3 : ∀ w', Below (w.heap.size + 1) w1 w' → w'.cell? ⟨w.heap.size, 3, none⟩ = some (.int .i64 c.b) := fun w' h => (box11 (HV1.out.below h)).2.2.2.1
  have q4 : ∀ w', Below (w.heap.size + 1) w1 w' → w'.cell? ⟨w.heap.size, 4, none⟩ = some (.int .i64 c.cp) := fun w' h => (box11 (HV1.out.below h)).2.2.2.2.1
  have q5 : ∀ w', Below (w.heap.size + 1) w1 w' → w'.cell? ⟨w.heap.size, 5, none⟩ = some (.int .i64 c.z) := fun w' h => (box11 (HV1.out.below h)).2.2.2.2.2.1
  have q6 : ∀ w', Below (w.heap.size + 1) w1 w' → w'.cell? ⟨w.heap.size, 6, none⟩ = some (.int .i64 c.s) := fun w' h => (box11 (HV1.out.below h)).2.2.2.2.2.2.1
  have q7 : ∀ w', Below (w.heap.size + 1) w1 w' → w'.cell? ⟨w.heap.size, 7, none⟩ = some (.int .i64 c.mt) := fun w' h => (box11 (HV1.out.below h)).2.2.2.2.2.2.2.1
  have q8 : ∀ w', Below (w.heap.size + 1) w1 w' → w'.cell? ⟨w.heap.size, 8, none⟩ = some (.int .i64 c.o) := fun w' h => (box11 (HV1.out.below h)).2.2.2.2.2.2.2.2.1
  have q9 : ∀ w', Below (w.heap.size + 1) w1 w' → w'.cell? ⟨w.heap.size, 9, none⟩ = some (.int .i64 c.a) := fun w' h => (box11 (HV1.out.below h)).2.2.2.2.2.2.2.2.2.1
  have q10 : ∀ w', Below (w.heap.size + 1) w1 w' → w'.cell? ⟨w.heap.size, 10, none⟩ = some (.int .i64 c.l) := fun w' h => (box11 (HV1.out.below h)).2.2.2.2.2.2.2.2.2.2
  refine wpB_take (i := 0) (d := 32) (v := ?v3x0) rfl rfl (by kernel_rfl) (by kernel_rfl) (by kernel_rfl) (fun _ _ _ h => h) (by rfl) ?y3x0 ?r3x0
  case y3x0 => (intro w' hSw; go_simp; try (with_reducible rfl))
  simp only [Act.put, List.setIfInBounds_toArray, List.set_cons_zero, List.set_cons_succ]
  refine wpB_take (i := 1) (d := 33) (v := ?v3x1) rfl rfl (by kernel_rfl) (by kernel_rfl) (by kernel_rfl) (fun _ _ _ h => h) (by rfl) ?y3x1 ?r3x1
  case y3x1 => (intro w' hSw; go_simp; try (with_reducible rfl))
  simp only [Act.put, List.setIfInBounds_toArray, List.set_cons_zero, List.set_cons_succ]
  refine wpB_take (i := 2) (d := 34) (v := ?v3x2) rfl rfl (by kernel_rfl) (by kernel_rfl) (by kernel_rfl) (fun _ _ _ h => h) (by rfl) ?y3x2 ?r3x2
  case y3x2 => (intro w' hSw; go_simp; try (with_reducible rfl))
  simp only [Act.put, List.setIfInBounds_toArray, List.set_cons_zero, List.set_cons_succ]
  refine wpB_take (i := 4) (d := 36) (v := ?v3x4) rfl rfl (by kernel_rfl) (by kernel_rfl) (by kernel_rfl) (fun _ _ _ h => h) (by rfl) ?y3x4 ?r3x4
  case y3x4 => (intro w' hSw; go_simp; try (with_reducible rfl))
  simp only [Act.put, List.setIfInBounds_toArray, List.set_cons_zero, List.set_cons_succ]
  refine wpB_take (i := 5) (d := 37) (v := ?v3x5) rfl rfl (by kernel_rfl) (by kernel_rfl) (by kernel_rfl) (fun _ _ _ h => h) (by rfl) ?y3x5 ?r3x5
  case y3x5 => (intro w' hSw; go_simp; try (with_reducible rfl))
  simp only [Act.put, List.setIfInBounds_toArray, List.set_cons_zero, List.set_cons_succ]
  refine wpB_take (i := 6) (d := 38) (v := ?v3x6) rfl rfl (by kernel_rfl) (by kernel_rfl) (by kernel_rfl) (fun _ _ _ h => h) (by rfl) ?y3x6 ?r3x6
  case y3x6 => (intro w' hSw; go_simp; try (with_reducible rfl))
  simp only [Act.put, List.setIfInBounds_toArray, List.set_cons_zero, List.set_cons_succ]
  refine wpB_do (i := 3) (by kernel_rfl) rfl (by rfl) (fun K hK => ?_)
  go_simp
  refine (need_any c m n w1).mono ?_
  rintro e w2 ⟨rfl, hb⟩
  have HV2 := Lib.hid (HV1.out.later hb)
  have hbk := hb.mono HV1.out.2.2
  go_simp
  refine hK.out (w.heap.size + 1) _ _ (Nat.le_refl _) hbk ?_
  clear hK hb hbk HV1 q0 q1 q2 q3 q4 q5 q6 q7 q8 q9 q10
  have q0 : ∀ w', Below (w.heap.size + 1) w2 w' → w'.cell? ⟨w.heap.size, 0, none⟩ = some (.int .i64 c.id) := fun w' h => (box11 (HV2.out.below h)).1
  have q1 : ∀ w', Below (w.heap.size + 1) w2 w' → w'.cell? ⟨w.heap.size, 1, none⟩ = some (.int .i64 c.m) := fun w' h => (box11 (HV2.out.below h)).2.1
  have q2 : ∀ w', Below (w.heap.size + 1) w2 w' → w'.cell? ⟨w.heap.size, 2, none⟩ = some (.int .i64 c.u) := fun w' h => (box11 (HV2.out.below h)).2.2.1
  have q3 : ∀ w', Below (w.heap.size + 1) w2 w' → w'.cell? ⟨w.heap.size, 3, none⟩ = some (.int .i64 c.b) := fun w' h => (box11 (HV2.out.below h)).2.2.2.1
  have q4 : ∀ w', Below (w.heap.size + 1) w2 w' → w'.cell? ⟨w.heap.size, 4, none⟩ = some (.int .i64 c.cp) := fun w' h => (box11 (HV2.out.below h)).2.2.2.2.1
  have q5 : ∀ w', Below (w.heap.size + 1) w2 w' → w'.cell? ⟨w.heap.size, 5, none⟩ = some (.int .i64 c.z) := fun w' h => (box11 (HV2.out.below h)).2.2.2.2.2.1
  have q6 : ∀ w', Below (w.heap.size + 1) w2 w' → w'.cell? ⟨w.heap.size, 6, none⟩ = some (.int .i64 c.s) := fun w' h => (box11 (HV2.out.below h)).2.2.2.2.2.2.1
  have q7 : ∀ w', Below (w.heap.size + 1) w2 w' → w'.cell? ⟨w.heap.size, 7, none⟩ = some (.int .i64 c.mt) := fun w' h => (box11 (HV2.out.below h)).2.2.2.2.2.2.2.1
  have q8 : ∀ w', Below (w.heap.size + 1) w2 w' → w'.cell? ⟨w.heap.size, 8, none⟩ = some (.int .i64 c.o) := fun w' h => (box11 (HV2.out.below h)).2.2.2.2.2.2.2.2.1
  have q9 : ∀ w', Below (w.heap.size + 1) w2 w' → w'.cell? ⟨w.heap.size, 9, none⟩ = some (.int .i64 c.a) := fun w' h => (box11 (HV2.out.below h)).2.2.2.2.2.2.2.2.2.1
  have q10 : ∀ w', Below (w.heap.size + 1) w2 w' → w'.cell? ⟨w.heap.size, 10, none⟩ = some (.int .i64 c.l) := fun w' h => (box11 (HV2.out.below h)).2.2.2.2.2.2.2.2.2.2
  refine wpB_do (i := 7) (by kernel_rfl) rfl (by rfl) (fun K hK => ?_)
  go_simp
  refine (rNeed_any c m n w2).mono ?_
  rintro e w3 ⟨rfl, hb⟩
  have HV3 := Lib.hid (HV2.out.later hb)
  have hbk := hb.mono HV2.out.2.2
  go_simp
  refine hK.out (w.heap.size + 1) _ _ (Nat.le_refl _) hbk ?_
  clear hK hb hbk HV2 q0 q1 q2 q3 q4 q5 q6 q7 q8 q9 q10
  have q0 : ∀ w', Below (w.heap.size + 1) w3 w' → w'.cell? ⟨w.heap.size, 0, none⟩ = some (.int .i64 c.id) := fun w' h => (box11 (HV3.out.below h)).1
  have q1 : ∀ w', Below (w.heap.size + 1) w3 w' → w'.cell? ⟨w.heap.size, 1, none⟩ = some (.int .i64 c.m) := fun w' h => (box11 (HV3.out.below h)).2.1
  have q2 : ∀ w', Below (w.heap.size + 1) w3 w' → w'.cell? ⟨w.heap.size, 2, none⟩ = some (.int .i64 c.u) := fun w' h => (box11 (HV3.out.below h)).2.2.1
  have q3 : ∀ w', Below (w.heap.size + 1) w3 w' → w'.cell? ⟨w.heap.size, 3, none⟩ = some (.int .i64 c.b) := fun w' h => (box11 (HV3.out.below h)).2.2.2.1
  have q4 : ∀ w', Below (w.heap.size + 1) w3 w' → w'.cell? ⟨w.heap.size, 4, none⟩ = some (.int .i64 c.cp) := fun w' h => (box11 (HV3.out.below h)).2.2.2.2.1
  have q5 : ∀ w', Below (w.heap.size + 1) w3 w' → w'.cell? ⟨w.heap.size, 5, none⟩ = some (.int .i64 c.z) := fun w' h => (box11 (HV3.out.below h)).2.2.2.2.2.1
  have q6 : ∀ w', Below (w.heap.size + 1) w3 w' → w'.cell? ⟨w.heap.size, 6, none⟩ = some (.int .i64 c.s) := fun w' h => (box11 (HV3.out.below h)).2.2.2.2.2.2.1
  have q7 : ∀ w', Below (w.heap.size + 1) w3 w' → w'.cell? ⟨w.heap.size, 7, none⟩ = some (.int .i64 c.mt) := fun w' h => (box11 (HV3.out.below h)).2.2.2.2.2.2.2.1
  have q8 : ∀ w', Below (w.heap.size + 1) w3 w' → w'.cell? ⟨w.heap.size, 8, none⟩ = some (.int .i64 c.o) := fun w' h => (box11 (HV3.out.below h)).2.2.2.2.2.2.2.2.1
  have q9 : ∀ w', Below (w.heap.size + 1) w3 w' → w'.cell? ⟨w.heap.size, 9, none⟩ = some (.int .i64 c.a) := fun w' h => (box11 (HV3.out.below h)).2.2.2.2.2.2.2.2.2.1
  have q10 : ∀ w', Below (w.heap.size + 1) w3 w' → w'.cell? ⟨w.heap.size, 10, none⟩ = some (.int .i64 c.l) := fun w' h => (box11 (HV3.out.below h)).2.2.2.2.2.2.2.2.2.2
  refine wpB_take (i := 8) (d := 40) (v := ?v3x8) rfl rfl (by kernel_rfl) (by kernel_rfl) (by kernel_rfl) (fun _ _ _ h => h) (by rfl) ?y3x8 ?r3x8
  case y3x8 => (intro w' hSw; go_simp; try (with_reducible rfl))
  simp only [Act.put, List.setIfInBounds_toArray, List.set_cons_zero, List.set_cons_succ]
  refine wpB_done (by kernel_rfl) ?_
  clear q0 q1 q2 q3 q4 q5 q6 q7 q8 q9 q10
  obtain ⟨y0, y1, y2, y3, y4, y5, y6, y7, y8, y9, y10⟩ := box11 HV3.out.1
  go_wp2_with fail
  refine (needs_yes c n M w3 HC.out HM.out).mono ?_
  rintro e w4 ⟨g, rfl, hg, hb⟩
  have HV4 : Hid (At c w w4 ∧ Box w4 g 3 (rowN (fun m => nedC c m (wriC c n)) M M).toArray) := ⟨HV3.out.later hb, hg⟩
  clear hb hg HV3 y0 y1 y2 y3 y4 y5 y6 y7 y8 y9 y10
  obtain ⟨y0, y1, y2, y3, y4, y5, y6, y7, y8, y9, y10⟩ := box11 HV4.out.1.1
  go_wp2_with fail
  refine (refCheck_any c w4).mono ?_
  rintro e w5 ⟨rfl, hb⟩
  rw [HC.out]
  have HV5 : Hid (At c w w5 ∧ Box w5 g 3 (rowN (fun m => nedC c m (wriC c n)) M M).toArray) := ⟨HV4.out.1.later hb, HV4.out.2.later hb⟩
  clear hb HV4 y0 y1 y2 y3 y4 y5 y6 y7 y8 y9 y10
  go_wp2
  go_loopw [8] (fun i wr => ∃ k : Nat, k ≤ M ∧ i = .int .i64 k ∧ At c w wr ∧ Box wr g 3 (rowN (fun m => nedC c m (wriC c n)) M M).toArray) (fun i _ => M - (intOf i).toNat)
  case atStart => exact ⟨0, by omega, rfl, HV5.out⟩
  case round =>
    clear HV5
    obtain ⟨k, hk, rfl, hat⟩ := hrel
    have HV6 := Lib.hid hat
    clear hat
    by_cases hlt : k < M
    · obtain ⟨y0, y1, y2, y3, y4, y5, y6, y7, y8, y9, y10⟩ := box11 HV6.out.1.1
      go_wp2_with fail
      clear y0 y1 y2 y3 y4 y5 y6 y7 y8 y9 y10
      refine wpB_start wr.drew.heap.size (by kernel_rfl) ?_
      have HV7 : Hid (At c w wr.drew ∧ Box wr.drew g 3 (rowN (fun m => nedC c m (wriC c n)) M M).toArray) := ⟨HV6.out.1.drew, HV6.out.2.later (Below.refl _ _).drew⟩
      generalize wr.drew = w7 at HV7 ⊢
      have HB : Hid (w.heap.size < w7.heap.size ∧ g < w7.heap.size) := ⟨HV7.out.1.2.2, HV7.out.2.lt⟩
      have hB : w7.heap.size ≤ w7.heap.size := Nat.le_refl _
      have HBl : Hid (∀ B, B = w7.heap.size → B ≤ w7.heap.size) := fun B h => Nat.le_of_eq h
      generalize hBe : w7.heap.size = B at HB ⊢
      have HE := Lib.hid hBe
      clear hB HBl hBe HV6
      have q0 : ∀ w', Below B w7 w' → w'.cell? ⟨w.heap.size, 0, none⟩ = some (.int .i64 c.id) := fun w' h => (box11 (HV7.out.1.1.under h HB.out.1)).1
      have q1 : ∀ w', Below B w7 w' → w'.cell? ⟨w.heap.size, 1, none⟩ = some (.int .i64 c.m) := fun w' h => (box11 (HV7.out.1.1.under h HB.out.1)).2.1
      have q2 : ∀ w', Below B w7 w' → w'.cell? ⟨w.heap.size, 2, none⟩ = some (.int .i64 c.u) := fun w' h => (box11 (HV7.out.1.1.under h HB.out.1)).2.2.1
      have q3 : ∀ w', Below B w7 w' → w'.cell? ⟨w.heap.size, 3, none⟩ = some (.int .i64 c.b) := fun w' h => (box11 (HV7.out.1.1.under h HB.out.1)).2.2.2.1
      have q4 : ∀ w', Below B w7 w' → w'.cell? ⟨w.heap.size, 4, none⟩ = some (.int .i64 c.cp) := fun w' h => (box11 (HV7.out.1.1.under h HB.out.1)).2.2.2.2.1
      have q5 : ∀ w', Below B w7 w' → w'.cell? ⟨w.heap.size, 5, none⟩ = some (.int .i64 c.z) := fun w' h => (box11 (HV7.out.1.1.under h HB.out.1)).2.2.2.2.2.1
      have q6 : ∀ w', Below B w7 w' → w'.cell? ⟨w.heap.size, 6, none⟩ = some (.int .i64 c.s) := fun w' h => (box11 (HV7.out.1.1.under h HB.out.1)).2.2.2.2.2.2.1
      have q7 : ∀ w', Below B w7 w' → w'.cell? ⟨w.heap.size, 7, none⟩ = some (.int .i64 c.mt) := fun w' h => (box11 (HV7.out.1.1.under h HB.out.1)).2.2.2.2.2.2.2.1
      have q8 : ∀ w', Below B w7 w' → w'.cell? ⟨w.heap.size, 8, none⟩ = some (.int .i64 c.o) := fun w' h => (box11 (HV7.out.1.1.under h HB.out.1)).2.2.2.2.2.2.2.2.1
      have q9 : ∀ w', Below B w7 w' → w'.cell? ⟨w.heap.size, 9, none⟩ = some (.int .i64 c.a) := fun w' h => (box11 (HV7.out.1.1.under h HB.out.1)).2.2.2.2.2.2.2.2.2.1
      have q10 : ∀ w', Below B w7 w' → w'.cell? ⟨w.heap.size, 10, none⟩ = some (.int .i64 c.l) := fun w' h => (box11 (HV7.out.1.1.under h HB.out.1)).2.2.2.2.2.2.2.2.2.2
      have p0 : ∀ w', Below B w7 w' → w'.cell? ⟨g, k, none⟩ = some (.int .i64 (needA c k n)) := fun w' h => by rw [(HV7.out.2.under h HB.out.2).cell, List.getElem?_toArray, rowN_at hlt, if_pos hlt, needs_at HC.out HM.out hlt]
      refine wpB_take (i := 0) (d := 59) (v := ?v11x0) rfl rfl (by kernel_rfl) (by kernel_rfl) (by kernel_rfl) (fun _ _ _ h => h) (by rfl) ?y11x0 ?r11x0
      case y11x0 => (intro w' hSw; go_simp; try (with_reducible rfl))
      simp only [Act.put, List.setIfInBounds_toArray, List.set_cons_zero, List.set_cons_succ]
      refine wpB_take (i := 1) (d := 60) (v := ?v11x1) rfl rfl (by kernel_rfl) (by kernel_rfl) (by kernel_rfl) (fun _ _ _ h => h) (by rfl) ?y11x1 ?r11x1
      case y11x1 => (intro w' hSw; go_simp; try (with_reducible rfl))
      simp only [Act.put, List.setIfInBounds_toArray, List.set_cons_zero, List.set_cons_succ]
      refine wpB_take (i := 2) (d := 61) (v := ?v11x2) rfl rfl (by kernel_rfl) (by kernel_rfl) (by kernel_rfl) (fun _ _ _ h => h) (by rfl) ?y11x2 ?r11x2
      case y11x2 => (intro w' hSw; go_simp; try (with_reducible rfl))
      simp only [Act.put, List.setIfInBounds_toArray, List.set_cons_zero, List.set_cons_succ]
      refine wpB_take (i := 3) (d := 62) (v := ?v11x3) rfl rfl (by kernel_rfl) (by kernel_rfl) (by kernel_rfl) (fun _ _ _ h => h) (by rfl) ?y11x3 ?r11x3
      case y11x3 => (intro w' hSw; go_simp; try (with_reducible rfl))
      simp only [Act.put, List.setIfInBounds_toArray, List.set_cons_zero, List.set_cons_succ]
      refine wpB_take (i := 4) (d := 63) (v := ?v11x4) rfl rfl (by kernel_rfl) (by kernel_rfl) (by kernel_rfl) (fun _ _ _ h => h) (by rfl) ?y11x4 ?r11x4
      case y11x4 => (intro w' hSw; go_simp; try (with_reducible rfl))
      simp only [Act.put, List.setIfInBounds_toArray, List.set_cons_zero, List.set_cons_succ]
      refine wpB_take (i := 5) (d := 64) (v := ?v11x5) rfl rfl (by kernel_rfl) (by kernel_rfl) (by kernel_rfl) (fun _ _ _ h => h) (by rfl) ?y11x5 ?r11x5
      case y11x5 => (intro w' hSw; go_simp; try (with_reducible rfl))
      simp only [Act.put, List.setIfInBounds_toArray, List.set_cons_zero, List.set_cons_succ]
      refine wpB_take (i := 6) (d := 65) (v := ?v11x6) rfl rfl (by kernel_rfl) (by kernel_rfl) (by kernel_rfl) (fun _ _ _ h => h) (by rfl) ?y11x6 ?r11x6
      case y11x6 => (intro w' hSw; go_simp; try (with_reducible rfl))
      simp only [Act.put, List.setIfInBounds_toArray, List.set_cons_zero, List.set_cons_succ]
      refine wpB_do (i := 7) (by kernel_rfl) rfl (by rfl) (fun K hK => ?_)
      go_simp
      refine (rNeed_any c k n w7).mono ?_
      rintro e w8 ⟨rfl, hb⟩
      have HV8 : Hid (At c w w8 ∧ Box w8 g 3 (rowN (fun m => nedC c m (wriC c n)) M M).toArray) := ⟨HV7.out.1.later hb, HV7.out.2.later hb⟩
      rw [HE.out] at hb
      go_simp
      refine hK.out B _ _ (Nat.le_refl _) hb ?_
      clear hK hb HV7 p0 HE HB q0 q1 q2 q3 q4 q5 q6 q7 q8 q9 q10
      refine wpB_take (i := 8) (d := 67) (v := ?v11x8) rfl rfl (by kernel_rfl) (by kernel_rfl) (by kernel_rfl) (fun _ _ _ h => h) (by rfl) ?y11x8 ?r11x8
      case y11x8 => (intro w' hSw; go_simp; try (with_reducible rfl))
      simp only [Act.put, List.setIfInBounds_toArray, List.set_cons_zero, List.set_cons_succ]
      refine wpB_done (by kernel_rfl) ?_
      go_wp2
      go_roundw
      case rel => exact ⟨k + 1, by omega, by go_num, HV8.out⟩
      case measure => simp [intOf]; omega
    · obtain rfl : k = M := by omega
      obtain ⟨y0, y1, y2, y3, y4, y5, y6, y7, y8, y9, y10⟩ := box11 HV6.out.1.1
      rw [HM.out] at y1
      go_wp2_with fail
      refine (live_any wr).mono ?_
      rintro e w7 ⟨rfl, hb⟩
      have HV7 := Lib.hid (HV6.out.1.later hb)
      clear hb HV6 y0 y1 y2 y3 y4 y5 y6 y7 y8 y9 y10
      go_wp2
      go_ret
      exact ⟨rfl, HV7.out.2.1⟩
theorem geomNeeds_walk (c : Cf) (m n : Int) (w : World) : Calls Try.prog 4 #[(.agg #[.int .i64 c.id, .int .i64 c.m, .int .i64 c.u, .int .i64 c.b, .int .i64 c.cp, .int .i64 c.z, .int .i64 c.s, .int .i64 c.mt, .int .i64 c.o, .int .i64 c.a, .int .i64 c.l]), .int .i64 m, .int .i64 n] w (Says w (.bool true)) := by
  by_cases hc : checkC c = 0
  · have ho := (ok_of hc).m1
    exact needs_good c m n c.m.toNat w hc (by omega)
  · by_cases h1 : 16 < c.m
    · exact needs_big1 c m n w hc h1
    · by_cases h2 : 64 < c.u
      · exact needs_big2 c m n w hc h1 h2
      · exact needs_bad c m n w hc h1 h2
end Go.Proofs.Ytlefjllpeapomaa
