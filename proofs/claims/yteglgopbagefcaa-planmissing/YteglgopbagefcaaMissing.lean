/- The walk of PlanMissing. -/
import Derived.Test.YteglgopbagefcaaRd
import Derived.Test.YteglgopbagefcaaPh
namespace Go.Proofs.Yteglgopbagefcaa
set_option linter.unusedVariables false
set_option linter.unusedSimpArgs false
open Go.RowKit Go.Shelf
open Go.RowKit (wrap64)

set_option maxRecDepth 100000 in
set_option maxHeartbeats 4000000 in
theorem pmiss_big (c : Cf) (fr : Nat → Int) (A : Option Addr) (cap len : Nat) (n : Int) (w : World) (hn : n ≤ 9223372036854775807) (hm : len ≤ 9223372036854775807) (hi : Ints w w.heap.size A fr len) (hc : checkC c = 0) (hs : smallC c = false) : Calls Try.prog 5 #[(.agg #[.int .i64 c.id, .int .i64 c.m, .int .i64 c.u, .int .i64 c.b, .int .i64 c.cp, .int .i64 c.z, .int .i64 c.s, .int .i64 c.mt, .int .i64 c.o, .int .i64 c.a, .int .i64 c.l]), .slice A len cap, .int .i64 n] w (Says w (.bool true)) := by
  have HI := Lib.hid hi
  clear hi
  go_enter Try.func5, Try.ntmps5
  go_wp2_with fail
  have HV0 := Lib.hid (At.new c w)
  generalize (w.alloc (.cells #[.int .i64 c.id, .int .i64 c.m, .int .i64 c.u, .int .i64 c.b, .int .i64 c.cp, .int .i64 c.z, .int .i64 c.s, .int .i64 c.mt, .int .i64 c.o, .int .i64 c.a, .int .i64 c.l] 23)) = w0 at HV0 ⊢
  obtain ⟨y0, y1, y2, y3, y4, y5, y6, y7, y8, y9, y10⟩ := box11 HV0.out.1
  refine (refCheck_any c w0).mono ?_
  rintro e w1 ⟨rfl, hb⟩
  rw [hc]
  clear hc
  have HV1 := Lib.hid (HV0.out.later hb)
  clear hb HV0 y0 y1 y2 y3 y4 y5 y6 y7 y8 y9 y10
  obtain ⟨y0, y1, y2, y3, y4, y5, y6, y7, y8, y9, y10⟩ := box11 HV1.out.1
  go_wp2_with fail
  refine (small_any c w1).mono ?_
  rintro e w2 ⟨rfl, hb⟩
  rw [hs]
  have HV2 := Lib.hid (HV1.out.later hb)
  clear hb HV1 y0 y1 y2 y3 y4 y5 y6 y7 y8 y9 y10
  obtain ⟨y0, y1, y2, y3, y4, y5, y6, y7, y8, y9, y10⟩ := box11 HV2.out.1
  go_wp2_with fail
  refine (live_any w2).mono ?_
  rintro e w3 ⟨rfl, hb⟩
  have HV3 := Lib.hid (HV2.out.later hb)
  clear hb HV2 y0 y1 y2 y3 y4 y5 y6 y7 y8 y9 y10
  obtain ⟨y0, y1, y2, y3, y4, y5, y6, y7, y8, y9, y10⟩ := box11 HV3.out.1
  go_wp2
  go_ret
  exact ⟨rfl, HV3.out.2.1⟩
set_option maxRecDepth 100000 in
set_option maxHeartbeats 4000000 in
theorem pmiss_long (c : Cf) (fr : Nat → Int) (A : Option Addr) (cap len : Nat) (n : Int) (w : World) (hn : n ≤ 9223372036854775807) (hm : len ≤ 9223372036854775807) (hi : Ints w w.heap.size A fr len) (hc : checkC c = 0) (hs : smallC c = true) (hL : 20 < len) : Calls Try.prog 5 #[(.agg #[.int .i64 c.id, .int .i64 c.m, .int .i64 c.u, .int .i64 c.b, .int .i64 c.cp, .int .i64 c.z, .int .i64 c.s, .int .i64 c.mt, .int .i64 c.o, .int .i64 c.a, .int .i64 c.l]), .slice A len cap, .int .i64 n] w (Says w (.bool true)) := by
  have HI := Lib.hid hi
  clear hi
  have g1 : (20 : Int) < len := by omega
  go_enter Try.func5, Try.ntmps5
  go_wp2_with fail
  have HV0 := Lib.hid (At.new c w)
  generalize (w.alloc (.cells #[.int .i64 c.id, .int .i64 c.m, .int .i64 c.u, .int .i64 c.b, .int .i64 c.cp, .int .i64 c.z, .int .i64 c.s, .int .i64 c.mt, .int .i64 c.o, .int .i64 c.a, .int .i64 c.l] 23)) = w0 at HV0 ⊢
  obtain ⟨y0, y1, y2, y3, y4, y5, y6, y7, y8, y9, y10⟩ := box11 HV0.out.1
  refine (refCheck_any c w0).mono ?_
  rintro e w1 ⟨rfl, hb⟩
  rw [hc]
  clear hc
  have HV1 := Lib.hid (HV0.out.later hb)
  clear hb HV0 y0 y1 y2 y3 y4 y5 y6 y7 y8 y9 y10
  obtain ⟨y0, y1, y2, y3, y4, y5, y6, y7, y8, y9, y10⟩ := box11 HV1.out.1
  go_wp2_with fail
  refine (small_any c w1).mono ?_
  rintro e w2 ⟨rfl, hb⟩
  rw [hs]
  have HV2 := Lib.hid (HV1.out.later hb)
  clear hb HV1 y0 y1 y2 y3 y4 y5 y6 y7 y8 y9 y10
  obtain ⟨y0, y1, y2, y3, y4, y5, y6, y7, y8, y9, y10⟩ := box11 HV2.out.1
  go_wp2_with fail
  refine (live_any w2).mono ?_
  rintro e w3 ⟨rfl, hb⟩
  have HV3 := Lib.hid (HV2.out.later hb)
  clear hb HV2 y0 y1 y2 y3 y4 y5 y6 y7 y8 y9 y10
  obtain ⟨y0, y1, y2, y3, y4, y5, y6, y7, y8, y9, y10⟩ := box11 HV3.out.1
  go_wp2
  go_ret
  exact ⟨rfl, HV3.out.2.1⟩
set_option maxRecDepth 100000 in
set_option maxHeartbeats 4000000 in
theorem pmiss_go (c : Cf) (fr : Nat → Int) (A : Option Addr) (cap len : Nat) (n : Int) (w : World) (hn : n ≤ 9223372036854775807) (hm : len ≤ 9223372036854775807) (hi : Ints w w.heap.size A fr len) (hc : checkC c = 0) (hs : smallC c = true) (hL : ¬ 20 < len) : Calls Try.prog 5 #[(.agg #[.int .i64 c.id, .int .i64 c.m, .int .i64 c.u, .int .i64 c.b, .int .i64 c.cp, .int .i64 c.z, .int .i64 c.s, .int .i64 c.mt, .int .i64 c.o, .int .i64 c.a, .int .i64 c.l]), .slice A len cap, .int .i64 n] w (Says w (.bool true)) := by
  have HI := Lib.hid hi
  clear hi
  have g1 : ¬ (20 : Int) < len := by omega
  go_enter Try.func5, Try.ntmps5
  go_wp2_with fail
  have HV0 := Lib.hid (At.new c w)
  generalize (w.alloc (.cells #[.int .i64 c.id, .int .i64 c.m, .int .i64 c.u, .int .i64 c.b, .int .i64 c.cp, .int .i64 c.z, .int .i64 c.s, .int .i64 c.mt, .int .i64 c.o, .int .i64 c.a, .int .i64 c.l] 23)) = w0 at HV0 ⊢
  obtain ⟨y0, y1, y2, y3, y4, y5, y6, y7, y8, y9, y10⟩ := box11 HV0.out.1
  refine (refCheck_any c w0).mono ?_
  rintro e w1 ⟨rfl, hb⟩
  rw [hc]
  clear hc
  have HV1 := Lib.hid (HV0.out.later hb)
  clear hb HV0 y0 y1 y2 y3 y4 y5 y6 y7 y8 y9 y10
  obtain ⟨y0, y1, y2, y3, y4, y5, y6, y7, y8, y9, y10⟩ := box11 HV1.out.1
  go_wp2_with fail
  refine (small_any c w1).mono ?_
  rintro e w2 ⟨rfl, hb⟩
  rw [hs]
  have HV2 := Lib.hid (HV1.out.later hb)
  clear hb HV1 y0 y1 y2 y3 y4 y5 y6 y7 y8 y9 y10
  obtain ⟨y0, y1, y2, y3, y4, y5, y6, y7, y8, y9, y10⟩ := box11 HV2.out.1
  go_upto_region 3 with fail
  refine wpB_start (w.heap.size + 1) (by kernel_rfl) ?_
  have HV3 := Lib.hid HV2.out.drew
  generalize w2.drew = w3 at HV3 ⊢
  clear HV2 y0 y1 y2 y3 y4 y5 y6 y7 y8 y9 y10
  have q0 : ∀ w', Below (w.heap.size + 1) w3 w' → w'.cell? ⟨w.heap.size, 0, none⟩ = some (.int .i64 c.id) := fun w' h => (box11 (HV3.out.below h)).1
  have q1 : ∀ w', Below (w.heap.size + 1) w3 w' → w'.cell? ⟨w.heap.size, 1, none⟩ = some (.int .i64 c.m) := fun w' h => (box11 (HV3.out.below h)).2.1
  have q2 : ∀ w', Below (w.heap.size + 1) w3 w' → w'.cell? ⟨w.heap.size, 2, none⟩ = some (.int .i64 c.u) := fun w' h => (box11 (HV3.out.below h)).2.2.1
  have q3 : ∀ w', Below (w.heap.size + 1) w3 w' → w'.cell? ⟨w.heap.size, 3, none⟩ = some (.int .i64 c.b) := fun w' h => (box11 (HV3.out.below h)).2.2.2.1
  have q4 : ∀ w', Below (w.heap.size + 1) w3 w' → w'.cell? ⟨w.heap.size, 4, none⟩ = some (.int .i64 c.cp) := fun w' h => (box11 (HV3.out.below h)).2.2.2.2.1
  have q5 : ∀ w', Below (w.heap.size + 1) w3 w' → w'.cell? ⟨w.heap.size, 5, none⟩ = some (.int .i64 c.z) := fun w' h => (box11 (HV3.out.below h)).2.2.2.2.2.1
  have q6 : ∀ w', Below (w.heap.size + 1) w3 w' → w'.cell? ⟨w.heap.size, 6, none⟩ = some (.int .i64 c.s) := fun w' h => (box11 (HV3.out.below h)).2.2.2.2.2.2.1
  have q7 : ∀ w', Below (w.heap.size + 1) w3 w' → w'.cell? ⟨w.heap.size, 7, none⟩ = some (.int .i64 c.mt) := fun w' h => (box11 (HV3.out.below h)).2.2.2.2.2.2.2.1
  have q8 : ∀ w', Below (w.heap.size + 1) w3 w' → w'.cell? ⟨w.heap.size, 8, none⟩ = some (.int .i64 c.o) := fun w' h => (box11 (HV3.out.below h)).2.2.2.2.2.2.2.2.1
  have q9 : ∀ w', Below (w.heap.size + 1) w3 w' → w'.cell? ⟨w.heap.size, 9, none⟩ = some (.int .i64 c.a) := fun w' h => (box11 (HV3.out.below h)).2.2.2.2.2.2.2.2.2.1
  have q10 : ∀ w', Below (w.heap.size + 1) w3 w' → w'.cell? ⟨w.heap.size, 10, none⟩ = some (.int .i64 c.l) := fun w' h => (box11 (HV3.out.below h)).2.2.2.2.2.2.2.2.2.2
  refine wpB_take (i := 0) (d := 21) (v := ?v3x0) rfl rfl (by kernel_rfl) (by kernel_rfl) (by kernel_rfl) (fun _ _ _ h => h) (by rfl) ?y3x0 ?r3x0
  case y3x0 => (intro w' hSw; go_simp; try (with_reducible rfl))
  simp only [Act.put, List.setIfInBounds_toArray, List.set_cons_zero, List.set_cons_succ]
  refine wpB_take (i := 1) (d := 22) (v := ?v3x1) rfl rfl (by kernel_rfl) (by kernel_rfl) (by kernel_rfl) (fun _ _ _ h => h) (by rfl) ?y3x1 ?r3x1
  case y3x1 => (intro w' hSw; go_simp; try (with_reducible rfl))
  simp only [Act.put, List.setIfInBounds_toArray, List.set_cons_zero, List.set_cons_succ]
  refine wpB_take (i := 2) (d := 23) (v := ?v3x2) rfl rfl (by kernel_rfl) (by kernel_rfl) (by kernel_rfl) (fun _ _ _ h => h) (by rfl) ?y3x2 ?r3x2
  case y3x2 => (intro w' hSw; go_simp; try (with_reducible rfl))
  simp only [Act.put, List.setIfInBounds_toArray, List.set_cons_zero, List.set_cons_succ]
  refine wpB_take (i := 4) (d := 25) (v := ?v3x4) rfl rfl (by kernel_rfl) (by kernel_rfl) (by kernel_rfl) (fun _ _ _ h => h) (by rfl) ?y3x4 ?r3x4
  case y3x4 => (intro w' hSw; go_simp; try (with_reducible rfl))
  simp only [Act.put, List.setIfInBounds_toArray, List.set_cons_zero, List.set_cons_succ]
  refine wpB_take (i := 5) (d := 26) (v := ?v3x5) rfl rfl (by kernel_rfl) (by kernel_rfl) (by kernel_rfl) (fun _ _ _ h => h) (by rfl) ?y3x5 ?r3x5
  case y3x5 => (intro w' hSw; go_simp; try (with_reducible rfl))
  simp only [Act.put, List.setIfInBounds_toArray, List.set_cons_zero, List.set_cons_succ]
  refine wpB_take (i := 6) (d := 27) (v := ?v3x6) rfl rfl (by kernel_rfl) (by kernel_rfl) (by kernel_rfl) (fun _ _ _ h => h) (by rfl) ?y3x6 ?r3x6
  case y3x6 => (intro w' hSw; go_simp; try (with_reducible rfl))
  simp only [Act.put, List.setIfInBounds_toArray, List.set_cons_zero, List.set_cons_succ]
  refine wpB_do (i := 3) (by kernel_rfl) rfl (by rfl) (fun K hK => ?_)
  go_simp
  refine (missing_any c fr A cap len n w3 hn (HI.out.later HV3.out.2.1)).mono ?_
  rintro e w4 ⟨v1, rfl, hrw, hb⟩
  have HV4 := Lib.hid (HV3.out.later hb)
  have HR1 := Lib.hid hrw
  have hbk := hb.mono HV3.out.2.2
  go_simp
  refine hK.out (w.heap.size + 1) _ _ (Nat.le_refl _) hbk ?_
  clear hK hb hbk hrw HV3 q0 q1 q2 q3 q4 q5 q6 q7 q8 q9 q10
  have q0 : ∀ w', Below (w.heap.size + 1) w4 w' → w'.cell? ⟨w.heap.size, 0, none⟩ = some (.int .i64 c.id) := fun w' h => (box11 (HV4.out.below h)).1
  have q1 : ∀ w', Below (w.heap.size + 1) w4 w' → w'.cell? ⟨w.heap.size, 1, none⟩ = some (.int .i64 c.m) := fun w' h => (box11 (HV4.out.below h)).2.1
  have q2 : ∀ w', Below (w.heap.size + 1) w4 w' → w'.cell? ⟨w.heap.size, 2, none⟩ = some (.int .i64 c.u) := fun w' h => (box11 (HV4.out.below h)).2.2.1
  have q3 : ∀ w', Below (w.heap.size + 1) w4 w' → w'.cell? ⟨w.heap.size, 3, none⟩ = some (.int .i64 c.b) := fun w' h => (box11 (HV4.out.below h)).2.2.2.1
  have q4 : ∀ w', Below (w.heap.size + 1) w4 w' → w'.cell? ⟨w.heap.size, 4, none⟩ = some (.int .i64 c.cp) := fun w' h => (box11 (HV4.out.below h)).2.2.2.2.1
  have q5 : ∀ w', Below (w.heap.size + 1) w4 w' → w'.cell? ⟨w.heap.size, 5, none⟩ = some (.int .i64 c.z) := fun w' h => (box11 (HV4.out.below h)).2.2.2.2.2.1
  have q6 : ∀ w', Below (w.heap.size + 1) w4 w' → w'.cell? ⟨w.heap.size, 6, none⟩ = some (.int .i64 c.s) := fun w' h => (box11 (HV4.out.below h)).2.2.2.2.2.2.1
  have q7 : ∀ w', Below (w.heap.size + 1) w4 w' → w'.cell? ⟨w.heap.size, 7, none⟩ = some (.int .i64 c.mt) := fun w' h => (box11 (HV4.out.below h)).2.2.2.2.2.2.2.1
  have q8 : ∀ w', Below (w.heap.size + 1) w4 w' → w'.cell? ⟨w.heap.size, 8, none⟩ = some (.int .i64 c.o) := fun w' h => (box11 (HV4.out.below h)).2.2.2.2.2.2.2.2.1
  have q9 : ∀ w', Below (w.heap.size + 1) w4 w' → w'.cell? ⟨w.heap.size, 9, none⟩ = some (.int .i64 c.a) := fun w' h => (box11 (HV4.out.below h)).2.2.2.2.2.2.2.2.2.1
  have q10 : ∀ w', Below (w.heap.size + 1) w4 w' → w'.cell? ⟨w.heap.size, 10, none⟩ = some (.int .i64 c.l) := fun w' h => (box11 (HV4.out.below h)).2.2.2.2.2.2.2.2.2.2
  refine wpB_do (i := 7) (by kernel_rfl) rfl (by rfl) (fun K hK => ?_)
  go_simp
  refine (rMissing_any c fr A cap len n w4 hn (HI.out.later HV4.out.2.1)).mono ?_
  rintro e w5 ⟨v2, rfl, hrw, hb⟩
  have HV5 := Lib.hid (HV4.out.later hb)
  have HR2 := Lib.hid hrw
  have HR1b := Lib.hid (HR1.out.later hb)
  have hbk := hb.mono HV4.out.2.2
  go_simp
  refine hK.out (w.heap.size + 1) _ _ (Nat.le_refl _) hbk ?_
  clear hK hb hbk hrw HV4 q0 q1 q2 q3 q4 q5 q6 q7 q8 q9 q10
  clear HR1
  obtain ⟨D1, c1, rfl, hc1, hs1⟩ := HR1b.out.seen St.len
  obtain ⟨D2, c2, rfl, hc2, hs2⟩ := HR2.out.seen St.len
  have HS1 := Lib.hid hs1
  have HS2 := Lib.hid hs2
  have HL := Lib.hid (missA_len c fr len n)
  clear HR1b HR2 hs1 hs2 hc1 hc2
  have q0 : ∀ w', Below (w.heap.size + 1) w5 w' → w'.cell? ⟨w.heap.size, 0, none⟩ = some (.int .i64 c.id) := fun w' h => (box11 (HV5.out.below h)).1
  have q1 : ∀ w', Below (w.heap.size + 1) w5 w' → w'.cell? ⟨w.heap.size, 1, none⟩ = some (.int .i64 c.m) := fun w' h => (box11 (HV5.out.below h)).2.1
  have q2 : ∀ w', Below (w.heap.size + 1) w5 w' → w'.cell? ⟨w.heap.size, 2, none⟩ = some (.int .i64 c.u) := fun w' h => (box11 (HV5.out.below h)).2.2.1
  have q3 : ∀ w', Below (w.heap.size + 1) w5 w' → w'.cell? ⟨w.heap.size, 3, none⟩ = some (.int .i64 c.b) := fun w' h => (box11 (HV5.out.below h)).2.2.2.1
  have q4 : ∀ w', Below (w.heap.size + 1) w5 w' → w'.cell? ⟨w.heap.size, 4, none⟩ = some (.int .i64 c.cp) := fun w' h => (box11 (HV5.out.below h)).2.2.2.2.1
  have q5 : ∀ w', Below (w.heap.size + 1) w5 w' → w'.cell? ⟨w.heap.size, 5, none⟩ = some (.int .i64 c.z) := fun w' h => (box11 (HV5.out.below h)).2.2.2.2.2.1
  have q6 : ∀ w', Below (w.heap.size + 1) w5 w' → w'.cell? ⟨w.heap.size, 6, none⟩ = some (.int .i64 c.s) := fun w' h => (box11 (HV5.out.below h)).2.2.2.2.2.2.1
  have q7 : ∀ w', Below (w.heap.size + 1) w5 w' → w'.cell? ⟨w.heap.size, 7, none⟩ = some (.int .i64 c.mt) := fun w' h => (box11 (HV5.out.below h)).2.2.2.2.2.2.2.1
  have q8 : ∀ w', Below (w.heap.size + 1) w5 w' → w'.cell? ⟨w.heap.size, 8, none⟩ = some (.int .i64 c.o) := fun w' h => (box11 (HV5.out.below h)).2.2.2.2.2.2.2.2.1
  have q9 : ∀ w', Below (w.heap.size + 1) w5 w' → w'.cell? ⟨w.heap.size, 9, none⟩ = some (.int .i64 c.a) := fun w' h => (box11 (HV5.out.below h)).2.2.2.2.2.2.2.2.2.1
  have q10 : ∀ w', Below (w.heap.size + 1) w5 w' → w'.cell? ⟨w.heap.size, 10, none⟩ = some (.int .i64 c.l) := fun w' h => (box11 (HV5.out.below h)).2.2.2.2.2.2.2.2.2.2
  refine wpB_do (i := 8) (by kernel_rfl) rfl (by rfl) (fun K hK => ?_)
  go_simp
  refine (same_eq D1 D2 c1 c2 (missA c fr len n) w5 HS1.out HS2.out (Nat.le_trans HL.out (by omega))).mono ?_
  rintro e w6 ⟨rfl, hb⟩
  have HV6 := Lib.hid (HV5.out.later hb)
  have hbk := hb.mono HV5.out.2.2
  go_simp
  refine hK.out (w.heap.size + 1) _ _ (Nat.le_refl _) hbk ?_
  clear hK hb hbk HV5 q0 q1 q2 q3 q4 q5 q6 q7 q8 q9 q10
  have q0 : ∀ w', Below (w.heap.size + 1) w6 w' → w'.cell? ⟨w.heap.size, 0, none⟩ = some (.int .i64 c.id) := fun w' h => (box11 (HV6.out.below h)).1
  have q1 : ∀ w', Below (w.heap.size + 1) w6 w' → w'.cell? ⟨w.heap.size, 1, none⟩ = some (.int .i64 c.m) := fun w' h => (box11 (HV6.out.below h)).2.1
  have q2 : ∀ w', Below (w.heap.size + 1) w6 w' → w'.cell? ⟨w.heap.size, 2, none⟩ = some (.int .i64 c.u) := fun w' h => (box11 (HV6.out.below h)).2.2.1
  have q3 : ∀ w', Below (w.heap.size + 1) w6 w' → w'.cell? ⟨w.heap.size, 3, none⟩ = some (.int .i64 c.b) := fun w' h => (box11 (HV6.out.below h)).2.2.2.1
  have q4 : ∀ w', Below (w.heap.size + 1) w6 w' → w'.cell? ⟨w.heap.size, 4, none⟩ = some (.int .i64 c.cp) := fun w' h => (box11 (HV6.out.below h)).2.2.2.2.1
  have q5 : ∀ w', Below (w.heap.size + 1) w6 w' → w'.cell? ⟨w.heap.size, 5, none⟩ = some (.int .i64 c.z) := fun w' h => (box11 (HV6.out.below h)).2.2.2.2.2.1
  have q6 : ∀ w', Below (w.heap.size + 1) w6 w' → w'.cell? ⟨w.heap.size, 6, none⟩ = some (.int .i64 c.s) := fun w' h => (box11 (HV6.out.below h)).2.2.2.2.2.2.1
  have q7 : ∀ w', Below (w.heap.size + 1) w6 w' → w'.cell? ⟨w.heap.size, 7, none⟩ = some (.int .i64 c.mt) := fun w' h => (box11 (HV6.out.below h)).2.2.2.2.2.2.2.1
  have q8 : ∀ w', Below (w.heap.size + 1) w6 w' → w'.cell? ⟨w.heap.size, 8, none⟩ = some (.int .i64 c.o) := fun w' h => (box11 (HV6.out.below h)).2.2.2.2.2.2.2.2.1
  have q9 : ∀ w', Below (w.heap.size + 1) w6 w' → w'.cell? ⟨w.heap.size, 9, none⟩ = some (.int .i64 c.a) := fun w' h => (box11 (HV6.out.below h)).2.2.2.2.2.2.2.2.2.1
  have q10 : ∀ w', Below (w.heap.size + 1) w6 w' → w'.cell? ⟨w.heap.size, 10, none⟩ = some (.int .i64 c.l) := fun w' h => (box11 (HV6.out.below h)).2.2.2.2.2.2.2.2.2.2
  clear HS1 HS2 HL
  refine wpB_take (i := 9) (d := 30) (v := ?v3x9) rfl rfl (by kernel_rfl) (by kernel_rfl) (by kernel_rfl) (fun _ _ _ h => h) (by rfl) ?y3x9 ?r3x9
  case y3x9 => (intro w' hSw; go_simp; try (with_reducible rfl))
  simp only [Act.put, List.setIfInBounds_toArray, List.set_cons_zero, List.set_cons_succ]
  refine wpB_do (i := 10) (by kernel_rfl) rfl (by rfl) (fun K hK => ?_)
  go_simp
  refine (live_any w6).mono ?_
  rintro e w7 ⟨rfl, hb⟩
  have HV7 := Lib.hid (HV6.out.later hb)
  have hbk := hb.mono HV6.out.2.2
  go_simp
  refine hK.out (w.heap.size + 1) _ _ (Nat.le_refl _) hbk ?_
  clear hK hb hbk HV6 q0 q1 q2 q3 q4 q5 q6 q7 q8 q9 q10
  have q0 : ∀ w', Below (w.heap.size + 1) w7 w' → w'.cell? ⟨w.heap.size, 0, none⟩ = some (.int .i64 c.id) := fun w' h => (box11 (HV7.out.below h)).1
  have q1 : ∀ w', Below (w.heap.size + 1) w7 w' → w'.cell? ⟨w.heap.size, 1, none⟩ = some (.int .i64 c.m) := fun w' h => (box11 (HV7.out.below h)).2.1
  have q2 : ∀ w', Below (w.heap.size + 1) w7 w' → w'.cell? ⟨w.heap.size, 2, none⟩ = some (.int .i64 c.u) := fun w' h => (box11 (HV7.out.below h)).2.2.1
  have q3 : ∀ w', Below (w.heap.size + 1) w7 w' → w'.cell? ⟨w.heap.size, 3, none⟩ = some (.int .i64 c.b) := fun w' h => (box11 (HV7.out.below h)).2.2.2.1
  have q4 : ∀ w', Below (w.heap.size + 1) w7 w' → w'.cell? ⟨w.heap.size, 4, none⟩ = some (.int .i64 c.cp) := fun w' h => (box11 (HV7.out.below h)).2.2.2.2.1
  have q5 : ∀ w', Below (w.heap.size + 1) w7 w' → w'.cell? ⟨w.heap.size, 5, none⟩ = some (.int .i64 c.z) := fun w' h => (box11 (HV7.out.below h)).2.2.2.2.2.1
  have q6 : ∀ w', Below (w.heap.size + 1) w7 w' → w'.cell? ⟨w.heap.size, 6, none⟩ = some (.int .i64 c.s) := fun w' h => (box11 (HV7.out.below h)).2.2.2.2.2.2.1
  have q7 : ∀ w', Below (w.heap.size + 1) w7 w' → w'.cell? ⟨w.heap.size, 7, none⟩ = some (.int .i64 c.mt) := fun w' h => (box11 (HV7.out.below h)).2.2.2.2.2.2.2.1
  have q8 : ∀ w', Below (w.heap.size + 1) w7 w' → w'.cell? ⟨w.heap.size, 8, none⟩ = some (.int .i64 c.o) := fun w' h => (box11 (HV7.out.below h)).2.2.2.2.2.2.2.2.1
  have q9 : ∀ w', Below (w.heap.size + 1) w7 w' → w'.cell? ⟨w.heap.size, 9, none⟩ = some (.int .i64 c.a) := fun w' h => (box11 (HV7.out.below h)).2.2.2.2.2.2.2.2.2.1
  have q10 : ∀ w', Below (w.heap.size + 1) w7 w' → w'.cell? ⟨w.heap.size, 10, none⟩ = some (.int .i64 c.l) := fun w' h => (box11 (HV7.out.below h)).2.2.2.2.2.2.2.2.2.2
  refine wpB_take (i := 11) (d := 32) (v := ?v3x11) rfl rfl (by kernel_rfl) (by kernel_rfl) (by kernel_rfl) (fun _ _ _ h => h) (by rfl) ?y3x11 ?r3x11
  case y3x11 => (intro w' hSw; go_simp; try (with_reducible rfl))
  simp only [Act.put, List.setIfInBounds_toArray, List.set_cons_zero, List.set_cons_succ]
  refine wpB_take (i := 12) (d := 6) (v := ?v3x12) rfl rfl (by kernel_rfl) (by kernel_rfl) (by kernel_rfl) (fun _ _ _ h => h) (by rfl) ?y3x12 ?r3x12
  case y3x12 => (intro w' hSw; go_simp; try (with_reducible rfl))
  simp only [Act.put, List.setIfInBounds_toArray, List.set_cons_zero, List.set_cons_succ]
  refine wpB_done (by kernel_rfl) ?_
  clear q0 q1 q2 q3 q4 q5 q6 q7 q8 q9 q10
  go_wp2
  go_ret
  exact ⟨rfl, HV7.out.2.1⟩
set_option maxRecDepth 100000 in
set_option maxHeartbeats 4000000 in
theorem pmiss_badlong (c : Cf) (fr : Nat → Int) (A : Option Addr) (cap len : Nat) (n : Int) (w : World) (hn : n ≤ 9223372036854775807) (hm : len ≤ 9223372036854775807) (hi : Ints w w.heap.size A fr len) (hc : ¬ checkC c = 0) (hL : 20 < len) : Calls Try.prog 5 #[(.agg #[.int .i64 c.id, .int .i64 c.m, .int .i64 c.u, .int .i64 c.b, .int .i64 c.cp, .int .i64 c.z, .int .i64 c.s, .int .i64 c.mt, .int .i64 c.o, .int .i64 c.a, .int .i64 c.l]), .slice A len cap, .int .i64 n] w (Says w (.bool true)) := by
  have HI := Lib.hid hi
  clear hi
  have g1 : (20 : Int) < len := by omega
  go_enter Try.func5, Try.ntmps5
  go_wp2_with fail
  have HV0 := Lib.hid (At.new c w)
  generalize (w.alloc (.cells #[.int .i64 c.id, .int .i64 c.m, .int .i64 c.u, .int .i64 c.b, .int .i64 c.cp, .int .i64 c.z, .int .i64 c.s, .int .i64 c.mt, .int .i64 c.o, .int .i64 c.a, .int .i64 c.l] 23)) = w0 at HV0 ⊢
  obtain ⟨y0, y1, y2, y3, y4, y5, y6, y7, y8, y9, y10⟩ := box11 HV0.out.1
  refine (refCheck_any c w0).mono ?_
  rintro e w1 ⟨rfl, hb⟩
  generalize checkC c = x at hc ⊢
  have e1 : (x == 0) = false := by simpa using hc
  have HV1 := Lib.hid (HV0.out.later hb)
  clear hb HV0 y0 y1 y2 y3 y4 y5 y6 y7 y8 y9 y10
  obtain ⟨y0, y1, y2, y3, y4, y5, y6, y7, y8, y9, y10⟩ := box11 HV1.out.1
  go_wp2_with fail
  refine (live_any w1).mono ?_
  rintro e w2 ⟨rfl, hb⟩
  have HV2 := Lib.hid (HV1.out.later hb)
  clear hb HV1 y0 y1 y2 y3 y4 y5 y6 y7 y8 y9 y10
  obtain ⟨y0, y1, y2, y3, y4, y5, y6, y7, y8, y9, y10⟩ := box11 HV2.out.1
  go_wp2
  go_ret
  exact ⟨rfl, HV2.out.2.1⟩
set_option maxRecDepth 100000 in
set_option maxHeartbeats 4000000 in
theorem pmiss_bad (c : Cf) (fr : Nat → Int) (A : Option Addr) (cap len : Nat) (n : Int) (w : World) (hn : n ≤ 9223372036854775807) (hm : len ≤ 9223372036854775807) (hi : Ints w w.heap.size A fr len) (hc : ¬ checkC c = 0) (hL : ¬ 20 < len) : Calls Try.prog 5 #[(.agg #[.int .i64 c.id, .int .i64 c.m, .int .i64 c.u, .int .i64 c.b, .int .i64 c.cp, .int .i64 c.z, .int .i64 c.s, .int .i64 c.mt, .int .i64 c.o, .int .i64 c.a, .int .i64 c.l]), .slice A len cap, .int .i64 n] w (Says w (.bool true)) := by
  have HI := Lib.hid hi
  clear hi
  have g1 : ¬ (20 : Int) < len := by omega
  go_enter Try.func5, Try.ntmps5
  go_wp2_with fail
  have HV0 := Lib.hid (At.new c w)
  generalize (w.alloc (.cells #[.int .i64 c.id, .int .i64 c.m, .int .i64 c.u, .int .i64 c.b, .int .i64 c.cp, .int .i64 c.z, .int .i64 c.s, .int .i64 c.mt, .int .i64 c.o, .int .i64 c.a, .int .i64 c.l] 23)) = w0 at HV0 ⊢
  obtain ⟨y0, y1, y2, y3, y4, y5, y6, y7, y8, y9, y10⟩ := box11 HV0.out.1
  refine (refCheck_any c w0).mono ?_
  rintro e w1 ⟨rfl, hb⟩
  generalize checkC c = x at hc ⊢
  have e1 : (x == 0) = false := by simpa using hc
  have HV1 := Lib.hid (HV0.out.later hb)
  clear hb HV0 y0 y1 y2 y3 y4 y5 y6 y7 y8 y9 y10
  obtain ⟨y0, y1, y2, y3, y4, y5, y6, y7, y8, y9, y10⟩ := box11 HV1.out.1
  go_upto_region 3 with fail
  refine wpB_start (w.heap.size + 1) (by kernel_rfl) ?_
  have HV2 := Lib.hid HV1.out.drew
  generalize w1.drew = w2 at HV2 ⊢
  clear HV1 y0 y1 y2 y3 y4 y5 y6 y7 y8 y9 y10
  have q0 : ∀ w', Below (w.heap.size + 1) w2 w' → w'.cell? ⟨w.heap.size, 0, none⟩ = some (.int .i64 c.id) := fun w' h => (box11 (HV2.out.below h)).1
  have q1 : ∀ w', Below (w.heap.size + 1) w2 w' → w'.cell? ⟨w.heap.size, 1, none⟩ = some (.int .i64 c.m) := fun w' h => (box11 (HV2.out.below h)).2.1
  have q2 : ∀ w', Below (w.heap.size + 1) w2 w' → w'.cell? ⟨w.heap.size, 2, none⟩ = some (.int .i64 c.u) := fun w' h => (box11 (HV2.out.below h)).2.2.1
  have q3 : ∀ w', Below (w.heap.size + 1) w2 w' → w'.cell? ⟨w.heap.size, 3, none⟩ = some (.int .i64 c.b) := fun w' h => (box11 (HV2.out.below h)).2.2.2.1
  have q4 : ∀ w', Below (w.heap.size + 1) w2 w' → w'.cell? ⟨w.heap.size, 4, none⟩ = some (.int .i64 c.cp) := fun w' h => (box11 (HV2.out.below h)).2.2.2.2.1
  have q5 : ∀ w', Below (w.heap.size + 1) w2 w' → w'.cell? ⟨w.heap.size, 5, none⟩ = some (.int .i64 c.z) := fun w' h => (box11 (HV2.out.below h)).2.2.2.2.2.1
  have q6 : ∀ w', Below (w.heap.size + 1) w2 w' → w'.cell? ⟨w.heap.size, 6, none⟩ = some (.int .i64 c.s) := fun w' h => (box11 (HV2.out.below h)).2.2.2.2.2.2.1
  have q7 : ∀ w', Below (w.heap.size + 1) w2 w' → w'.cell? ⟨w.heap.size, 7, none⟩ = some (.int .i64 c.mt) := fun w' h => (box11 (HV2.out.below h)).2.2.2.2.2.2.2.1
  have q8 : ∀ w', Below (w.heap.size + 1) w2 w' → w'.cell? ⟨w.heap.size, 8, none⟩ = some (.int .i64 c.o) := fun w' h => (box11 (HV2.out.below h)).2.2.2.2.2.2.2.2.1
  have q9 : ∀ w', Below (w.heap.size + 1) w2 w' → w'.cell? ⟨w.heap.size, 9, none⟩ = some (.int .i64 c.a) := fun w' h => (box11 (HV2.out.below h)).2.2.2.2.2.2.2.2.2.1
  have q10 : ∀ w', Below (w.heap.size + 1) w2 w' → w'.cell? ⟨w.heap.size, 10, none⟩ = some (.int .i64 c.l) := fun w' h => (box11 (HV2.out.below h)).2.2.2.2.2.2.2.2.2.2
  refine wpB_take (i := 0) (d := 21) (v := ?v3x0) rfl rfl (by kernel_rfl) (by kernel_rfl) (by kernel_rfl) (fun _ _ _ h => h) (by rfl) ?y3x0 ?r3x0
  case y3x0 => (intro w' hSw; go_simp; try (with_reducible rfl))
  simp only [Act.put, List.setIfInBounds_toArray, List.set_cons_zero, List.set_cons_succ]
  refine wpB_take (i := 1) (d := 22) (v := ?v3x1) rfl rfl (by kernel_rfl) (by kernel_rfl) (by kernel_rfl) (fun _ _ _ h => h) (by rfl) ?y3x1 ?r3x1
  case y3x1 => (intro w' hSw; go_simp; try (with_reducible rfl))
  simp only [Act.put, List.setIfInBounds_toArray, List.set_cons_zero, List.set_cons_succ]
  refine wpB_take (i := 2) (d := 23) (v := ?v3x2) rfl rfl (by kernel_rfl) (by kernel_rfl) (by kernel_rfl) (fun _ _ _ h => h) (by rfl) ?y3x2 ?r3x2
  case y3x2 => (intro w' hSw; go_simp; try (with_reducible rfl))
  simp only [Act.put, List.setIfInBounds_toArray, List.set_cons_zero, List.set_cons_succ]
  refine wpB_take (i := 4) (d := 25) (v := ?v3x4) rfl rfl (by kernel_rfl) (by kernel_rfl) (by kernel_rfl) (fun _ _ _ h => h) (by rfl) ?y3x4 ?r3x4
  case y3x4 => (intro w' hSw; go_simp; try (with_reducible rfl))
  simp only [Act.put, List.setIfInBounds_toArray, List.set_cons_zero, List.set_cons_succ]
  refine wpB_take (i := 5) (d := 26) (v := ?v3x5) rfl rfl (by kernel_rfl) (by kernel_rfl) (by kernel_rfl) (fun _ _ _ h => h) (by rfl) ?y3x5 ?r3x5
  case y3x5 => (intro w' hSw; go_simp; try (with_reducible rfl))
  simp only [Act.put, List.setIfInBounds_toArray, List.set_cons_zero, List.set_cons_succ]
  refine wpB_take (i := 6) (d := 27) (v := ?v3x6) rfl rfl (by kernel_rfl) (by kernel_rfl) (by kernel_rfl) (fun _ _ _ h => h) (by rfl) ?y3x6 ?r3x6
  case y3x6 => (intro w' hSw; go_simp; try (with_reducible rfl))
  simp only [Act.put, List.setIfInBounds_toArray, List.set_cons_zero, List.set_cons_succ]
  refine wpB_do (i := 3) (by kernel_rfl) rfl (by rfl) (fun K hK => ?_)
  go_simp
  refine (missing_any c fr A cap len n w2 hn (HI.out.later HV2.out.2.1)).mono ?_
  rintro e w3 ⟨v1, rfl, hrw, hb⟩
  have HV3 := Lib.hid (HV2.out.later hb)
  have HR1 := Lib.hid hrw
  have hbk := hb.mono HV2.out.2.2
  go_simp
  refine hK.out (w.heap.size + 1) _ _ (Nat.le_refl _) hbk ?_
  clear hK hb hbk hrw HV2 q0 q1 q2 q3 q4 q5 q6 q7 q8 q9 q10
  have q0 : ∀ w', Below (w.heap.size + 1) w3 w' → w'.cell? ⟨w.heap.size, 0, none⟩ = some (.int .i64 c.id) := fun w' h => (box11 (HV3.out.below h)).1
  have q1 : ∀ w', Below (w.heap.size + 1) w3 w' → w'.cell? ⟨w.heap.size, 1, none⟩ = some (.int .i64 c.m) := fun w' h => (box11 (HV3.out.below h)).2.1
  have q2 : ∀ w', Below (w.heap.size + 1) w3 w' → w'.cell? ⟨w.heap.size, 2, none⟩ = some (.int .i64 c.u) := fun w' h => (box11 (HV3.out.below h)).2.2.1
  have q3 : ∀ w', Below (w.heap.size + 1) w3 w' → w'.cell? ⟨w.heap.size, 3, none⟩ = some (.int .i64 c.b) := fun w' h => (box11 (HV3.out.below h)).2.2.2.1
  have q4 : ∀ w', Below (w.heap.size + 1) w3 w' → w'.cell? ⟨w.heap.size, 4, none⟩ = some (.int .i64 c.cp) := fun w' h => (box11 (HV3.out.below h)).2.2.2.2.1
  have q5 : ∀ w', Below (w.heap.size + 1) w3 w' → w'.cell? ⟨w.heap.size, 5, none⟩ = some (.int .i64 c.z) := fun w' h => (box11 (HV3.out.below h)).2.2.2.2.2.1
  have q6 : ∀ w', Below (w.heap.size + 1) w3 w' → w'.cell? ⟨w.heap.size, 6, none⟩ = some (.int .i64 c.s) := fun w' h => (box11 (HV3.out.below h)).2.2.2.2.2.2.1
  have q7 : ∀ w', Below (w.heap.size + 1) w3 w' → w'.cell? ⟨w.heap.size, 7, none⟩ = some (.int .i64 c.mt) := fun w' h => (box11 (HV3.out.below h)).2.2.2.2.2.2.2.1
  have q8 : ∀ w', Below (w.heap.size + 1) w3 w' → w'.cell? ⟨w.heap.size, 8, none⟩ = some (.int .i64 c.o) := fun w' h => (box11 (HV3.out.below h)).2.2.2.2.2.2.2.2.1
  have q9 : ∀ w', Below (w.heap.size + 1) w3 w' → w'.cell? ⟨w.heap.size, 9, none⟩ = some (.int .i64 c.a) := fun w' h => (box11 (HV3.out.below h)).2.2.2.2.2.2.2.2.2.1
  have q10 : ∀ w', Below (w.heap.size + 1) w3 w' → w'.cell? ⟨w.heap.size, 10, none⟩ = some (.int .i64 c.l) := fun w' h => (box11 (HV3.out.below h)).2.2.2.2.2.2.2.2.2.2
  refine wpB_do (i := 7) (by kernel_rfl) rfl (by rfl) (fun K hK => ?_)
  go_simp
  refine (rMissing_any c fr A cap len n w3 hn (HI.out.later HV3.out.2.1)).mono ?_
  rintro e w4 ⟨v2, rfl, hrw, hb⟩
  have HV4 := Lib.hid (HV3.out.later hb)
  have HR2 := Lib.hid hrw
  have HR1b := Lib.hid (HR1.out.later hb)
  have hbk := hb.mono HV3.out.2.2
  go_simp
  refine hK.out (w.heap.size + 1) _ _ (Nat.le_refl _) hbk ?_
  clear hK hb hbk hrw HV3 q0 q1 q2 q3 q4 q5 q6 q7 q8 q9 q10
  clear HR1
  obtain ⟨D1, c1, rfl, hc1, hs1⟩ := HR1b.out.seen St.len
  obtain ⟨D2, c2, rfl, hc2, hs2⟩ := HR2.out.seen St.len
  have HS1 := Lib.hid hs1
  have HS2 := Lib.hid hs2
  have HL := Lib.hid (missA_len c fr len n)
  clear HR1b HR2 hs1 hs2 hc1 hc2
  have q0 : ∀ w', Below (w.heap.size + 1) w4 w' → w'.cell? ⟨w.heap.size, 0, none⟩ = some (.int .i64 c.id) := fun w' h => (box11 (HV4.out.below h)).1
  have q1 : ∀ w', Below (w.heap.size + 1) w4 w' → w'.cell? ⟨w.heap.size, 1, none⟩ = some (.int .i64 c.m) := fun w' h => (box11 (HV4.out.below h)).2.1
  have q2 : ∀ w', Below (w.heap.size + 1) w4 w' → w'.cell? ⟨w.heap.size, 2, none⟩ = some (.int .i64 c.u) := fun w' h => (box11 (HV4.out.below h)).2.2.1
  have q3 : ∀ w', Below (w.heap.size + 1) w4 w' → w'.cell? ⟨w.heap.size, 3, none⟩ = some (.int .i64 c.b) := fun w' h => (box11 (HV4.out.below h)).2.2.2.1
  have q4 : ∀ w', Below (w.heap.size + 1) w4 w' → w'.cell? ⟨w.heap.size, 4, none⟩ = some (.int .i64 c.cp) := fun w' h => (box11 (HV4.out.below h)).2.2.2.2.1
  have q5 : ∀ w', Below (w.heap.size + 1) w4 w' → w'.cell? ⟨w.heap.size, 5, none⟩ = some (.int .i64 c.z) := fun w' h => (box11 (HV4.out.below h)).2.2.2.2.2.1
  have q6 : ∀ w', Below (w.heap.size + 1) w4 w' → w'.cell? ⟨w.heap.size, 6, none⟩ = some (.int .i64 c.s) := fun w' h => (box11 (HV4.out.below h)).2.2.2.2.2.2.1
  have q7 : ∀ w', Below (w.heap.size + 1) w4 w' → w'.cell? ⟨w.heap.size, 7, none⟩ = some (.int .i64 c.mt) := fun w' h => (box11 (HV4.out.below h)).2.2.2.2.2.2.2.1
  have q8 : ∀ w', Below (w.heap.size + 1) w4 w' → w'.cell? ⟨w.heap.size, 8, none⟩ = some (.int .i64 c.o) := fun w' h => (box11 (HV4.out.below h)).2.2.2.2.2.2.2.2.1
  have q9 : ∀ w', Below (w.heap.size + 1) w4 w' → w'.cell? ⟨w.heap.size, 9, none⟩ = some (.int .i64 c.a) := fun w' h => (box11 (HV4.out.below h)).2.2.2.2.2.2.2.2.2.1
  have q10 : ∀ w', Below (w.heap.size + 1) w4 w' → w'.cell? ⟨w.heap.size, 10, none⟩ = some (.int .i64 c.l) := fun w' h => (box11 (HV4.out.below h)).2.2.2.2.2.2.2.2.2.2
  refine wpB_do (i := 8) (by kernel_rfl) rfl (by rfl) (fun K hK => ?_)
  go_simp
  refine (same_eq D1 D2 c1 c2 (missA c fr len n) w4 HS1.out HS2.out (Nat.le_trans HL.out (by omega))).mono ?_
  rintro e w5 ⟨rfl, hb⟩
  have HV5 := Lib.hid (HV4.out.later hb)
  have hbk := hb.mono HV4.out.2.2
  go_simp
  refine hK.out (w.heap.size + 1) _ _ (Nat.le_refl _) hbk ?_
  clear hK hb hbk HV4 q0 q1 q2 q3 q4 q5 q6 q7 q8 q9 q10
  have q0 : ∀ w', Below (w.heap.size + 1) w5 w' → w'.cell? ⟨w.heap.size, 0, none⟩ = some (.int .i64 c.id) := fun w' h => (box11 (HV5.out.below h)).1
  have q1 : ∀ w', Below (w.heap.size + 1) w5 w' → w'.cell? ⟨w.heap.size, 1, none⟩ = some (.int .i64 c.m) := fun w' h => (box11 (HV5.out.below h)).2.1
  have q2 : ∀ w', Below (w.heap.size + 1) w5 w' → w'.cell? ⟨w.heap.size, 2, none⟩ = some (.int .i64 c.u) := fun w' h => (box11 (HV5.out.below h)).2.2.1
  have q3 : ∀ w', Below (w.heap.size + 1) w5 w' → w'.cell? ⟨w.heap.size, 3, none⟩ = some (.int .i64 c.b) := fun w' h => (box11 (HV5.out.below h)).2.2.2.1
  have q4 : ∀ w', Below (w.heap.size + 1) w5 w' → w'.cell? ⟨w.heap.size, 4, none⟩ = some (.int .i64 c.cp) := fun w' h => (box11 (HV5.out.below h)).2.2.2.2.1
  have q5 : ∀ w', Below (w.heap.size + 1) w5 w' → w'.cell? ⟨w.heap.size, 5, none⟩ = some (.int .i64 c.z) := fun w' h => (box11 (HV5.out.below h)).2.2.2.2.2.1
  have q6 : ∀ w', Below (w.heap.size + 1) w5 w' → w'.cell? ⟨w.heap.size, 6, none⟩ = some (.int .i64 c.s) := fun w' h => (box11 (HV5.out.below h)).2.2.2.2.2.2.1
  have q7 : ∀ w', Below (w.heap.size + 1) w5 w' → w'.cell? ⟨w.heap.size, 7, none⟩ = some (.int .i64 c.mt) := fun w' h => (box11 (HV5.out.below h)).2.2.2.2.2.2.2.1
  have q8 : ∀ w', Below (w.heap.size + 1) w5 w' → w'.cell? ⟨w.heap.size, 8, none⟩ = some (.int .i64 c.o) := fun w' h => (box11 (HV5.out.below h)).2.2.2.2.2.2.2.2.1
  have q9 : ∀ w', Below (w.heap.size + 1) w5 w' → w'.cell? ⟨w.heap.size, 9, none⟩ = some (.int .i64 c.a) := fun w' h => (box11 (HV5.out.below h)).2.2.2.2.2.2.2.2.2.1
  have q10 : ∀ w', Below (w.heap.size + 1) w5 w' → w'.cell? ⟨w.heap.size, 10, none⟩ = some (.int .i64 c.l) := fun w' h => (box11 (HV5.out.below h)).2.2.2.2.2.2.2.2.2.2
  clear HS1 HS2 HL
  refine wpB_take (i := 9) (d := 30) (v := ?v3x9) rfl rfl (by kernel_rfl) (by kernel_rfl) (by kernel_rfl) (fun _ _ _ h => h) (by rfl) ?y3x9 ?r3x9
  case y3x9 => (intro w' hSw; go_simp; try (with_reducible rfl))
  simp only [Act.put, List.setIfInBounds_toArray, List.set_cons_zero, List.set_cons_succ]
  refine wpB_do (i := 10) (by kernel_rfl) rfl (by rfl) (fun K hK => ?_)
  go_simp
  refine (live_any w5).mono ?_
  rintro e w6 ⟨rfl, hb⟩
  have HV6 := Lib.hid (HV5.out.later hb)
  have hbk := hb.mono HV5.out.2.2
  go_simp
  refine hK.out (w.heap.size + 1) _ _ (Nat.le_refl _) hbk ?_
  clear hK hb hbk HV5 q0 q1 q2 q3 q4 q5 q6 q7 q8 q9 q10
  have q0 : ∀ w', Below (w.heap.size + 1) w6 w' → w'.cell? ⟨w.heap.size, 0, none⟩ = some (.int .i64 c.id) := fun w' h => (box11 (HV6.out.below h)).1
  have q1 : ∀ w', Below (w.heap.size + 1) w6 w' → w'.cell? ⟨w.heap.size, 1, none⟩ = some (.int .i64 c.m) := fun w' h => (box11 (HV6.out.below h)).2.1
  have q2 : ∀ w', Below (w.heap.size + 1) w6 w' → w'.cell? ⟨w.heap.size, 2, none⟩ = some (.int .i64 c.u) := fun w' h => (box11 (HV6.out.below h)).2.2.1
  have q3 : ∀ w', Below (w.heap.size + 1) w6 w' → w'.cell? ⟨w.heap.size, 3, none⟩ = some (.int .i64 c.b) := fun w' h => (box11 (HV6.out.below h)).2.2.2.1
  have q4 : ∀ w', Below (w.heap.size + 1) w6 w' → w'.cell? ⟨w.heap.size, 4, none⟩ = some (.int .i64 c.cp) := fun w' h => (box11 (HV6.out.below h)).2.2.2.2.1
  have q5 : ∀ w', Below (w.heap.size + 1) w6 w' → w'.cell? ⟨w.heap.size, 5, none⟩ = some (.int .i64 c.z) := fun w' h => (box11 (HV6.out.below h)).2.2.2.2.2.1
  have q6 : ∀ w', Below (w.heap.size + 1) w6 w' → w'.cell? ⟨w.heap.size, 6, none⟩ = some (.int .i64 c.s) := fun w' h => (box11 (HV6.out.below h)).2.2.2.2.2.2.1
  have q7 : ∀ w', Below (w.heap.size + 1) w6 w' → w'.cell? ⟨w.heap.size, 7, none⟩ = some (.int .i64 c.mt) := fun w' h => (box11 (HV6.out.below h)).2.2.2.2.2.2.2.1
  have q8 : ∀ w', Below (w.heap.size + 1) w6 w' → w'.cell? ⟨w.heap.size, 8, none⟩ = some (.int .i64 c.o) := fun w' h => (box11 (HV6.out.below h)).2.2.2.2.2.2.2.2.1
  have q9 : ∀ w', Below (w.heap.size + 1) w6 w' → w'.cell? ⟨w.heap.size, 9, none⟩ = some (.int .i64 c.a) := fun w' h => (box11 (HV6.out.below h)).2.2.2.2.2.2.2.2.2.1
  have q10 : ∀ w', Below (w.heap.size + 1) w6 w' → w'.cell? ⟨w.heap.size, 10, none⟩ = some (.int .i64 c.l) := fun w' h => (box11 (HV6.out.below h)).2.2.2.2.2.2.2.2.2.2
  refine wpB_take (i := 11) (d := 32) (v := ?v3x11) rfl rfl (by kernel_rfl) (by kernel_rfl) (by kernel_rfl) (fun _ _ _ h => h) (by rfl) ?y3x11 ?r3x11
  case y3x11 => (intro w' hSw; go_simp; try (with_reducible rfl))
  simp only [Act.put, List.setIfInBounds_toArray, List.set_cons_zero, List.set_cons_succ]
  refine wpB_take (i := 12) (d := 6) (v := ?v3x12) rfl rfl (by kernel_rfl) (by kernel_rfl) (by kernel_rfl) (fun _ _ _ h => h) (by rfl) ?y3x12 ?r3x12
  case y3x12 => (intro w' hSw; go_simp; try (with_reducible rfl))
  simp only [Act.put, List.setIfInBounds_toArray, List.set_cons_zero, List.set_cons_succ]
  refine wpB_done (by kernel_rfl) ?_
  clear q0 q1 q2 q3 q4 q5 q6 q7 q8 q9 q10
  go_wp2
  go_ret
  exact ⟨rfl, HV6.out.2.1⟩
theorem planMissing_walk (c : Cf) (fr : Nat → Int) (A : Option Addr) (cap len : Nat) (n : Int) (w : World) (hn : n ≤ 9223372036854775807) (hm : len ≤ 9223372036854775807) (hi : Ints w w.heap.size A fr len) : Calls Try.prog 5 #[(.agg #[.int .i64 c.id, .int .i64 c.m, .int .i64 c.u, .int .i64 c.b, .int .i64 c.cp, .int .i64 c.z, .int .i64 c.s, .int .i64 c.mt, .int .i64 c.o, .int .i64 c.a, .int .i64 c.l]), .slice A len cap, .int .i64 n] w (Says w (.bool true)) := by
  by_cases hc : checkC c = 0
  · by_cases hs : smallC c = true
    · by_cases hL : 20 < len
      · exact pmiss_long c fr A cap len n w hn hm hi hc hs hL
      · exact pmiss_go c fr A cap len n w hn hm hi hc hs hL
    · exact pmiss_big c fr A cap len n w hn hm hi hc (by simpa using hs)
  · by_cases hL : 20 < len
    · exact pmiss_badlong c fr A cap len n w hn hm hi hc hL
    · exact pmiss_bad c fr A cap len n w hn hm hi hc hL
end Go.Proofs.Yteglgopbagefcaa
