/- Contracts of agreed, Check. -/
import Derived.Test.YtaceaemombnhkaaI
namespace Go.Proofs.Ytaceaemombnhkaa
set_option linter.unusedVariables false
set_option maxRecDepth 100000
set_option linter.unusedSimpArgs false
open Go.RowKit
open Go.RowKit (wrap64)

theorem bounded_iff (c : Cf) : boundedC c = true ↔ (0 ≤ c.id ∧ c.id ≤ 1099511627776) ∧ (3 ≤ c.m ∧ c.m ≤ 16) ∧ (1 ≤ c.u ∧ c.u ≤ 64) ∧ (1 ≤ c.b ∧ c.b ≤ 4096) ∧ (1 ≤ c.cp ∧ c.cp ≤ 4096) ∧ (3 ≤ c.mt ∧ c.mt ≤ 64) ∧
    (1 ≤ c.z ∧ c.z ≤ 64) ∧ (1 ≤ c.s ∧ c.s ≤ 64) ∧ (1 ≤ c.o ∧ c.o ≤ 64) ∧ (1 ≤ c.a ∧ c.a ≤ 64) ∧ (1 ≤ c.l ∧ c.l ≤ 64) := by
  simp [boundedC, allIn, and_assoc]
theorem bounded_sane {c : Cf} (h : boundedC c = true) : c.sane = true := by
  have h := (bounded_iff c).1 h
  exact (sane_iff c).2 (by omega)
/-- Do the numbers agree? -/
def agreedC (c : Cf) : Bool := decide (c.cp % c.u = 0) && decide (allC c ≤ 64) && decide (c.o ≤ c.a) && decide (c.a ≤ c.z) && decide (c.a + c.s + c.mt ≤ c.l)
theorem all_in (c : Cf) : 0 ≤ allC c ∧ allC c ≤ 3145728 := by
  have h := slots_in c
  unfold allC
  split
  · rename_i hs
    have h2 := (sane_iff c).1 hs
    omega
  · omega
set_option maxHeartbeats 2000000 in
theorem agreed_any (c : Cf) (w : World) (hs : boundedC c = true) : Calls Try.prog 82 #[(.agg #[.int .i64 c.id, .int .i64 c.m, .int .i64 c.u, .int .i64 c.b, .int .i64 c.cp, .int .i64 c.z, .int .i64 c.s, .int .i64 c.mt, .int .i64 c.o, .int .i64 c.a, .int .i64 c.l])] w (Says w (.bool (agreedC c))) := by
  have HS := Lib.hid ((bounded_iff c).1 hs)
  have HL := Lib.hid (all_in c)
  have b1 := HS.out.2.2.1
  have b2 := HS.out.2.2.2.2.1
  have m1 : 0 ≤ c.cp % c.u := Int.emod_nonneg _ (by omega)
  have m2 : c.cp % c.u < c.u := Int.emod_lt_of_pos _ (by omega)
  by_cases e1 : c.cp % c.u = 0
  · have t1 : (c.cp % c.u == 0) = true := by simpa using e1
    have HG : Hid (agreedC c = (decide (allC c ≤ 64) && decide (c.o ≤ c.a) && decide (c.a ≤ c.z) && decide (c.a + c.s + c.mt ≤ c.l))) := by
      show agreedC c = _
      simp [agreedC, e1]
    rw [HG.out]
    clear e1 HG
    go_enter Try.func82, Try.ntmps82
    go_wp2_with fail
    have HV0 := Lib.hid (At.new c w)
    generalize (w.alloc (.cells #[.int .i64 c.id, .int .i64 c.m, .int .i64 c.u, .int .i64 c.b, .int .i64 c.cp, .int .i64 c.z, .int .i64 c.s, .int .i64 c.mt, .int .i64 c.o, .int .i64 c.a, .int .i64 c.l] 23)) = w0 at HV0 ⊢
    refine (all_any c w0).mono ?_
    rintro e w1 ⟨rfl, hb⟩
    have HV1 := Lib.hid (HV0.out.later hb)
    clear hb HV0 hs t1 m1 m2 b1 b2
    obtain ⟨y0, y1, y2, y3, y4, y5, y6, y7, y8, y9, y10⟩ := box11 HV1.out.1
    have a1 := HL.out
    have d1 := HS.out.2.2.2.2.2.1
    have d2 := HS.out.2.2.2.2.2.2.1
    have d3 := HS.out.2.2.2.2.2.2.2.1
    have d4 := HS.out.2.2.2.2.2.2.2.2.1
    have d5 := HS.out.2.2.2.2.2.2.2.2.2.1
    have d6 := HS.out.2.2.2.2.2.2.2.2.2.2
    by_cases h1 : allC c ≤ 64
    · by_cases h2 : c.o ≤ c.a
      · by_cases h3 : c.a ≤ c.z
        · by_cases h4 : c.a + c.s + c.mt ≤ c.l
          · go_wp2
            go_ret
            exact ⟨by simp <;> omega, HV1.out.2.1⟩
          · go_wp2
            go_ret
            exact ⟨by simp <;> omega, HV1.out.2.1⟩
        · go_wp2
          go_ret
          exact ⟨by simp <;> omega, HV1.out.2.1⟩
      · go_wp2
        go_ret
        exact ⟨by simp <;> omega, HV1.out.2.1⟩
    · go_wp2
      go_ret
      exact ⟨by simp <;> omega, HV1.out.2.1⟩
  · have t1 : (c.cp % c.u == 0) = false := by simpa using e1
    have HG : Hid (agreedC c = false) := by
      show agreedC c = _
      simp [agreedC, e1]
    rw [HG.out]
    clear e1 HG
    go_enter Try.func82, Try.ntmps82
    go_wp2
    go_ret
    exact ⟨rfl, (At.new c w).2.1⟩
/-- P7.2. -/
def checkC (c : Cf) : Int := if boundedC c = true ∧ agreedC c = true then (if c.cp < roomC c then 17 else 0) else 1
set_option maxHeartbeats 2000000 in
theorem check_any (c : Cf) (w : World) : Calls Try.prog 48 #[(.agg #[.int .i64 c.id, .int .i64 c.m, .int .i64 c.u, .int .i64 c.b, .int .i64 c.cp, .int .i64 c.z, .int .i64 c.s, .int .i64 c.mt, .int .i64 c.o, .int .i64 c.a, .int .i64 c.l])] w (Says w (.int .i64 (checkC c))) := by
  by_cases hs : boundedC c = true
  · by_cases ha : agreedC c = true
    · have HG : Hid (∀ R : Int, roomC c = R → (c.cp < R → checkC c = 17) ∧ (R ≤ c.cp → checkC c = 0)) := by
        show ∀ R : Int, roomC c = R → (c.cp < R → checkC c = 17) ∧ (R ≤ c.cp → checkC c = 0)
        intro R hR
        subst hR
        unfold checkC
        rw [if_pos ⟨hs, ha⟩]
        exact ⟨fun h => if_pos h, fun h => if_neg (by omega)⟩
      go_enter Try.func48, Try.ntmps48
      go_wp2_with fail
      have HV0 := Lib.hid (At.new c w)
      generalize (w.alloc (.cells #[.int .i64 c.id, .int .i64 c.m, .int .i64 c.u, .int .i64 c.b, .int .i64 c.cp, .int .i64 c.z, .int .i64 c.s, .int .i64 c.mt, .int .i64 c.o, .int .i64 c.a, .int .i64 c.l] 23)) = w0 at HV0 ⊢
      refine (bounded_any c w0).mono ?_
      rintro e w1 ⟨rfl, hb⟩
      rw [hs]
      have HV1 := Lib.hid (HV0.out.later hb)
      clear hb HV0
      obtain ⟨y0, y1, y2, y3, y4, y5, y6, y7, y8, y9, y10⟩ := box11 HV1.out.1
      have HS := Lib.hid hs
      clear hs
      go_wp2_with fail
      refine (agreed_any c w1 HS.out).mono ?_
      rintro e w2 ⟨rfl, hb⟩
      rw [ha]
      have HV2 := Lib.hid (HV1.out.later hb)
      clear hb HV1 ha y0 y1 y2 y3 y4 y5 y6 y7 y8 y9 y10
      go_wp2_with fail
      refine wpB_start (w.heap.size + 1) (by kernel_rfl) ?_
      have HV3 := Lib.hid HV2.out.drew
      generalize w2.drew = w3 at HV3 ⊢
      clear HV2
      have q0 : ∀ w', Below (w.heap.size + 1) w3 w' → w'.cell? ⟨w.heap.size, 0, none⟩ = some (.int .i64 c.id) := fun w' h => (box11 (HV3.out.below h)).1
      have q1 : ∀ w', Below (w.heap.size + 1) w3 w' → w'.cell? ⟨w.heap.size, 1, none⟩ = some (.int .i64 c.m) := fun w' h => (box11 (HV3.out.below h)).2.1
      have q2 : ∀ w', Below (w.heap.size + 1) w3 w' → w'.cell? ⟨w.heap.size, 2, none⟩ = some (.int .i64 c.u) := fun w' h => (box11 (HV3.out.below h)).2.2.1
      have q3 : ∀ w', Below (w.heap.size + 1) w3 w' → w'.cell? ⟨w.heap.size, 3, none⟩ = some (.int .i64 c.b) := fun w' h => (box11 (HV3.out.below h)).2.2.2.1
      have q4 : ∀ w', Below (w.heap.size + 1) w3 w' → w'.cell? ⟨w.heap.size, 4, none⟩ = some (.int .i64 c.cp) := fun w' h => (box11 (HV3.out.below h)).2.2.2.2.1
      have q5 : ∀ w', Below (w.heap.size + 1) w3 w' → w'.cell? ⟨w.heap.size, 5, none⟩ = some (.int .i64 c.z) := fun w' h => (box11 (HV3.out.below h)).2.2.2.2.2.1
      have q6 : ∀ w', Below (w.heap.size + 1) w3 w' → w'.cell? ⟨w.heap.size, 6, none⟩ = some (.int .i64 c.s) := fun w' h => (box11 (HV3.out.below h)).2.2.2.2.2.2.1
      have q7 : ∀ w', Below (w.heap.size + 1) w3 w' → w'.cell? ⟨w.heap.size, 7, none⟩ = some (.int .i64 c.mt) := fun w' h => (box11 (HV3.out.below h)).2.2.2.2.2.2.2.1
      have q8 : ∀ w', Below (w.heap.size + 1) w3 w' → w'.cell? ⟨w.heap.size, 8, none⟩ = some (.int .i64 c.o) := fun w' h => (box11 (HV3.out.below h)).2.2.2.2.2.2.2.2.1
      have q9 : ∀ w', Below (w.heap.size + 1) w3 w' → w'.cell? ⟨w.heap.size, 9, none⟩ = some (.int .i64 c.a) := fun w' h => (box11 (HV3.out.below h)).2.2.2.2.2.2.2.2.2.1
      have q10 : ∀ w', Below (w.heap.size + 1) w3 w' → w'.cell? ⟨w.heap.size, 10, none⟩ = some (.int .i64 c.l) := fun w' h => (box11 (HV3.out.below h)).2.2.2.2.2.2.2.2.2.2
      refine wpB_take (i := 0) (d := 11) (v := ?v3x0) rfl rfl (by kernel_rfl) (by kernel_rfl) (by kernel_rfl) (fun _ _ _ h => h) (by rfl) ?y3x0 ?r3x0
      case y3x0 => (intro w' hSw; go_simp; try (with_reducible rfl))
      simp only [Act.put, List.setIfInBounds_toArray, List.set_cons_zero, List.set_cons_succ]
      refine wpB_take (i := 2) (d := 13) (v := ?v3x2) rfl rfl (by kernel_rfl) (by kernel_rfl) (by kernel_rfl) (fun _ _ _ h => h) (by rfl) ?y3x2 ?r3x2
      case y3x2 => (intro w' hSw; go_simp; try (with_reducible rfl))
      simp only [Act.put, List.setIfInBounds_toArray, List.set_cons_zero, List.set_cons_succ]
      refine wpB_take (i := 3) (d := 14) (v := ?v3x3) rfl rfl (by kernel_rfl) (by kernel_rfl) (by kernel_rfl) (fun _ _ _ h => h) (by rfl) ?y3x3 ?r3x3
      case y3x3 => (intro w' hSw; go_simp; try (with_reducible rfl))
      simp only [Act.put, List.setIfInBounds_toArray, List.set_cons_zero, List.set_cons_succ]
      refine wpB_do (i := 1) (by kernel_rfl) rfl (by rfl) (fun K hK => ?_)
      go_simp
      refine (room_any c w3).mono ?_
      rintro e w4 ⟨rfl, hb⟩
      have HV4 := Lib.hid (HV3.out.later hb)
      have hbk := hb.mono HV3.out.2.2
      go_simp
      refine hK.out (w.heap.size + 1) _ _ (Nat.le_refl _) hbk ?_
      clear hK hb hbk HV3 q0 q1 q2 q3 q4 q5 q6 q7 q8 q9 q10
      have q0 : ∀ w', Below (w.heap.size + 1) w4 w' → w'.cell? ⟨w.heap.size, 0, none⟩ = some (.int .i64 c.id) := fun w' h => (box11 (HV4.out.below h)).1
      have q1 : ∀ w', Below (w.heap.size + 1) w4 w' → w'.cell? ⟨w.heap.size, 1, none⟩ = some (.int .i64 c.m) := fun w' h => (box11 (HV4.out.below h)).2.1
      have q2 : ∀ w', Below (w.heap.size + 1) w4 w' → w'.cell? ⟨w.heap.size, 2, none⟩ = some (.int .i64 c.u) := fun w' h => (box11 (HV4.out.below h)).2.2.1
      have q3 : ∀ w', Below (w.heap.size + 1) w4 w' → w'.cell? ⟨w.heap.size, 3, none⟩ = some (.int .i64 c.b) := fun w' h => (box11 (HV4.out.below h)).2.2.2.1
      have q4 : ∀ w', Below (w.heap.size + 1) w4 w' → w'.cell? ⟨w.heap.size, 4, none⟩ = some (.int .i64 c.cp) := fun w' h => (box11 (HV4.out.below h)).2.2.2.2.1
      have q5 : ∀ w', Below (w.heap.size + 1) w4 w' → w'.cell? ⟨w.heap.size, 5, none⟩ = some (.int .i64 c.z) := fun w' h => (box11 (HV4.out.below h)).2.2.2.2.2.1
      have q6 : ∀ w', Below (w.heap.size + 1) w4 w' → w'.cell? ⟨w.heap.size, 6, none⟩ = some (.int .i64 c.s) := fun w' h => (box11 (HV4.out.below h)).2.2.2.2.2.2.1
      have q7 : ∀ w', Below (w.heap.size + 1) w4 w' → w'.cell? ⟨w.heap.size, 7, none⟩ = some (.int .i64 c.mt) := fun w' h => (box11 (HV4.out.below h)).2.2.2.2.2.2.2.1
      have q8 : ∀ w', Below (w.heap.size + 1) w4 w' → w'.cell? ⟨w.heap.size, 8, none⟩ = some (.int .i64 c.o) := fun w' h => (box11 (HV4.out.below h)).2.2.2.2.2.2.2.2.1
      have q9 : ∀ w', Below (w.heap.size + 1) w4 w' → w'.cell? ⟨w.heap.size, 9, none⟩ = some (.int .i64 c.a) := fun w' h => (box11 (HV4.out.below h)).2.2.2.2.2.2.2.2.2.1
      have q10 : ∀ w', Below (w.heap.size + 1) w4 w' → w'.cell? ⟨w.heap.size, 10, none⟩ = some (.int .i64 c.l) := fun w' h => (box11 (HV4.out.below h)).2.2.2.2.2.2.2.2.2.2
      refine wpB_take (i := 4) (d := 15) (v := ?v3x4) rfl rfl (by kernel_rfl) (by kernel_rfl) (by kernel_rfl) (fun _ _ _ h => h) (by rfl) ?y3x4 ?r3x4
      case y3x4 => (intro w' hSw; go_simp; try (with_reducible rfl))
      simp only [Act.put, List.setIfInBounds_toArray, List.set_cons_zero, List.set_cons_succ]
      refine wpB_done (by kernel_rfl) ?_
      generalize hR : roomC c = R
      have HQ := Lib.hid (HG.out R hR)
      clear hR HG
      by_cases hr : c.cp < R
      · have HW := Lib.hid (HQ.out.1 hr)
        go_wp2
        go_ret
        exact ⟨by rw [HW.out]; rfl, HV4.out.2.1⟩
      · have HW := Lib.hid (HQ.out.2 (by omega))
        go_wp2
        go_ret
        exact ⟨by rw [HW.out]; rfl, HV4.out.2.1⟩
    · have HG : Hid (checkC c = 1) := by
        show checkC c = _
        simp [checkC, ha]
      rw [HG.out]
      clear HG
      have ha : agreedC c = false := by simpa using ha
      go_enter Try.func48, Try.ntmps48
      go_wp2_with fail
      have HV0 := Lib.hid (At.new c w)
      generalize (w.alloc (.cells #[.int .i64 c.id, .int .i64 c.m, .int .i64 c.u, .int .i64 c.b, .int .i64 c.cp, .int .i64 c.z, .int .i64 c.s, .int .i64 c.mt, .int .i64 c.o, .int .i64 c.a, .int .i64 c.l] 23)) = w0 at HV0 ⊢
      refine (bounded_any c w0).mono ?_
      rintro e w1 ⟨rfl, hb⟩
      rw [hs]
      have HV1 := Lib.hid (HV0.out.later hb)
      clear hb HV0
      obtain ⟨y0, y1, y2, y3, y4, y5, y6, y7, y8, y9, y10⟩ := box11 HV1.out.1
      have HS := Lib.hid hs
      clear hs
      go_wp2_with fail
      refine (agreed_any c w1 HS.out).mono ?_
      rintro e w2 ⟨rfl, hb⟩
      rw [ha]
      have HV2 := Lib.hid (HV1.out.later hb)
      clear hb HV1 ha y0 y1 y2 y3 y4 y5 y6 y7 y8 y9 y10
      go_wp2
      go_ret
      exact ⟨rfl, HV2.out.2.1⟩
  · have HG : Hid (checkC c = 1) := by
      show checkC c = _
      simp [checkC, hs]
    rw [HG.out]
    clear HG
    have hs : boundedC c = false := by simpa using hs
    go_enter Try.func48, Try.ntmps48
    go_wp2_with fail
    have HV0 := Lib.hid (At.new c w)
    generalize (w.alloc (.cells #[.int .i64 c.id, .int .i64 c.m, .int .i64 c.u, .int .i64 c.b, .int .i64 c.cp, .int .i64 c.z, .int .i64 c.s, .int .i64 c.mt, .int .i64 c.o, .int .i64 c.a, .int .i64 c.l] 23)) = w0 at HV0 ⊢
    refine (bounded_any c w0).mono ?_
    rintro e w1 ⟨rfl, hb⟩
    rw [hs]
    have HV1 := Lib.hid (HV0.out.later hb)
    clear hb HV0 hs
    go_wp2
    go_ret
    exact ⟨rfl, HV1.out.2.1⟩
end Go.Proofs.Ytaceaemombnhkaa
