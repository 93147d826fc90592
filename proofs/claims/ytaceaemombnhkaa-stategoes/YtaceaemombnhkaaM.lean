/- The contract of the reference's Check. -/
import Derived.Test.YtaceaemombnhkaaL
import Derived.Deep.CutBlock
namespace Go.Proofs.Ytaceaemombnhkaa
set_option linter.unusedVariables false
set_option maxRecDepth 100000
set_option linter.unusedSimpArgs false
open Go.RowKit
open Go.RowKit (wrap64)

theorem nums_any (c : Cf) (w : World) : Calls Try.prog 50 #[(.agg #[.int .i64 c.id, .int .i64 c.m, .int .i64 c.u, .int .i64 c.b, .int .i64 c.cp, .int .i64 c.z, .int .i64 c.s, .int .i64 c.mt, .int .i64 c.o, .int .i64 c.a, .int .i64 c.l])] w (Says w (.agg #[.int .i64 (dataC c), .int .i64 (dataC c * c.u), .int .i64 (stripesC c), .int .i64 (stripesC c * (dataC c * c.u)), .int .i64 (slotsC c), .int .i64 (allC c), .int .i64 (roomC c)])) := by
  by_cases hs : c.sane = true
  · exact nums_yes c w hs
  · have e : (Value.agg #[.int .i64 (dataC c), .int .i64 (dataC c * c.u), .int .i64 (stripesC c), .int .i64 (stripesC c * (dataC c * c.u)), .int .i64 (slotsC c), .int .i64 (allC c), .int .i64 (roomC c)]) = .agg #[.int .i64 0, .int .i64 0, .int .i64 0, .int .i64 0, .int .i64 0, .int .i64 0, .int .i64 0] := by
      simp [dataC, stripesC, slotsC, allC, roomC, hs]
    rw [e]
    exact nums_no c w (by simpa using hs)
theorem index6 (a0 a1 a2 a3 a4 a5 a6 : Value) (w : World) : (Instr.index 87 (.agg #[a0, a1, a2, a3, a4, a5, a6]) (.int .i64 6)).run Try.prog w = .ok a6 w := by kernel_rfl
/-- P7.2, number by number. -/
def Good (c : Cf) : Prop := 0 ≤ c.id ∧ c.id ≤ 1099511627776 ∧ 3 ≤ c.m ∧ c.m ≤ 16 ∧ 1 ≤ c.u ∧ c.u ≤ 64 ∧ 1 ≤ c.b ∧ c.b ≤ 4096 ∧ 1 ≤ c.cp ∧ c.cp ≤ 4096 ∧ c.cp % c.u = 0 ∧ 1 ≤ c.z ∧ 1 ≤ c.s ∧ 3 ≤ c.mt ∧ c.mt + c.z + c.s ≤ 64 ∧ 1 ≤ c.o ∧ c.o ≤ c.a ∧ c.a ≤ c.z ∧ c.a + c.s + c.mt ≤ c.l ∧ c.l ≤ 64
theorem good_iff (c : Cf) : (boundedC c = true ∧ agreedC c = true) ↔ Good c := by
  constructor
  · rintro ⟨h1, h2⟩
    have hs := bounded_sane h1
    have h1 := (bounded_iff c).1 h1
    have ha : allC c = c.mt + (c.z + c.s) := by unfold allC slotsC; rw [if_pos hs, if_pos hs]
    simp only [agreedC, ha, Bool.and_eq_true, decide_eq_true_eq] at h2
    unfold Good
    omega
  · intro h
    unfold Good at h
    have h1 : boundedC c = true := (bounded_iff c).2 (by omega)
    have hs := bounded_sane h1
    have ha : allC c = c.mt + (c.z + c.s) := by unfold allC slotsC; rw [if_pos hs, if_pos hs]
    refine ⟨h1, ?_⟩
    simp only [agreedC, ha, Bool.and_eq_true, decide_eq_true_eq]
    omega
theorem check_one {c : Cf} (h : ¬ Good c) : checkC c = 1 := by
  unfold checkC
  rw [if_neg (fun hx => h ((good_iff c).1 hx))]
theorem check_good {c : Cf} (h : Good c) : (c.cp < roomC c → checkC c = 17) ∧ (roomC c ≤ c.cp → checkC c = 0) := by
  unfold checkC
  rw [if_pos ((good_iff c).2 h)]
  exact ⟨fun h => if_pos h, fun h => if_neg (by omega)⟩

set_option maxRecDepth 100000 in
set_option maxHeartbeats 4000000 in
theorem refCheck_any (c : Cf) (w : World) : Calls Try.prog 19 #[(.agg #[.int .i64 c.id, .int .i64 c.m, .int .i64 c.u, .int .i64 c.b, .int .i64 c.cp, .int .i64 c.z, .int .i64 c.s, .int .i64 c.mt, .int .i64 c.o, .int .i64 c.a, .int .i64 c.l])] w (Says w (.int .i64 (checkC c))) := by
  have HO : Hid (¬ Good c → checkC c = 1) := check_one
  have HG : Hid (Good c → (c.cp < roomC c → checkC c = 17) ∧ (roomC c ≤ c.cp → checkC c = 0)) := check_good
  by_cases h1 : c.id < 0
  · go_enter Try.func19, Try.ntmps19
    have HW : Hid (checkC c = 1) := HO.out (by unfold Good; omega)
    go_wp2
    go_ret
    exact ⟨by rw [HW.out]; rfl, (At.new c w).2.1⟩
  · by_cases h2 : 1099511627776 < c.id
    · go_enter Try.func19, Try.ntmps19
      have HW : Hid (checkC c = 1) := HO.out (by unfold Good; omega)
      go_wp2
      go_ret
      exact ⟨by rw [HW.out]; rfl, (At.new c w).2.1⟩
    · go_enter Try.func19, Try.ntmps19
      go_wp2_with fail
      have HV0 := Lib.hid (At.new c w)
      generalize (w.alloc (.cells #[.int .i64 c.id, .int .i64 c.m, .int .i64 c.u, .int .i64 c.b, .int .i64 c.cp, .int .i64 c.z, .int .i64 c.s, .int .i64 c.mt, .int .i64 c.o, .int .i64 c.a, .int .i64 c.l] 23)) = w0 at HV0 ⊢
      refine (sane_any c w0).mono ?_
      rintro e w1 ⟨rfl, hb⟩
      have HV1 := Lib.hid (HV0.out.later hb)
      clear hb HV0
      by_cases hs : c.sane = true
      · have HS := Lib.hid ((sane_iff c).1 hs)
        rw [hs]
        clear hs
        go_upto_region 3 with fail
        obtain ⟨y0, y1, y2, y3, y4, y5, y6, y7, y8, y9, y10⟩ := box11 HV1.out.1
        have b1 := HS.out.1
        have b2 := HS.out.2.1
        have b3 := HS.out.2.2.1
        have b4 := HS.out.2.2.2.1
        have b5 := HS.out.2.2.2.2.1
        have b6 := HS.out.2.2.2.2.2.1
        have b7 := HS.out.2.2.2.2.2.2.1
        have b8 := HS.out.2.2.2.2.2.2.2.1
        have b9 := HS.out.2.2.2.2.2.2.2.2.1
        have b10 := HS.out.2.2.2.2.2.2.2.2.2
        have m1 : 0 ≤ c.cp % c.u := Int.emod_nonneg _ (by omega)
        have m2 : c.cp % c.u < c.u := Int.emod_lt_of_pos _ (by omega)
        by_cases k0 : c.m < 3
        · have HW : Hid (checkC c = 1) := HO.out (by unfold Good; omega)
          go_wp2
          go_ret
          exact ⟨by rw [HW.out]; rfl, HV1.out.2.1⟩
        have k0n := Int.not_lt.1 k0
        clear k0
        by_cases k1 : 16 < c.m
        · have HW : Hid (checkC c = 1) := HO.out (by unfold Good; omega)
          go_wp2
          go_ret
          exact ⟨by rw [HW.out]; rfl, HV1.out.2.1⟩
        have k1n := Int.not_lt.1 k1
        clear k1
        by_cases k2 : 64 < c.u
        · have HW : Hid (checkC c = 1) := HO.out (by unfold Good; omega)
          go_wp2
          go_ret
          exact ⟨by rw [HW.out]; rfl, HV1.out.2.1⟩
        have k2n := Int.not_lt.1 k2
        clear k2
        by_cases k3 : 4096 < c.b
        · have HW : Hid (checkC c = 1) := HO.out (by unfold Good; omega)
          go_wp2
          go_ret
          exact ⟨by rw [HW.out]; rfl, HV1.out.2.1⟩
        have k3n := Int.not_lt.1 k3
        clear k3
        by_cases k4 : 4096 < c.cp
        · have HW : Hid (checkC c = 1) := HO.out (by unfold Good; omega)
          go_wp2
          go_ret
          exact ⟨by rw [HW.out]; rfl, HV1.out.2.1⟩
        have k4n := Int.not_lt.1 k4
        clear k4
        by_cases k5 : 0 < c.cp % c.u
        · have HW : Hid (checkC c = 1) := HO.out (by unfold Good; omega)
          go_wp2
          go_ret
          exact ⟨by rw [HW.out]; rfl, HV1.out.2.1⟩
        have k5n := Int.not_lt.1 k5
        clear k5
        go_upto_region 5 with fail
        by_cases k6 : c.mt < 3
        · have HW : Hid (checkC c = 1) := HO.out (by unfold Good; omega)
          go_wp2
          go_ret
          exact ⟨by rw [HW.out]; rfl, HV1.out.2.1⟩
        have k6n := Int.not_lt.1 k6
        clear k6
        by_cases k7 : 64 < c.mt + c.z + c.s
        · have HW : Hid (checkC c = 1) := HO.out (by unfold Good; omega)
          go_wp2
          go_ret
          exact ⟨by rw [HW.out]; rfl, HV1.out.2.1⟩
        have k7n := Int.not_lt.1 k7
        clear k7
        by_cases k8 : c.a < c.o
        · have HW : Hid (checkC c = 1) := HO.out (by unfold Good; omega)
          go_wp2
          go_ret
          exact ⟨by rw [HW.out]; rfl, HV1.out.2.1⟩
        have k8n := Int.not_lt.1 k8
        clear k8
        by_cases k9 : c.z < c.a
        · have HW : Hid (checkC c = 1) := HO.out (by unfold Good; omega)
          go_wp2
          go_ret
          exact ⟨by rw [HW.out]; rfl, HV1.out.2.1⟩
        have k9n := Int.not_lt.1 k9
        clear k9
        go_upto_region 7 with fail
        by_cases k10 : c.l < c.a + c.s + c.mt
        · have HW : Hid (checkC c = 1) := HO.out (by unfold Good; omega)
          go_wp2
          go_ret
          exact ⟨by rw [HW.out]; rfl, HV1.out.2.1⟩
        have k10n := Int.not_lt.1 k10
        clear k10
        by_cases k11 : 64 < c.l
        · have HW : Hid (checkC c = 1) := HO.out (by unfold Good; omega)
          go_wp2
          go_ret
          exact ⟨by rw [HW.out]; rfl, HV1.out.2.1⟩
        have k11n := Int.not_lt.1 k11
        clear k11
        have HQ := Lib.hid (HG.out (by unfold Good; omega))
        clear HO HG
        go_wp2_with fail
        clear y0 y1 y2 y3 y4 y5 y6 y7 y8 y9 y10
        refine wpB_start (w.heap.size + 1) (by kernel_rfl) ?_
        have HV2 := Lib.hid HV1.out.drew
        generalize w1.drew = w2 at HV2 ⊢
        clear HV1
        have q0 : ∀ w', Below (w.heap.size + 1) w2 w' → w'.cell? ⟨w.heap.size, 0, none⟩ = some (.int .i64 c.id) := fun w' h => (box11 (HV2.out.below h)).1
        have q1 : ∀ w', Below (w.heap.size + 1) w2 w' → w'.cell? ⟨w.heap.size, 1, none⟩ = some (.int .i64 c.m) := fun w' h => (box11 (HV2.out.below h)).2.1
        have q2 : ∀ w', Below (w.heap.size + 1) w2 w' → w'.cell? ⟨w.heap.size, 2, none⟩ = some (.int .i64 c.u) := fun w' h => (box11 (HV2.out.below h)).2.2.1
        have q3 : ∀ w', Below (w.heap.size + 1) w2 w' → w'.cell? ⟨w.heap.size, 3, none⟩ = some (.int .i64 c.b) := fun w' h => (box11 (HV2.out.below h)).2.2.2.1
        have q4 : ∀ w', Below (w.heap.size + 1) w2 w' → w'.cell? ⟨w.heap.size, 4, none⟩ = some (.int .i64 c.cp) := fun w' h => (box11 (HV2.out.below h)).2.2.2.2.1
        have q5 : ∀ w', Below (w.heap.size + 1) w2 w' → w'.cell? ⟨w.heap.size, 5, none⟩ = some (.int .i64 c.z) := fun w' h => (box11 (HV2.out.below h)).2.2.2.2.2.1
        have q6 : ∀ w', Below (w.heap.size + 1) w2 w' → w'.cell? ⟨w.heap.size, 6, none⟩ = some (.int .i64 c.s) := fun w' h => (box11 (HV2.out.below h)).2.2.2.2.2.2.1
        have q7 : ∀ w', Below (w.heap.size + 1) w2 w' → w'.cell? ⟨w.heap.size, 7, none⟩ = some (.int .i64 c.mt) := fun w' h => (box11 (HV2.out.below h)).2.2.2.2.2.2.2.1
        have q8 : ∀ w', Below (w.heap.size + 1) w2 w' → w'.cell? ⟨w.heap.size, 8, none⟩ = some (.int .i64 c.o) := fun w' h => (box11 (HV2.out.below h)).2.2.2.2.2.2.2.2.1
        have q9 : ∀ w', Below (w.heap.size + 1) w2 w' → w'.cell? ⟨w.heap.size, 9, none⟩ = some (.int .i64 c.a) := fun w' h => (box11 (HV2.out.below h)).2.2.2.2.2.2.2.2.2.1
        have q10 : ∀ w', Below (w.heap.size + 1) w2 w' → w'.cell? ⟨w.heap.size, 10, none⟩ = some (.int .i64 c.l) := fun w' h => (box11 (HV2.out.below h)).2.2.2.2.2.2.2.2.2.2
        refine wpB_take (i := 0) (d := 91) (v := ?v9x0) rfl rfl (by kernel_rfl) (by kernel_rfl) (by kernel_rfl) (fun _ _ _ h => h) (by rfl) ?y9x0 ?r9x0
        case y9x0 => (intro w' hSw; go_simp; try (with_reducible rfl))
        simp only [Act.put, List.setIfInBounds_toArray, List.set_cons_zero, List.set_cons_succ]
        refine wpB_take (i := 3) (d := 94) (v := ?v9x3) rfl rfl (by kernel_rfl) (by kernel_rfl) (by kernel_rfl) (fun _ _ _ h => h) (by rfl) ?y9x3 ?r9x3
        case y9x3 => (intro w' hSw; go_simp; try (with_reducible rfl))
        simp only [Act.put, List.setIfInBounds_toArray, List.set_cons_zero, List.set_cons_succ]
        refine wpB_take (i := 4) (d := 95) (v := ?v9x4) rfl rfl (by kernel_rfl) (by kernel_rfl) (by kernel_rfl) (fun _ _ _ h => h) (by rfl) ?y9x4 ?r9x4
        case y9x4 => (intro w' hSw; go_simp; try (with_reducible rfl))
        simp only [Act.put, List.setIfInBounds_toArray, List.set_cons_zero, List.set_cons_succ]
        refine wpB_do (i := 1) (by kernel_rfl) rfl (by rfl) (fun K hK => ?_)
        go_simp
        refine (nums_any c w2).mono ?_
        rintro e w3 ⟨rfl, hb⟩
        have HV3 := Lib.hid (HV2.out.later hb)
        have hbk := hb.mono HV2.out.2.2
        go_simp
        refine hK.out (w.heap.size + 1) _ _ (Nat.le_refl _) hbk ?_
        clear hK hb hbk HV2 q0 q1 q2 q3 q4 q5 q6 q7 q8 q9 q10
        have q0 : ∀ w', Below (w.heap.size + 1) w3 w' → w'.cell? ⟨w.heap.size, 0, none⟩ = some (.int .i64 c.id) := fun w' h => (box11 (HV3.out.below h)).1
        have q1 : ∀ w', Below (w.heap.size + 1) w3 w' → w'.cell? ⟨w.heap.size, 1, none⟩ = some (.int .i64 c.m) := fun w' h => (box11 (HV3.out.below h)).2.1
        have q2 : ∀ w', Below (w.heap.size + 1) w3 w' → w'.cell? ⟨w.heap.size, 2, none⟩ = some (.int .i64 c.u) := fun w' h => (box11 (HV3.out.below h)).2.2.1
        have q3 : ∀ w', Below (w.heap.size + 1) w3 w' → w'.cell? ⟨w.heap.size, 3, none⟩ = some (.int .i64 c.b) := fun w' h => (box11 (HV3.out.below h)).2.2.2.1
        have q4 : ∀ w', Below (w.heap.size + 1) w3 w' → w'.cell? ⟨w.heap.size, 4, none⟩ = some (.int .i64 c.cp) := fun w' h => (box11 (HV3.out.below h)).2.2.2.2.1
        have q5 : ∀ w', Below (w.heap.size + 1) w3 w' → w'.cell? ⟨w.heap.size, 5, none⟩ = some (.int .i64 c.z) := fun w' h => (box11 (HV3.out.below h)).2.2.2.2.2.1
        have q6 : ∀ w', Below (w.heap.size + 1) w3 w' → w'.cell? ⟨w.heap.size, 6, none⟩ = some (.int .i64 c.s) := fun w' h => (box11 (HV3.out.below h)).2.2.2.2.2.2.1
        have q7 : ∀ w', Below (w.heap.size + 1) w3 w' → w'.cell? ⟨w.heap.size, 7, none⟩ = some (.int .i64 c.mt) := fun w' h => (box11 (HV3.out.below h)).2.2.2.2.2.2.2.1
        have q8 : ∀ w', Below (w.heap.size + 1) w3 w' → w'.cell? ⟨w.heap.size, 8, none⟩ = some (.int .i64 c.o) := fun w' h => (box11 (HV3.out.below h)).2.2.2.2.2.2.2.2.1
        have q9 : ∀ w', Below (w.heap.size + 1) w3 w' → w'.cell? ⟨w.heap.size, 9, none⟩ = some (.int .i64 c.a) := fun w' h => (box11 (HV3.out.below h)).2.2.2.2.2.2.2.2.2.1
        have q10 : ∀ w', Below (w.heap.size + 1) w3 w' → w'.cell? ⟨w.heap.size, 10, none⟩ = some (.int .i64 c.l) := fun w' h => (box11 (HV3.out.below h)).2.2.2.2.2.2.2.2.2.2
        refine wpB_take (i := 2) (d := 93) (v := ?v9x2) rfl rfl (by kernel_rfl) (by kernel_rfl) (by kernel_rfl) (fun _ _ _ h => h) (by rfl) ?y9x2 ?r9x2
        case y9x2 => (intro w' hSw; go_simp; rw [index6]; rfl)
        simp only [Act.put, List.setIfInBounds_toArray, List.set_cons_zero, List.set_cons_succ]
        refine wpB_take (i := 5) (d := 96) (v := ?v9x5) rfl rfl (by kernel_rfl) (by kernel_rfl) (by kernel_rfl) (fun _ _ _ h => h) (by rfl) ?y9x5 ?r9x5
        case y9x5 => (intro w' hSw; go_simp; try (with_reducible rfl))
        simp only [Act.put, List.setIfInBounds_toArray, List.set_cons_zero, List.set_cons_succ]
        refine wpB_done (by kernel_rfl) ?_
        by_cases hr : c.cp < roomC c
        · have HW := Lib.hid (HQ.out.1 hr)
          clear HQ
          go_wp2
          go_ret
          exact ⟨by rw [HW.out]; rfl, HV3.out.2.1⟩
        · have HW := Lib.hid (HQ.out.2 (by omega))
          clear HQ
          go_wp2
          go_ret
          exact ⟨by rw [HW.out]; rfl, HV3.out.2.1⟩
      · have hs : c.sane = false := by simpa using hs
        rw [hs]
        have HW : Hid (checkC c = 1) := HO.out (fun hg => by
          have := bounded_sane ((good_iff c).2 hg).1
          rw [hs] at this
          cases this)
        clear hs
        go_wp2
        go_ret
        exact ⟨by rw [HW.out]; rfl, HV1.out.2.1⟩
end Go.Proofs.Ytaceaemombnhkaa
