/- For every b, n, x, is, unit the law PackPuts returns true, and b and x read behind the call as they read before. No condition. -/
import Derived.Test.YtolabagnoieofaaE
import Derived.Test.YtolabagnoieofaaOrd
import Derived.WalkKit
import Derived.ProofKit
import Derived.OpenShut
import Derived.ShutString
import Derived.ChangeOld
import Derived.Below
namespace Go.Proofs.Ytolabagnoieofaa.packPuts
open Go.ChangeShapes Go.WideShapes Go.ChangeAt Go.RowKit
open Go.ChangeMaps (open_string shut_string)
set_option linter.unusedVariables false
set_option linter.unusedSimpArgs false

theorem own : ownKnob Try.prog.godebug = none := by kernel_rfl
theorem laidOut : laidOutB Try.prog = true := by kernel_rfl

/-- A slice of bytes that came in: it reads as some bytes. -/
def IsBytes (w : World) (a : Option Addr) (len : Nat) : Prop := ∃ l : List UInt8, l.length = len ∧ Rd w w.heap.size a l

theorem bytes_append (a b c : List UInt8) (h : a ++ b = c) : (⟨a.toArray⟩ : ByteArray) ++ ⟨b.toArray⟩ = ⟨c.toArray⟩ := by
  subst h
  apply ByteArray.ext
  simp
set_option maxHeartbeats 2000000 in
theorem walk (a0 : Option Addr) (len0 cap0 : Nat) (a1 : Int) (a2 : Option Addr) (len2 cap2 : Nat) (a3 : Bool) (a4 : Int) (w : World) (i0 : IsBytes w a0 len0) (m0 : len0 ≤ maxLen) (i2 : IsBytes w a2 len2) (m2 : len2 ≤ maxLen) :
    Calls Try.prog 3 #[.slice a0 len0 cap0, .int .i64 a1, .slice a2 len2 cap2, .bool a3, .int .i64 a4] w fun e w' => e = .returned (.bool true) ∧ Below w.heap.size w w' := by
  obtain ⟨b, rfl, hb⟩ := i0
  obtain ⟨x, rfl, hx⟩ := i2
  unfold maxLen at m0 m2
  by_cases h500 : 500 < b.length
  · go_enter Try.func3, Try.ntmps3
    go_wp2_with (go_at_call 6; refine (live_any _).mono ?_; rintro e w' ⟨rfl, rfl⟩)
    go_ret
    exact ⟨rfl, (Below.refl _ _).alloc (Nat.le_refl _) _⟩
  · by_cases h501 : 500 < x.length
    · go_enter Try.func3, Try.ntmps3
      go_wp2_with (go_at_call 6; refine (live_any _).mono ?_; rintro e w' ⟨rfl, rfl⟩)
      go_ret
      exact ⟨rfl, (Below.refl _ _).alloc (Nat.le_refl _) _⟩
    · have hle : b.length ≤ 500 := by omega
      have hle2 : x.length ≤ 500 := by omega
      clear h500 h501 m0 m2
      have hcv := conv_any a0 cap0 _ b w hb
      go_enter Try.func3, Try.ntmps3
      go_wp2_with fail
      refine wpX_start (by kernel_rfl) ?_
      have d0 : Rd w.drew w.drew.heap.size a0 b := hb
      have x0 : Rd w.drew w.drew.heap.size a2 x := hx
      have hB0 : Hid (Below w.heap.size w w.drew) := (Below.refl _ _).drew
      clear hb hx hcv
      generalize w.drew = w0 at d0 x0 hB0 ⊢
      refine wpX_take (i := 0) (d := 23) (v := ?v0) rfl rfl (by kernel_rfl) (by kernel_rfl) (by kernel_rfl) (fun _ _ _ h => h) (by rfl) ?y0 ?r0
      case y0 => (intro w' hSw; go_simp; try (with_reducible rfl))
      simp only [Act.put, List.setIfInBounds_toArray, List.set_cons_zero, List.set_cons_succ]
      refine wpX_take (i := 1) (d := 24) (v := ?v1) rfl rfl (by kernel_rfl) (by kernel_rfl) (by kernel_rfl) (fun _ _ _ h => h) (by rfl) ?y1 ?r1
      case y1 => (intro w' hSw; go_simp; try (with_reducible rfl))
      simp only [Act.put, List.setIfInBounds_toArray, List.set_cons_zero, List.set_cons_succ]
      refine wpX_take (i := 4) (d := 27) (v := ?v4) rfl rfl (by kernel_rfl) (by kernel_rfl) (by kernel_rfl) (fun _ _ _ h => h) (by rfl) ?y4 ?r4
      case y4 => (intro w' hSw; go_simp; try (with_reducible rfl))
      simp only [Act.put, List.setIfInBounds_toArray, List.set_cons_zero, List.set_cons_succ]
      refine wpX_take (i := 5) (d := 28) (v := ?v5) rfl rfl (by kernel_rfl) (by kernel_rfl) (by kernel_rfl) (fun _ _ _ h => h) (by rfl) ?y5 ?r5
      case y5 => (intro w' hSw; go_simp; try (with_reducible rfl))
      simp only [Act.put, List.setIfInBounds_toArray, List.set_cons_zero, List.set_cons_succ]
      refine wpX_do (i := 2) (by kernel_rfl) rfl (by rfl) (fun K hK => ?_)
      go_simp
      refine (int_gave a0 cap0 a1 b w0 d0 (by omega)).mono ?_
      rintro e w1 ⟨A1, c1, rfl, hr1, _, hb1, _⟩
      generalize hL1 : b ++ le8 a1 = L1 at hr1 ⊢
      have HL1 := Lib.hid hL1
      have hcv1 : ∀ w', Below w1.heap.size w1 w' → (convert 22 9 (.slice A1 L1.length c1)).run Try.prog w' = .ok (.string ⟨L1.toArray⟩) w' := fun w' h => conv_any A1 c1 _ L1 w' (hr1.below h)
      have hB1 := Lib.hid (below_trans hB0.out hb1)
      have d1 := d0.later hb1
      have x1 := x0.later hb1
      refine hK.out _ _ hb1 ?_
      clear hK K hL1 hr1 hb1 d0 x0 hB0 
      refine wpX_take (i := 3) (d := 26) (v := ?v3) rfl rfl (by kernel_rfl) (by kernel_rfl) (by kernel_rfl) (fun _ _ _ h => h) (by rfl) ?y3 ?r3
      case y3 => (intro w' hSw; go_simp; try (with_reducible rfl))
      simp only [Act.put, List.setIfInBounds_toArray, List.set_cons_zero, List.set_cons_succ]
      refine wpX_do (i := 6) (by kernel_rfl) rfl (by rfl) (fun K hK => ?_)
      go_simp
      refine (refInt_any a1 w1).mono ?_
      rintro e w2 ⟨v2, rfl, ho2, hb2⟩
      obtain ⟨A2, c2, rfl, hr2, _, _⟩ := ho2.rd
      generalize hM1 : le8 a1 = M1 at hr2 ⊢
      have HM1 := Lib.hid hM1
      have hcv2 : ∀ w', Below w2.heap.size w2 w' → (convert 22 9 (.slice A2 M1.length c2)).run Try.prog w' = .ok (.string ⟨M1.toArray⟩) w' := fun w' h => conv_any A2 c2 _ M1 w' (hr2.below h)
      have hB2 := Lib.hid (below_trans hB1.out hb2)
      have d2 := d1.later hb2
      have x2 := x1.later hb2
      have hccL1 : (⟨b.toArray⟩ : ByteArray) ++ ⟨M1.toArray⟩ = ⟨L1.toArray⟩ := by
        rw [← HL1.out, ← HM1.out]
        exact bytes_append _ _ _ (by simp)
      have hctL1 : ¬ 9223372036854775807 < b.length + M1.length := by
        rw [← HM1.out]
        rw [le8_length]; omega
      refine hK.out _ _ hb2 ?_
      clear hK K hM1 hr2 ho2 hb2 d1 x1 hB1 hcv1
      refine wpX_take (i := 7) (d := 30) (v := ?v7) rfl rfl (by kernel_rfl) (by kernel_rfl) (by kernel_rfl) (fun _ _ _ h => h) (by rfl) ?y7 ?r7
      case y7 => (intro w' hSw; go_simp; try (with_reducible rfl))
      simp only [Act.put, List.setIfInBounds_toArray, List.set_cons_zero, List.set_cons_succ]
      refine wpX_take (i := 8) (d := 31) (v := ?v8) rfl rfl (by kernel_rfl) (by kernel_rfl) (by kernel_rfl) (fun _ _ _ h => h) (by rfl) ?y8 ?r8
      case y8 => (intro w' hSw; go_simp; try (with_reducible rfl))
      simp only [Act.put, List.setIfInBounds_toArray, List.set_cons_zero, List.set_cons_succ]
      refine wpX_take (i := 9) (d := 32) (v := ?v9) rfl rfl (by kernel_rfl) (by kernel_rfl) (by kernel_rfl) (fun _ _ _ h => h) (by rfl) ?y9 ?r9
      case y9 => (intro w' hSw; go_simp; try (with_reducible rfl))
      simp only [Act.put, List.setIfInBounds_toArray, List.set_cons_zero, List.set_cons_succ]
      clear hcv2 hccL1 hctL1 HL1 HM1
      refine wpX_take (i := 10) (d := 33) (v := ?v10) rfl rfl (by kernel_rfl) (by kernel_rfl) (by kernel_rfl) (fun _ _ _ h => h) (by rfl) ?y10 ?r10
      case y10 => (intro w' hSw; go_simp; try (with_reducible rfl))
      simp only [Act.put, List.setIfInBounds_toArray, List.set_cons_zero, List.set_cons_succ]
      refine wpX_take (i := 11) (d := 34) (v := ?v11) rfl rfl (by kernel_rfl) (by kernel_rfl) (by kernel_rfl) (fun _ _ _ h => h) (by rfl) ?y11 ?r11
      case y11 => (intro w' hSw; go_simp; try (with_reducible rfl))
      simp only [Act.put, List.setIfInBounds_toArray, List.set_cons_zero, List.set_cons_succ]
      refine wpX_take (i := 12) (d := 35) (v := ?v12) rfl rfl (by kernel_rfl) (by kernel_rfl) (by kernel_rfl) (fun _ _ _ h => h) (by rfl) ?y12 ?r12
      case y12 => (intro w' hSw; go_simp; try (with_reducible rfl))
      simp only [Act.put, List.setIfInBounds_toArray, List.set_cons_zero, List.set_cons_succ]
      refine wpX_take (i := 15) (d := 38) (v := ?v15) rfl rfl (by kernel_rfl) (by kernel_rfl) (by kernel_rfl) (fun _ _ _ h => h) (by rfl) ?y15 ?r15
      case y15 => (intro w' hSw; go_simp; try (with_reducible rfl))
      simp only [Act.put, List.setIfInBounds_toArray, List.set_cons_zero, List.set_cons_succ]
      refine wpX_take (i := 16) (d := 39) (v := ?v16) rfl rfl (by kernel_rfl) (by kernel_rfl) (by kernel_rfl) (fun _ _ _ h => h) (by rfl) ?y16 ?r16
      case y16 => (intro w' hSw; go_simp; try (with_reducible rfl))
      simp only [Act.put, List.setIfInBounds_toArray, List.set_cons_zero, List.set_cons_succ]
      refine wpX_do (i := 13) (by kernel_rfl) rfl (by rfl) (fun K hK => ?_)
      go_simp
      refine (bytes_gave a0 a2 cap0 cap2 b x w2 d2 x2 (by omega) (by omega)).mono ?_
      rintro e w3 ⟨A3, c3, rfl, hr3, _, hb3, _⟩
      generalize hL2 : (b ++ le8 x.length) ++ x = L2 at hr3 ⊢
      have HL2 := Lib.hid hL2
      have hcv3 : ∀ w', Below w3.heap.size w3 w' → (convert 22 9 (.slice A3 L2.length c3)).run Try.prog w' = .ok (.string ⟨L2.toArray⟩) w' := fun w' h => conv_any A3 c3 _ L2 w' (hr3.below h)
      have hB3 := Lib.hid (below_trans hB2.out hb3)
      have d3 := d2.later hb3
      have x3 := x2.later hb3
      refine hK.out _ _ hb3 ?_
      clear hK K hL2 hr3 hb3 d2 x2 hB2 
      refine wpX_take (i := 14) (d := 37) (v := ?v14) rfl rfl (by kernel_rfl) (by kernel_rfl) (by kernel_rfl) (fun _ _ _ h => h) (by rfl) ?y14 ?r14
      case y14 => (intro w' hSw; go_simp; try (with_reducible rfl))
      simp only [Act.put, List.setIfInBounds_toArray, List.set_cons_zero, List.set_cons_succ]
      refine wpX_do (i := 17) (by kernel_rfl) rfl (by rfl) (fun K hK => ?_)
      go_simp
      refine (refBytes_any a2 cap2 x w3 x3 (by omega)).mono ?_
      rintro e w4 ⟨v4, rfl, ho4, hb4⟩
      obtain ⟨A4, c4, rfl, hr4, _, _⟩ := ho4.rd
      generalize hM2 : le8 x.length ++ x = M2 at hr4 ⊢
      have HM2 := Lib.hid hM2
      have hcv4 : ∀ w', Below w4.heap.size w4 w' → (convert 22 9 (.slice A4 M2.length c4)).run Try.prog w' = .ok (.string ⟨M2.toArray⟩) w' := fun w' h => conv_any A4 c4 _ M2 w' (hr4.below h)
      have hB4 := Lib.hid (below_trans hB3.out hb4)
      have d4 := d3.later hb4
      have x4 := x3.later hb4
      have hccL2 : (⟨b.toArray⟩ : ByteArray) ++ ⟨M2.toArray⟩ = ⟨L2.toArray⟩ := by
        rw [← HL2.out, ← HM2.out]
        exact bytes_append _ _ _ (by simp)
      have hctL2 : ¬ 9223372036854775807 < b.length + M2.length := by
        rw [← HM2.out]
        rw [List.length_append, le8_length]; omega
      refine hK.out _ _ hb4 ?_
      clear hK K hM2 hr4 ho4 hb4 d3 x3 hB3 hcv3
      refine wpX_take (i := 18) (d := 41) (v := ?v18) rfl rfl (by kernel_rfl) (by kernel_rfl) (by kernel_rfl) (fun _ _ _ h => h) (by rfl) ?y18 ?r18
      case y18 => (intro w' hSw; go_simp; try (with_reducible rfl))
      simp only [Act.put, List.setIfInBounds_toArray, List.set_cons_zero, List.set_cons_succ]
      refine wpX_take (i := 19) (d := 42) (v := ?v19) rfl rfl (by kernel_rfl) (by kernel_rfl) (by kernel_rfl) (fun _ _ _ h => h) (by rfl) ?y19 ?r19
      case y19 => (intro w' hSw; go_simp; try (with_reducible rfl))
      simp only [Act.put, List.setIfInBounds_toArray, List.set_cons_zero, List.set_cons_succ]
      refine wpX_take (i := 20) (d := 43) (v := ?v20) rfl rfl (by kernel_rfl) (by kernel_rfl) (by kernel_rfl) (fun _ _ _ h => h) (by rfl) ?y20 ?r20
      case y20 => (intro w' hSw; go_simp; try (with_reducible rfl))
      simp only [Act.put, List.setIfInBounds_toArray, List.set_cons_zero, List.set_cons_succ]
      clear hcv4 hccL2 hctL2 HL2 HM2
      refine wpX_take (i := 21) (d := 44) (v := ?v21) rfl rfl (by kernel_rfl) (by kernel_rfl) (by kernel_rfl) (fun _ _ _ h => h) (by rfl) ?y21 ?r21
      case y21 => (intro w' hSw; go_simp; try (with_reducible rfl))
      simp only [Act.put, List.setIfInBounds_toArray, List.set_cons_zero, List.set_cons_succ]
      refine wpX_take (i := 22) (d := 45) (v := ?v22) rfl rfl (by kernel_rfl) (by kernel_rfl) (by kernel_rfl) (fun _ _ _ h => h) (by rfl) ?y22 ?r22
      case y22 => (intro w' hSw; go_simp; try (with_reducible rfl))
      simp only [Act.put, List.setIfInBounds_toArray, List.set_cons_zero, List.set_cons_succ]
      refine wpX_take (i := 23) (d := 46) (v := ?v23) rfl rfl (by kernel_rfl) (by kernel_rfl) (by kernel_rfl) (fun _ _ _ h => h) (by rfl) ?y23 ?r23
      case y23 => (intro w' hSw; go_simp; try (with_reducible rfl))
      simp only [Act.put, List.setIfInBounds_toArray, List.set_cons_zero, List.set_cons_succ]
      refine wpX_take (i := 24) (d := 47) (v := ?v24) rfl rfl (by kernel_rfl) (by kernel_rfl) (by kernel_rfl) (fun _ _ _ h => h) (by rfl) ?y24 ?r24
      case y24 => (intro w' hSw; go_simp; try (with_reducible rfl))
      simp only [Act.put, List.setIfInBounds_toArray, List.set_cons_zero, List.set_cons_succ]
      refine wpX_take (i := 27) (d := 50) (v := ?v27) rfl rfl (by kernel_rfl) (by kernel_rfl) (by kernel_rfl) (fun _ _ _ h => h) (by rfl) ?y27 ?r27
      case y27 => (intro w' hSw; go_simp; try (with_reducible rfl))
      simp only [Act.put, List.setIfInBounds_toArray, List.set_cons_zero, List.set_cons_succ]
      refine wpX_take (i := 28) (d := 51) (v := ?v28) rfl rfl (by kernel_rfl) (by kernel_rfl) (by kernel_rfl) (fun _ _ _ h => h) (by rfl) ?y28 ?r28
      case y28 => (intro w' hSw; go_simp; try (with_reducible rfl))
      simp only [Act.put, List.setIfInBounds_toArray, List.set_cons_zero, List.set_cons_succ]
      refine wpX_do (i := 25) (by kernel_rfl) rfl (by rfl) (fun K hK => ?_)
      go_simp
      refine (flag_gave a0 cap0 a3 b w4 d4 (by omega)).mono ?_
      rintro e w5 ⟨A5, c5, rfl, hr5, _, hb5, _⟩
      generalize hL3 : b ++ [if a3 then 1 else 0] = L3 at hr5 ⊢
      have HL3 := Lib.hid hL3
      have hcv5 : ∀ w', Below w5.heap.size w5 w' → (convert 22 9 (.slice A5 L3.length c5)).run Try.prog w' = .ok (.string ⟨L3.toArray⟩) w' := fun w' h => conv_any A5 c5 _ L3 w' (hr5.below h)
      have hB5 := Lib.hid (below_trans hB4.out hb5)
      have d5 := d4.later hb5
      have x5 := x4.later hb5
      refine hK.out _ _ hb5 ?_
      clear hK K hL3 hr5 hb5 d4 x4 hB4 
      refine wpX_take (i := 26) (d := 49) (v := ?v26) rfl rfl (by kernel_rfl) (by kernel_rfl) (by kernel_rfl) (fun _ _ _ h => h) (by rfl) ?y26 ?r26
      case y26 => (intro w' hSw; go_simp; try (with_reducible rfl))
      simp only [Act.put, List.setIfInBounds_toArray, List.set_cons_zero, List.set_cons_succ]
      refine wpX_do (i := 29) (by kernel_rfl) rfl (by rfl) (fun K hK => ?_)
      go_simp
      refine (refFlag_any a3 w5).mono ?_
      rintro e w6 ⟨v6, rfl, ho6, hb6⟩
      obtain ⟨A6, c6, rfl, hr6, _, _⟩ := ho6.rd
      generalize hM3 : ([if a3 then 1 else 0] : List UInt8) = M3 at hr6 ⊢
      have HM3 := Lib.hid hM3
      have hcv6 : ∀ w', Below w6.heap.size w6 w' → (convert 22 9 (.slice A6 M3.length c6)).run Try.prog w' = .ok (.string ⟨M3.toArray⟩) w' := fun w' h => conv_any A6 c6 _ M3 w' (hr6.below h)
      have hB6 := Lib.hid (below_trans hB5.out hb6)
      have d6 := d5.later hb6
      have x6 := x5.later hb6
      have hccL3 : (⟨b.toArray⟩ : ByteArray) ++ ⟨M3.toArray⟩ = ⟨L3.toArray⟩ := by
        rw [← HL3.out, ← HM3.out]
        exact bytes_append _ _ _ (by simp)
      have hctL3 : ¬ 9223372036854775807 < b.length + M3.length := by
        rw [← HM3.out]
        simp; omega
      refine hK.out _ _ hb6 ?_
      clear hK K hM3 hr6 ho6 hb6 d5 x5 hB5 hcv5
      refine wpX_take (i := 30) (d := 53) (v := ?v30) rfl rfl (by kernel_rfl) (by kernel_rfl) (by kernel_rfl) (fun _ _ _ h => h) (by rfl) ?y30 ?r30
      case y30 => (intro w' hSw; go_simp; try (with_reducible rfl))
      simp only [Act.put, List.setIfInBounds_toArray, List.set_cons_zero, List.set_cons_succ]
      refine wpX_take (i := 31) (d := 54) (v := ?v31) rfl rfl (by kernel_rfl) (by kernel_rfl) (by kernel_rfl) (fun _ _ _ h => h) (by rfl) ?y31 ?r31
      case y31 => (intro w' hSw; go_simp; try (with_reducible rfl))
      simp only [Act.put, List.setIfInBounds_toArray, List.set_cons_zero, List.set_cons_succ]
      refine wpX_take (i := 32) (d := 55) (v := ?v32) rfl rfl (by kernel_rfl) (by kernel_rfl) (by kernel_rfl) (fun _ _ _ h => h) (by rfl) ?y32 ?r32
      case y32 => (intro w' hSw; go_simp; try (with_reducible rfl))
      simp only [Act.put, List.setIfInBounds_toArray, List.set_cons_zero, List.set_cons_succ]
      clear hcv6 hccL3 hctL3 HL3 HM3
      refine wpX_take (i := 33) (d := 56) (v := ?v33) rfl rfl (by kernel_rfl) (by kernel_rfl) (by kernel_rfl) (fun _ _ _ h => h) (by rfl) ?y33 ?r33
      case y33 => (intro w' hSw; go_simp; try (with_reducible rfl))
      simp only [Act.put, List.setIfInBounds_toArray, List.set_cons_zero, List.set_cons_succ]
      refine wpX_take (i := 34) (d := 57) (v := ?v34) rfl rfl (by kernel_rfl) (by kernel_rfl) (by kernel_rfl) (fun _ _ _ h => h) (by rfl) ?y34 ?r34
      case y34 => (intro w' hSw; go_simp; try (with_reducible rfl))
      simp only [Act.put, List.setIfInBounds_toArray, List.set_cons_zero, List.set_cons_succ]
      refine wpX_take (i := 35) (d := 58) (v := ?v35) rfl rfl (by kernel_rfl) (by kernel_rfl) (by kernel_rfl) (fun _ _ _ h => h) (by rfl) ?y35 ?r35
      case y35 => (intro w' hSw; go_simp; try (with_reducible rfl))
      simp only [Act.put, List.setIfInBounds_toArray, List.set_cons_zero, List.set_cons_succ]
      refine wpX_take (i := 36) (d := 59) (v := ?v36) rfl rfl (by kernel_rfl) (by kernel_rfl) (by kernel_rfl) (fun _ _ _ h => h) (by rfl) ?y36 ?r36
      case y36 => (intro w' hSw; go_simp; try (with_reducible rfl))
      simp only [Act.put, List.setIfInBounds_toArray, List.set_cons_zero, List.set_cons_succ]
      refine wpX_take (i := 39) (d := 62) (v := ?v39) rfl rfl (by kernel_rfl) (by kernel_rfl) (by kernel_rfl) (fun _ _ _ h => h) (by rfl) ?y39 ?r39
      case y39 => (intro w' hSw; go_simp; try (with_reducible rfl))
      simp only [Act.put, List.setIfInBounds_toArray, List.set_cons_zero, List.set_cons_succ]
      refine wpX_take (i := 40) (d := 63) (v := ?v40) rfl rfl (by kernel_rfl) (by kernel_rfl) (by kernel_rfl) (fun _ _ _ h => h) (by rfl) ?y40 ?r40
      case y40 => (intro w' hSw; go_simp; try (with_reducible rfl))
      simp only [Act.put, List.setIfInBounds_toArray, List.set_cons_zero, List.set_cons_succ]
      refine wpX_do (i := 37) (by kernel_rfl) rfl (by rfl) (fun K hK => ?_)
      go_simp
      refine (pad_any a0 cap0 a4 b w6 d6 (by omega)).mono ?_
      rintro e w7 ⟨A7, c7, rfl, hr7, _, hb7, _⟩
      generalize hL4 : b ++ zeros (padN b.length (unitOf a4)) = L4 at hr7 ⊢
      have HL4 := Lib.hid hL4
      have hcv7 : ∀ w', Below w7.heap.size w7 w' → (convert 22 9 (.slice A7 L4.length c7)).run Try.prog w' = .ok (.string ⟨L4.toArray⟩) w' := fun w' h => conv_any A7 c7 _ L4 w' (hr7.below h)
      have hB7 := Lib.hid (below_trans hB6.out hb7)
      have d7 := d6.later hb7
      have x7 := x6.later hb7
      refine hK.out _ _ hb7 ?_
      clear hK K hL4 hr7 hb7 d6 x6 hB6 
      refine wpX_take (i := 38) (d := 61) (v := ?v38) rfl rfl (by kernel_rfl) (by kernel_rfl) (by kernel_rfl) (fun _ _ _ h => h) (by rfl) ?y38 ?r38
      case y38 => (intro w' hSw; go_simp; try (with_reducible rfl))
      simp only [Act.put, List.setIfInBounds_toArray, List.set_cons_zero, List.set_cons_succ]
      refine wpX_do (i := 41) (by kernel_rfl) rfl (by rfl) (fun K hK => ?_)
      go_simp
      have hP := refPad_any a0 cap0 a4 b w7 d7 (by omega)
      rw [HL4.out] at hP
      refine (hP).mono ?_
      rintro e w8 ⟨v8, rfl, ho8, hb8⟩
      obtain ⟨A8, c8, rfl, hr8, _, _⟩ := ho8.rd
      have hcv8 : ∀ w', Below w8.heap.size w8 w' → (convert 22 9 (.slice A8 L4.length c8)).run Try.prog w' = .ok (.string ⟨L4.toArray⟩) w' := fun w' h => conv_any A8 c8 _ L4 w' (hr8.below h)
      have hB8 := Lib.hid (below_trans hB7.out hb8)
      have d8 := d7.later hb8
      have x8 := x7.later hb8
      refine hK.out _ _ hb8 ?_
      clear hK K hr8 ho8 hb8 d7 x7 hB7 hcv7
      refine wpX_take (i := 42) (d := 65) (v := ?v42) rfl rfl (by kernel_rfl) (by kernel_rfl) (by kernel_rfl) (fun _ _ _ h => h) (by rfl) ?y42 ?r42
      case y42 => (intro w' hSw; go_simp; try (with_reducible rfl))
      simp only [Act.put, List.setIfInBounds_toArray, List.set_cons_zero, List.set_cons_succ]
      refine wpX_take (i := 43) (d := 66) (v := ?v43) rfl rfl (by kernel_rfl) (by kernel_rfl) (by kernel_rfl) (fun _ _ _ h => h) (by rfl) ?y43 ?r43
      case y43 => (intro w' hSw; go_simp; try (with_reducible rfl))
      simp only [Act.put, List.setIfInBounds_toArray, List.set_cons_zero, List.set_cons_succ]
      clear hcv8 HL4 hP
      refine wpX_take (i := 44) (d := 67) (v := ?v44) rfl rfl (by kernel_rfl) (by kernel_rfl) (by kernel_rfl) (fun _ _ _ h => h) (by rfl) ?y44 ?r44
      case y44 => (intro w' hSw; go_simp; try (with_reducible rfl))
      simp only [Act.put, List.setIfInBounds_toArray, List.set_cons_zero, List.set_cons_succ]
      refine wpX_take (i := 45) (d := 68) (v := ?v45) rfl rfl (by kernel_rfl) (by kernel_rfl) (by kernel_rfl) (fun _ _ _ h => h) (by rfl) ?y45 ?r45
      case y45 => (intro w' hSw; go_simp; try (with_reducible rfl))
      simp only [Act.put, List.setIfInBounds_toArray, List.set_cons_zero, List.set_cons_succ]
      refine wpX_do (i := 46) (by kernel_rfl) rfl (by rfl) (fun K hK => ?_)
      go_simp
      refine (live_any w8).mono ?_
      rintro e w9 ⟨rfl, rfl⟩
      refine hK.out _ _ ((Below.refl _ _).alloc (Nat.le_refl _) _) ?_
      clear hK K
      refine wpX_take (i := 47) (d := 70) (v := ?v47) rfl rfl (by kernel_rfl) (by kernel_rfl) (by kernel_rfl) (fun _ _ _ h => h) (by rfl) ?y47 ?r47
      case y47 => (intro w' hSw; go_simp; try (with_reducible rfl))
      simp only [Act.put, List.setIfInBounds_toArray, List.set_cons_zero, List.set_cons_succ]
      refine wpX_take (i := 48) (d := 10) (v := ?v48) rfl rfl (by kernel_rfl) (by kernel_rfl) (by kernel_rfl) (fun _ _ _ h => h) (by rfl) ?y48 ?r48
      case y48 => (intro w' hSw; go_simp; try (with_reducible rfl))
      simp only [Act.put, List.setIfInBounds_toArray, List.set_cons_zero, List.set_cons_succ]
      refine wpX_done (by kernel_rfl) ?_
      go_wp2
      go_ret
      exact ⟨rfl, hB8.out.alloc hB8.out.size _⟩

/-! ### THE ROW's STEP: WRITTEN OUT: LEAVE IT -/
set_option maxRecDepth 100000 in
theorem lifted (os : Os) (started : os.Started) (H : Type) (enc : TypeId × Value → H) :
    ReturnsInHanded {} Try.checked os 3 .any (Rows.packPutsSpec.pre6 enc Try.prog Try.f3 Rows.packPutsRow.domain false) (Rows.packPutsSpec.post enc Try.prog Try.f3 false true false false) := by
  refine returnsInHanded_of_change (C := Try.checked) own started (by kernel_rfl) Try.func3
    (ChangeSpec.witness6 (enc := enc) (C := Try.checked) false ⟨#[], #[.slice none 0 0, .int .i64 0, .slice none 0 0, .bool false, .int .i64 0], []⟩ 8 (by kernel_rfl) (by kernel_rfl) (by kernel_rfl) (by kernel_rfl)) ?_
  intro W base args ds gs before hval0 hW hcnd _
  have hval : ∀ (j : Nat) t v, Try.f3.params[j]? = some t → args[j]? = some v → Value.okWide Try.prog W .any base t v := hval0
  have hW' := hW
  obtain ⟨p, q, hA0, hV, rfl, hfz, hnd⟩ := hW
  have hA : DataW.TrodAll enc Try.prog W 0 (fun _ => true) true Try.f3.params.toList args.toList ds p := hA0
  rw [Try.params3] at hA hval
  obtain ⟨v0, vs0, d0, ds0, p0, q0, hargs, rfl, rfl, h0, r0⟩ := trodAll_cons hA
  obtain ⟨v1, vs1, d1, ds1, p1, q1, rfl, rfl, rfl, h1, r1⟩ := trodAll_cons r0
  obtain ⟨v2, vs2, d2, ds2, p2, q2, rfl, rfl, rfl, h2, r2⟩ := trodAll_cons r1
  obtain ⟨v3, vs3, d3, ds3, p3, q3, rfl, rfl, rfl, h3, r3⟩ := trodAll_cons r2
  obtain ⟨v4, vs4, d4, ds4, p4, q4, rfl, rfl, rfl, h4, r4⟩ := trodAll_cons r3
  obtain ⟨rfl, rfl, rfl⟩ := trodAll_nil r4
  obtain rfl : args = #[v0, v1, v2, v3, v4] := by cases args; simp_all
  obtain ⟨rfl, rfl⟩ := trodVars_none hV
  obtain ⟨a0, len0, cap0, rfl⟩ := okWide_slice Try.underlying22 (hval 0 22 v0 rfl rfl)
  have k0 := h0
  have lt0 : ∀ x ∈ p0, x.block < W.heap.size := by obtain ⟨m, hm⟩ := k0; exact DataW.trod_lt m _ _ _ hm
  obtain ⟨w0, m0⟩ : IsBytes W a0 len0 ∧ len0 ≤ maxLen := by
    obtain ⟨fuel, hf⟩ := h0
    rcases open_ints Try.underlying22 Try.underlying5 (by kernel_rfl) hf with ⟨hcs, _⟩ | ⟨x, l, c, zs, hcs, _, hl, hm, hz, _, hcell, hwz⟩
    · simp [Value.cells] at hcs
      obtain ⟨rfl, rfl, rfl⟩ := hcs
      exact ⟨⟨[], rfl, Rd.nil⟩, Nat.zero_le _⟩
    · simp [Value.cells] at hcs
      obtain ⟨rfl, rfl, rfl⟩ := hcs
      exact ⟨rd_of_ints hl (by simpa using hz) hcell hwz, Nat.le_trans hl hm⟩
  obtain ⟨a1, rfl, rfl, rfl, w1⟩ := open_int Try.underlying3 (hval 1 3 v1 rfl rfl) h1
  obtain ⟨a2, len2, cap2, rfl⟩ := okWide_slice Try.underlying22 (hval 2 22 v2 rfl rfl)
  have k2 := h2
  have lt2 : ∀ x ∈ p2, x.block < W.heap.size := by obtain ⟨m, hm⟩ := k2; exact DataW.trod_lt m _ _ _ hm
  obtain ⟨w2, m2⟩ : IsBytes W a2 len2 ∧ len2 ≤ maxLen := by
    obtain ⟨fuel, hf⟩ := h2
    rcases open_ints Try.underlying22 Try.underlying5 (by kernel_rfl) hf with ⟨hcs, _⟩ | ⟨x, l, c, zs, hcs, _, hl, hm, hz, _, hcell, hwz⟩
    · simp [Value.cells] at hcs
      obtain ⟨rfl, rfl, rfl⟩ := hcs
      exact ⟨⟨[], rfl, Rd.nil⟩, Nat.zero_le _⟩
    · simp [Value.cells] at hcs
      obtain ⟨rfl, rfl, rfl⟩ := hcs
      exact ⟨rd_of_ints hl (by simpa using hz) hcell hwz, Nat.le_trans hl hm⟩
  obtain ⟨a3, rfl, rfl, rfl⟩ := open_bool Try.underlying4 (hval 3 4 v3 rfl rfl) h3
  obtain ⟨a4, rfl, rfl, rfl, w4⟩ := open_int Try.underlying3 (hval 4 3 v4 rfl rfl) h4
  clear hA0 hval0
  refine (walk a0 len0 cap0 a1 a2 len2 cap2 a3 a4 W w0 m0 w2 m2).mono fun e W' ⟨he, bel⟩ => ?_
  subst he
  exact ⟨_, rfl, _, _, _, [], _, [], hW', trodAll_mk1 (shut_bool Try.underlying4 _), (trodAll_cons_mk (Below.trod laidOut (by kernel_rfl) (of_decide_eq_true (by kernel_rfl)) k0 bel lt0) (trodAll_cons_mk (shut_int Try.underlying3 w1) (trodAll_cons_mk (Below.trod laidOut (by kernel_rfl) (of_decide_eq_true (by kernel_rfl)) k2 bel lt2) (trodAll_cons_mk (shut_bool Try.underlying4 _) (trodAll_cons_mk (shut_int Try.underlying3 w4) trodAll_mk0))))), rfl, bel.frame _, fun h => by cases h⟩

theorem over : Rows.packPutsRow.holds Try.pinned (OpenSpec.ofChange Rows.packPutsSpec) :=
  OpenClaim.holds_of_wide 3 Try.f3 rfl rfl rfl rfl rfl rfl rfl ⟨rfl, rfl, rfl, rfl, rfl⟩ rfl rfl rfl rfl rfl (by kernel_rfl) Try.func3 (by kernel_rfl)
    (of_decide_eq_true (by kernel_rfl)) (by unfold Func.isWrapper; first | (rw [if_pos (by decide +kernel)]; kernel_rfl) | (rw [if_neg (by decide +kernel)]; exact ⟨rfl, rfl⟩))
    (fun os started H enc _ => lifted os started H enc)

end Go.Proofs.Ytolabagnoieofaa.packPuts

namespace Go.Proofs.Ytolabagnoieofaa
theorem packPuts_holds : Rows.PackPutsSaid := packPuts.over
#print axioms packPuts_holds
end Go.Proofs.Ytolabagnoieofaa
