/- For every b, size and n the law XorParts returns true, and each of them reads behind the call as it read before: the walk. -/
import Derived.Test.YtkjdinlebpkimaaU
namespace Go.Proofs.Ytkjdinlebpkimaa
set_option linter.unusedVariables false
set_option linter.unusedSimpArgs false
open Go.RowKit
open Go.RowKit (wrap64)

theorem rsplit_gave (A : Option Addr) (c : Nat) (sz : Int) (b : List UInt8) (w : World) (hr : Rd w w.heap.size A b) (hl : b.length ≤ 100000) (hs1 : -9223372036854775808 ≤ sz) (hs2 : sz ≤ 9223372036854775807) :
    Calls Try.prog 16 #[.slice A b.length c, .int .i64 sz] w (GaveP w (splitL b sz)) := by
  unfold splitL
  by_cases h0 : b.length = 0
  · rw [if_pos h0, h0]
    clear hr
    go_enter Try.func16, Try.ntmps16
    go_wp2
    go_loop [5, 6] (fun v i => v = .slice none 0 0 ∧ i = .int .i64 0) (fun _ _ => 0)
    case atStart => exact ⟨rfl, rfl⟩
    case round =>
      obtain ⟨rfl, rfl⟩ := hrel
      go_wp2
      go_ret
      exact ⟨none, 0, rfl, fun h => by simp at h, Below.refl _ _⟩
  · rw [if_neg h0]
    unfold eff
    by_cases h1 : sz < 1
    · rw [if_pos h1]
      exact rsplit_mid A c b.length sz b w hr hl (by omega) (by omega) hs1 hs2 (.inl ⟨h1, rfl⟩)
    · rw [if_neg h1]
      exact rsplit_mid A c sz.toNat sz b w hr hl (by omega) (by omega) hs1 hs2 (.inr ⟨by omega, by omega⟩)
theorem splitL_len (b : List UInt8) (sz : Int) (h : b.length ≤ 100000) : (splitL b sz).length ≤ 1000000 := by
  unfold splitL
  split
  · simp
  · rw [full_length]
    have := Nat.div_le_self (b.length - 1) (eff sz b.length)
    omega
theorem rfit_of (A : Option Addr) (c n : Nat) (ni : Int) (l : List UInt8) (w : World) (hr : Rd w w.heap.size A l) (hl : l.length ≤ 100000) (hn : n ≤ 100000) (hni : ni = (n : Int)) :
    Calls Try.prog 13 #[.slice A l.length c, .int .i64 ni] w (Gave w (fitL l n)) := by
  subst hni
  exact rfit_gave A c n l w hr hl hn
theorem zero_more {l : List UInt8} {k : Nat} (h : k < l.length) : zeroL (l.take (k + 1)) = (zeroL (l.take k) && (l[k] == 0)) := by
  unfold zeroL
  rw [List.take_succ_eq_append_getElem h, List.all_append]
  simp

namespace xorParts
set_option maxRecDepth 100000 in
set_option maxHeartbeats 4000000 in
theorem walk (a0 : Option Addr) (cap0 : Nat) (sz ni : Int) (b : List UInt8) (w : World) (hr : Rd w w.heap.size a0 b) (hc : b.length ≤ cap0) (hcm : cap0 ≤ 140737488351232) (hs1 : -9223372036854775808 ≤ sz) (hs2 : sz ≤ 9223372036854775807) (hn1 : -32768 ≤ ni) (hn2 : ni ≤ 32767) :
    Calls Try.prog 5 #[.slice a0 b.length cap0, .int .i64 sz, .int .i16 ni] w fun e w' => e = .returned (.bool true) ∧ Below w.heap.size w w' := by
  have dw := Lib.hid hr
  clear hr
  by_cases h5 : 500 < b.length
  · go_enter Try.func5, Try.ntmps5
    go_wp2_with (go_at_call 7; refine (live_any _).mono ?_; rintro e w' ⟨rfl, hb⟩)
    go_ret
    exact ⟨rfl, hb⟩
  · have hl5 : b.length ≤ 500 := by omega
    obtain ⟨M, hM⟩ : ∃ M : Nat, M = ni.toNat := ⟨_, rfl⟩
    have hM2 : M ≤ 32767 := by omega
    by_cases hneg : ni < 0
    · have hmi : Hid ((0 : Int) = (M : Int)) := by show (0 : Int) = (M : Int); omega
      have hM := Lib.hid hM
      clear h5
      go_enter Try.func5, Try.ntmps5
      go_wp2
      go_loop [8, 9] (fun z i => ∃ k : Nat, k ≤ b.length ∧ i = .int .i64 k ∧ z = .bool (zeroL (b.take k))) (fun _ i => b.length - (intOf i).toNat)
      case atStart => exact ⟨0, by omega, rfl, rfl⟩
      case round =>
        obtain ⟨k, hk, rfl, rfl⟩ := hrel
        by_cases hlt : k < b.length
        · obtain ⟨bb, off, rfl, hbb, hcc⟩ := dw.out.at_ (by omega)
          have hck := hcc k hlt
          have HZ := Lib.hid (zero_more hlt)
          clear hcc
          cases hz : zeroL (b.take k)
          · rw [hz] at HZ
            clear hz
            go_wp2
            go_round
            case rel => exact ⟨k + 1, by omega, by go_num, by rw [HZ.out]; rfl⟩
            case measure => simp [intOf]; omega
          · rw [hz] at HZ
            clear hz
            have hb0 : ((b[k].toNat : Int) == 0) = (b[k] == 0) := by
              rw [Bool.eq_iff_iff]
              simp only [beq_iff_eq]
              refine ⟨fun h => UInt8.toNat_inj.1 (by simpa using h), fun h => by rw [h]; rfl⟩
            have HB := Lib.hid hb0
            clear hb0
            go_wp2
            go_round
            case rel => exact ⟨k + 1, by omega, by go_num, by rw [HZ.out, ← HB.out]; rfl⟩
            case measure => simp [intOf]; omega
        · obtain rfl : k = b.length := by omega
          rw [List.take_length]
          go_upto_region 11 with fail
          refine wpB_start w.heap.size (by kernel_rfl) ?_
          have dx0 : Hid (Rd w.drew w.drew.heap.size a0 b) := dw.out
          have hB0 : Hid (Below w.heap.size w w.drew) := (Below.refl _ _).drew
          have hS : w.heap.size = w.drew.heap.size := rfl
          rw [hS]
          clear dw hS
          generalize w.drew = w0 at dx0 hB0 ⊢
          refine wpB_take (i := 0) (d := 32) (v := ?v11nx0) rfl rfl (by kernel_rfl) (by kernel_rfl) (by kernel_rfl) (fun _ _ _ h => h) (by rfl) ?y11nx0 ?r11nx0
          case y11nx0 => (intro w' hSw; go_simp; try (with_reducible rfl))
          simp only [Act.put, List.setIfInBounds_toArray, List.set_cons_zero, List.set_cons_succ]
          refine wpB_take (i := 1) (d := 33) (v := ?v11nx1) rfl rfl (by kernel_rfl) (by kernel_rfl) (by kernel_rfl) (fun _ _ _ h => h) (by rfl) ?y11nx1 ?r11nx1
          case y11nx1 => (intro w' hSw; go_simp; try (with_reducible rfl))
          simp only [Act.put, List.setIfInBounds_toArray, List.set_cons_zero, List.set_cons_succ]
          refine wpB_take (i := 3) (d := 35) (v := ?v11nx3) rfl rfl (by kernel_rfl) (by kernel_rfl) (by kernel_rfl) (fun _ _ _ h => h) (by rfl) ?y11nx3 ?r11nx3
          case y11nx3 => (intro w' hSw; go_simp; try (with_reducible rfl))
          simp only [Act.put, List.setIfInBounds_toArray, List.set_cons_zero, List.set_cons_succ]
          refine wpB_take (i := 4) (d := 36) (v := ?v11nx4) rfl rfl (by kernel_rfl) (by kernel_rfl) (by kernel_rfl) (fun _ _ _ h => h) (by rfl) ?y11nx4 ?r11nx4
          case y11nx4 => (intro w' hSw; go_simp; try (with_reducible rfl))
          simp only [Act.put, List.setIfInBounds_toArray, List.set_cons_zero, List.set_cons_succ]
          refine wpB_do (i := 2) (by kernel_rfl) rfl (by rfl) (fun K hK => ?_)
          go_simp
          refine (split_gave a0 cap0 sz b w0 dx0.out hc hcm (by omega) hs2).mono ?_
          rintro e w1 ⟨A1, c1, rfl, hp1, hb1⟩
          generalize hP : splitL b sz = P at hp1 ⊢
          have HP := Lib.hid hP
          clear hP
          have hB1 := Lib.hid (hB0.out.trans (hb1.mono hB0.out.size))
          have dx1 := Lib.hid (dx0.out.later hb1)
          have dp1 := Lib.hid hp1
          refine hK.out _ _ _ hb1.size hb1 ?_
          clear hK K hp1 hb1 hB0 dx0
          refine wpB_do (i := 5) (by kernel_rfl) rfl (by rfl) (fun K hK => ?_)
          go_simp
          refine (rsplit_gave a0 cap0 sz b w1 dx1.out (by omega) hs1 hs2).mono ?_
          rintro e w2 ⟨A2, c2, rfl, hp2, hb2⟩
          rw [HP.out] at hp2 ⊢
          have hB2 := Lib.hid (hB1.out.trans (hb2.mono hB1.out.size))
          have dx2 := Lib.hid (dx1.out.later hb2)
          have dp2 := Lib.hid (dp1.out.later hb2)
          have dq2 := Lib.hid hp2
          have hPl : P.length ≤ 1000000 := by rw [← HP.out]; exact splitL_len b sz (by omega)
          refine hK.out _ _ _ hb2.size hb2 ?_
          clear hK K hp2 hb2 hB1 dx1 dp1 HP
          refine wpB_do (i := 6) (by kernel_rfl) rfl (by rfl) (fun K hK => ?_)
          go_simp
          refine (same_any A1 A2 c1 c2 P w2 dp2.out dq2.out hPl).mono ?_
          rintro e w3 ⟨rfl, hb3⟩
          have hB3 := Lib.hid (hB2.out.trans (hb3.mono hB2.out.size))
          have dx3 := Lib.hid (dx2.out.later hb3)
          refine hK.out _ _ _ hb3.size hb3 ?_
          clear hK K hb3 hB2 dx2 dp2 dq2 hPl
          refine wpB_take (i := 7) (d := 39) (v := ?v11nx7) rfl rfl (by kernel_rfl) (by kernel_rfl) (by kernel_rfl) (fun _ _ _ h => h) (by rfl) ?y11nx7 ?r11nx7
          case y11nx7 => (intro w' hSw; go_simp; try (with_reducible rfl))
          simp only [Act.put, List.setIfInBounds_toArray, List.set_cons_zero, List.set_cons_succ]
          refine wpB_take (i := 8) (d := 40) (v := ?v11nx8) rfl rfl (by kernel_rfl) (by kernel_rfl) (by kernel_rfl) (fun _ _ _ h => h) (by rfl) ?y11nx8 ?r11nx8
          case y11nx8 => (intro w' hSw; go_simp; try (with_reducible rfl))
          simp only [Act.put, List.setIfInBounds_toArray, List.set_cons_zero, List.set_cons_succ]
          refine wpB_take (i := 9) (d := 41) (v := ?v11nx9) rfl rfl (by kernel_rfl) (by kernel_rfl) (by kernel_rfl) (fun _ _ _ h => h) (by rfl) ?y11nx9 ?r11nx9
          case y11nx9 => (intro w' hSw; go_simp; try (with_reducible rfl))
          simp only [Act.put, List.setIfInBounds_toArray, List.set_cons_zero, List.set_cons_succ]
          have hwn : IntKind.i64.wrap ni = ni := by rw [IntKind.wrap_i64]; omega
          refine wpB_take (i := 10) (d := 42) (v := ?v11nx10) rfl rfl (by kernel_rfl) (by kernel_rfl) (by kernel_rfl) (fun _ _ _ h => h) (by rfl) ?y11nx10 ?r11nx10
          case y11nx10 => (intro w' hSw; go_simp; try (with_reducible rfl))
          simp only [Act.put, List.setIfInBounds_toArray, List.set_cons_zero, List.set_cons_succ]
          clear hwn
          refine wpB_take (i := 13) (d := 45) (v := ?v11nx13) rfl rfl (by kernel_rfl) (by kernel_rfl) (by kernel_rfl) (fun _ _ _ h => h) (by rfl) ?y11nx13 ?r11nx13
          case y11nx13 => (intro w' hSw; go_simp; try (with_reducible rfl))
          simp only [Act.put, List.setIfInBounds_toArray, List.set_cons_zero, List.set_cons_succ]
          refine wpB_take (i := 14) (d := 46) (v := ?v11nx14) rfl rfl (by kernel_rfl) (by kernel_rfl) (by kernel_rfl) (fun _ _ _ h => h) (by rfl) ?y11nx14 ?r11nx14
          case y11nx14 => (intro w' hSw; go_simp; try (with_reducible rfl))
          simp only [Act.put, List.setIfInBounds_toArray, List.set_cons_zero, List.set_cons_succ]
          refine wpB_do (i := 11) (by kernel_rfl) rfl (by rfl) (fun K hK => ?_)
          go_simp
          refine (fit_gave a0 cap0 ni M b w3 dx3.out hM.out (by omega)).mono ?_
          rintro e w4 ⟨A4, c4, rfl, hr4, hb4⟩
          generalize hF : fitL b M = F at hr4 ⊢
          have HF := Lib.hid hF
          clear hF
          have hcv4 : ∀ w', Below w4.heap.size w4 w' → (convert 23 9 (.slice A4 F.length c4)).run Try.prog w' = .ok (.string ⟨F.toArray⟩) w' := fun w' h => conv_any A4 c4 _ F w' (hr4.below h)
          have hB4 := Lib.hid (hB3.out.trans (hb4.mono hB3.out.size))
          have dx4 := Lib.hid (dx3.out.later hb4)
          refine hK.out _ _ _ hb4.size hb4 ?_
          clear hK K hr4 hb4 hB3 dx3
          refine wpB_take (i := 12) (d := 44) (v := ?v11nx12) rfl rfl (by kernel_rfl) (by kernel_rfl) (by kernel_rfl) (fun _ _ _ h => h) (by rfl) ?y11nx12 ?r11nx12
          case y11nx12 => (intro w' hSw; go_simp; try (with_reducible rfl))
          simp only [Act.put, List.setIfInBounds_toArray, List.set_cons_zero, List.set_cons_succ]
          clear hcv4
          refine wpB_do (i := 15) (by kernel_rfl) rfl (by rfl) (fun K hK => ?_)
          go_simp
          refine (rfit_of a0 cap0 M _ b w4 dx4.out (by omega) (by omega) hmi.out).mono ?_
          rintro e w5 ⟨A5, c5, rfl, hr5, hb5⟩
          rw [HF.out] at hr5 ⊢
          have hcv5 : ∀ w', Below w5.heap.size w5 w' → (convert 23 9 (.slice A5 F.length c5)).run Try.prog w' = .ok (.string ⟨F.toArray⟩) w' := fun w' h => conv_any A5 c5 _ F w' (hr5.below h)
          have hB5 := Lib.hid (hB4.out.trans (hb5.mono hB4.out.size))
          have dx5 := Lib.hid (dx4.out.later hb5)
          refine hK.out _ _ _ hb5.size hb5 ?_
          clear hK K hr5 hb5 hB4 dx4 HF
          refine wpB_take (i := 16) (d := 48) (v := ?v11nx16) rfl rfl (by kernel_rfl) (by kernel_rfl) (by kernel_rfl) (fun _ _ _ h => h) (by rfl) ?y11nx16 ?r11nx16
          case y11nx16 => (intro w' hSw; go_simp; try (with_reducible rfl))
          simp only [Act.put, List.setIfInBounds_toArray, List.set_cons_zero, List.set_cons_succ]
          clear hcv5
          refine wpB_take (i := 17) (d := 49) (v := ?v11nx17) rfl rfl (by kernel_rfl) (by kernel_rfl) (by kernel_rfl) (fun _ _ _ h => h) (by rfl) ?y11nx17 ?r11nx17
          case y11nx17 => (intro w' hSw; go_simp; try (with_reducible rfl))
          simp only [Act.put, List.setIfInBounds_toArray, List.set_cons_zero, List.set_cons_succ]
          refine wpB_take (i := 18) (d := 50) (v := ?v11nx18) rfl rfl (by kernel_rfl) (by kernel_rfl) (by kernel_rfl) (fun _ _ _ h => h) (by rfl) ?y11nx18 ?r11nx18
          case y11nx18 => (intro w' hSw; go_simp; try (with_reducible rfl))
          simp only [Act.put, List.setIfInBounds_toArray, List.set_cons_zero, List.set_cons_succ]
          refine wpB_take (i := 19) (d := 51) (v := ?v11nx19) rfl rfl (by kernel_rfl) (by kernel_rfl) (by kernel_rfl) (fun _ _ _ h => h) (by rfl) ?y11nx19 ?r11nx19
          case y11nx19 => (intro w' hSw; go_simp; try (with_reducible rfl))
          simp only [Act.put, List.setIfInBounds_toArray, List.set_cons_zero, List.set_cons_succ]
          refine wpB_take (i := 20) (d := 52) (v := ?v11nx20) rfl rfl (by kernel_rfl) (by kernel_rfl) (by kernel_rfl) (fun _ _ _ h => h) (by rfl) ?y11nx20 ?r11nx20
          case y11nx20 => (intro w' hSw; go_simp; try (with_reducible rfl))
          simp only [Act.put, List.setIfInBounds_toArray, List.set_cons_zero, List.set_cons_succ]
          refine wpB_take (i := 22) (d := 54) (v := ?v11nx22) rfl rfl (by kernel_rfl) (by kernel_rfl) (by kernel_rfl) (fun _ _ _ h => h) (by rfl) ?y11nx22 ?r11nx22
          case y11nx22 => (intro w' hSw; go_simp; try (with_reducible rfl))
          simp only [Act.put, List.setIfInBounds_toArray, List.set_cons_zero, List.set_cons_succ]
          refine wpB_do (i := 21) (by kernel_rfl) rfl (by rfl) (fun K hK => ?_)
          go_simp
          refine (zero_any a0 cap0 _ b w5 dx5.out (by omega)).mono ?_
          rintro e w6 ⟨rfl, rfl⟩
          refine hK.out _ _ _ (Nat.le_refl _) (Below.refl _ _) ?_
          clear hK K dx5
          generalize zeroL b = zb
          refine wpB_take (i := 23) (d := 55) (v := ?v11nx23) rfl rfl (by kernel_rfl) (by kernel_rfl) (by kernel_rfl) (fun _ _ _ h => h) (by rfl) ?y11nx23 ?r11nx23
          case y11nx23 => (intro w' hSw; go_simp; try (with_reducible rfl))
          simp only [Act.put, List.setIfInBounds_toArray, List.set_cons_zero, List.set_cons_succ]
          refine wpB_take (i := 24) (d := 56) (v := ?v11nx24) rfl rfl (by kernel_rfl) (by kernel_rfl) (by kernel_rfl) (fun _ _ _ h => h) (by rfl) ?y11nx24 ?r11nx24
          case y11nx24 => (intro w' hSw; go_simp; try (with_reducible rfl))
          simp only [Act.put, List.setIfInBounds_toArray, List.set_cons_zero, List.set_cons_succ]
          refine wpB_take (i := 25) (d := 57) (v := ?v11nx25) rfl rfl (by kernel_rfl) (by kernel_rfl) (by kernel_rfl) (fun _ _ _ h => h) (by rfl) ?y11nx25 ?r11nx25
          case y11nx25 => (intro w' hSw; go_simp; try (with_reducible rfl))
          simp only [Act.put, List.setIfInBounds_toArray, List.set_cons_zero, List.set_cons_succ]
          refine wpB_do (i := 26) (by kernel_rfl) rfl (by rfl) (fun K hK => ?_)
          go_simp
          refine (live_any w5).mono ?_
          rintro e w7 ⟨rfl, hb7⟩
          have hB7 := Lib.hid (hB5.out.trans (hb7.mono hB5.out.size))
          refine hK.out _ _ _ hb7.size hb7 ?_
          clear hK K hb7 hB5
          refine wpB_take (i := 27) (d := 59) (v := ?v11nx27) rfl rfl (by kernel_rfl) (by kernel_rfl) (by kernel_rfl) (fun _ _ _ h => h) (by rfl) ?y11nx27 ?r11nx27
          case y11nx27 => (intro w' hSw; go_simp; try (with_reducible rfl))
          simp only [Act.put, List.setIfInBounds_toArray, List.set_cons_zero, List.set_cons_succ]
          refine wpB_take (i := 28) (d := 6) (v := ?v11nx28) rfl rfl (by kernel_rfl) (by kernel_rfl) (by kernel_rfl) (fun _ _ _ h => h) (by rfl) ?y11nx28 ?r11nx28
          case y11nx28 => (intro w' hSw; go_simp; try (with_reducible rfl))
          simp only [Act.put, List.setIfInBounds_toArray, List.set_cons_zero, List.set_cons_succ]
          refine wpB_done (by kernel_rfl) ?_
          go_wp2
          go_ret
          exact ⟨rfl, hB7.out⟩
    · have hmi : Hid (ni = (M : Int)) := by show ni = (M : Int); omega
      have hM := Lib.hid hM
      clear h5
      go_enter Try.func5, Try.ntmps5
      go_wp2
      go_loop [8, 9] (fun z i => ∃ k : Nat, k ≤ b.length ∧ i = .int .i64 k ∧ z = .bool (zeroL (b.take k))) (fun _ i => b.length - (intOf i).toNat)
      case atStart => exact ⟨0, by omega, rfl, rfl⟩
      case round =>
        obtain ⟨k, hk, rfl, rfl⟩ := hrel
        by_cases hlt : k < b.length
        · obtain ⟨bb, off, rfl, hbb, hcc⟩ := dw.out.at_ (by omega)
          have hck := hcc k hlt
          have HZ := Lib.hid (zero_more hlt)
          clear hcc
          cases hz : zeroL (b.take k)
          · rw [hz] at HZ
            clear hz
            go_wp2
            go_round
            case rel => exact ⟨k + 1, by omega, by go_num, by rw [HZ.out]; rfl⟩
            case measure => simp [intOf]; omega
          · rw [hz] at HZ
            clear hz
            have hb0 : ((b[k].toNat : Int) == 0) = (b[k] == 0) := by
              rw [Bool.eq_iff_iff]
              simp only [beq_iff_eq]
              refine ⟨fun h => UInt8.toNat_inj.1 (by simpa using h), fun h => by rw [h]; rfl⟩
            have HB := Lib.hid hb0
            clear hb0
            go_wp2
            go_round
            case rel => exact ⟨k + 1, by omega, by go_num, by rw [HZ.out, ← HB.out]; rfl⟩
            case measure => simp [intOf]; omega
        · obtain rfl : k = b.length := by omega
          rw [List.take_length]
          go_upto_region 11 with fail
          refine wpB_start w.heap.size (by kernel_rfl) ?_
          have dx0 : Hid (Rd w.drew w.drew.heap.size a0 b) := dw.out
          have hB0 : Hid (Below w.heap.size w w.drew) := (Below.refl _ _).drew
          have hS : w.heap.size = w.drew.heap.size := rfl
          rw [hS]
          clear dw hS
          generalize w.drew = w0 at dx0 hB0 ⊢
          refine wpB_take (i := 0) (d := 32) (v := ?v11px0) rfl rfl (by kernel_rfl) (by kernel_rfl) (by kernel_rfl) (fun _ _ _ h => h) (by rfl) ?y11px0 ?r11px0
          case y11px0 => (intro w' hSw; go_simp; try (with_reducible rfl))
          simp only [Act.put, List.setIfInBounds_toArray, List.set_cons_zero, List.set_cons_succ]
          refine wpB_take (i := 1) (d := 33) (v := ?v11px1) rfl rfl (by kernel_rfl) (by kernel_rfl) (by kernel_rfl) (fun _ _ _ h => h) (by rfl) ?y11px1 ?r11px1
          case y11px1 => (intro w' hSw; go_simp; try (with_reducible rfl))
          simp only [Act.put, List.setIfInBounds_toArray, List.set_cons_zero, List.set_cons_succ]
          refine wpB_take (i := 3) (d := 35) (v := ?v11px3) rfl rfl (by kernel_rfl) (by kernel_rfl) (by kernel_rfl) (fun _ _ _ h => h) (by rfl) ?y11px3 ?r11px3
          case y11px3 => (intro w' hSw; go_simp; try (with_reducible rfl))
          simp only [Act.put, List.setIfInBounds_toArray, List.set_cons_zero, List.set_cons_succ]
          refine wpB_take (i := 4) (d := 36) (v := ?v11px4) rfl rfl (by kernel_rfl) (by kernel_rfl) (by kernel_rfl) (fun _ _ _ h => h) (by rfl) ?y11px4 ?r11px4
          case y11px4 => (intro w' hSw; go_simp; try (with_reducible rfl))
          simp only [Act.put, List.setIfInBounds_toArray, List.set_cons_zero, List.set_cons_succ]
          refine wpB_do (i := 2) (by kernel_rfl) rfl (by rfl) (fun K hK => ?_)
          go_simp
          refine (split_gave a0 cap0 sz b w0 dx0.out hc hcm (by omega) hs2).mono ?_
          rintro e w1 ⟨A1, c1, rfl, hp1, hb1⟩
          generalize hP : splitL b sz = P at hp1 ⊢
          have HP := Lib.hid hP
          clear hP
          have hB1 := Lib.hid (hB0.out.trans (hb1.mono hB0.out.size))
          have dx1 := Lib.hid (dx0.out.later hb1)
          have dp1 := Lib.hid hp1
          refine hK.out _ _ _ hb1.size hb1 ?_
          clear hK K hp1 hb1 hB0 dx0
          refine wpB_do (i := 5) (by kernel_rfl) rfl (by rfl) (fun K hK => ?_)
          go_simp
          refine (rsplit_gave a0 cap0 sz b w1 dx1.out (by omega) hs1 hs2).mono ?_
          rintro e w2 ⟨A2, c2, rfl, hp2, hb2⟩
          rw [HP.out] at hp2 ⊢
          have hB2 := Lib.hid (hB1.out.trans (hb2.mono hB1.out.size))
          have dx2 := Lib.hid (dx1.out.later hb2)
          have dp2 := Lib.hid (dp1.out.later hb2)
          have dq2 := Lib.hid hp2
          have hPl : P.length ≤ 1000000 := by rw [← HP.out]; exact splitL_len b sz (by omega)
          refine hK.out _ _ _ hb2.size hb2 ?_
          clear hK K hp2 hb2 hB1 dx1 dp1 HP
          refine wpB_do (i := 6) (by kernel_rfl) rfl (by rfl) (fun K hK => ?_)
          go_simp
          refine (same_any A1 A2 c1 c2 P w2 dp2.out dq2.out hPl).mono ?_
          rintro e w3 ⟨rfl, hb3⟩
          have hB3 := Lib.hid (hB2.out.trans (hb3.mono hB2.out.size))
          have dx3 := Lib.hid (dx2.out.later hb3)
          refine hK.out _ _ _ hb3.size hb3 ?_
          clear hK K hb3 hB2 dx2 dp2 dq2 hPl
          refine wpB_take (i := 7) (d := 39) (v := ?v11px7) rfl rfl (by kernel_rfl) (by kernel_rfl) (by kernel_rfl) (fun _ _ _ h => h) (by rfl) ?y11px7 ?r11px7
          case y11px7 => (intro w' hSw; go_simp; try (with_reducible rfl))
          simp only [Act.put, List.setIfInBounds_toArray, List.set_cons_zero, List.set_cons_succ]
          refine wpB_take (i := 8) (d := 40) (v := ?v11px8) rfl rfl (by kernel_rfl) (by kernel_rfl) (by kernel_rfl) (fun _ _ _ h => h) (by rfl) ?y11px8 ?r11px8
          case y11px8 => (intro w' hSw; go_simp; try (with_reducible rfl))
          simp only [Act.put, List.setIfInBounds_toArray, List.set_cons_zero, List.set_cons_succ]
          refine wpB_take (i := 9) (d := 41) (v := ?v11px9) rfl rfl (by kernel_rfl) (by kernel_rfl) (by kernel_rfl) (fun _ _ _ h => h) (by rfl) ?y11px9 ?r11px9
          case y11px9 => (intro w' hSw; go_simp; try (with_reducible rfl))
          simp only [Act.put, List.setIfInBounds_toArray, List.set_cons_zero, List.set_cons_succ]
          have hwn : IntKind.i64.wrap ni = ni := by rw [IntKind.wrap_i64]; omega
          refine wpB_take (i := 10) (d := 42) (v := ?v11px10) rfl rfl (by kernel_rfl) (by kernel_rfl) (by kernel_rfl) (fun _ _ _ h => h) (by rfl) ?y11px10 ?r11px10
          case y11px10 => (intro w' hSw; go_simp; try (with_reducible rfl))
          simp only [Act.put, List.setIfInBounds_toArray, List.set_cons_zero, List.set_cons_succ]
          clear hwn
          refine wpB_take (i := 13) (d := 45) (v := ?v11px13) rfl rfl (by kernel_rfl) (by kernel_rfl) (by kernel_rfl) (fun _ _ _ h => h) (by rfl) ?y11px13 ?r11px13
          case y11px13 => (intro w' hSw; go_simp; try (with_reducible rfl))
          simp only [Act.put, List.setIfInBounds_toArray, List.set_cons_zero, List.set_cons_succ]
          refine wpB_take (i := 14) (d := 46) (v := ?v11px14) rfl rfl (by kernel_rfl) (by kernel_rfl) (by kernel_rfl) (fun _ _ _ h => h) (by rfl) ?y11px14 ?r11px14
          case y11px14 => (intro w' hSw; go_simp; try (with_reducible rfl))
          simp only [Act.put, List.setIfInBounds_toArray, List.set_cons_zero, List.set_cons_succ]
          refine wpB_do (i := 11) (by kernel_rfl) rfl (by rfl) (fun K hK => ?_)
          go_simp
          refine (fit_gave a0 cap0 ni M b w3 dx3.out hM.out (by omega)).mono ?_
          rintro e w4 ⟨A4, c4, rfl, hr4, hb4⟩
          generalize hF : fitL b M = F at hr4 ⊢
          have HF := Lib.hid hF
          clear hF
          have hcv4 : ∀ w', Below w4.heap.size w4 w' → (convert 23 9 (.slice A4 F.length c4)).run Try.prog w' = .ok (.string ⟨F.toArray⟩) w' := fun w' h => conv_any A4 c4 _ F w' (hr4.below h)
          have hB4 := Lib.hid (hB3.out.trans (hb4.mono hB3.out.size))
          have dx4 := Lib.hid (dx3.out.later hb4)
          refine hK.out _ _ _ hb4.size hb4 ?_
          clear hK K hr4 hb4 hB3 dx3
          refine wpB_take (i := 12) (d := 44) (v := ?v11px12) rfl rfl (by kernel_rfl) (by kernel_rfl) (by kernel_rfl) (fun _ _ _ h => h) (by rfl) ?y11px12 ?r11px12
          case y11px12 => (intro w' hSw; go_simp; try (with_reducible rfl))
          simp only [Act.put, List.setIfInBounds_toArray, List.set_cons_zero, List.set_cons_succ]
          clear hcv4
          refine wpB_do (i := 15) (by kernel_rfl) rfl (by rfl) (fun K hK => ?_)
          go_simp
          refine (rfit_of a0 cap0 M _ b w4 dx4.out (by omega) (by omega) hmi.out).mono ?_
          rintro e w5 ⟨A5, c5, rfl, hr5, hb5⟩
          rw [HF.out] at hr5 ⊢
          have hcv5 : ∀ w', Below w5.heap.size w5 w' → (convert 23 9 (.slice A5 F.length c5)).run Try.prog w' = .ok (.string ⟨F.toArray⟩) w' := fun w' h => conv_any A5 c5 _ F w' (hr5.below h)
          have hB5 := Lib.hid (hB4.out.trans (hb5.mono hB4.out.size))
          have dx5 := Lib.hid (dx4.out.later hb5)
          refine hK.out _ _ _ hb5.size hb5 ?_
          clear hK K hr5 hb5 hB4 dx4 HF
          refine wpB_take (i := 16) (d := 48) (v := ?v11px16) rfl rfl (by kernel_rfl) (by kernel_rfl) (by kernel_rfl) (fun _ _ _ h => h) (by rfl) ?y11px16 ?r11px16
          case y11px16 => (intro w' hSw; go_simp; try (with_reducible rfl))
          simp only [Act.put, List.setIfInBounds_toArray, List.set_cons_zero, List.set_cons_succ]
          clear hcv5
          refine wpB_take (i := 17) (d := 49) (v := ?v11px17) rfl rfl (by kernel_rfl) (by kernel_rfl) (by kernel_rfl) (fun _ _ _ h => h) (by rfl) ?y11px17 ?r11px17
          case y11px17 => (intro w' hSw; go_simp; try (with_reducible rfl))
          simp only [Act.put, List.setIfInBounds_toArray, List.set_cons_zero, List.set_cons_succ]
          refine wpB_take (i := 18) (d := 50) (v := ?v11px18) rfl rfl (by kernel_rfl) (by kernel_rfl) (by kernel_rfl) (fun _ _ _ h => h) (by rfl) ?y11px18 ?r11px18
          case y11px18 => (intro w' hSw; go_simp; try (with_reducible rfl))
          simp only [Act.put, List.setIfInBounds_toArray, List.set_cons_zero, List.set_cons_succ]
          refine wpB_take (i := 19) (d := 51) (v := ?v11px19) rfl rfl (by kernel_rfl) (by kernel_rfl) (by kernel_rfl) (fun _ _ _ h => h) (by rfl) ?y11px19 ?r11px19
          case y11px19 => (intro w' hSw; go_simp; try (with_reducible rfl))
          simp only [Act.put, List.setIfInBounds_toArray, List.set_cons_zero, List.set_cons_succ]
          refine wpB_take (i := 20) (d := 52) (v := ?v11px20) rfl rfl (by kernel_rfl) (by kernel_rfl) (by kernel_rfl) (fun _ _ _ h => h) (by rfl) ?y11px20 ?r11px20
          case y11px20 => (intro w' hSw; go_simp; try (with_reducible rfl))
          simp only [Act.put, List.setIfInBounds_toArray, List.set_cons_zero, List.set_cons_succ]
          refine wpB_take (i := 22) (d := 54) (v := ?v11px22) rfl rfl (by kernel_rfl) (by kernel_rfl) (by kernel_rfl) (fun _ _ _ h => h) (by rfl) ?y11px22 ?r11px22
          case y11px22 => (intro w' hSw; go_simp; try (with_reducible rfl))
          simp only [Act.put, List.setIfInBounds_toArray, List.set_cons_zero, List.set_cons_succ]
          refine wpB_do (i := 21) (by kernel_rfl) rfl (by rfl) (fun K hK => ?_)
          go_simp
          refine (zero_any a0 cap0 _ b w5 dx5.out (by omega)).mono ?_
          rintro e w6 ⟨rfl, rfl⟩
          refine hK.out _ _ _ (Nat.le_refl _) (Below.refl _ _) ?_
          clear hK K dx5
          generalize zeroL b = zb
          refine wpB_take (i := 23) (d := 55) (v := ?v11px23) rfl rfl (by kernel_rfl) (by kernel_rfl) (by kernel_rfl) (fun _ _ _ h => h) (by rfl) ?y11px23 ?r11px23
          case y11px23 => (intro w' hSw; go_simp; try (with_reducible rfl))
          simp only [Act.put, List.setIfInBounds_toArray, List.set_cons_zero, List.set_cons_succ]
          refine wpB_take (i := 24) (d := 56) (v := ?v11px24) rfl rfl (by kernel_rfl) (by kernel_rfl) (by kernel_rfl) (fun _ _ _ h => h) (by rfl) ?y11px24 ?r11px24
          case y11px24 => (intro w' hSw; go_simp; try (with_reducible rfl))
          simp only [Act.put, List.setIfInBounds_toArray, List.set_cons_zero, List.set_cons_succ]
          refine wpB_take (i := 25) (d := 57) (v := ?v11px25) rfl rfl (by kernel_rfl) (by kernel_rfl) (by kernel_rfl) (fun _ _ _ h => h) (by rfl) ?y11px25 ?r11px25
          case y11px25 => (intro w' hSw; go_simp; try (with_reducible rfl))
          simp only [Act.put, List.setIfInBounds_toArray, List.set_cons_zero, List.set_cons_succ]
          refine wpB_do (i := 26) (by kernel_rfl) rfl (by rfl) (fun K hK => ?_)
          go_simp
          refine (live_any w5).mono ?_
          rintro e w7 ⟨rfl, hb7⟩
          have hB7 := Lib.hid (hB5.out.trans (hb7.mono hB5.out.size))
          refine hK.out _ _ _ hb7.size hb7 ?_
          clear hK K hb7 hB5
          refine wpB_take (i := 27) (d := 59) (v := ?v11px27) rfl rfl (by kernel_rfl) (by kernel_rfl) (by kernel_rfl) (fun _ _ _ h => h) (by rfl) ?y11px27 ?r11px27
          case y11px27 => (intro w' hSw; go_simp; try (with_reducible rfl))
          simp only [Act.put, List.setIfInBounds_toArray, List.set_cons_zero, List.set_cons_succ]
          refine wpB_take (i := 28) (d := 6) (v := ?v11px28) rfl rfl (by kernel_rfl) (by kernel_rfl) (by kernel_rfl) (fun _ _ _ h => h) (by rfl) ?y11px28 ?r11px28
          case y11px28 => (intro w' hSw; go_simp; try (with_reducible rfl))
          simp only [Act.put, List.setIfInBounds_toArray, List.set_cons_zero, List.set_cons_succ]
          refine wpB_done (by kernel_rfl) ?_
          go_wp2
          go_ret
          exact ⟨rfl, hB7.out⟩
end xorParts
end Go.Proofs.Ytkjdinlebpkimaa
