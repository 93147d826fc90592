/- For every l, a and b the law XorOfs returns true, and each of them reads behind the call as it read before: the walk. -/
import Derived.Test.YtkjdinlebpkimaaE
import Derived.Test.YtkjdinlebpkimaaOrb
import Derived.Deep.CutBlock
import Derived.Deep.LoopGhost
namespace Go.Proofs.Ytkjdinlebpkimaa.xorOfs
set_option linter.unusedVariables false
set_option linter.unusedSimpArgs false
open Go.RowKit
open Go.RowKit (wrap64)

theorem zero_self (x : List UInt8) : zeroL (intoL x x) = true := by
  unfold zeroL
  rw [List.all_eq_true]
  intro b hb
  obtain ⟨i, _, rfl⟩ := List.mem_map.1 hb
  simp

set_option maxRecDepth 100000 in
set_option maxHeartbeats 4000000 in
theorem walk (a0 a1 a2 : Option Addr) (cap0 cap1 cap2 : Nat) (ps : List (List UInt8)) (x y : List UInt8) (w : World) (hp : Pts w w.heap.size a0 ps) (hx : Rd w w.heap.size a1 x) (hy : Rd w w.heap.size a2 y)
    (hlp : ps.length ≤ maxLen) (hlps : ∀ l ∈ ps, l.length ≤ 140737488351232) (hlx : x.length ≤ maxLen) (hly : y.length ≤ maxLen) :
    Calls Try.prog 3 #[.slice a0 ps.length cap0, .slice a1 x.length cap1, .slice a2 y.length cap2] w fun e w' => e = .returned (.bool true) ∧ Below w.heap.size w w' := by
  have HM := Lib.hid (much_any a0 cap0 _ ps w hp hlp hlps)
  have dp := Lib.hid hp
  have dx := Lib.hid hx
  have dy := Lib.hid hy
  unfold maxLen at hlp hlx hly
  clear hp hx hy hlps
  go_enter Try.func3, Try.ntmps3
  go_wp2_with fail
  refine HM.out.mono ?_
  rintro e w' ⟨big, rfl, rfl, hbig⟩
  clear HM
  cases big
  · obtain ⟨hl20, hls0⟩ := hbig rfl
    have hls : Hid (∀ l ∈ ps, l.length ≤ 100000) := fun l hl => Nat.le_trans (hls0 l hl) (by omega)
    have hm : most ps ≤ 1000000 := most_le fun l hl => Nat.le_trans (hls0 l hl) (by omega)
    clear hbig hls0 hlp
    by_cases h1 : 500 < x.length
    · go_wp2_with (go_at_call 7; refine (live_any _).mono ?_; rintro e w' ⟨rfl, hb⟩)
      go_ret
      exact ⟨rfl, hb⟩
    · by_cases h2 : 500 < y.length
      · go_wp2_with (go_at_call 7; refine (live_any _).mono ?_; rintro e w' ⟨rfl, hb⟩)
        go_ret
        exact ⟨rfl, hb⟩
      · have hx5 : x.length ≤ 500 := by omega
        have hy5 : y.length ≤ 500 := by omega
        clear hlx hly
        go_upto_region 3 with fail
        clear h1 h2
        refine wpB_start w.heap.size (by kernel_rfl) ?_
        have dp0 : Hid (Pts w.drew w.drew.heap.size a0 ps) := dp.out
        have dx0 : Hid (Rd w.drew w.drew.heap.size a1 x) := dx.out
        have dy0 : Hid (Rd w.drew w.drew.heap.size a2 y) := dy.out
        have hB0 : Hid (Below w.heap.size w w.drew) := (Below.refl _ _).drew
        have hS : w.heap.size = w.drew.heap.size := rfl
        rw [hS]
        clear dp dx dy hS
        generalize w.drew = w0 at dp0 dx0 dy0 hB0 ⊢
        refine wpB_take (i := 0) (d := 20) (v := ?v3x0) rfl rfl (by kernel_rfl) (by kernel_rfl) (by kernel_rfl) (fun _ _ _ h => h) (by rfl) ?y3x0 ?r3x0
        case y3x0 => (intro w' hSw; go_simp; try (with_reducible rfl))
        simp only [Act.put, List.setIfInBounds_toArray, List.set_cons_zero, List.set_cons_succ]
        refine wpB_take (i := 3) (d := 23) (v := ?v3x3) rfl rfl (by kernel_rfl) (by kernel_rfl) (by kernel_rfl) (fun _ _ _ h => h) (by rfl) ?y3x3 ?r3x3
        case y3x3 => (intro w' hSw; go_simp; try (with_reducible rfl))
        simp only [Act.put, List.setIfInBounds_toArray, List.set_cons_zero, List.set_cons_succ]
        refine wpB_do (i := 1) (by kernel_rfl) rfl (by rfl) (fun K hK => ?_)
        go_simp
        refine (of_gave a0 cap0 ps w0 dp0.out (by omega) hm).mono ?_
        rintro e w1 ⟨A1, c1, rfl, hr1, hb1⟩
        generalize hL : ofL ps = L at hr1 ⊢
        have HL := Lib.hid hL
        clear hL
        have hcv1 : ∀ w', Below w1.heap.size w1 w' → (convert 23 9 (.slice A1 L.length c1)).run Try.prog w' = .ok (.string ⟨L.toArray⟩) w' := fun w' h => conv_any A1 c1 _ L w' (hr1.below h)
        have hB1 := Lib.hid (hB0.out.trans (hb1.mono hB0.out.size))
        have dp1 := Lib.hid (dp0.out.later hb1)
        have dx1 := Lib.hid (dx0.out.later hb1)
        have dy1 := Lib.hid (dy0.out.later hb1)
        refine hK.out _ _ _ hb1.size hb1 ?_
        clear hK K hr1 hb1 hB0 dp0 dx0 dy0 
        refine wpB_take (i := 2) (d := 22) (v := ?v3x2) rfl rfl (by kernel_rfl) (by kernel_rfl) (by kernel_rfl) (fun _ _ _ h => h) (by rfl) ?y3x2 ?r3x2
        case y3x2 => (intro w' hSw; go_simp; try (with_reducible rfl))
        simp only [Act.put, List.setIfInBounds_toArray, List.set_cons_zero, List.set_cons_succ]
        clear hcv1
        refine wpB_do (i := 4) (by kernel_rfl) rfl (by rfl) (fun K hK => ?_)
        go_simp
        refine (rof_gave a0 cap0 ps w1 dp1.out (by omega) hls.out).mono ?_
        rintro e w2 ⟨A2, c2, rfl, hr2, hb2⟩
        rw [HL.out] at hr2 ⊢
        have hcv2 : ∀ w', Below w2.heap.size w2 w' → (convert 23 9 (.slice A2 L.length c2)).run Try.prog w' = .ok (.string ⟨L.toArray⟩) w' := fun w' h => conv_any A2 c2 _ L w' (hr2.below h)
        have hB2 := Lib.hid (hB1.out.trans (hb2.mono hB1.out.size))
        have dp2 := Lib.hid (dp1.out.later hb2)
        have dx2 := Lib.hid (dx1.out.later hb2)
        have dy2 := Lib.hid (dy1.out.later hb2)
        refine hK.out _ _ _ hb2.size hb2 ?_
        clear hK K hr2 hb2 hB1 dp1 dx1 dy1 
        refine wpB_take (i := 5) (d := 25) (v := ?v3x5) rfl rfl (by kernel_rfl) (by kernel_rfl) (by kernel_rfl) (fun _ _ _ h => h) (by rfl) ?y3x5 ?r3x5
        case y3x5 => (intro w' hSw; go_simp; try (with_reducible rfl))
        simp only [Act.put, List.setIfInBounds_toArray, List.set_cons_zero, List.set_cons_succ]
        clear hcv2 HL dp2
        refine wpB_take (i := 6) (d := 26) (v := ?v3x6) rfl rfl (by kernel_rfl) (by kernel_rfl) (by kernel_rfl) (fun _ _ _ h => h) (by rfl) ?y3x6 ?r3x6
        case y3x6 => (intro w' hSw; go_simp; try (with_reducible rfl))
        simp only [Act.put, List.setIfInBounds_toArray, List.set_cons_zero, List.set_cons_succ]
        refine wpB_take (i := 7) (d := 27) (v := ?v3x7) rfl rfl (by kernel_rfl) (by kernel_rfl) (by kernel_rfl) (fun _ _ _ h => h) (by rfl) ?y3x7 ?r3x7
        case y3x7 => (intro w' hSw; go_simp; try (with_reducible rfl))
        simp only [Act.put, List.setIfInBounds_toArray, List.set_cons_zero, List.set_cons_succ]
        refine wpB_take (i := 8) (d := 28) (v := ?v3x8) rfl rfl (by kernel_rfl) (by kernel_rfl) (by kernel_rfl) (fun _ _ _ h => h) (by rfl) ?y3x8 ?r3x8
        case y3x8 => (intro w' hSw; go_simp; try (with_reducible rfl))
        simp only [Act.put, List.setIfInBounds_toArray, List.set_cons_zero, List.set_cons_succ]
        refine wpB_take (i := 9) (d := 29) (v := ?v3x9) rfl rfl (by kernel_rfl) (by kernel_rfl) (by kernel_rfl) (fun _ _ _ h => h) (by rfl) ?y3x9 ?r3x9
        case y3x9 => (intro w' hSw; go_simp; try (with_reducible rfl))
        simp only [Act.put, List.setIfInBounds_toArray, List.set_cons_zero, List.set_cons_succ]
        refine wpB_take (i := 12) (d := 32) (v := ?v3x12) rfl rfl (by kernel_rfl) (by kernel_rfl) (by kernel_rfl) (fun _ _ _ h => h) (by rfl) ?y3x12 ?r3x12
        case y3x12 => (intro w' hSw; go_simp; try (with_reducible rfl))
        simp only [Act.put, List.setIfInBounds_toArray, List.set_cons_zero, List.set_cons_succ]
        refine wpB_take (i := 13) (d := 33) (v := ?v3x13) rfl rfl (by kernel_rfl) (by kernel_rfl) (by kernel_rfl) (fun _ _ _ h => h) (by rfl) ?y3x13 ?r3x13
        case y3x13 => (intro w' hSw; go_simp; try (with_reducible rfl))
        simp only [Act.put, List.setIfInBounds_toArray, List.set_cons_zero, List.set_cons_succ]
        refine wpB_do (i := 10) (by kernel_rfl) rfl (by rfl) (fun K hK => ?_)
        go_simp
        refine (into_gave a1 a2 cap1 cap2 x y w2 dx2.out dy2.out (by omega) (by omega)).mono ?_
        rintro e w3 ⟨A3, c3, rfl, hr3, hb3⟩
        generalize hM : intoL x y = M at hr3 ⊢
        have HM := Lib.hid hM
        clear hM
        have hcv3 : ∀ w', Below w3.heap.size w3 w' → (convert 23 9 (.slice A3 M.length c3)).run Try.prog w' = .ok (.string ⟨M.toArray⟩) w' := fun w' h => conv_any A3 c3 _ M w' (hr3.below h)
        have hB3 := Lib.hid (hB2.out.trans (hb3.mono hB2.out.size))
        have dx3 := Lib.hid (dx2.out.later hb3)
        have dy3 := Lib.hid (dy2.out.later hb3)
        refine hK.out _ _ _ hb3.size hb3 ?_
        clear hK K hr3 hb3 hB2 dx2 dy2 
        refine wpB_take (i := 11) (d := 31) (v := ?v3x11) rfl rfl (by kernel_rfl) (by kernel_rfl) (by kernel_rfl) (fun _ _ _ h => h) (by rfl) ?y3x11 ?r3x11
        case y3x11 => (intro w' hSw; go_simp; try (with_reducible rfl))
        simp only [Act.put, List.setIfInBounds_toArray, List.set_cons_zero, List.set_cons_succ]
        clear hcv3
        refine wpB_do (i := 14) (by kernel_rfl) rfl (by rfl) (fun K hK => ?_)
        go_simp
        refine (rinto_gave a1 a2 cap1 cap2 x y w3 dx3.out dy3.out (by omega) (by omega)).mono ?_
        rintro e w4 ⟨A4, c4, rfl, hr4, hb4⟩
        rw [HM.out] at hr4 ⊢
        have hcv4 : ∀ w', Below w4.heap.size w4 w' → (convert 23 9 (.slice A4 M.length c4)).run Try.prog w' = .ok (.string ⟨M.toArray⟩) w' := fun w' h => conv_any A4 c4 _ M w' (hr4.below h)
        have hB4 := Lib.hid (hB3.out.trans (hb4.mono hB3.out.size))
        have dx4 := Lib.hid (dx3.out.later hb4)
        refine hK.out _ _ _ hb4.size hb4 ?_
        clear hK K hr4 hb4 hB3 dx3 
        refine wpB_take (i := 15) (d := 35) (v := ?v3x15) rfl rfl (by kernel_rfl) (by kernel_rfl) (by kernel_rfl) (fun _ _ _ h => h) (by rfl) ?y3x15 ?r3x15
        case y3x15 => (intro w' hSw; go_simp; try (with_reducible rfl))
        simp only [Act.put, List.setIfInBounds_toArray, List.set_cons_zero, List.set_cons_succ]
        clear hcv4 HM dy3
        refine wpB_take (i := 16) (d := 36) (v := ?v3x16) rfl rfl (by kernel_rfl) (by kernel_rfl) (by kernel_rfl) (fun _ _ _ h => h) (by rfl) ?y3x16 ?r3x16
        case y3x16 => (intro w' hSw; go_simp; try (with_reducible rfl))
        simp only [Act.put, List.setIfInBounds_toArray, List.set_cons_zero, List.set_cons_succ]
        refine wpB_take (i := 17) (d := 37) (v := ?v3x17) rfl rfl (by kernel_rfl) (by kernel_rfl) (by kernel_rfl) (fun _ _ _ h => h) (by rfl) ?y3x17 ?r3x17
        case y3x17 => (intro w' hSw; go_simp; try (with_reducible rfl))
        simp only [Act.put, List.setIfInBounds_toArray, List.set_cons_zero, List.set_cons_succ]
        refine wpB_take (i := 18) (d := 38) (v := ?v3x18) rfl rfl (by kernel_rfl) (by kernel_rfl) (by kernel_rfl) (fun _ _ _ h => h) (by rfl) ?y3x18 ?r3x18
        case y3x18 => (intro w' hSw; go_simp; try (with_reducible rfl))
        simp only [Act.put, List.setIfInBounds_toArray, List.set_cons_zero, List.set_cons_succ]
        refine wpB_take (i := 19) (d := 39) (v := ?v3x19) rfl rfl (by kernel_rfl) (by kernel_rfl) (by kernel_rfl) (fun _ _ _ h => h) (by rfl) ?y3x19 ?r3x19
        case y3x19 => (intro w' hSw; go_simp; try (with_reducible rfl))
        simp only [Act.put, List.setIfInBounds_toArray, List.set_cons_zero, List.set_cons_succ]
        refine wpB_take (i := 20) (d := 40) (v := ?v3x20) rfl rfl (by kernel_rfl) (by kernel_rfl) (by kernel_rfl) (fun _ _ _ h => h) (by rfl) ?y3x20 ?r3x20
        case y3x20 => (intro w' hSw; go_simp; try (with_reducible rfl))
        simp only [Act.put, List.setIfInBounds_toArray, List.set_cons_zero, List.set_cons_succ]
        refine wpB_do (i := 21) (by kernel_rfl) rfl (by rfl) (fun K hK => ?_)
        go_simp
        refine (into_gave a1 a1 cap1 cap1 x x w4 dx4.out dx4.out (by omega) (by omega)).mono ?_
        rintro e w5 ⟨A5, c5, rfl, hr5, hb5⟩
        generalize hZ : intoL x x = Z at hr5 ⊢
        have HZ := Lib.hid hZ
        clear hZ
        have hB5 := Lib.hid (hB4.out.trans (hb5.mono hB4.out.size))
        refine hK.out _ _ _ hb5.size hb5 ?_
        clear hK K hb5 hB4  
        clear dx4
        refine wpB_do (i := 22) (by kernel_rfl) rfl (by rfl) (fun K hK => ?_)
        go_simp
        have hzl : Z.length ≤ 100000 := by rw [← HZ.out, intoL_length]; omega
        refine (zero_any A5 c5 _ Z w5 hr5 (by omega)).mono ?_
        rintro e w6 ⟨rfl, rfl⟩
        rw [show zeroL Z = true by rw [← HZ.out]; exact zero_self x]
        refine hK.out _ _ _ (Nat.le_refl _) (Below.refl _ _) ?_
        clear hK K hr5 HZ hzl
        refine wpB_take (i := 23) (d := 43) (v := ?v3x23) rfl rfl (by kernel_rfl) (by kernel_rfl) (by kernel_rfl) (fun _ _ _ h => h) (by rfl) ?y3x23 ?r3x23
        case y3x23 => (intro w' hSw; go_simp; try (with_reducible rfl))
        simp only [Act.put, List.setIfInBounds_toArray, List.set_cons_zero, List.set_cons_succ]
        refine wpB_take (i := 24) (d := 44) (v := ?v3x24) rfl rfl (by kernel_rfl) (by kernel_rfl) (by kernel_rfl) (fun _ _ _ h => h) (by rfl) ?y3x24 ?r3x24
        case y3x24 => (intro w' hSw; go_simp; try (with_reducible rfl))
        simp only [Act.put, List.setIfInBounds_toArray, List.set_cons_zero, List.set_cons_succ]
        refine wpB_do (i := 25) (by kernel_rfl) rfl (by rfl) (fun K hK => ?_)
        go_simp
        refine (live_any w5).mono ?_
        rintro e w7 ⟨rfl, hb7⟩
        have hB7 := Lib.hid (hB5.out.trans (hb7.mono hB5.out.size))
        refine hK.out _ _ _ hb7.size hb7 ?_
        clear hK K hb7 hB5
        refine wpB_take (i := 26) (d := 46) (v := ?v3x26) rfl rfl (by kernel_rfl) (by kernel_rfl) (by kernel_rfl) (fun _ _ _ h => h) (by rfl) ?y3x26 ?r3x26
        case y3x26 => (intro w' hSw; go_simp; try (with_reducible rfl))
        simp only [Act.put, List.setIfInBounds_toArray, List.set_cons_zero, List.set_cons_succ]
        refine wpB_take (i := 27) (d := 6) (v := ?v3x27) rfl rfl (by kernel_rfl) (by kernel_rfl) (by kernel_rfl) (fun _ _ _ h => h) (by rfl) ?y3x27 ?r3x27
        case y3x27 => (intro w' hSw; go_simp; try (with_reducible rfl))
        simp only [Act.put, List.setIfInBounds_toArray, List.set_cons_zero, List.set_cons_succ]
        refine wpB_done (by kernel_rfl) ?_
        go_wp2
        go_ret
        exact ⟨rfl, hB7.out⟩
  · clear hbig dp dx dy
    go_wp2_with (go_at_call 7; refine (live_any _).mono ?_; rintro e w' ⟨rfl, hb⟩)
    go_ret
    exact ⟨rfl, hb⟩
end Go.Proofs.Ytkjdinlebpkimaa.xorOfs
