/- For any bytes the law StateGets returns true: the walk. -/
import Derived.Test.YtaceaemombnhkaaGi
import Derived.Test.YtaceaemombnhkaaSk
import Derived.Test.YtaceaemombnhkaaSm
namespace Go.Proofs.Ytaceaemombnhkaa
set_option linter.unusedVariables false
set_option maxRecDepth 100000
set_option linter.unusedSimpArgs false
open Go.RowKit
open Go.RowKit (wrap64)

set_option maxHeartbeats 4000000 in
theorem stateGets_walk (A : Option Addr) (cap : Nat) (b : List UInt8) (w : World) (hr : Rd w w.heap.size A b) (hc : b.length ≤ cap) (hl : b.length ≤ 140737488351232) :
    Calls Try.prog 5 #[.slice A b.length cap] w (Says w (.bool true)) := by
  by_cases h3 : 3000 < b.length
  · clear hr
    go_enter Try.func5, Try.ntmps5
    go_wp2_with fail
    refine (live_any w).mono ?_
    rintro e w' ⟨rfl, hb⟩
    have HB := Lib.hid hb
    clear hb
    go_wp2
    go_ret
    exact ⟨rfl, HB.out⟩
  · have HG := Lib.hid (get_state_any A cap b w hr hc (by omega))
    have HR := Lib.hid hr
    clear hr hc hl
    go_enter Try.func5, Try.ntmps5
    go_wp2_with fail
    refine HG.out.mono ?_
    clear HG
    rintro e w1 ⟨hcase, hb⟩
    rcases hcase with ⟨s, A4, k4, D4, d4, hG, rfl, hst⟩ | ⟨er, her, rfl, hno⟩
    · have HGS := Lib.hid hG
      have HSZ : Hid (s.st.length ≤ 1000000 ∧ s.zs.length ≤ 1000000) := by
        have h1 := check_good0 hG.right.conf
        have h2 := hG.right.stat
        have h3 := hG.right.zone
        unfold Good at h1
        exact ⟨by omega, by omega⟩
      have HS := Lib.hid (And.intro hst hb)
      clear hst hb hG
      go_upto_region 4 with fail
      have HV : Hid (Box (w1.alloc (.cells #[.int .i64 s.c.id, .int .i64 s.c.m, .int .i64 s.c.u, .int .i64 s.c.b, .int .i64 s.c.cp, .int .i64 s.c.z, .int .i64 s.c.s, .int .i64 s.c.mt, .int .i64 s.c.o, .int .i64 s.c.a, .int .i64 s.c.l, .int .i64 s.ep, .int .i64 s.sq, .slice A4 s.st.length k4, .slice D4 s.zs.length d4] 27)) w1.heap.size 27 #[.int .i64 s.c.id, .int .i64 s.c.m, .int .i64 s.c.u, .int .i64 s.c.b, .int .i64 s.c.cp, .int .i64 s.c.z, .int .i64 s.c.s, .int .i64 s.c.mt, .int .i64 s.c.o, .int .i64 s.c.a, .int .i64 s.c.l, .int .i64 s.ep, .int .i64 s.sq, .slice A4 s.st.length k4, .slice D4 s.zs.length d4] ∧ StAt (w1.alloc (.cells #[.int .i64 s.c.id, .int .i64 s.c.m, .int .i64 s.c.u, .int .i64 s.c.b, .int .i64 s.c.cp, .int .i64 s.c.z, .int .i64 s.c.s, .int .i64 s.c.mt, .int .i64 s.c.o, .int .i64 s.c.a, .int .i64 s.c.l, .int .i64 s.ep, .int .i64 s.sq, .slice A4 s.st.length k4, .slice D4 s.zs.length d4] 27)) (LT (w1.alloc (.cells #[.int .i64 s.c.id, .int .i64 s.c.m, .int .i64 s.c.u, .int .i64 s.c.b, .int .i64 s.c.cp, .int .i64 s.c.z, .int .i64 s.c.s, .int .i64 s.c.mt, .int .i64 s.c.o, .int .i64 s.c.a, .int .i64 s.c.l, .int .i64 s.ep, .int .i64 s.sq, .slice A4 s.st.length k4, .slice D4 s.zs.length d4] 27)).heap.size) A4 s.st k4 D4 s.zs d4 ∧ Below w.heap.size w (w1.alloc (.cells #[.int .i64 s.c.id, .int .i64 s.c.m, .int .i64 s.c.u, .int .i64 s.c.b, .int .i64 s.c.cp, .int .i64 s.c.z, .int .i64 s.c.s, .int .i64 s.c.mt, .int .i64 s.c.o, .int .i64 s.c.a, .int .i64 s.c.l, .int .i64 s.ep, .int .i64 s.sq, .slice A4 s.st.length k4, .slice D4 s.zs.length d4] 27))) := ⟨Box.fresh w1 27 _, HS.out.1.later (below_one _ _), HS.out.2.alloc HS.out.2.size _⟩
      generalize (w1.alloc (.cells #[.int .i64 s.c.id, .int .i64 s.c.m, .int .i64 s.c.u, .int .i64 s.c.b, .int .i64 s.c.cp, .int .i64 s.c.z, .int .i64 s.c.s, .int .i64 s.c.mt, .int .i64 s.c.o, .int .i64 s.c.a, .int .i64 s.c.l, .int .i64 s.ep, .int .i64 s.sq, .slice A4 s.st.length k4, .slice D4 s.zs.length d4] 27)) = w2 at HV ⊢
      generalize w1.heap.size = g at HV ⊢
      clear HS
      go_wp2_with fail
      refine (code_any 0 w2).mono ?_
      rintro e w' ⟨rfl, rfl⟩
      go_upto_region 6 with fail
      refine wpB_start w2.heap.size (by kernel_rfl) ?_
      have HV2 : Hid (Box w2.drew g 27 #[.int .i64 s.c.id, .int .i64 s.c.m, .int .i64 s.c.u, .int .i64 s.c.b, .int .i64 s.c.cp, .int .i64 s.c.z, .int .i64 s.c.s, .int .i64 s.c.mt, .int .i64 s.c.o, .int .i64 s.c.a, .int .i64 s.c.l, .int .i64 s.ep, .int .i64 s.sq, .slice A4 s.st.length k4, .slice D4 s.zs.length d4] ∧ StAt w2.drew (LT w2.drew.heap.size) A4 s.st k4 D4 s.zs d4 ∧ Below w.heap.size w w2.drew) := ⟨HV.out.1, HV.out.2.1.later (Below.refl _ _).drew, HV.out.2.2.drew⟩
      have HSS : Hid (w2.drew.heap.size = w2.heap.size) := rfl
      generalize w2.drew = w3 at HV2 HSS ⊢
      rw [← HSS.out]
      clear HV HSS
      have y0 := Box.at_ (B := w3.heap.size) HV2.out.1 HV2.out.1.lt (i := 0) rfl
      have y1 := Box.at_ (B := w3.heap.size) HV2.out.1 HV2.out.1.lt (i := 1) rfl
      have y2 := Box.at_ (B := w3.heap.size) HV2.out.1 HV2.out.1.lt (i := 2) rfl
      have y3 := Box.at_ (B := w3.heap.size) HV2.out.1 HV2.out.1.lt (i := 3) rfl
      have y4 := Box.at_ (B := w3.heap.size) HV2.out.1 HV2.out.1.lt (i := 4) rfl
      have y5 := Box.at_ (B := w3.heap.size) HV2.out.1 HV2.out.1.lt (i := 5) rfl
      have y6 := Box.at_ (B := w3.heap.size) HV2.out.1 HV2.out.1.lt (i := 6) rfl
      have y7 := Box.at_ (B := w3.heap.size) HV2.out.1 HV2.out.1.lt (i := 7) rfl
      have y8 := Box.at_ (B := w3.heap.size) HV2.out.1 HV2.out.1.lt (i := 8) rfl
      have y9 := Box.at_ (B := w3.heap.size) HV2.out.1 HV2.out.1.lt (i := 9) rfl
      have y10 := Box.at_ (B := w3.heap.size) HV2.out.1 HV2.out.1.lt (i := 10) rfl
      have y11 := Box.at_ (B := w3.heap.size) HV2.out.1 HV2.out.1.lt (i := 11) rfl
      have y12 := Box.at_ (B := w3.heap.size) HV2.out.1 HV2.out.1.lt (i := 12) rfl
      have y13 := Box.at_ (B := w3.heap.size) HV2.out.1 HV2.out.1.lt (i := 13) rfl
      have y14 := Box.at_ (B := w3.heap.size) HV2.out.1 HV2.out.1.lt (i := 14) rfl
      have hcv : ∀ w', Below w3.heap.size w3 w' → (convert 28 9 (.slice A b.length cap)).run Try.prog w' = .ok (.string ⟨b.toArray⟩) w' := fun w' h => conv_any A cap _ b w' ((HR.out.below HV2.out.2.2).below (h.mono HV2.out.2.2.size))
      refine wpB_take (i := 0) (d := 34) (v := ?v6x0) rfl rfl (by kernel_rfl) (by kernel_rfl) (by kernel_rfl) (fun _ _ _ h => h) (by rfl) ?y6x0 ?r6x0
      case y6x0 => (intro w' hSw; go_simp; try (with_reducible rfl))
      simp only [Act.put, List.setIfInBounds_toArray, List.set_cons_zero, List.set_cons_succ]
      refine wpB_do (i := 1) (by kernel_rfl) rfl (by rfl) (fun K hK => ?_)
      go_simp
      refine (rright_any s.c s.ep s.sq A4 s.st k4 D4 s.zs d4 w3 HV2.out.2.1 HSZ.out.1 HSZ.out.2).mono ?_
      rintro e w4 ⟨b4, rfl, hr4, hb⟩
      obtain rfl : b4 = true := hr4.2 HGS.out.right
      have HV3 : Hid (Box w4 g 27 #[.int .i64 s.c.id, .int .i64 s.c.m, .int .i64 s.c.u, .int .i64 s.c.b, .int .i64 s.c.cp, .int .i64 s.c.z, .int .i64 s.c.s, .int .i64 s.c.mt, .int .i64 s.c.o, .int .i64 s.c.a, .int .i64 s.c.l, .int .i64 s.ep, .int .i64 s.sq, .slice A4 s.st.length k4, .slice D4 s.zs.length d4] ∧ StAt w4 (LT w4.heap.size) A4 s.st k4 D4 s.zs d4 ∧ Below w.heap.size w w4 ∧ g < w3.heap.size ∧ w3.heap.size ≤ w4.heap.size) := ⟨HV2.out.1.later hb, HV2.out.2.1.later hb, HV2.out.2.2.trans (hb.mono HV2.out.2.2.size), HV2.out.1.lt, hb.size⟩
      go_simp
      refine hK.out w3.heap.size _ _ (Nat.le_refl _) hb ?_
      have HW3 := Lib.hid (And.intro HV2.out.2.2 HV2.out.2.2.size)
      clear hb hK hr4 HV2 hcv y0 y1 y2 y3 y4 y5 y6 y7 y8 y9 y10 y11 y12 y13 y14
      have y0 := Box.at_ (B := w3.heap.size) HV3.out.1 HV3.out.2.2.2.1 (i := 0) rfl
      have y1 := Box.at_ (B := w3.heap.size) HV3.out.1 HV3.out.2.2.2.1 (i := 1) rfl
      have y2 := Box.at_ (B := w3.heap.size) HV3.out.1 HV3.out.2.2.2.1 (i := 2) rfl
      have y3 := Box.at_ (B := w3.heap.size) HV3.out.1 HV3.out.2.2.2.1 (i := 3) rfl
      have y4 := Box.at_ (B := w3.heap.size) HV3.out.1 HV3.out.2.2.2.1 (i := 4) rfl
      have y5 := Box.at_ (B := w3.heap.size) HV3.out.1 HV3.out.2.2.2.1 (i := 5) rfl
      have y6 := Box.at_ (B := w3.heap.size) HV3.out.1 HV3.out.2.2.2.1 (i := 6) rfl
      have y7 := Box.at_ (B := w3.heap.size) HV3.out.1 HV3.out.2.2.2.1 (i := 7) rfl
      have y8 := Box.at_ (B := w3.heap.size) HV3.out.1 HV3.out.2.2.2.1 (i := 8) rfl
      have y9 := Box.at_ (B := w3.heap.size) HV3.out.1 HV3.out.2.2.2.1 (i := 9) rfl
      have y10 := Box.at_ (B := w3.heap.size) HV3.out.1 HV3.out.2.2.2.1 (i := 10) rfl
      have y11 := Box.at_ (B := w3.heap.size) HV3.out.1 HV3.out.2.2.2.1 (i := 11) rfl
      have y12 := Box.at_ (B := w3.heap.size) HV3.out.1 HV3.out.2.2.2.1 (i := 12) rfl
      have y13 := Box.at_ (B := w3.heap.size) HV3.out.1 HV3.out.2.2.2.1 (i := 13) rfl
      have y14 := Box.at_ (B := w3.heap.size) HV3.out.1 HV3.out.2.2.2.1 (i := 14) rfl
      have hcv : ∀ w', Below w3.heap.size w4 w' → (convert 28 9 (.slice A b.length cap)).run Try.prog w' = .ok (.string ⟨b.toArray⟩) w' := fun w' h => conv_any A cap _ b w' ((HR.out.below HV3.out.2.2.1).below (h.mono HW3.out.2))
      refine wpB_take (i := 2) (d := 36) (v := ?v6x2) rfl rfl (by kernel_rfl) (by kernel_rfl) (by kernel_rfl) (fun _ _ _ h => h) (by rfl) ?y6x2 ?r6x2
      case y6x2 => (intro w' hSw; go_simp; try (with_reducible rfl))
      simp only [Act.put, List.setIfInBounds_toArray, List.set_cons_zero, List.set_cons_succ]
      refine wpB_take (i := 3) (d := 37) (v := ?v6x3) rfl rfl (by kernel_rfl) (by kernel_rfl) (by kernel_rfl) (fun _ _ _ h => h) (by rfl) ?y6x3 ?r6x3
      case y6x3 => (intro w' hSw; go_simp; try (with_reducible rfl))
      simp only [Act.put, List.setIfInBounds_toArray, List.set_cons_zero, List.set_cons_succ]
      refine wpB_take (i := 6) (d := 40) (v := ?v6x6) rfl rfl (by kernel_rfl) (by kernel_rfl) (by kernel_rfl) (fun _ _ _ h => h) (by rfl) ?y6x6 ?r6x6
      case y6x6 => (intro w' hSw; go_simp; try (with_reducible rfl))
      simp only [Act.put, List.setIfInBounds_toArray, List.set_cons_zero, List.set_cons_succ]
      refine wpB_take (i := 7) (d := 41) (v := ?v6x7) rfl rfl (by kernel_rfl) (by kernel_rfl) (by kernel_rfl) (fun _ _ _ h => h) (by rfl) ?y6x7 ?r6x7
      case y6x7 => (intro w' hSw; go_simp; try (with_reducible rfl))
      simp only [Act.put, List.setIfInBounds_toArray, List.set_cons_zero, List.set_cons_succ]
      refine wpB_do (i := 4) (by kernel_rfl) rfl (by rfl) (fun K hK => ?_)
      go_simp
      refine (rput_any s.c s.ep s.sq A4 s.st k4 D4 s.zs d4 w4 HV3.out.2.1 HSZ.out.1 HSZ.out.2).mono ?_
      rintro e w5 ⟨L, hL, _, E, ce, rfl, hE, hcE, hb⟩
      have hLb : L = b := (hL HGS.out.right).trans HGS.out.put
      subst hLb
      have HV4 : Hid (Below w.heap.size w w5 ∧ Rd w5 w5.heap.size E L ∧ w3.heap.size ≤ w5.heap.size) := ⟨HV3.out.2.2.1.trans (hb.mono HV3.out.2.2.1.size), hE, Nat.le_trans HV3.out.2.2.2.2 hb.size⟩
      have HBB := Lib.hid (hb.mono HV3.out.2.2.2.2)
      go_simp
      refine hK.out w5.heap.size _ _ HV4.out.2.2 HBB.out ?_
      clear hb hK hL hE hcE HV3 HBB hcv y0 y1 y2 y3 y4 y5 y6 y7 y8 y9 y10 y11 y12 y13 y14
      have hcv : ∀ w', Below w5.heap.size w5 w' → (convert 28 9 (.slice E L.length ce)).run Try.prog w' = .ok (.string ⟨L.toArray⟩) w' := fun w' h => conv_any E ce _ L w' (HV4.out.2.1.below h)
      refine wpB_take (i := 5) (d := 39) (v := ?v6x5) rfl rfl (by kernel_rfl) (by kernel_rfl) (by kernel_rfl) (fun _ _ _ h => h) (by rfl) ?y6x5 ?r6x5
      case y6x5 => (intro w' hSw; go_simp; try (with_reducible rfl))
      simp only [Act.put, List.setIfInBounds_toArray, List.set_cons_zero, List.set_cons_succ]
      refine wpB_take (i := 8) (d := 42) (v := ?v6x8) rfl rfl (by kernel_rfl) (by kernel_rfl) (by kernel_rfl) (fun _ _ _ h => h) (by rfl) ?y6x8 ?r6x8
      case y6x8 => (intro w' hSw; go_simp; try (with_reducible rfl))
      simp only [Act.put, List.setIfInBounds_toArray, List.set_cons_zero, List.set_cons_succ]
      refine wpB_take (i := 9) (d := 43) (v := ?v6x9) rfl rfl (by kernel_rfl) (by kernel_rfl) (by kernel_rfl) (fun _ _ _ h => h) (by rfl) ?y6x9 ?r6x9
      case y6x9 => (intro w' hSw; go_simp; try (with_reducible rfl))
      simp only [Act.put, List.setIfInBounds_toArray, List.set_cons_zero, List.set_cons_succ]
      refine wpB_take (i := 10) (d := 44) (v := ?v6x10) rfl rfl (by kernel_rfl) (by kernel_rfl) (by kernel_rfl) (fun _ _ _ h => h) (by rfl) ?y6x10 ?r6x10
      case y6x10 => (intro w' hSw; go_simp; try (with_reducible rfl))
      simp only [Act.put, List.setIfInBounds_toArray, List.set_cons_zero, List.set_cons_succ]
      refine wpB_do (i := 11) (by kernel_rfl) rfl (by rfl) (fun K hK => ?_)
      go_simp
      refine (live_any w5).mono ?_
      rintro e w6 ⟨rfl, hb⟩
      have HV5 := Lib.hid (HV4.out.1.trans (hb.mono HV4.out.1.size))
      go_simp
      refine hK.out w5.heap.size _ _ (Nat.le_refl _) hb ?_
      clear hb hK HV4 hcv
      refine wpB_take (i := 12) (d := 46) (v := ?v6x12) rfl rfl (by kernel_rfl) (by kernel_rfl) (by kernel_rfl) (fun _ _ _ h => h) (by rfl) ?y6x12 ?r6x12
      case y6x12 => (intro w' hSw; go_simp; try (with_reducible rfl))
      simp only [Act.put, List.setIfInBounds_toArray, List.set_cons_zero, List.set_cons_succ]
      refine wpB_take (i := 13) (d := 2) (v := ?v6x13) rfl rfl (by kernel_rfl) (by kernel_rfl) (by kernel_rfl) (fun _ _ _ h => h) (by rfl) ?y6x13 ?r6x13
      case y6x13 => (intro w' hSw; go_simp; try (with_reducible rfl))
      simp only [Act.put, List.setIfInBounds_toArray, List.set_cons_zero, List.set_cons_succ]
      refine wpB_done (by kernel_rfl) ?_
      go_wp2
      go_ret
      exact ⟨rfl, HV5.out⟩
    · have HE := Lib.hid her
      have HB := Lib.hid hb
      clear her hb hno
      go_upto_region 4 with fail
      have HV : Hid (Box (w1.alloc (.cells #[.int .i64 0, .int .i64 0, .int .i64 0, .int .i64 0, .int .i64 0, .int .i64 0, .int .i64 0, .int .i64 0, .int .i64 0, .int .i64 0, .int .i64 0, .int .i64 0, .int .i64 0, .slice none 0 0, .slice none 0 0] 27)) w1.heap.size 27 #[.int .i64 0, .int .i64 0, .int .i64 0, .int .i64 0, .int .i64 0, .int .i64 0, .int .i64 0, .int .i64 0, .int .i64 0, .int .i64 0, .int .i64 0, .int .i64 0, .int .i64 0, .slice none 0 0, .slice none 0 0] ∧ Below w.heap.size w (w1.alloc (.cells #[.int .i64 0, .int .i64 0, .int .i64 0, .int .i64 0, .int .i64 0, .int .i64 0, .int .i64 0, .int .i64 0, .int .i64 0, .int .i64 0, .int .i64 0, .int .i64 0, .int .i64 0, .slice none 0 0, .slice none 0 0] 27))) := ⟨Box.fresh w1 27 _, HB.out.alloc HB.out.size _⟩
      generalize (w1.alloc (.cells #[.int .i64 0, .int .i64 0, .int .i64 0, .int .i64 0, .int .i64 0, .int .i64 0, .int .i64 0, .int .i64 0, .int .i64 0, .int .i64 0, .int .i64 0, .int .i64 0, .int .i64 0, .slice none 0 0, .slice none 0 0] 27)) = w2 at HV ⊢
      generalize w1.heap.size = g at HV ⊢
      clear HB
      obtain ⟨y0, y1, y2, y3, y4, y5, y6, y7, y8, y9, y10, y11, y12, y13, y14⟩ := box15 HV.out.1
      have hne : (er != 0) = true := by have := HE.out; simp; omega
      go_wp2_with fail
      refine (code_any er w2).mono ?_
      rintro e w' ⟨rfl, rfl⟩
      rcases HE.out with rfl | rfl
      · go_wp2_with fail
        refine (code_any 13 w2).mono ?_
        rintro e w' ⟨rfl, rfl⟩
        go_wp2_with fail
        refine (live_any w2).mono ?_
        rintro e w3 ⟨rfl, hb⟩
        have HB3 := Lib.hid (HV.out.2.trans (hb.mono HV.out.2.size))
        clear hb HV y0 y1 y2 y3 y4 y5 y6 y7 y8 y9 y10 y11 y12 y13 y14
        go_wp2
        go_ret
        exact ⟨rfl, HB3.out⟩
      · go_wp2_with fail
        refine (code_any 14 w2).mono ?_
        rintro e w' ⟨rfl, rfl⟩
        go_wp2_with fail
        refine (code_any 14 w2).mono ?_
        rintro e w' ⟨rfl, rfl⟩
        go_wp2_with fail
        refine (live_any w2).mono ?_
        rintro e w3 ⟨rfl, hb⟩
        have HB3 := Lib.hid (HV.out.2.trans (hb.mono HV.out.2.size))
        clear hb HV y0 y1 y2 y3 y4 y5 y6 y7 y8 y9 y10 y11 y12 y13 y14
        go_wp2
        go_ret
        exact ⟨rfl, HB3.out⟩
end Go.Proofs.Ytaceaemombnhkaa
