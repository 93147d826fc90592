/- The contract of the reference's Steps. -/
import Derived.Test.YteglgopbagefcaaPf
namespace Go.Proofs.Yteglgopbagefcaa
set_option linter.unusedVariables false
set_option linter.unusedSimpArgs false
open Go.RowKit Go.Shelf
open Go.RowKit (wrap64)

set_option maxRecDepth 100000 in
set_option maxHeartbeats 4000000 in
theorem rSteps_yes (c : Cf) (a : Int) (n : Nat) (w : World) (hr : rightC c a n = true) : Calls Try.prog 10 #[(.agg #[.int .i64 c.id, .int .i64 c.m, .int .i64 c.u, .int .i64 c.b, .int .i64 c.cp, .int .i64 c.z, .int .i64 c.s, .int .i64 c.mt, .int .i64 c.o, .int .i64 c.a, .int .i64 c.l]), .int .i64 a, .int .i64 n] w (GaveS w (stepsL c a n)) := by
  have HR := Lib.hid (rightC_iff.1 hr)
  have HO := Lib.hid (ok_of HR.out.1)
  have b1 : 0 ≤ a := HR.out.2.1
  have b2 : a + n ≤ 61440 := by have := HR.out.2.2.2; have := HO.out.z2; omega
  have HG0 := Lib.hid hr
  have o1 := HO.out.m1
  have o2 := HO.out.m2
  have o3 := HO.out.u1
  have o4 := HO.out.u2
  clear hr
  go_enter Try.func10, Try.ntmps10
  go_wp2_with fail
  have HV0 := Lib.hid (At.new c w)
  generalize (w.alloc (.cells #[.int .i64 c.id, .int .i64 c.m, .int .i64 c.u, .int .i64 c.b, .int .i64 c.cp, .int .i64 c.z, .int .i64 c.s, .int .i64 c.mt, .int .i64 c.o, .int .i64 c.a, .int .i64 c.l] 23)) = w0 at HV0 ⊢
  obtain ⟨y0, y1, y2, y3, y4, y5, y6, y7, y8, y9, y10⟩ := box11 HV0.out.1
  refine (right_any c a n w0 (by omega) (by omega)).mono ?_
  rintro e w1 ⟨rfl, hb⟩
  rw [HG0.out]
  have HV1 := Lib.hid (HV0.out.later hb)
  clear hb HV0 y0 y1 y2 y3 y4 y5 y6 y7 y8 y9 y10
  obtain ⟨y0, y1, y2, y3, y4, y5, y6, y7, y8, y9, y10⟩ := box11 HV1.out.1
  go_wp2
  clear y0 y1 y2 y3 y4 y5 y6 y7 y8 y9 y10
  go_loopw [7, 8] (fun v i wr => ∃ k : Nat, k ≤ n ∧ i = .int .i64 k ∧ Rw St.cs 41 wr (w.heap.size + 1) v (stepsL c a k) ∧ At c w wr) (fun _ i _ => n - (intOf i).toNat)
  case atStart => exact ⟨0, by omega, rfl, by rw [stepsL_zero]; exact Rw.nil _ _ _, HV1.out⟩
  case round =>
    clear HV1
    obtain ⟨k, hk, rfl, hrw, hat⟩ := hrel
    have HV1 := Lib.hid hat
    have HW1 := Lib.hid hrw
    clear hat hrw
    obtain ⟨y0, y1, y2, y3, y4, y5, y6, y7, y8, y9, y10⟩ := box11 HV1.out.1
    by_cases hlt : k < n
    · have HLN : Hid ((stepsL c a k).length ≤ 122880) := by have := stepsL_len c a k; show _ ≤ _; omega
      have HB : Hid (ofB c (a + k) = true) := ofB_iff.2 ⟨HR.out.1, by omega, by have := HR.out.2.2.2; omega⟩
      have HP : Hid (ofA c (a + k) = ofIn c (a + k)) := by
        show ofA c (a + k) = _
        unfold ofA
        rw [if_pos HB.out]
      have HL := Lib.hid (last_iff HR.out.1 (lb := a + k) (by omega))
      have HI : Hid (∃ P, ofIn c (a + k) = P ∧ blkS c (a + k) = ⟨false, P.m, P.p, a + k, 1⟩ ∧ P.s = (a + k) / (dataC c * c.u)) := ⟨_, rfl, rfl, rfl⟩
      obtain ⟨P, hP, hx, hs⟩ := HI.out
      have HX := Lib.hid hx
      have HS := Lib.hid hs
      have HQ := Lib.hid hP
      rw [hP] at HL
      clear hP hx hs HI
      go_wp2_with fail
      refine (rOf_any c (a + k) wr).mono ?_
      rintro e w2 ⟨rfl, hb⟩
      rw [HP.out, HB.out, HQ.out]
      clear HP HB HQ
      have HV2 := Lib.hid (HV1.out.later hb)
      have HW2 := Lib.hid (HW1.out.later hb)
      clear hb HV1 HW1 y0 y1 y2 y3 y4 y5 y6 y7 y8 y9 y10
      go_upto_region 8 with fail
      have HV3 := Lib.hid (HV2.out.alloc (.cells #[.int .i64 P.s, .int .i64 P.u, .int .i64 P.i, .int .i64 P.m, .int .i64 P.p] 36))
      have HW3 := Lib.hid (HW2.out.later ((Below.refl _ _).alloc (Nat.le_refl _) (.cells #[.int .i64 P.s, .int .i64 P.u, .int .i64 P.i, .int .i64 P.m, .int .i64 P.p] 36)))
      have HP3 := Lib.hid (Box.fresh w2 36 #[.int .i64 P.s, .int .i64 P.u, .int .i64 P.i, .int .i64 P.m, .int .i64 P.p])
      generalize hgp : w2.heap.size = gp at HP3 ⊢
      generalize (w2.alloc (.cells #[.int .i64 P.s, .int .i64 P.u, .int .i64 P.i, .int .i64 P.m, .int .i64 P.p] 36)) = w3 at HV3 HW3 HP3 ⊢
      clear hgp HV2 HW2
      obtain ⟨y0, y1, y2, y3, y4, y5, y6, y7, y8, y9, y10⟩ := box11 HV3.out.1
      obtain ⟨⟨p0, p1, p2, p3, p4⟩, _⟩ := box5 HP3.out
      go_upto_region 9 with (at_builtin; go_loud (refine wpList_appSt _ rfl (.tmp 30) (.tmp 39) rfl (w.heap.size + 1) u7 (stepsL c a k) ⟨false, P.m, P.p, a + k, 1⟩ ⟨w3.heap.size, 0, none⟩ rfl rfl (HW3.out.later ((Below.refl _ _).alloc (Nat.le_refl _) _)) (cells_five_new _ _ _ _ _ _ _) (by have := HLN.out; omega) (by have := HV3.out.2.2; simp; omega) ?_; intro v1 w4 hrw hg; have ha := HW3.out.later ((Below.refl _ _).alloc (Nat.le_refl _) (.cells #[.bool false, .int .i64 P.m, .int .i64 P.p, .int .i64 (a + k), .int .i64 1] 41)); have HV4 := Lib.hid ((HV3.out.alloc (.cells #[.bool false, .int .i64 P.m, .int .i64 P.p, .int .i64 (a + k), .int .i64 1] 41)).kept (ha.below hg (by have := HV3.out.2.2; simp; omega))); have HP4 := Lib.hid (ha.grown hg (HP3.out.later ((Below.refl _ _).alloc (Nat.le_refl _) _)) (by decide)); have HW4 := Lib.hid hrw; clear hrw hg ha y0 y1 y2 y3 y4 y5 y6 y7 y8 y9 y10 p0 p1 p2 p3 p4 HV3 HP3 HW3; obtain ⟨y0, y1, y2, y3, y4, y5, y6, y7, y8, y9, y10⟩ := box11 HV4.out.1; obtain ⟨⟨p0, p1, p2, p3, p4⟩, _⟩ := box5 HP4.out))
      by_cases he : (a + k + 1) % (dataC c * c.u) = 0
      · obtain ⟨e1, e2⟩ := HL.out.1 he
        have t1 : (P.u == c.m - 2) = true := by simpa using e1
        have t2 : (P.i == c.u - 1) = true := by simpa using e2
        have HN : Hid (stepsOf c (a + k) = [⟨false, P.m, P.p, a + k, 1⟩, parS c P.s]) := by
          show stepsOf c (a + k) = _
          unfold stepsOf
          rw [if_pos he, HX.out, HS.out]
        have HPS : Hid (0 ≤ P.s ∧ P.s ≤ 61440) := by
          have h := div_in (a := a + k) (b := dataC c * c.u) (by omega) (by have := HO.out.r1; omega)
          rw [← HS.out] at h
          exact ⟨h.1, by omega⟩
        have HT : Hid (∃ M F X, P.s.tmod c.m = M ∧ IntKind.i64.wrap (P.s * c.u) = F ∧ IntKind.i64.wrap (P.s * (dataC c * c.u)) = X ∧ parS c P.s = ⟨true, M, F, X, c.u⟩) := by
          have g1 := HPS.out.1
          have g2 := HPS.out.2
          have h1 := mul_in (a := P.s) (b := c.u) (A := 61440) (B := 64) (by omega) (by omega) (by omega) (by omega)
          have h2 := mul_in (a := P.s) (b := dataC c * c.u) (A := 61440) (B := 960) (by omega) (by omega) (by have := HO.out.r1; omega) (by have := HO.out.r2; omega)
          exact ⟨P.s % c.m, P.s * c.u, P.s * (dataC c * c.u), tmod_of g1, wrapk_in (by omega) (by omega), wrapk_in (by omega) (by omega), rfl⟩
        obtain ⟨M, F, X, hM, hF, hX, hps⟩ := HT.out
        have HM := Lib.hid hM
        have HF := Lib.hid hF
        have HXX := Lib.hid hX
        have HQ := Lib.hid hps
        clear he e1 e2 HT hM hF hX hps
        go_upto_region 11 with fail
        obtain ⟨gs, hgs⟩ : ∃ gs, v1.ownBlock.toList = gs := ⟨_, rfl⟩
        have HG : Hid (w.heap.size ∉ gs ∧ gp ∉ gs) := by rw [← hgs]; exact ⟨HW4.out.apart HV4.out.1 (by decide), HW4.out.apart HP4.out (by decide)⟩
        have HGS := Lib.hid hgs
        clear hgs t1 t2
        refine wpG_start gs (by kernel_rfl) ?_
        have HV5 := Lib.hid HV4.out.drew
        have HP5 := Lib.hid (HP4.out.later (Below.refl _ _).drew)
        have HW5 := Lib.hid (HW4.out.later (Below.refl _ _).drew)
        generalize w4.drew = w5 at HV5 HP5 HW5 ⊢
        clear HV4 HP4 HW4 y0 y1 y2 y3 y4 y5 y6 y7 y8 y9 y10 p0 p1 p2 p3 p4
        have z0 : ¬ c.m = 0 := by omega
        have z1 : (c.m == 0) = false := by simpa using z0
        have q0 : ∀ w', Turn gs w5 w' → w'.cell? ⟨w.heap.size, 0, none⟩ = some (.int .i64 c.id) := fun w' h => (box11 (HV5.out.1.turn h HG.out.1)).1
        have q1 : ∀ w', Turn gs w5 w' → w'.cell? ⟨w.heap.size, 1, none⟩ = some (.int .i64 c.m) := fun w' h => (box11 (HV5.out.1.turn h HG.out.1)).2.1
        have q2 : ∀ w', Turn gs w5 w' → w'.cell? ⟨w.heap.size, 2, none⟩ = some (.int .i64 c.u) := fun w' h => (box11 (HV5.out.1.turn h HG.out.1)).2.2.1
        have q3 : ∀ w', Turn gs w5 w' → w'.cell? ⟨w.heap.size, 3, none⟩ = some (.int .i64 c.b) := fun w' h => (box11 (HV5.out.1.turn h HG.out.1)).2.2.2.1
        have q4 : ∀ w', Turn gs w5 w' → w'.cell? ⟨w.heap.size, 4, none⟩ = some (.int .i64 c.cp) := fun w' h => (box11 (HV5.out.1.turn h HG.out.1)).2.2.2.2.1
        have q5 : ∀ w', Turn gs w5 w' → w'.cell? ⟨w.heap.size, 5, none⟩ = some (.int .i64 c.z) := fun w' h => (box11 (HV5.out.1.turn h HG.out.1)).2.2.2.2.2.1
        have q6 : ∀ w', Turn gs w5 w' → w'.cell? ⟨w.heap.size, 6, none⟩ = some (.int .i64 c.s) := fun w' h => (box11 (HV5.out.1.turn h HG.out.1)).2.2.2.2.2.2.1
        have q7 : ∀ w', Turn gs w5 w' → w'.cell? ⟨w.heap.size, 7, none⟩ = some (.int .i64 c.mt) := fun w' h => (box11 (HV5.out.1.turn h HG.out.1)).2.2.2.2.2.2.2.1
        have q8 : ∀ w', Turn gs w5 w' → w'.cell? ⟨w.heap.size, 8, none⟩ = some (.int .i64 c.o) := fun w' h => (box11 (HV5.out.1.turn h HG.out.1)).2.2.2.2.2.2.2.2.1
        have q9 : ∀ w', Turn gs w5 w' → w'.cell? ⟨w.heap.size, 9, none⟩ = some (.int .i64 c.a) := fun w' h => (box11 (HV5.out.1.turn h HG.out.1)).2.2.2.2.2.2.2.2.2.1
        have q10 : ∀ w', Turn gs w5 w' → w'.cell? ⟨w.heap.size, 10, none⟩ = some (.int .i64 c.l) := fun w' h => (box11 (HV5.out.1.turn h HG.out.1)).2.2.2.2.2.2.2.2.2.2
        have p0 : ∀ w', Turn gs w5 w' → w'.cell? ⟨gp, 0, none⟩ = some (.int .i64 P.s) := fun w' h => (box5 (HP5.out.turn h HG.out.2)).1.1
        have p1 : ∀ w', Turn gs w5 w' → w'.cell? ⟨gp, 1, none⟩ = some (.int .i64 P.u) := fun w' h => (box5 (HP5.out.turn h HG.out.2)).1.2.1
        have p2 : ∀ w', Turn gs w5 w' → w'.cell? ⟨gp, 2, none⟩ = some (.int .i64 P.i) := fun w' h => (box5 (HP5.out.turn h HG.out.2)).1.2.2.1
        have p3 : ∀ w', Turn gs w5 w' → w'.cell? ⟨gp, 3, none⟩ = some (.int .i64 P.m) := fun w' h => (box5 (HP5.out.turn h HG.out.2)).1.2.2.2.1
        have p4 : ∀ w', Turn gs w5 w' → w'.cell? ⟨gp, 4, none⟩ = some (.int .i64 P.p) := fun w' h => (box5 (HP5.out.turn h HG.out.2)).1.2.2.2.2
        refine wpG_take (i := 0) (d := 56) (v := ?v11x0) rfl rfl (by kernel_rfl) (by kernel_rfl) (by kernel_rfl) (fun _ _ _ h => h) (by rfl) ?y11x0 ?r11x0
        case y11x0 => (intro w' hSw; go_simp; try (with_reducible rfl))
        simp only [Act.put, List.setIfInBounds_toArray, List.set_cons_zero, List.set_cons_succ]
        refine wpG_take (i := 1) (d := 57) (v := ?v11x1) rfl rfl (by kernel_rfl) (by kernel_rfl) (by kernel_rfl) (fun _ _ _ h => h) (by rfl) ?y11x1 ?r11x1
        case y11x1 => (intro w' hSw; go_simp; try (with_reducible rfl))
        simp only [Act.put, List.setIfInBounds_toArray, List.set_cons_zero, List.set_cons_succ]
        refine wpG_take (i := 2) (d := 58) (v := ?v11x2) rfl rfl (by kernel_rfl) (by kernel_rfl) (by kernel_rfl) (fun _ _ _ h => h) (by rfl) ?y11x2 ?r11x2
        case y11x2 => (intro w' hSw; go_simp; try (with_reducible rfl))
        simp only [Act.put, List.setIfInBounds_toArray, List.set_cons_zero, List.set_cons_succ]
        refine wpG_take (i := 3) (d := 59) (v := ?v11x3) rfl rfl (by kernel_rfl) (by kernel_rfl) (by kernel_rfl) (fun _ _ _ h => h) (by rfl) ?y11x3 ?r11x3
        case y11x3 => (intro w' hSw; go_simp; try (with_reducible rfl))
        simp only [Act.put, List.setIfInBounds_toArray, List.set_cons_zero, List.set_cons_succ]
        refine wpG_take (i := 4) (d := 60) (v := ?v11x4) rfl rfl (by kernel_rfl) (by kernel_rfl) (by kernel_rfl) (fun _ _ _ h => h) (by rfl) ?y11x4 ?r11x4
        case y11x4 => (intro w' hSw; go_simp; try (with_reducible rfl))
        simp only [Act.put, List.setIfInBounds_toArray, List.set_cons_zero, List.set_cons_succ]
        refine wpG_take (i := 5) (d := 61) (v := ?v11x5) rfl rfl (by kernel_rfl) (by kernel_rfl) (by kernel_rfl) (fun _ _ _ h => h) (by rfl) ?y11x5 ?r11x5
        case y11x5 => (intro w' hSw; go_simp; try (with_reducible rfl))
        simp only [Act.put, List.setIfInBounds_toArray, List.set_cons_zero, List.set_cons_succ]
        rw [HM.out]
        refine wpG_take (i := 6) (d := 62) (v := ?v11x6) rfl rfl (by kernel_rfl) (by kernel_rfl) (by kernel_rfl) (fun _ _ _ h => h) (by rfl) ?y11x6 ?r11x6
        case y11x6 => (intro w' hSw; go_simp; try (with_reducible rfl))
        simp only [Act.put, List.setIfInBounds_toArray, List.set_cons_zero, List.set_cons_succ]
        refine wpG_take (i := 7) (d := 63) (v := ?v11x7) rfl rfl (by kernel_rfl) (by kernel_rfl) (by kernel_rfl) (fun _ _ _ h => h) (by rfl) ?y11x7 ?r11x7
        case y11x7 => (intro w' hSw; go_simp; try (with_reducible rfl))
        simp only [Act.put, List.setIfInBounds_toArray, List.set_cons_zero, List.set_cons_succ]
        refine wpG_take (i := 8) (d := 64) (v := ?v11x8) rfl rfl (by kernel_rfl) (by kernel_rfl) (by kernel_rfl) (fun _ _ _ h => h) (by rfl) ?y11x8 ?r11x8
        case y11x8 => (intro w' hSw; go_simp; try (with_reducible rfl))
        simp only [Act.put, List.setIfInBounds_toArray, List.set_cons_zero, List.set_cons_succ]
        refine wpG_take (i := 9) (d := 65) (v := ?v11x9) rfl rfl (by kernel_rfl) (by kernel_rfl) (by kernel_rfl) (fun _ _ _ h => h) (by rfl) ?y11x9 ?r11x9
        case y11x9 => (intro w' hSw; go_simp; try (with_reducible rfl))
        simp only [Act.put, List.setIfInBounds_toArray, List.set_cons_zero, List.set_cons_succ]
        refine wpG_take (i := 10) (d := 66) (v := ?v11x10) rfl rfl (by kernel_rfl) (by kernel_rfl) (by kernel_rfl) (fun _ _ _ h => h) (by rfl) ?y11x10 ?r11x10
        case y11x10 => (intro w' hSw; go_simp; try (with_reducible rfl))
        simp only [Act.put, List.setIfInBounds_toArray, List.set_cons_zero, List.set_cons_succ]
        rw [HF.out]
        refine wpG_take (i := 11) (d := 67) (v := ?v11x11) rfl rfl (by kernel_rfl) (by kernel_rfl) (by kernel_rfl) (fun _ _ _ h => h) (by rfl) ?y11x11 ?r11x11
        case y11x11 => (intro w' hSw; go_simp; try (with_reducible rfl))
        simp only [Act.put, List.setIfInBounds_toArray, List.set_cons_zero, List.set_cons_succ]
        refine wpG_take (i := 12) (d := 68) (v := ?v11x12) rfl rfl (by kernel_rfl) (by kernel_rfl) (by kernel_rfl) (fun _ _ _ h => h) (by rfl) ?y11x12 ?r11x12
        case y11x12 => (intro w' hSw; go_simp; try (with_reducible rfl))
        simp only [Act.put, List.setIfInBounds_toArray, List.set_cons_zero, List.set_cons_succ]
        refine wpG_take (i := 13) (d := 69) (v := ?v11x13) rfl rfl (by kernel_rfl) (by kernel_rfl) (by kernel_rfl) (fun _ _ _ h => h) (by rfl) ?y11x13 ?r11x13
        case y11x13 => (intro w' hSw; go_simp; try (with_reducible rfl))
        simp only [Act.put, List.setIfInBounds_toArray, List.set_cons_zero, List.set_cons_succ]
        refine wpG_take (i := 16) (d := 72) (v := ?v11x16) rfl rfl (by kernel_rfl) (by kernel_rfl) (by kernel_rfl) (fun _ _ _ h => h) (by rfl) ?y11x16 ?r11x16
        case y11x16 => (intro w' hSw; go_simp; try (with_reducible rfl))
        simp only [Act.put, List.setIfInBounds_toArray, List.set_cons_zero, List.set_cons_succ]
        refine wpG_take (i := 17) (d := 73) (v := ?v11x17) rfl rfl (by kernel_rfl) (by kernel_rfl) (by kernel_rfl) (fun _ _ _ h => h) (by rfl) ?y11x17 ?r11x17
        case y11x17 => (intro w' hSw; go_simp; try (with_reducible rfl))
        simp only [Act.put, List.setIfInBounds_toArray, List.set_cons_zero, List.set_cons_succ]
        refine wpG_do (i := 14) (by kernel_rfl) rfl (by rfl) (fun K hK => ?_)
        go_simp
        refine (rRow_to rfl w5).mono ?_
        rintro e w6 ⟨rfl, hb⟩
        have HV6 := Lib.hid (HV5.out.later hb)
        have HP6 := Lib.hid (HP5.out.later hb)
        have HW6 := Lib.hid (HW5.out.later hb)
        go_simp
        refine hK.out _ _ (Turn.of_below hb (Nat.le_refl _)) ?_
        clear hK hb HV5 HP5 HW5 q0 q1 q2 q3 q4 q5 q6 q7 q8 q9 q10 p0 p1 p2 p3 p4
        have q0 : ∀ w', Turn gs w6 w' → w'.cell? ⟨w.heap.size, 0, none⟩ = some (.int .i64 c.id) := fun w' h => (box11 (HV6.out.1.turn h HG.out.1)).1
        have q1 : ∀ w', Turn gs w6 w' → w'.cell? ⟨w.heap.size, 1, none⟩ = some (.int .i64 c.m) := fun w' h => (box11 (HV6.out.1.turn h HG.out.1)).2.1
        have q2 : ∀ w', Turn gs w6 w' → w'.cell? ⟨w.heap.size, 2, none⟩ = some (.int .i64 c.u) := fun w' h => (box11 (HV6.out.1.turn h HG.out.1)).2.2.1
        have q3 : ∀ w', Turn gs w6 w' → w'.cell? ⟨w.heap.size, 3, none⟩ = some (.int .i64 c.b) := fun w' h => (box11 (HV6.out.1.turn h HG.out.1)).2.2.2.1
        have q4 : ∀ w', Turn gs w6 w' → w'.cell? ⟨w.heap.size, 4, none⟩ = some (.int .i64 c.cp) := fun w' h => (box11 (HV6.out.1.turn h HG.out.1)).2.2.2.2.1
        have q5 : ∀ w', Turn gs w6 w' → w'.cell? ⟨w.heap.size, 5, none⟩ = some (.int .i64 c.z) := fun w' h => (box11 (HV6.out.1.turn h HG.out.1)).2.2.2.2.2.1
        have q6 : ∀ w', Turn gs w6 w' → w'.cell? ⟨w.heap.size, 6, none⟩ = some (.int .i64 c.s) := fun w' h => (box11 (HV6.out.1.turn h HG.out.1)).2.2.2.2.2.2.1
        have q7 : ∀ w', Turn gs w6 w' → w'.cell? ⟨w.heap.size, 7, none⟩ = some (.int .i64 c.mt) := fun w' h => (box11 (HV6.out.1.turn h HG.out.1)).2.2.2.2.2.2.2.1
        have q8 : ∀ w', Turn gs w6 w' → w'.cell? ⟨w.heap.size, 8, none⟩ = some (.int .i64 c.o) := fun w' h => (box11 (HV6.out.1.turn h HG.out.1)).2.2.2.2.2.2.2.2.1
        have q9 : ∀ w', Turn gs w6 w' → w'.cell? ⟨w.heap.size, 9, none⟩ = some (.int .i64 c.a) := fun w' h => (box11 (HV6.out.1.turn h HG.out.1)).2.2.2.2.2.2.2.2.2.1
        have q10 : ∀ w', Turn gs w6 w' → w'.cell? ⟨w.heap.size, 10, none⟩ = some (.int .i64 c.l) := fun w' h => (box11 (HV6.out.1.turn h HG.out.1)).2.2.2.2.2.2.2.2.2.2
        have p0 : ∀ w', Turn gs w6 w' → w'.cell? ⟨gp, 0, none⟩ = some (.int .i64 P.s) := fun w' h => (box5 (HP6.out.turn h HG.out.2)).1.1
        have p1 : ∀ w', Turn gs w6 w' → w'.cell? ⟨gp, 1, none⟩ = some (.int .i64 P.u) := fun w' h => (box5 (HP6.out.turn h HG.out.2)).1.2.1
        have p2 : ∀ w', Turn gs w6 w' → w'.cell? ⟨gp, 2, none⟩ = some (.int .i64 P.i) := fun w' h => (box5 (HP6.out.turn h HG.out.2)).1.2.2.1
        have p3 : ∀ w', Turn gs w6 w' → w'.cell? ⟨gp, 3, none⟩ = some (.int .i64 P.m) := fun w' h => (box5 (HP6.out.turn h HG.out.2)).1.2.2.2.1
        have p4 : ∀ w', Turn gs w6 w' → w'.cell? ⟨gp, 4, none⟩ = some (.int .i64 P.p) := fun w' h => (box5 (HP6.out.turn h HG.out.2)).1.2.2.2.2
        refine wpG_take (i := 15) (d := 71) (v := ?v11x15) rfl rfl (by kernel_rfl) (by kernel_rfl) (by kernel_rfl) (fun _ _ _ h => h) (by rfl) ?y11x15 ?r11x15
        case y11x15 => (intro w' hSw; go_simp; try (with_reducible rfl))
        simp only [Act.put, List.setIfInBounds_toArray, List.set_cons_zero, List.set_cons_succ]
        rw [HXX.out]
        refine wpG_take (i := 18) (d := 74) (v := ?v11x18) rfl rfl (by kernel_rfl) (by kernel_rfl) (by kernel_rfl) (fun _ _ _ h => h) (by rfl) ?y11x18 ?r11x18
        case y11x18 => (intro w' hSw; go_simp; try (with_reducible rfl))
        simp only [Act.put, List.setIfInBounds_toArray, List.set_cons_zero, List.set_cons_succ]
        refine wpG_do (i := 19) (by kernel_rfl) rfl (by rfl) (fun K hK => ?_)
        go_simp
        refine hK.out _ _ (Turn.alloc (Turn.refl _ _) _) ?_
        have HV7 := Lib.hid (HV6.out.alloc (.cells #[.bool true, .int .i64 M, .int .i64 F, .int .i64 X, .int .i64 c.u] 41))
        have HW7 := Lib.hid (HW6.out.later ((Below.refl _ _).alloc (Nat.le_refl _) (.cells #[.bool true, .int .i64 M, .int .i64 F, .int .i64 X, .int .i64 c.u] 41)))
        have HC7 := Lib.hid (cells_five_new w6 (.bool true) (.int .i64 M) (.int .i64 F) (.int .i64 X) (.int .i64 c.u) 41)
        clear hK q0 q1 q2 q3 q4 q5 q6 q7 q8 q9 q10 p0 p1 p2 p3 p4
        generalize (w6.alloc (.cells #[.bool true, .int .i64 M, .int .i64 F, .int .i64 X, .int .i64 c.u] 41)) = w7 at HV7 HW7 HC7 ⊢
        refine wpG_do (i := 20) (by kernel_rfl) rfl (by rfl) (fun K hK => ?_)
        obtain ⟨v2, w8, hrun, hrw, hg⟩ := run_appSt (ty := 27) w7 (w.heap.size + 1) v1 _ ⟨true, M, F, X, c.u⟩ ⟨w6.heap.size, 0, none⟩ HW7.out HC7.out (by have := HLN.out; simp; omega) HV7.out.2.2
        refine oper_app (.tmp 56) (.tmp 75) 27 rfl _ _ _ _ rfl rfl hrun ?_
        simp only [Act.put, List.setIfInBounds_toArray, List.set_cons_zero, List.set_cons_succ]
        refine hK.out _ _ (by rw [← HGS.out]; exact turn_of_grown hg) ?_
        have HV8 := Lib.hid (HV7.out.kept (HW7.out.below hg HV7.out.2.2))
        have HW8 := Lib.hid hrw
        clear hK hrun hrw hg HV7 HW7 HC7
        refine wpG_take (i := 21) (d := 7) (v := ?v11x21) rfl rfl (by kernel_rfl) (by kernel_rfl) (by kernel_rfl) (fun _ _ _ h => h) (by rfl) ?y11x21 ?r11x21
        case y11x21 => (intro w' hSw; go_simp; try (with_reducible rfl))
        simp only [Act.put, List.setIfInBounds_toArray, List.set_cons_zero, List.set_cons_succ]
        refine wpG_done (by kernel_rfl) ?_
        go_wp2
        go_roundw
        case rel => exact ⟨k + 1, by omega, by go_num, by rw [stepsL_succ, HN.out, HQ.out]; simpa using HW8.out, HV8.out⟩
        case measure => simp [intOf]; omega
      · have HN : Hid (stepsL c a (k + 1) = stepsL c a k ++ [⟨false, P.m, P.p, a + k, 1⟩]) := by
          show stepsL c a (k + 1) = _
          rw [stepsL_succ]
          unfold stepsOf
          rw [if_neg he, HX.out]
        by_cases e1 : P.u = c.m - 2
        · have e2 : ¬ P.i = c.u - 1 := fun e2 => he (HL.out.2 ⟨e1, e2⟩)
          have t1 : (P.u == c.m - 2) = true := by simpa using e1
          have t2 : (P.i == c.u - 1) = false := by simpa using e2
          clear he e1 e2
          go_wp2
          go_roundw
          case rel => exact ⟨k + 1, by omega, by go_num, by rw [HN.out]; exact HW4.out, HV4.out⟩
          case measure => simp [intOf]; omega
        · have t1 : (P.u == c.m - 2) = false := by simpa using e1
          clear he e1
          go_wp2
          go_roundw
          case rel => exact ⟨k + 1, by omega, by go_num, by rw [HN.out]; exact HW4.out, HV4.out⟩
          case measure => simp [intOf]; omega
    · obtain rfl : k = n := by omega
      go_wp2
      go_ret
      exact ⟨_, rfl, HW1.out.mono (by omega), HV1.out.2.1⟩
theorem rSteps_any (c : Cf) (a n : Int) (w : World) (hn : n ≤ 9223372036854775807) (ha : a ≤ 9223372036854775807) : Calls Try.prog 10 #[(.agg #[.int .i64 c.id, .int .i64 c.m, .int .i64 c.u, .int .i64 c.b, .int .i64 c.cp, .int .i64 c.z, .int .i64 c.s, .int .i64 c.mt, .int .i64 c.o, .int .i64 c.a, .int .i64 c.l]), .int .i64 a, .int .i64 n] w (GaveS w (stepsA c a n)) := by
  by_cases hr : rightC c a n = true
  · have HA : Hid (stepsA c a n = stepsL c a n.toNat) := by
      show stepsA c a n = _
      unfold stepsA
      rw [if_pos hr]
    have HN : Hid (n = (n.toNat : Int)) := by show n = _; have := (rightC_iff.1 hr).2.2.1; omega
    rw [HA.out]
    have h := rSteps_yes c a n.toNat w (by rw [← HN.out]; exact hr)
    rw [← HN.out] at h
    exact h
  · have hf : rightC c a n = false := by simpa using hr
    have HA : Hid (stepsA c a n = []) := by
      show stepsA c a n = _
      unfold stepsA
      rw [if_neg hr]
    rw [HA.out]
    have HR := Lib.hid hf
    clear hr hf HA
    go_enter Try.func10, Try.ntmps10
    go_wp2_with fail
    have HV0 := Lib.hid (At.new c w)
    generalize (w.alloc (.cells #[.int .i64 c.id, .int .i64 c.m, .int .i64 c.u, .int .i64 c.b, .int .i64 c.cp, .int .i64 c.z, .int .i64 c.s, .int .i64 c.mt, .int .i64 c.o, .int .i64 c.a, .int .i64 c.l] 23)) = w0 at HV0 ⊢
    obtain ⟨y0, y1, y2, y3, y4, y5, y6, y7, y8, y9, y10⟩ := box11 HV0.out.1
    refine (right_any c a n w0 hn ha).mono ?_
    rintro e w1 ⟨rfl, hb⟩
    rw [HR.out]
    have HV1 := Lib.hid (HV0.out.later hb)
    clear hb HV0 y0 y1 y2 y3 y4 y5 y6 y7 y8 y9 y10
    obtain ⟨y0, y1, y2, y3, y4, y5, y6, y7, y8, y9, y10⟩ := box11 HV1.out.1
    go_wp2
    go_ret
    exact gaveS_nil HV1.out.2.1
end Go.Proofs.Yteglgopbagefcaa
