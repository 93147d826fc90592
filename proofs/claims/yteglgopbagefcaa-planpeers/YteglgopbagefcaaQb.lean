/- The contract of Peers. -/
import Derived.Test.YteglgopbagefcaaQa
namespace Go.Proofs.Yteglgopbagefcaa
set_option linter.unusedVariables false
set_option linter.unusedSimpArgs false
open Go.RowKit Go.Shelf
open Go.RowKit (wrap64)

set_option maxRecDepth 100000 in
set_option maxHeartbeats 4000000 in
theorem peers_core (c : Cf) (lb n R X : Int) (P : Pl) (D : Nat) (w : World) (hg : pgoodC c lb n = true) (hR : dataC c * c.u = R) (hP : ofIn c lb = P) (hX : P.s * R = X) (hD : dataC c = (D : Int)) : Calls Try.prog 14 #[(.agg #[.int .i64 c.id, .int .i64 c.m, .int .i64 c.u, .int .i64 c.b, .int .i64 c.cp, .int .i64 c.z, .int .i64 c.s, .int .i64 c.mt, .int .i64 c.o, .int .i64 c.a, .int .i64 c.l]), .int .i64 lb, .int .i64 n] w (GaveP w (peersU c P X n D) (decide (X + R ≤ n))) := by
  obtain ⟨hr, h0, h1⟩ := pgoodC_iff.1 hg
  have HG0 := Lib.hid hr
  have HR0 := Lib.hid (rightC_iff.1 hr)
  have HO := Lib.hid (ok_of HR0.out.1)
  have b2 : n ≤ 61440 := by have := HR0.out.2.2.2; have := HO.out.z2; omega
  have o1 := HO.out.m1
  have o2 := HO.out.m2
  have o3 := HO.out.u1
  have o4 := HO.out.u2
  have o5 := HO.out.r1
  have o6 := HO.out.r2
  rw [hR] at o5 o6
  have HB : Hid (ofB c lb = true) := ofB_iff.2 ⟨HR0.out.1, h0, by have := HR0.out.2.2.2; omega⟩
  have HPA : Hid (ofA c lb = P) := by
    show ofA c lb = P
    unfold ofA
    rw [if_pos HB.out, hP]
  have HPS : Hid (P.s = lb / R ∧ P.i = lb % R % c.u) := by rw [← hP, ← hR]; exact ⟨rfl, rfl⟩
  have d1 : 0 ≤ P.s ∧ P.s ≤ 61440 := by
    have h := div_in (a := lb) (b := R) h0 (by omega)
    rw [← HPS.out.1] at h
    omega
  have d2 : 0 ≤ P.i ∧ P.i < c.u := by
    rw [HPS.out.2]
    exact ⟨Int.emod_nonneg _ (by omega), Int.emod_lt_of_pos _ (by omega)⟩
  have d3 : 0 ≤ X ∧ X ≤ lb := by
    have e := Int.mul_ediv_add_emod lb R
    have e2 := Int.emod_nonneg lb (show R ≠ 0 by omega)
    rw [← HPS.out.1, Int.mul_comm, hX] at e
    refine ⟨?_, by omega⟩
    rw [← hX]
    exact Int.mul_nonneg d1.1 (by omega)
  have HXX : Hid (IntKind.i64.wrap (P.s * R) = X) := by
    show IntKind.i64.wrap (P.s * R) = X
    rw [hX]
    exact wrapk_in (by omega) (by omega)
  have HRR := Lib.hid hR
  have HZ0 : Hid (n ≤ stripesC c * (dataC c * c.u)) := by have := HR0.out.2.2.2; show _ ≤ _; omega
  clear hr hg hR hP hX HPS
  have HD := Lib.hid hD
  have b3 : D ≤ 16 := by have := HO.out.d; omega
  clear hD
  go_enter Try.func14, Try.ntmps14
  go_wp2_with fail
  have HV0 := Lib.hid (At.new c w)
  generalize (w.alloc (.cells #[.int .i64 c.id, .int .i64 c.m, .int .i64 c.u, .int .i64 c.b, .int .i64 c.cp, .int .i64 c.z, .int .i64 c.s, .int .i64 c.mt, .int .i64 c.o, .int .i64 c.a, .int .i64 c.l] 23)) = w0 at HV0 ⊢
  obtain ⟨y0, y1, y2, y3, y4, y5, y6, y7, y8, y9, y10⟩ := box11 HV0.out.1
  refine (pwithin_any c 0 n w0 (by omega) (by omega)).mono ?_
  rintro e w1 ⟨rfl, hb⟩
  rw [HG0.out]
  have HV1 := Lib.hid (HV0.out.later hb)
  clear hb HV0 y0 y1 y2 y3 y4 y5 y6 y7 y8 y9 y10
  obtain ⟨y0, y1, y2, y3, y4, y5, y6, y7, y8, y9, y10⟩ := box11 HV1.out.1
  go_wp2_with fail
  refine (of_any c lb w1).mono ?_
  rintro e w2 ⟨rfl, hb⟩
  rw [HPA.out, HB.out]
  have HV2 := Lib.hid (HV1.out.later hb)
  clear hb HV1 y0 y1 y2 y3 y4 y5 y6 y7 y8 y9 y10 HPA HB
  go_wp2_with fail
  have HV3 := Lib.hid (HV2.out.alloc (.cells #[.int .i64 P.s, .int .i64 P.u, .int .i64 P.i, .int .i64 P.m, .int .i64 P.p] 36))
  have HP3 := Lib.hid (Box.fresh w2 36 #[.int .i64 P.s, .int .i64 P.u, .int .i64 P.i, .int .i64 P.m, .int .i64 P.p])
  generalize hgp : w2.heap.size = gp at HP3 ⊢
  generalize (w2.alloc (.cells #[.int .i64 P.s, .int .i64 P.u, .int .i64 P.i, .int .i64 P.m, .int .i64 P.p] 36)) = w3 at HV3 HP3 ⊢
  clear hgp HV2
  obtain ⟨y0, y1, y2, y3, y4, y5, y6, y7, y8, y9, y10⟩ := box11 HV3.out.1
  obtain ⟨⟨p0, p1, p2, p3, p4⟩, _⟩ := box5 HP3.out
  refine wpG_start [] (by kernel_rfl) ?_
  have HV4 := Lib.hid HV3.out.drew
  have HP4 := Lib.hid (HP3.out.later (Below.refl _ _).drew)
  generalize w3.drew = w4 at HV4 HP4 ⊢
  clear HV3 HP3 y0 y1 y2 y3 y4 y5 y6 y7 y8 y9 y10 p0 p1 p2 p3 p4
  have HG : Hid (w.heap.size ∉ ([] : List Nat) ∧ gp ∉ ([] : List Nat)) := ⟨by simp, by simp⟩
  have q0 : ∀ w', Turn [] w4 w' → w'.cell? ⟨w.heap.size, 0, none⟩ = some (.int .i64 c.id) := fun w' h => (box11 (HV4.out.1.turn h HG.out.1)).1
  have q1 : ∀ w', Turn [] w4 w' → w'.cell? ⟨w.heap.size, 1, none⟩ = some (.int .i64 c.m) := fun w' h => (box11 (HV4.out.1.turn h HG.out.1)).2.1
  have q2 : ∀ w', Turn [] w4 w' → w'.cell? ⟨w.heap.size, 2, none⟩ = some (.int .i64 c.u) := fun w' h => (box11 (HV4.out.1.turn h HG.out.1)).2.2.1
  have q3 : ∀ w', Turn [] w4 w' → w'.cell? ⟨w.heap.size, 3, none⟩ = some (.int .i64 c.b) := fun w' h => (box11 (HV4.out.1.turn h HG.out.1)).2.2.2.1
  have q4 : ∀ w', Turn [] w4 w' → w'.cell? ⟨w.heap.size, 4, none⟩ = some (.int .i64 c.cp) := fun w' h => (box11 (HV4.out.1.turn h HG.out.1)).2.2.2.2.1
  have q5 : ∀ w', Turn [] w4 w' → w'.cell? ⟨w.heap.size, 5, none⟩ = some (.int .i64 c.z) := fun w' h => (box11 (HV4.out.1.turn h HG.out.1)).2.2.2.2.2.1
  have q6 : ∀ w', Turn [] w4 w' → w'.cell? ⟨w.heap.size, 6, none⟩ = some (.int .i64 c.s) := fun w' h => (box11 (HV4.out.1.turn h HG.out.1)).2.2.2.2.2.2.1
  have q7 : ∀ w', Turn [] w4 w' → w'.cell? ⟨w.heap.size, 7, none⟩ = some (.int .i64 c.mt) := fun w' h => (box11 (HV4.out.1.turn h HG.out.1)).2.2.2.2.2.2.2.1
  have q8 : ∀ w', Turn [] w4 w' → w'.cell? ⟨w.heap.size, 8, none⟩ = some (.int .i64 c.o) := fun w' h => (box11 (HV4.out.1.turn h HG.out.1)).2.2.2.2.2.2.2.2.1
  have q9 : ∀ w', Turn [] w4 w' → w'.cell? ⟨w.heap.size, 9, none⟩ = some (.int .i64 c.a) := fun w' h => (box11 (HV4.out.1.turn h HG.out.1)).2.2.2.2.2.2.2.2.2.1
  have q10 : ∀ w', Turn [] w4 w' → w'.cell? ⟨w.heap.size, 10, none⟩ = some (.int .i64 c.l) := fun w' h => (box11 (HV4.out.1.turn h HG.out.1)).2.2.2.2.2.2.2.2.2.2
  have p0 : ∀ w', Turn [] w4 w' → w'.cell? ⟨gp, 0, none⟩ = some (.int .i64 P.s) := fun w' h => (box5 (HP4.out.turn h HG.out.2)).1.1
  have p1 : ∀ w', Turn [] w4 w' → w'.cell? ⟨gp, 1, none⟩ = some (.int .i64 P.u) := fun w' h => (box5 (HP4.out.turn h HG.out.2)).1.2.1
  have p2 : ∀ w', Turn [] w4 w' → w'.cell? ⟨gp, 2, none⟩ = some (.int .i64 P.i) := fun w' h => (box5 (HP4.out.turn h HG.out.2)).1.2.2.1
  have p3 : ∀ w', Turn [] w4 w' → w'.cell? ⟨gp, 3, none⟩ = some (.int .i64 P.m) := fun w' h => (box5 (HP4.out.turn h HG.out.2)).1.2.2.2.1
  have p4 : ∀ w', Turn [] w4 w' → w'.cell? ⟨gp, 4, none⟩ = some (.int .i64 P.p) := fun w' h => (box5 (HP4.out.turn h HG.out.2)).1.2.2.2.2
  refine wpG_take (i := 0) (d := 34) (v := ?v4x0) rfl rfl (by kernel_rfl) (by kernel_rfl) (by kernel_rfl) (fun _ _ _ h => h) (by rfl) ?y4x0 ?r4x0
  case y4x0 => (intro w' hSw; go_simp; try (with_reducible rfl))
  simp only [Act.put, List.setIfInBounds_toArray, List.set_cons_zero, List.set_cons_succ]
  refine wpG_take (i := 1) (d := 35) (v := ?v4x1) rfl rfl (by kernel_rfl) (by kernel_rfl) (by kernel_rfl) (fun _ _ _ h => h) (by rfl) ?y4x1 ?r4x1
  case y4x1 => (intro w' hSw; go_simp; try (with_reducible rfl))
  simp only [Act.put, List.setIfInBounds_toArray, List.set_cons_zero, List.set_cons_succ]
  refine wpG_take (i := 2) (d := 36) (v := ?v4x2) rfl rfl (by kernel_rfl) (by kernel_rfl) (by kernel_rfl) (fun _ _ _ h => h) (by rfl) ?y4x2 ?r4x2
  case y4x2 => (intro w' hSw; go_simp; try (with_reducible rfl))
  simp only [Act.put, List.setIfInBounds_toArray, List.set_cons_zero, List.set_cons_succ]
  refine wpG_do (i := 3) (by kernel_rfl) rfl (by rfl) (fun K hK => ?_)
  go_simp
  refine (row_to HRR.out w4).mono ?_
  rintro e w5 ⟨rfl, hb⟩
  have HV5 := Lib.hid (HV4.out.later hb)
  have HP5 := Lib.hid (HP4.out.later hb)
  go_simp
  refine hK.out _ _ (Turn.of_below hb (Nat.le_refl _)) ?_
  clear hK hb HV4 HP4 q0 q1 q2 q3 q4 q5 q6 q7 q8 q9 q10 p0 p1 p2 p3 p4
  refine wpG_take (i := 4) (d := 38) (v := ?v4x4) rfl rfl (by kernel_rfl) (by kernel_rfl) (by kernel_rfl) (fun _ _ _ h => h) (by rfl) ?y4x4 ?r4x4
  case y4x4 => (intro w' hSw; go_simp; try (with_reducible rfl))
  simp only [Act.put, List.setIfInBounds_toArray, List.set_cons_zero, List.set_cons_succ]
  rw [HXX.out]
  refine wpG_take (i := 5) (d := 10) (v := ?v4x5) rfl rfl (by kernel_rfl) (by kernel_rfl) (by kernel_rfl) (fun _ _ _ h => h) (by rfl) ?y4x5 ?r4x5
  case y4x5 => (intro w' hSw; go_simp; try (with_reducible rfl))
  simp only [Act.put, List.setIfInBounds_toArray, List.set_cons_zero, List.set_cons_succ]
  refine wpG_done (by kernel_rfl) ?_
  obtain ⟨y0, y1, y2, y3, y4, y5, y6, y7, y8, y9, y10⟩ := box11 HV5.out.1
  go_wp2_with fail
  refine (data_any c w5).mono ?_
  rintro e w6 ⟨rfl, hb⟩
  rw [HD.out]
  have HV6 : Hid (AtO c P gp w6.heap.size w w6) := ⟨HV5.out.later hb, HP5.out.later hb, (HP5.out.later hb).lt, (HV5.out.later hb).2.2, Nat.le_refl _⟩
  clear hb HV5 HP5 y0 y1 y2 y3 y4 y5 y6 y7 y8 y9 y10 HG
  generalize hB6 : w6.heap.size = B at HV6
  clear hB6
  go_wp2
  go_loopw [6, 41] (fun v i wr => ∃ k : Nat, k ≤ D ∧ i = .int .i64 k ∧ Rw Pl.cs 36 wr B v (peersU c P X n k) ∧ AtO c P gp B w wr) (fun _ i _ => D - (intOf i).toNat)
  case atStart => exact ⟨0, by omega, rfl, by rw [peersU_zero]; exact Rw.nil _ _ _, HV6.out⟩
  case round =>
    clear HV6
    obtain ⟨k, hk, rfl, hrw, hat⟩ := hrel
    have HV1 := Lib.hid hat
    have HW1 := Lib.hid hrw
    clear hat hrw
    obtain ⟨y0, y1, y2, y3, y4, y5, y6, y7, y8, y9, y10⟩ := box11 HV1.out.at'.1
    obtain ⟨⟨p0, p1, p2, p3, p4⟩, _⟩ := box5 HV1.out.pl
    by_cases hlt : k < D
    · have m1 := mul_in (a := (k : Int)) (b := c.u) (A := 16) (B := 64) (by omega) (by omega) (by omega) (by omega)
      have HLN : Hid ((peersU c P X n k).length ≤ 16) := by have := peersU_len c P X n k; show _ ≤ _; omega
      have HQU : Hid (peersU c P X n (k + 1) = peersU c P X n k ++ if (k : Int) = P.u ∨ n ≤ X + k * c.u + P.i then [] else [ofIn c (X + k * c.u + P.i)]) := peersU_succ c P X n k
      obtain ⟨M, hM⟩ : ∃ M, (k : Int) * c.u = M := ⟨_, rfl⟩
      rw [hM] at m1 HQU
      go_upto_region 9 with fail
      clear hM
      by_cases e1 : (k : Int) = P.u
      · have t1 : ((k : Int) == P.u) = true := by simpa using e1
        have HN : Hid (peersU c P X n (k + 1) = peersU c P X n k) := by
          show _ = _
          rw [HQU.out, if_pos (Or.inl e1), List.append_nil]
        clear e1 HQU
        go_wp2
        go_roundw
        case rel => exact ⟨k + 1, by omega, by go_num, by rw [HN.out]; exact HW1.out, HV1.out⟩
        case measure => simp [intOf]; omega
      · have t1 : ((k : Int) == P.u) = false := by simpa using e1
        by_cases e2 : n ≤ X + M + P.i
        · have HN : Hid (peersU c P X n (k + 1) = peersU c P X n k) := by
            show _ = _
            rw [HQU.out, if_pos (Or.inr e2), List.append_nil]
          clear e1 HQU
          go_wp2
          go_roundw
          case rel => exact ⟨k + 1, by omega, by go_num, by rw [HN.out]; exact HW1.out, HV1.out⟩
          case measure => simp [intOf]; omega
        · have HN : Hid (peersU c P X n (k + 1) = peersU c P X n k ++ [ofIn c (X + M + P.i)]) := by
            show _ = _
            rw [HQU.out, if_neg (by intro h; rcases h with h | h; exact e1 h; exact e2 h)]
          have HB2 : Hid (ofB c (X + M + P.i) = true) := ofB_iff.2 ⟨HR0.out.1, by omega, by have := HZ0.out; omega⟩
          have HA2 : Hid (ofA c (X + M + P.i) = ofIn c (X + M + P.i)) := by
            show ofA c (X + M + P.i) = _
            unfold ofA
            rw [if_pos HB2.out]
          clear e1 HQU
          obtain ⟨O, hO⟩ : ∃ O, X + M + P.i = O := ⟨_, rfl⟩
          rw [hO] at HN HB2 HA2 e2
          have hO1 : 0 ≤ O := by omega
          have hO2 : O < n := by omega
          go_wp2_with fail
          first | rw [hO] | skip
          refine (of_any c O wr).mono ?_
          rintro e w7 ⟨rfl, hb⟩
          rw [HA2.out, HB2.out]
          obtain ⟨Q, hQ⟩ : ∃ Q, ofIn c O = Q := ⟨_, rfl⟩
          rw [hQ] at HN ⊢
          have HV7 := Lib.hid (HV1.out.later hb)
          have HW7 := Lib.hid (HW1.out.later hb)
          clear hb hO hQ HV1 HW1 y0 y1 y2 y3 y4 y5 y6 y7 y8 y9 y10 p0 p1 p2 p3 p4 HA2 HB2
          go_upto_region 11 with fail
          have HV8 := Lib.hid (HV7.out.alloc (.cells #[.int .i64 Q.s, .int .i64 Q.u, .int .i64 Q.i, .int .i64 Q.m, .int .i64 Q.p] 36))
          have HW8 := Lib.hid (HW7.out.later ((Below.refl _ _).alloc (Nat.le_refl _) (.cells #[.int .i64 Q.s, .int .i64 Q.u, .int .i64 Q.i, .int .i64 Q.m, .int .i64 Q.p] 36)))
          have HQ8 := Lib.hid (Box.fresh w7 36 #[.int .i64 Q.s, .int .i64 Q.u, .int .i64 Q.i, .int .i64 Q.m, .int .i64 Q.p])
          generalize hgq : w7.heap.size = gq at HQ8 ⊢
          generalize (w7.alloc (.cells #[.int .i64 Q.s, .int .i64 Q.u, .int .i64 Q.i, .int .i64 Q.m, .int .i64 Q.p] 36)) = w8 at HV8 HW8 HQ8 ⊢
          clear hgq HV7 HW7
          obtain ⟨⟨p0, p1, p2, p3, p4⟩, _⟩ := box5 HQ8.out
          go_wp2_with (at_builtin; go_loud (refine wpList_appPl _ rfl (.tmp 68) (.tmp 70) rfl B u6 (peersU c P X n k) Q ⟨w8.heap.size, 0, none⟩ rfl rfl (HW8.out.later ((Below.refl _ _).alloc (Nat.le_refl _) _)) (cells_five_new _ _ _ _ _ _ _) (by have := HLN.out; omega) (by have := HV8.out.sz; simp; omega) ?_; intro v1 w9 hrw hg; have ha := HW8.out.later ((Below.refl _ _).alloc (Nat.le_refl _) (.cells #[.int .i64 Q.s, .int .i64 Q.u, .int .i64 Q.i, .int .i64 Q.m, .int .i64 Q.p] 36)); have HV9 := Lib.hid ((HV8.out.alloc (.cells #[.int .i64 Q.s, .int .i64 Q.u, .int .i64 Q.i, .int .i64 Q.m, .int .i64 Q.p] 36)).kept (ha.below hg (by have := HV8.out.sz; simp; omega))); have HW9 := Lib.hid hrw; clear hrw hg ha p0 p1 p2 p3 p4 HV8 HW8 HQ8))
          go_roundw
          case rel => exact ⟨k + 1, by omega, by go_num, by rw [HN.out]; exact HW9.out, HV9.out⟩
          case measure => simp [intOf]; omega
    · obtain rfl : k = D := by omega
      go_wp2_with fail
      refine (row_to HRR.out wr).mono ?_
      rintro e w7 ⟨rfl, hb⟩
      have HV7 := Lib.hid (HV1.out.later hb)
      have HW7 := Lib.hid (HW1.out.later hb)
      clear hb HV1 HW1 y0 y1 y2 y3 y4 y5 y6 y7 y8 y9 y10 p0 p1 p2 p3 p4
      go_wp2
      exact bodyPost_ret (v := .tuple #[_, .bool (decide (X + R ≤ n))]) (by simp [results, Try.results14, go_sem]) rfl ⟨_, rfl, HW7.out.mono (by have := HV7.out.ge; omega), HV7.out.at'.2.1⟩
end Go.Proofs.Yteglgopbagefcaa
