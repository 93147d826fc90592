/- The contract of the reference's Peers. -/
import Derived.Test.YteglgopbagefcaaQa
namespace Go.Proofs.Yteglgopbagefcaa
set_option linter.unusedVariables false
set_option linter.unusedSimpArgs false
open Go.RowKit Go.Shelf
open Go.RowKit (wrap64)

set_option maxRecDepth 100000 in
set_option maxHeartbeats 4000000 in
theorem rPeers_core (c : Cf) (lb n R X : Int) (P : Pl) (D : Nat) (w : World) (hg : pgoodC c lb n = true) (hR : dataC c * c.u = R) (hP : ofIn c lb = P) (hX : P.s * R = X) (hD : R = (D : Int)) : Calls Try.prog 15 #[(.agg #[.int .i64 c.id, .int .i64 c.m, .int .i64 c.u, .int .i64 c.b, .int .i64 c.cp, .int .i64 c.z, .int .i64 c.s, .int .i64 c.mt, .int .i64 c.o, .int .i64 c.a, .int .i64 c.l]), .int .i64 lb, .int .i64 n] w (GaveP w (peersI c P X n D) (decide (X + R ≤ n))) := by
  have HZ1 : Hid (X + R ≤ stripesC c * (dataC c * c.u)) := by
    obtain ⟨hr, h0, h1⟩ := pgoodC_iff.1 hg
    have hr2 := rightC_iff.1 hr
    have ho := ok_of hr2.1
    have o5 := ho.r1
    rw [hR] at o5
    have hs : P.s = lb / R := by rw [← hP, ← hR]; rfl
    have h2 : lb / R < stripesC c := Int.ediv_lt_of_lt_mul (by omega) (by have := hr2.2.2.2; rw [hR] at this; omega)
    have h3 : (lb / R + 1) * R ≤ stripesC c * R := Int.mul_le_mul_of_nonneg_right (by omega) (by omega)
    rw [Int.add_mul, ← hs, hX] at h3
    rw [hR]
    show X + R ≤ _
    omega
  obtain ⟨hr, h0, h1⟩ := pgoodC_iff.1 hg
  have HG0 := Lib.hid hr
  have HR0 := Lib.hid (rightC_iff.1 hr)
  have HO := Lib.hid (ok_of HR0.out.1)
  have b2 : n ≤ 61440 := by have := HR0.out.2.2.2; have := HO.out.z2; omega
  have o1 := HO.out.m1
  have o2 := HO.out.m2
  have o3 := HO.out.u1
  have o4 := HO.out.u2
  have o5 := HO.out.r1
  have o6 := HO.out.r2
  rw [hR] at o5 o6
  have HB : Hid (ofB c lb = true) := ofB_iff.2 ⟨HR0.out.1, h0, by have := HR0.out.2.2.2; omega⟩
  have HPA : Hid (ofA c lb = P) := by
    show ofA c lb = P
    unfold ofA
    rw [if_pos HB.out, hP]
  have HPS : Hid (P.s = lb / R ∧ P.i = lb % R % c.u) := by rw [← hP, ← hR]; exact ⟨rfl, rfl⟩
  have d1 : 0 ≤ P.s ∧ P.s ≤ 61440 := by
    have h := div_in (a := lb) (b := R) h0 (by omega)
    rw [← HPS.out.1] at h
    omega
  have d2 : 0 ≤ P.i ∧ P.i < c.u := by
    rw [HPS.out.2]
    exact ⟨Int.emod_nonneg _ (by omega), Int.emod_lt_of_pos _ (by omega)⟩
  have d3 : 0 ≤ X ∧ X ≤ lb := by
    have e := Int.mul_ediv_add_emod lb R
    have e2 := Int.emod_nonneg lb (show R ≠ 0 by omega)
    rw [← HPS.out.1, Int.mul_comm, hX] at e
    refine ⟨?_, by omega⟩
    rw [← hX]
    exact Int.mul_nonneg d1.1 (by omega)
  have HXX : Hid (IntKind.i64.wrap (P.s * R) = X) := by
    show IntKind.i64.wrap (P.s * R) = X
    rw [hX]
    exact wrapk_in (by omega) (by omega)
  have HRR := Lib.hid hR
  have HZ0 : Hid (n ≤ stripesC c * (dataC c * c.u)) := by have := HR0.out.2.2.2; show _ ≤ _; omega
  clear hr hg hR hP hX HPS
  have HD := Lib.hid hD
  have b3 : D ≤ 960 := by omega
  have HZ2 : Hid (X + R ≤ 61440) := by have := HZ1.out; have := HO.out.z2; show _ ≤ _; omega
  clear hD
  go_enter Try.func15, Try.ntmps15
  go_wp2_with fail
  have HV0 := Lib.hid (At.new c w)
  generalize (w.alloc (.cells #[.int .i64 c.id, .int .i64 c.m, .int .i64 c.u, .int .i64 c.b, .int .i64 c.cp, .int .i64 c.z, .int .i64 c.s, .int .i64 c.mt, .int .i64 c.o, .int .i64 c.a, .int .i64 c.l] 23)) = w0 at HV0 ⊢
  obtain ⟨y0, y1, y2, y3, y4, y5, y6, y7, y8, y9, y10⟩ := box11 HV0.out.1
  refine (right_any c 0 n w0 (by omega) (by omega)).mono ?_
  rintro e w1 ⟨rfl, hb⟩
  rw [HG0.out]
  have HV1 := Lib.hid (HV0.out.later hb)
  clear hb HV0 y0 y1 y2 y3 y4 y5 y6 y7 y8 y9 y10
  obtain ⟨y0, y1, y2, y3, y4, y5, y6, y7, y8, y9, y10⟩ := box11 HV1.out.1
  go_wp2_with fail
  refine (rOf_any c lb w1).mono ?_
  rintro e w2 ⟨rfl, hb⟩
  rw [HPA.out, HB.out]
  have HV2 := Lib.hid (HV1.out.later hb)
  clear hb HV1 y0 y1 y2 y3 y4 y5 y6 y7 y8 y9 y10 HPA HB
  go_upto_region 4 with fail
  have HV3 : Hid (AtO c P w2.heap.size (w2.alloc (.cells #[.int .i64 P.s, .int .i64 P.u, .int .i64 P.i, .int .i64 P.m, .int .i64 P.p] 36)).heap.size w (w2.alloc (.cells #[.int .i64 P.s, .int .i64 P.u, .int .i64 P.i, .int .i64 P.m, .int .i64 P.p] 36))) := ⟨HV2.out.alloc _, Box.fresh w2 36 #[.int .i64 P.s, .int .i64 P.u, .int .i64 P.i, .int .i64 P.m, .int .i64 P.p], by simp, (HV2.out.alloc _).2.2, Nat.le_refl _⟩
  generalize hgp : w2.heap.size = gp at HV3 ⊢
  generalize (w2.alloc (.cells #[.int .i64 P.s, .int .i64 P.u, .int .i64 P.i, .int .i64 P.m, .int .i64 P.p] 36)) = w3 at HV3 ⊢
  generalize hB6 : w3.heap.size = B at HV3
  clear hgp HV2 hB6
  go_wp2
  go_loopw [10, 11, 12] (fun v b i wr => ∃ (k : Nat) (bl : Bool), k ≤ D ∧ i = .int .i64 k ∧ b = .bool bl ∧ (bl = decide (X + k ≤ n)) ∧ Rw Pl.cs 36 wr B v (peersI c P X n k) ∧ AtO c P gp B w wr) (fun _ _ i _ => D - (intOf i).toNat)
  case atStart => exact ⟨0, true, by omega, rfl, rfl, (decide_eq_true (by omega)).symm, by rw [peersI_zero]; exact Rw.nil _ _ _, HV3.out⟩
  case round =>
    clear HV3
    obtain ⟨k, bl, hk, rfl, rfl, hbl, hrw, hat⟩ := hrel
    have HBL := Lib.hid hbl
    have HV0 := Lib.hid hat
    have HW0 := Lib.hid hrw
    clear hat hrw hbl
    obtain ⟨y0, y1, y2, y3, y4, y5, y6, y7, y8, y9, y10⟩ := box11 HV0.out.at'.1
    go_wp2_with fail
    refine (rRow_to HRR.out wr).mono ?_
    rintro e w1 ⟨rfl, hb⟩
    rw [HD.out]
    have HV1 := Lib.hid (HV0.out.later hb)
    have HW1 := Lib.hid (HW0.out.later hb)
    clear hb HV0 HW0 y0 y1 y2 y3 y4 y5 y6 y7 y8 y9 y10
    obtain ⟨y0, y1, y2, y3, y4, y5, y6, y7, y8, y9, y10⟩ := box11 HV1.out.at'.1
    obtain ⟨⟨p0, p1, p2, p3, p4⟩, _⟩ := box5 HV1.out.pl
    by_cases hlt : k < D
    · have HLN : Hid ((peersI c P X n k).length ≤ 960) := by have := peersI_len c P X n k; show _ ≤ _; omega
      have b4 : X + k ≤ 61440 := by have := HZ2.out; have := HD.out; omega
      have HB2 : Hid (ofB c (X + k) = true) := ofB_iff.2 ⟨HR0.out.1, by omega, by have := HZ1.out; have := HD.out; omega⟩
      have HA2 : Hid (ofA c (X + k) = ofIn c (X + k)) := by
        show ofA c (X + k) = _
        unfold ofA
        rw [if_pos HB2.out]
      have HQU : Hid (peersI c P X n (k + 1) = peersI c P X n k ++ if n ≤ X + k then [] else if (ofIn c (X + k)).i = P.i ∧ (ofIn c (X + k)).u ≠ P.u then [ofIn c (X + k)] else []) := peersI_succ c P X n k
      obtain ⟨Q, hQ⟩ : ∃ Q, ofIn c (X + k) = Q := ⟨_, rfl⟩
      rw [hQ] at HQU HA2
      clear hQ
      go_upto_region 9 with fail
      refine wpG_start [] (by kernel_rfl) ?_
      have HV3 := Lib.hid (HV1.out.later (Below.refl _ _).drew)
      have HW3 := Lib.hid (HW1.out.later (Below.refl _ _).drew)
      generalize w1.drew = w3 at HV3 HW3 ⊢
      clear HV1 HW1 y0 y1 y2 y3 y4 y5 y6 y7 y8 y9 y10 p0 p1 p2 p3 p4
      have HG : Hid (w.heap.size ∉ ([] : List Nat) ∧ gp ∉ ([] : List Nat)) := ⟨by simp, by simp⟩
      have q0 : ∀ w', Turn [] w3 w' → w'.cell? ⟨w.heap.size, 0, none⟩ = some (.int .i64 c.id) := fun w' h => (box11 (HV3.out.at'.1.turn h HG.out.1)).1
      have q1 : ∀ w', Turn [] w3 w' → w'.cell? ⟨w.heap.size, 1, none⟩ = some (.int .i64 c.m) := fun w' h => (box11 (HV3.out.at'.1.turn h HG.out.1)).2.1
      have q2 : ∀ w', Turn [] w3 w' → w'.cell? ⟨w.heap.size, 2, none⟩ = some (.int .i64 c.u) := fun w' h => (box11 (HV3.out.at'.1.turn h HG.out.1)).2.2.1
      have q3 : ∀ w', Turn [] w3 w' → w'.cell? ⟨w.heap.size, 3, none⟩ = some (.int .i64 c.b) := fun w' h => (box11 (HV3.out.at'.1.turn h HG.out.1)).2.2.2.1
      have q4 : ∀ w', Turn [] w3 w' → w'.cell? ⟨w.heap.size, 4, none⟩ = some (.int .i64 c.cp) := fun w' h => (box11 (HV3.out.at'.1.turn h HG.out.1)).2.2.2.2.1
      have q5 : ∀ w', Turn [] w3 w' → w'.cell? ⟨w.heap.size, 5, none⟩ = some (.int .i64 c.z) := fun w' h => (box11 (HV3.out.at'.1.turn h HG.out.1)).2.2.2.2.2.1
      have q6 : ∀ w', Turn [] w3 w' → w'.cell? ⟨w.heap.size, 6, none⟩ = some (.int .i64 c.s) := fun w' h => (box11 (HV3.out.at'.1.turn h HG.out.1)).2.2.2.2.2.2.1
      have q7 : ∀ w', Turn [] w3 w' → w'.cell? ⟨w.heap.size, 7, none⟩ = some (.int .i64 c.mt) := fun w' h => (box11 (HV3.out.at'.1.turn h HG.out.1)).2.2.2.2.2.2.2.1
      have q8 : ∀ w', Turn [] w3 w' → w'.cell? ⟨w.heap.size, 8, none⟩ = some (.int .i64 c.o) := fun w' h => (box11 (HV3.out.at'.1.turn h HG.out.1)).2.2.2.2.2.2.2.2.1
      have q9 : ∀ w', Turn [] w3 w' → w'.cell? ⟨w.heap.size, 9, none⟩ = some (.int .i64 c.a) := fun w' h => (box11 (HV3.out.at'.1.turn h HG.out.1)).2.2.2.2.2.2.2.2.2.1
      have q10 : ∀ w', Turn [] w3 w' → w'.cell? ⟨w.heap.size, 10, none⟩ = some (.int .i64 c.l) := fun w' h => (box11 (HV3.out.at'.1.turn h HG.out.1)).2.2.2.2.2.2.2.2.2.2
      have p0 : ∀ w', Turn [] w3 w' → w'.cell? ⟨gp, 0, none⟩ = some (.int .i64 P.s) := fun w' h => (box5 (HV3.out.pl.turn h HG.out.2)).1.1
      have p1 : ∀ w', Turn [] w3 w' → w'.cell? ⟨gp, 1, none⟩ = some (.int .i64 P.u) := fun w' h => (box5 (HV3.out.pl.turn h HG.out.2)).1.2.1
      have p2 : ∀ w', Turn [] w3 w' → w'.cell? ⟨gp, 2, none⟩ = some (.int .i64 P.i) := fun w' h => (box5 (HV3.out.pl.turn h HG.out.2)).1.2.2.1
      have p3 : ∀ w', Turn [] w3 w' → w'.cell? ⟨gp, 3, none⟩ = some (.int .i64 P.m) := fun w' h => (box5 (HV3.out.pl.turn h HG.out.2)).1.2.2.2.1
      have p4 : ∀ w', Turn [] w3 w' → w'.cell? ⟨gp, 4, none⟩ = some (.int .i64 P.p) := fun w' h => (box5 (HV3.out.pl.turn h HG.out.2)).1.2.2.2.2
      refine wpG_take (i := 0) (d := 41) (v := ?v9x0) rfl rfl (by kernel_rfl) (by kernel_rfl) (by kernel_rfl) (fun _ _ _ h => h) (by rfl) ?y9x0 ?r9x0
      case y9x0 => (intro w' hSw; go_simp; try (with_reducible rfl))
      simp only [Act.put, List.setIfInBounds_toArray, List.set_cons_zero, List.set_cons_succ]
      refine wpG_take (i := 1) (d := 42) (v := ?v9x1) rfl rfl (by kernel_rfl) (by kernel_rfl) (by kernel_rfl) (fun _ _ _ h => h) (by rfl) ?y9x1 ?r9x1
      case y9x1 => (intro w' hSw; go_simp; try (with_reducible rfl))
      simp only [Act.put, List.setIfInBounds_toArray, List.set_cons_zero, List.set_cons_succ]
      refine wpG_take (i := 2) (d := 43) (v := ?v9x2) rfl rfl (by kernel_rfl) (by kernel_rfl) (by kernel_rfl) (fun _ _ _ h => h) (by rfl) ?y9x2 ?r9x2
      case y9x2 => (intro w' hSw; go_simp; try (with_reducible rfl))
      simp only [Act.put, List.setIfInBounds_toArray, List.set_cons_zero, List.set_cons_succ]
      refine wpG_take (i := 5) (d := 46) (v := ?v9x5) rfl rfl (by kernel_rfl) (by kernel_rfl) (by kernel_rfl) (fun _ _ _ h => h) (by rfl) ?y9x5 ?r9x5
      case y9x5 => (intro w' hSw; go_simp; try (with_reducible rfl))
      simp only [Act.put, List.setIfInBounds_toArray, List.set_cons_zero, List.set_cons_succ]
      refine wpG_do (i := 3) (by kernel_rfl) rfl (by rfl) (fun K hK => ?_)
      go_simp
      refine (rRow_to HRR.out w3).mono ?_
      rintro e w4 ⟨rfl, hb⟩
      have HV4 := Lib.hid (HV3.out.later hb)
      have HW4 := Lib.hid (HW3.out.later hb)
      go_simp
      refine hK.out _ _ (Turn.of_below hb (Nat.le_refl _)) ?_
      clear hK hb HV3 HW3 q0 q1 q2 q3 q4 q5 q6 q7 q8 q9 q10 p0 p1 p2 p3 p4
      refine wpG_take (i := 4) (d := 45) (v := ?v9x4) rfl rfl (by kernel_rfl) (by kernel_rfl) (by kernel_rfl) (fun _ _ _ h => h) (by rfl) ?y9x4 ?r9x4
      case y9x4 => (intro w' hSw; go_simp; try (with_reducible rfl))
      simp only [Act.put, List.setIfInBounds_toArray, List.set_cons_zero, List.set_cons_succ]
      rw [HXX.out]
      have hw : IntKind.i64.wrap (X + (k : Int)) = X + k := wrapk_in (by omega) (by omega)
      refine wpG_take (i := 6) (d := 47) (v := ?v9x6) rfl rfl (by kernel_rfl) (by kernel_rfl) (by kernel_rfl) (fun _ _ _ h => h) (by rfl) ?y9x6 ?r9x6
      case y9x6 => (intro w' hSw; go_simp; try (with_reducible rfl))
      simp only [Act.put, List.setIfInBounds_toArray, List.set_cons_zero, List.set_cons_succ]
      clear hw
      refine wpG_take (i := 7) (d := 13) (v := ?v9x7) rfl rfl (by kernel_rfl) (by kernel_rfl) (by kernel_rfl) (fun _ _ _ h => h) (by rfl) ?y9x7 ?r9x7
      case y9x7 => (intro w' hSw; go_simp; try (with_reducible rfl))
      simp only [Act.put, List.setIfInBounds_toArray, List.set_cons_zero, List.set_cons_succ]
      refine wpG_done (by kernel_rfl) ?_
      obtain ⟨y0, y1, y2, y3, y4, y5, y6, y7, y8, y9, y10⟩ := box11 HV4.out.at'.1
      go_wp2_with fail
      refine (rOf_any c (X + k) w4).mono ?_
      rintro e w7 ⟨rfl, hb⟩
      rw [HA2.out, HB2.out]
      have HV7 := Lib.hid (HV4.out.later hb)
      have HW7 := Lib.hid (HW4.out.later hb)
      clear hb HV4 HW4 y0 y1 y2 y3 y4 y5 y6 y7 y8 y9 y10 HA2 HB2 HG
      go_upto_region 11 with fail
      have HV8 := Lib.hid (HV7.out.alloc (.cells #[.int .i64 Q.s, .int .i64 Q.u, .int .i64 Q.i, .int .i64 Q.m, .int .i64 Q.p] 36))
      have HW8 := Lib.hid (HW7.out.later ((Below.refl _ _).alloc (Nat.le_refl _) (.cells #[.int .i64 Q.s, .int .i64 Q.u, .int .i64 Q.i, .int .i64 Q.m, .int .i64 Q.p] 36)))
      have HQ8 := Lib.hid (Box.fresh w7 36 #[.int .i64 Q.s, .int .i64 Q.u, .int .i64 Q.i, .int .i64 Q.m, .int .i64 Q.p])
      generalize hgq : w7.heap.size = gq at HQ8 ⊢
      generalize (w7.alloc (.cells #[.int .i64 Q.s, .int .i64 Q.u, .int .i64 Q.i, .int .i64 Q.m, .int .i64 Q.p] 36)) = w8 at HV8 HW8 HQ8 ⊢
      clear hgq HV7 HW7
      obtain ⟨⟨p0, p1, p2, p3, p4⟩, _⟩ := box5 HV8.out.pl
      obtain ⟨⟨q0, q1, q2, q3, q4⟩, _⟩ := box5 HQ8.out
      by_cases e2 : n ≤ X + k
      · have HN : Hid (peersI c P X n (k + 1) = peersI c P X n k) := by
          show _ = _
          rw [HQU.out, if_pos e2, List.append_nil]
        clear HQU
        go_wp2
        go_roundw
        case rel => exact ⟨k + 1, _, by omega, by go_num, rfl, (decide_eq_false (by push_cast; omega)).symm, by rw [HN.out]; exact HW8.out, HV8.out⟩
        case measure => simp [intOf]; omega
      · have HBB : Hid (bl = decide (X + ((k + 1 : Nat) : Int) ≤ n)) := by
          show bl = _
          rw [HBL.out, decide_eq_decide]
          push_cast
          omega
        by_cases e3 : Q.i = P.i
        · have t1 : (Q.i == P.i) = true := by simpa using e3
          by_cases e4 : Q.u = P.u
          · have t2 : (Q.u != P.u) = false := by simpa using e4
            have t3 : (Q.u == P.u) = true := by simpa using e4
            have HN : Hid (peersI c P X n (k + 1) = peersI c P X n k) := by
              show _ = _
              rw [HQU.out, if_neg e2, if_neg (by intro h; exact h.2 e4), List.append_nil]
            clear HQU e3 e4
            go_wp2
            go_roundw
            case rel => exact ⟨k + 1, _, by omega, by go_num, rfl, HBB.out, by rw [HN.out]; exact HW8.out, HV8.out⟩
            case measure => simp [intOf]; omega
          · have t2 : (Q.u != P.u) = true := by simpa using e4
            have t3 : (Q.u == P.u) = false := by simpa using e4
            have HN : Hid (peersI c P X n (k + 1) = peersI c P X n k ++ [Q]) := by
              show _ = _
              rw [HQU.out, if_neg e2, if_pos ⟨e3, e4⟩]
            clear HQU e3 e4
            go_wp2_with (at_builtin; go_loud (refine wpList_appPl _ rfl (.tmp 69) (.tmp 71) rfl B u10 (peersI c P X n k) Q ⟨w8.heap.size, 0, none⟩ rfl rfl (HW8.out.later ((Below.refl _ _).alloc (Nat.le_refl _) _)) (cells_five_new _ _ _ _ _ _ _) (by have := HLN.out; omega) (by have := HV8.out.sz; simp; omega) ?_; intro v1 w9 hrw hg; have ha := HW8.out.later ((Below.refl _ _).alloc (Nat.le_refl _) (.cells #[.int .i64 Q.s, .int .i64 Q.u, .int .i64 Q.i, .int .i64 Q.m, .int .i64 Q.p] 36)); have HV9 := Lib.hid ((HV8.out.alloc (.cells #[.int .i64 Q.s, .int .i64 Q.u, .int .i64 Q.i, .int .i64 Q.m, .int .i64 Q.p] 36)).kept (ha.below hg (by have := HV8.out.sz; simp; omega))); have HW9 := Lib.hid hrw; clear hrw hg ha p0 p1 p2 p3 p4 q0 q1 q2 q3 q4 HV8 HW8 HQ8))
            go_roundw
            case rel => exact ⟨k + 1, _, by omega, by go_num, rfl, HBB.out, by rw [HN.out]; exact HW9.out, HV9.out⟩
            case measure => simp [intOf]; omega
        · have t1 : (Q.i == P.i) = false := by simpa using e3
          have HN : Hid (peersI c P X n (k + 1) = peersI c P X n k) := by
            show _ = _
            rw [HQU.out, if_neg e2, if_neg (by intro h; exact e3 h.1), List.append_nil]
          clear HQU e3
          go_wp2
          go_roundw
          case rel => exact ⟨k + 1, _, by omega, by go_num, rfl, HBB.out, by rw [HN.out]; exact HW8.out, HV8.out⟩
          case measure => simp [intOf]; omega
    · obtain rfl : k = D := by omega
      have HBB : Hid (bl = decide (X + R ≤ n)) := by
        show bl = _
        rw [HBL.out, HD.out]
      go_wp2
      exact bodyPost_ret (v := .tuple #[u10, .bool bl]) (by simp [results, Try.results15, go_sem]) rfl ⟨_, by rw [HBB.out], HW1.out.mono (by have := HV1.out.ge; omega), HV1.out.at'.2.1⟩
end Go.Proofs.Yteglgopbagefcaa
