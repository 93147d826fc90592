/- The contract of the reference's Of. -/
import Derived.Test.YteglgopbagefcaaU
namespace Go.Proofs.Yteglgopbagefcaa
set_option linter.unusedVariables false
set_option linter.unusedSimpArgs false
open Go.RowKit
open Go.RowKit (wrap64)

/-- The settings, the answer's block, and a place that is being laid. -/
structure AtQ (c : Cf) (g : Nat) (ps : Array Value) (w w' : World) : Prop where
  atp : AtP c #[.int .i64 0, .int .i64 0, .int .i64 0, .int .i64 0, .int .i64 0] w w'
  plc : Box w' g 36 ps
  gt : w.heap.size + 2 ≤ g
theorem AtQ.later {c : Cf} {g : Nat} {ps : Array Value} {w w' w2 : World} (h : AtQ c g ps w w') (hb : Below w'.heap.size w' w2) : AtQ c g ps w w2 := ⟨h.atp.later hb, h.plc.later hb, h.gt⟩
theorem AtQ.drew {c : Cf} {g : Nat} {ps : Array Value} {w w' : World} (h : AtQ c g ps w w') : AtQ c g ps w w'.drew := h.later (Below.refl _ _).drew
theorem AtQ.a {c : Cf} {g n : Nat} {ps : Array Value} {w w' w2 : World} (h : AtQ c g ps w w') (hb : Below n w' w2) (hn : w.heap.size + 1 ≤ n) : Box w2 w.heap.size 23 #[.int .i64 c.id, .int .i64 c.m, .int .i64 c.u, .int .i64 c.b, .int .i64 c.cp, .int .i64 c.z, .int .i64 c.s, .int .i64 c.mt, .int .i64 c.o, .int .i64 c.a, .int .i64 c.l] := h.atp.a hb hn
theorem AtQ.b {c : Cf} {g n : Nat} {ps : Array Value} {w w' w2 : World} (h : AtQ c g ps w w') (hb : Below n w' w2) (hn : g + 1 ≤ n) : Box w2 g 36 ps := h.plc.under hb (by omega)
theorem AtQ.put {c : Cf} {g : Nat} {ps : Array Value} {w w' : World} (h : AtQ c g ps w w') (i : Nat) (u : Value) : AtQ c g (ps.setIfInBounds i u) w (w'.setCell ⟨g, i, none⟩ u) := by
  have hb : Below (w.heap.size + 2) w' (w'.setCell ⟨g, i, none⟩ u) := Below.setCell (Below.refl _ _) (by simpa using h.gt) _
  refine ⟨⟨h.atp.a hb (by omega), h.atp.b hb (Nat.le_refl _), h.atp.bel.trans (hb.mono (by omega)), Nat.le_trans h.atp.sz hb.size⟩, h.plc.store i u, h.gt⟩
theorem rRow_to {c : Cf} {R : Int} (hR : dataC c * c.u = R) (w : World) : Calls Try.prog 24 #[(.agg #[.int .i64 c.id, .int .i64 c.m, .int .i64 c.u, .int .i64 c.b, .int .i64 c.cp, .int .i64 c.z, .int .i64 c.s, .int .i64 c.mt, .int .i64 c.o, .int .i64 c.a, .int .i64 c.l])] w (Says w (.int .i64 R)) := by rw [← hR]; exact rRow_any c w
theorem rSize_to {c : Cf} {Z : Int} (hZ : stripesC c * (dataC c * c.u) = Z) (w : World) : Calls Try.prog 33 #[(.agg #[.int .i64 c.id, .int .i64 c.m, .int .i64 c.u, .int .i64 c.b, .int .i64 c.cp, .int .i64 c.z, .int .i64 c.s, .int .i64 c.mt, .int .i64 c.o, .int .i64 c.a, .int .i64 c.l])] w (Says w (.int .i64 Z)) := by rw [← hZ]; exact rSize_any c w

set_option maxRecDepth 100000 in
set_option maxHeartbeats 4000000 in
theorem rOf_core (c : Cf) (lb R Z S L U I M F : Int) (w : World) (hR : dataC c * c.u = R) (hZ : stripesC c * (dataC c * c.u) = Z) (hc : checkC c = 0) (h0 : 0 ≤ lb) (h1 : lb < Z)
    (hS : lb / R = S) (hL : lb % R = L) (hU : L / c.u = U) (hI : L % c.u = I) (hM : (S % c.m + 1 + U) % c.m = M) (hF : S * c.u + I = F) :
    Calls Try.prog 23 #[(.agg #[.int .i64 c.id, .int .i64 c.m, .int .i64 c.u, .int .i64 c.b, .int .i64 c.cp, .int .i64 c.z, .int .i64 c.s, .int .i64 c.mt, .int .i64 c.o, .int .i64 c.a, .int .i64 c.l]), .int .i64 lb] w (Says w (.tuple #[.agg #[.int .i64 S, .int .i64 U, .int .i64 I, .int .i64 M, .int .i64 F], .bool true])) := by
  have HR := Lib.hid hR
  have HZ := Lib.hid hZ
  have HO := Lib.hid (ok_of hc)
  have o1 := HO.out.m1
  have o2 := HO.out.m2
  have o3 := HO.out.u1
  have o4 := HO.out.u2
  have o5 := HO.out.r1
  have o6 := HO.out.r2
  have o7 := HO.out.z2
  rw [hR] at o5 o6
  rw [hZ] at o7
  clear hR hZ
  have d1 := div_in (a := lb) (b := R) (by omega) (by omega)
  have d2 : 0 ≤ lb % R := Int.emod_nonneg _ (by omega)
  have d3 : lb % R < R := Int.emod_lt_of_pos _ (by omega)
  have d0 := Int.mul_ediv_add_emod lb R
  rw [hS] at d1 d0
  rw [hL] at d2 d3 d0
  have HT : Hid (IntKind.i64.wrap (lb - IntKind.i64.wrap (S * R)) = L) := by
    show IntKind.i64.wrap (lb - IntKind.i64.wrap (S * R)) = L
    rw [Int.mul_comm S R, wrapk_in (n := R * S) (by omega) (by omega), wrapk_in (by omega) (by omega)]
    omega
  have d4 := div_in (a := L) (b := c.u) d2 o3
  have d5 : 0 ≤ L % c.u := Int.emod_nonneg _ (by omega)
  have d6 : L % c.u < c.u := Int.emod_lt_of_pos _ (by omega)
  rw [hU] at d4
  rw [hI] at d5 d6
  have HS := Lib.hid hS
  have HU := Lib.hid hU
  have HI := Lib.hid hI
  have HM := Lib.hid hM
  have HF := Lib.hid hF
  clear hS hL hU hI hF hM d0
  go_enter Try.func23, Try.ntmps23
  go_wp2_with fail
  have HV0 := Lib.hid (AtP.new (ps := #[.int .i64 0, .int .i64 0, .int .i64 0, .int .i64 0, .int .i64 0]) c w)
  generalize ((w.alloc (.cells #[.int .i64 c.id, .int .i64 c.m, .int .i64 c.u, .int .i64 c.b, .int .i64 c.cp, .int .i64 c.z, .int .i64 c.s, .int .i64 c.mt, .int .i64 c.o, .int .i64 c.a, .int .i64 c.l] 23)).alloc (.cells #[.int .i64 0, .int .i64 0, .int .i64 0, .int .i64 0, .int .i64 0] 36)) = w0 at HV0 ⊢
  obtain ⟨y0, y1, y2, y3, y4, y5, y6, y7, y8, y9, y10⟩ := box11 HV0.out.box
  refine (refCheck_any c w0).mono ?_
  rintro e w1 ⟨rfl, hb⟩
  rw [hc]
  clear hc
  have HV1 := Lib.hid (HV0.out.later hb)
  clear hb HV0 y0 y1 y2 y3 y4 y5 y6 y7 y8 y9 y10
  obtain ⟨y0, y1, y2, y3, y4, y5, y6, y7, y8, y9, y10⟩ := box11 HV1.out.box
  go_wp2_with fail
  refine (rSize_to HZ.out w1).mono ?_
  rintro e w2 ⟨rfl, hb⟩
  have HV2 := Lib.hid (HV1.out.later hb)
  clear hb HV1 y0 y1 y2 y3 y4 y5 y6 y7 y8 y9 y10
  obtain ⟨y0, y1, y2, y3, y4, y5, y6, y7, y8, y9, y10⟩ := box11 HV2.out.box
  go_wp2_with fail
  refine (rRow_to HR.out w2).mono ?_
  rintro e w3 ⟨rfl, hb⟩
  have HV3 := Lib.hid (HV2.out.later hb)
  clear hb HV2 y0 y1 y2 y3 y4 y5 y6 y7 y8 y9 y10
  obtain ⟨y0, y1, y2, y3, y4, y5, y6, y7, y8, y9, y10⟩ := box11 HV3.out.box
  have z0 : ¬ R = 0 := by omega
  have z1 : (R == 0) = false := by simpa using z0
  go_wp2_with fail
  rw [HS.out]
  clear z0 z1
  refine wpB_start (w3.heap.size + 1) (by kernel_rfl) ?_
  have HV4 : Hid (AtQ c w3.heap.size #[.int .i64 S, .int .i64 0, .int .i64 0, .int .i64 0, .int .i64 0] w (w3.alloc (.cells #[.int .i64 S, .int .i64 0, .int .i64 0, .int .i64 0, .int .i64 0] 36)).drew) := by
    exact AtQ.drew ⟨HV3.out.later ((Below.refl _ _).alloc (Nat.le_refl _) _), Box.fresh w3 36 _, HV3.out.sz⟩
  have hg : w3.heap.size + 1 ≤ (w3.alloc (.cells #[.int .i64 S, .int .i64 0, .int .i64 0, .int .i64 0, .int .i64 0] 36)).drew.heap.size := by simp
  generalize (w3.alloc (.cells #[.int .i64 S, .int .i64 0, .int .i64 0, .int .i64 0, .int .i64 0] 36)).drew = w4 at HV4 hg ⊢
  generalize w3.heap.size = g at HV4 hg ⊢
  have HG := Lib.hid hg
  clear HV3 hg y0 y1 y2 y3 y4 y5 y6 y7 y8 y9 y10
  have q0 : ∀ w', Below (g + 1) w4 w' → w'.cell? ⟨w.heap.size, 0, none⟩ = some (.int .i64 c.id) := fun w' h => (box11 (HV4.out.a h (by have := HV4.out.gt; omega))).1
  have q1 : ∀ w', Below (g + 1) w4 w' → w'.cell? ⟨w.heap.size, 1, none⟩ = some (.int .i64 c.m) := fun w' h => (box11 (HV4.out.a h (by have := HV4.out.gt; omega))).2.1
  have q2 : ∀ w', Below (g + 1) w4 w' → w'.cell? ⟨w.heap.size, 2, none⟩ = some (.int .i64 c.u) := fun w' h => (box11 (HV4.out.a h (by have := HV4.out.gt; omega))).2.2.1
  have q3 : ∀ w', Below (g + 1) w4 w' → w'.cell? ⟨w.heap.size, 3, none⟩ = some (.int .i64 c.b) := fun w' h => (box11 (HV4.out.a h (by have := HV4.out.gt; omega))).2.2.2.1
  have q4 : ∀ w', Below (g + 1) w4 w' → w'.cell? ⟨w.heap.size, 4, none⟩ = some (.int .i64 c.cp) := fun w' h => (box11 (HV4.out.a h (by have := HV4.out.gt; omega))).2.2.2.2.1
  have q5 : ∀ w', Below (g + 1) w4 w' → w'.cell? ⟨w.heap.size, 5, none⟩ = some (.int .i64 c.z) := fun w' h => (box11 (HV4.out.a h (by have := HV4.out.gt; omega))).2.2.2.2.2.1
  have q6 : ∀ w', Below (g + 1) w4 w' → w'.cell? ⟨w.heap.size, 6, none⟩ = some (.int .i64 c.s) := fun w' h => (box11 (HV4.out.a h (by have := HV4.out.gt; omega))).2.2.2.2.2.2.1
  have q7 : ∀ w', Below (g + 1) w4 w' → w'.cell? ⟨w.heap.size, 7, none⟩ = some (.int .i64 c.mt) := fun w' h => (box11 (HV4.out.a h (by have := HV4.out.gt; omega))).2.2.2.2.2.2.2.1
  have q8 : ∀ w', Below (g + 1) w4 w' → w'.cell? ⟨w.heap.size, 8, none⟩ = some (.int .i64 c.o) := fun w' h => (box11 (HV4.out.a h (by have := HV4.out.gt; omega))).2.2.2.2.2.2.2.2.1
  have q9 : ∀ w', Below (g + 1) w4 w' → w'.cell? ⟨w.heap.size, 9, none⟩ = some (.int .i64 c.a) := fun w' h => (box11 (HV4.out.a h (by have := HV4.out.gt; omega))).2.2.2.2.2.2.2.2.2.1
  have q10 : ∀ w', Below (g + 1) w4 w' → w'.cell? ⟨w.heap.size, 10, none⟩ = some (.int .i64 c.l) := fun w' h => (box11 (HV4.out.a h (by have := HV4.out.gt; omega))).2.2.2.2.2.2.2.2.2.2
  have p0 : ∀ w', Below (g + 1) w4 w' → w'.cell? ⟨g, 0, none⟩ = some (.int .i64 S) := fun w' h => (box5 (HV4.out.b h (Nat.le_refl _))).1.1
  have p1 : ∀ w', Below (g + 1) w4 w' → w'.cell? ⟨g, 1, none⟩ = some (.int .i64 0) := fun w' h => (box5 (HV4.out.b h (Nat.le_refl _))).1.2.1
  have p2 : ∀ w', Below (g + 1) w4 w' → w'.cell? ⟨g, 2, none⟩ = some (.int .i64 0) := fun w' h => (box5 (HV4.out.b h (Nat.le_refl _))).1.2.2.1
  have p3 : ∀ w', Below (g + 1) w4 w' → w'.cell? ⟨g, 3, none⟩ = some (.int .i64 0) := fun w' h => (box5 (HV4.out.b h (Nat.le_refl _))).1.2.2.2.1
  have p4 : ∀ w', Below (g + 1) w4 w' → w'.cell? ⟨g, 4, none⟩ = some (.int .i64 0) := fun w' h => (box5 (HV4.out.b h (Nat.le_refl _))).1.2.2.2.2
  refine wpB_take (i := 0) (d := 27) (v := ?v4x0) rfl rfl (by kernel_rfl) (by kernel_rfl) (by kernel_rfl) (fun _ _ _ h => h) (by rfl) ?y4x0 ?r4x0
  case y4x0 => (intro w' hSw; go_simp; try (with_reducible rfl))
  simp only [Act.put, List.setIfInBounds_toArray, List.set_cons_zero, List.set_cons_succ]
  refine wpB_take (i := 1) (d := 28) (v := ?v4x1) rfl rfl (by kernel_rfl) (by kernel_rfl) (by kernel_rfl) (fun _ _ _ h => h) (by rfl) ?y4x1 ?r4x1
  case y4x1 => (intro w' hSw; go_simp; try (with_reducible rfl))
  simp only [Act.put, List.setIfInBounds_toArray, List.set_cons_zero, List.set_cons_succ]
  refine wpB_take (i := 2) (d := 29) (v := ?v4x2) rfl rfl (by kernel_rfl) (by kernel_rfl) (by kernel_rfl) (fun _ _ _ h => h) (by rfl) ?y4x2 ?r4x2
  case y4x2 => (intro w' hSw; go_simp; try (with_reducible rfl))
  simp only [Act.put, List.setIfInBounds_toArray, List.set_cons_zero, List.set_cons_succ]
  refine wpB_take (i := 3) (d := 30) (v := ?v4x3) rfl rfl (by kernel_rfl) (by kernel_rfl) (by kernel_rfl) (fun _ _ _ h => h) (by rfl) ?y4x3 ?r4x3
  case y4x3 => (intro w' hSw; go_simp; try (with_reducible rfl))
  simp only [Act.put, List.setIfInBounds_toArray, List.set_cons_zero, List.set_cons_succ]
  refine wpB_do (i := 4) (by kernel_rfl) rfl (by rfl) (fun K hK => ?_)
  go_simp
  refine (rRow_to HR.out w4).mono ?_
  rintro e w5 ⟨rfl, hb⟩
  have HV5 := Lib.hid (HV4.out.later hb)
  have hbk := hb.mono HG.out
  go_simp
  refine hK.out (g + 1) _ _ (Nat.le_refl _) hbk ?_
  clear hK hb hbk HG HV4 p0 p1 p2 p3 p4 q0 q1 q2 q3 q4 q5 q6 q7 q8 q9 q10
  refine wpB_take (i := 5) (d := 32) (v := ?v4x5) rfl rfl (by kernel_rfl) (by kernel_rfl) (by kernel_rfl) (fun _ _ _ h => h) (by rfl) ?y4x5 ?r4x5
  case y4x5 => (intro w' hSw; go_simp; try (with_reducible rfl))
  simp only [Act.put, List.setIfInBounds_toArray, List.set_cons_zero, List.set_cons_succ]
  refine wpB_take (i := 6) (d := 33) (v := ?v4x6) rfl rfl (by kernel_rfl) (by kernel_rfl) (by kernel_rfl) (fun _ _ _ h => h) (by rfl) ?y4x6 ?r4x6
  case y4x6 => (intro w' hSw; go_simp; try (with_reducible rfl))
  simp only [Act.put, List.setIfInBounds_toArray, List.set_cons_zero, List.set_cons_succ]
  refine wpB_take (i := 7) (d := 7) (v := ?v4x7) rfl rfl (by kernel_rfl) (by kernel_rfl) (by kernel_rfl) (fun _ _ _ h => h) (by rfl) ?y4x7 ?r4x7
  case y4x7 => (intro w' hSw; go_simp; try (with_reducible rfl))
  simp only [Act.put, List.setIfInBounds_toArray, List.set_cons_zero, List.set_cons_succ]
  refine wpB_done (by kernel_rfl) ?_
  rw [HT.out]
  clear HT
  go_wp2
  go_loopw [7] (fun v wr => ∃ (k : Nat) (r : Int), 0 ≤ r ∧ r ≤ L ∧ r + k * c.u = L ∧ v = .int .i64 r ∧ AtQ c g #[.int .i64 S, .int .i64 (k : Int), .int .i64 0, .int .i64 0, .int .i64 0] w wr) (fun v _ => (intOf v).toNat)
  case atStart => exact ⟨0, L, d2, by omega, by simp, rfl, HV5.out⟩
  case round =>
    clear HV5
    obtain ⟨k, r, hr0, hr1, hrk, rfl, hat⟩ := hrel
    have HV6 := Lib.hid hat
    have HK := Lib.hid hrk
    have hk := mul_in (a := (k : Int)) (b := 1) (A := (k : Int)) (B := c.u) (by omega) (by omega) (by omega) o3
    have hkb : (k : Int) ≤ 960 := by omega
    clear hat hrk hk
    obtain ⟨y0, y1, y2, y3, y4, y5, y6, y7, y8, y9, y10⟩ := box11 HV6.out.atp.box
    obtain ⟨⟨z0, z1, z2, z3, z4⟩, f0, f1, f2, f3, f4⟩ := box5 HV6.out.plc
    by_cases hlt : c.u ≤ r
    · go_wp2
      go_roundw
      case rel =>
        refine ⟨k + 1, r - c.u, by omega, by omega, ?_, rfl, ?_⟩
        · have := HK.out
          rw [Int.natCast_add, Int.add_mul]
          omega
        · exact HV6.out.put 1 (.int .i64 ((k + 1 : Nat) : Int))
      case measure => simp [intOf]; omega
    · have HE : Hid ((k : Int) = U ∧ r = I) := by
        have e := HK.out
        have e2 : L = r + c.u * k := by rw [Int.mul_comm]; omega
        refine ⟨?_, ?_⟩
        · rw [← HU.out, e2, Int.add_mul_ediv_left _ _ (by omega), Int.ediv_eq_zero_of_lt hr0 (by omega)]
          omega
        · rw [← HI.out, e2, Int.add_mul_emod_self_left, Int.emod_eq_of_lt hr0 (by omega)]
      rw [HE.out.1] at z1
      have HV7 : Hid (AtQ c g #[.int .i64 S, .int .i64 U, .int .i64 0, .int .i64 0, .int .i64 0] w wr) := by
        have h := HV6.out
        rw [HE.out.1] at h
        exact h
      clear HV6 HK
      go_wp2_with fail
      rw [HE.out.2]
      have HV8 : Hid (AtQ c g #[.int .i64 S, .int .i64 U, .int .i64 I, .int .i64 0, .int .i64 0] w (wr.setCell ⟨g, 2, none⟩ (.int .i64 I))) := by
        exact HV7.out.put 2 (.int .i64 I)
      generalize (wr.setCell ⟨g, 2, none⟩ (.int .i64 I)) = w8 at HV8 ⊢
      clear HV7 HE y0 y1 y2 y3 y4 y5 y6 y7 y8 y9 y10 z0 z1 z2 z3 z4 f0 f1 f2 f3 f4
      obtain ⟨y0, y1, y2, y3, y4, y5, y6, y7, y8, y9, y10⟩ := box11 HV8.out.atp.box
      obtain ⟨⟨z0, z1, z2, z3, z4⟩, f0, f1, f2, f3, f4⟩ := box5 HV8.out.plc
      have n0 : ¬ c.m = 0 := by omega
      have n1 : (c.m == 0) = false := by simpa using n0
      have m1 : 0 ≤ S % c.m := Int.emod_nonneg _ (by omega)
      have m2 : S % c.m < c.m := Int.emod_lt_of_pos _ (by omega)
      go_region
      rw [HM.out]
      have HV9 : Hid (AtQ c g #[.int .i64 S, .int .i64 U, .int .i64 I, .int .i64 M, .int .i64 0] w (w8.setCell ⟨g, 3, none⟩ (.int .i64 M)).drew) := by
        exact (HV8.out.put 3 (.int .i64 M)).drew
      generalize (w8.setCell ⟨g, 3, none⟩ (.int .i64 M)).drew = w9 at HV9 ⊢
      clear HV8 y0 y1 y2 y3 y4 y5 y6 y7 y8 y9 y10 z0 z1 z2 z3 z4 f0 f1 f2 f3 f4 n0 n1 m1 m2
      obtain ⟨y0, y1, y2, y3, y4, y5, y6, y7, y8, y9, y10⟩ := box11 HV9.out.atp.box
      obtain ⟨⟨z0, z1, z2, z3, z4⟩, f0, f1, f2, f3, f4⟩ := box5 HV9.out.plc
      have x1 := mul_in (a := S) (b := c.u) (A := 61440) (B := 64) (by omega) (by omega) (by omega) (by omega)
      go_upto_region 11 with fail
      rw [HF.out]
      have HVa : Hid (AtQ c g #[.int .i64 S, .int .i64 U, .int .i64 I, .int .i64 M, .int .i64 F] w (w9.setCell ⟨g, 4, none⟩ (.int .i64 F))) := by
        exact HV9.out.put 4 (.int .i64 F)
      generalize (w9.setCell ⟨g, 4, none⟩ (.int .i64 F)) = wa at HVa ⊢
      clear HV9 y0 y1 y2 y3 y4 y5 y6 y7 y8 y9 y10 z0 z1 z2 z3 z4 f0 f1 f2 f3 f4 x1
      obtain ⟨⟨z0, z1, z2, z3, z4⟩, f0, f1, f2, f3, f4⟩ := box5 HVa.out.plc
      obtain ⟨⟨t0, t1, t2, t3, t4⟩, g0, g1, g2, g3, g4⟩ := box5 HVa.out.atp.plc
      go_wp2
      refine bodyPost_ret (v := .tuple #[.agg #[.int .i64 S, .int .i64 U, .int .i64 I, .int .i64 M, .int .i64 F], .bool true]) (by simp [results, Try.results23, go_sem, *]) rfl ⟨rfl, HVa.out.atp.bel.trans ?_⟩
      exact (by repeat (first | with_reducible exact Below.refl _ _ | with_reducible refine Below.drew ?_ | with_reducible refine Below.alloc ?_ (by first | (simp; done) | (simp; omega)) _ | with_reducible refine Below.setCell ?_ (by first | (simp; done) | (simp; omega)) _))
set_option maxHeartbeats 2000000 in
theorem rOf_no (c : Cf) (lb : Int) (w : World) (h : ofB c lb = false) : Calls Try.prog 23 #[(.agg #[.int .i64 c.id, .int .i64 c.m, .int .i64 c.u, .int .i64 c.b, .int .i64 c.cp, .int .i64 c.z, .int .i64 c.s, .int .i64 c.mt, .int .i64 c.o, .int .i64 c.a, .int .i64 c.l]), .int .i64 lb] w (Says w (.tuple #[.agg #[.int .i64 0, .int .i64 0, .int .i64 0, .int .i64 0, .int .i64 0], .bool false])) := by
  by_cases hc : checkC c = 0
  · by_cases h1 : lb < 0
    · clear h
      go_enter Try.func23, Try.ntmps23
      go_wp2_with fail
      have HV0 := Lib.hid (AtP.new (ps := #[.int .i64 0, .int .i64 0, .int .i64 0, .int .i64 0, .int .i64 0]) c w)
      generalize ((w.alloc (.cells #[.int .i64 c.id, .int .i64 c.m, .int .i64 c.u, .int .i64 c.b, .int .i64 c.cp, .int .i64 c.z, .int .i64 c.s, .int .i64 c.mt, .int .i64 c.o, .int .i64 c.a, .int .i64 c.l] 23)).alloc (.cells #[.int .i64 0, .int .i64 0, .int .i64 0, .int .i64 0, .int .i64 0] 36)) = w0 at HV0 ⊢
      obtain ⟨y0, y1, y2, y3, y4, y5, y6, y7, y8, y9, y10⟩ := box11 HV0.out.box
      refine (refCheck_any c w0).mono ?_
      rintro e w1 ⟨rfl, hb⟩
      rw [hc]
      clear hc
      have HV1 := Lib.hid (HV0.out.later hb)
      clear hb HV0 y0 y1 y2 y3 y4 y5 y6 y7 y8 y9 y10
      obtain ⟨y0, y1, y2, y3, y4, y5, y6, y7, y8, y9, y10⟩ := box11 HV1.out.box
      obtain ⟨⟨z0, z1, z2, z3, z4⟩, f0, f1, f2, f3, f4⟩ := box5 HV1.out.plc
      go_wp2
      refine bodyPost_ret (v := .tuple #[.agg #[.int .i64 0, .int .i64 0, .int .i64 0, .int .i64 0, .int .i64 0], .bool false]) (by simp [results, Try.results23, go_sem, *]) rfl ⟨rfl, HV1.out.bel.trans ?_⟩
      exact (by repeat (first | with_reducible exact Below.refl _ _ | with_reducible refine Below.drew ?_ | with_reducible refine Below.alloc ?_ (by first | (simp; done) | (simp; omega)) _ | with_reducible refine Below.setCell ?_ (by first | (simp; done) | (simp; omega)) _))
    · have hz : stripesC c * (dataC c * c.u) ≤ lb := by
        rcases Int.lt_or_le lb (stripesC c * (dataC c * c.u)) with h2 | h2
        · rw [ofB_iff.2 ⟨hc, by omega, h2⟩] at h
          cases h
        · exact h2
      clear h
      go_enter Try.func23, Try.ntmps23
      go_wp2_with fail
      have HV0 := Lib.hid (AtP.new (ps := #[.int .i64 0, .int .i64 0, .int .i64 0, .int .i64 0, .int .i64 0]) c w)
      generalize ((w.alloc (.cells #[.int .i64 c.id, .int .i64 c.m, .int .i64 c.u, .int .i64 c.b, .int .i64 c.cp, .int .i64 c.z, .int .i64 c.s, .int .i64 c.mt, .int .i64 c.o, .int .i64 c.a, .int .i64 c.l] 23)).alloc (.cells #[.int .i64 0, .int .i64 0, .int .i64 0, .int .i64 0, .int .i64 0] 36)) = w0 at HV0 ⊢
      obtain ⟨y0, y1, y2, y3, y4, y5, y6, y7, y8, y9, y10⟩ := box11 HV0.out.box
      refine (refCheck_any c w0).mono ?_
      rintro e w1 ⟨rfl, hb⟩
      rw [hc]
      clear hc
      have HV1 := Lib.hid (HV0.out.later hb)
      clear hb HV0 y0 y1 y2 y3 y4 y5 y6 y7 y8 y9 y10
      obtain ⟨y0, y1, y2, y3, y4, y5, y6, y7, y8, y9, y10⟩ := box11 HV1.out.box
      go_wp2_with fail
      refine (rSize_any c w1).mono ?_
      rintro e w2 ⟨rfl, hb⟩
      have HV2 := Lib.hid (HV1.out.later hb)
      clear hb HV1 y0 y1 y2 y3 y4 y5 y6 y7 y8 y9 y10
      obtain ⟨y0, y1, y2, y3, y4, y5, y6, y7, y8, y9, y10⟩ := box11 HV2.out.box
      generalize stripesC c * (dataC c * c.u) = Z at hz ⊢
      obtain ⟨⟨z0, z1, z2, z3, z4⟩, f0, f1, f2, f3, f4⟩ := box5 HV2.out.plc
      go_wp2
      refine bodyPost_ret (v := .tuple #[.agg #[.int .i64 0, .int .i64 0, .int .i64 0, .int .i64 0, .int .i64 0], .bool false]) (by simp [results, Try.results23, go_sem, *]) rfl ⟨rfl, HV2.out.bel.trans ?_⟩
      exact (by repeat (first | with_reducible exact Below.refl _ _ | with_reducible refine Below.drew ?_ | with_reducible refine Below.alloc ?_ (by first | (simp; done) | (simp; omega)) _ | with_reducible refine Below.setCell ?_ (by first | (simp; done) | (simp; omega)) _))
  · clear h
    go_enter Try.func23, Try.ntmps23
    go_wp2_with fail
    have HV0 := Lib.hid (AtP.new (ps := #[.int .i64 0, .int .i64 0, .int .i64 0, .int .i64 0, .int .i64 0]) c w)
    generalize ((w.alloc (.cells #[.int .i64 c.id, .int .i64 c.m, .int .i64 c.u, .int .i64 c.b, .int .i64 c.cp, .int .i64 c.z, .int .i64 c.s, .int .i64 c.mt, .int .i64 c.o, .int .i64 c.a, .int .i64 c.l] 23)).alloc (.cells #[.int .i64 0, .int .i64 0, .int .i64 0, .int .i64 0, .int .i64 0] 36)) = w0 at HV0 ⊢
    obtain ⟨y0, y1, y2, y3, y4, y5, y6, y7, y8, y9, y10⟩ := box11 HV0.out.box
    refine (refCheck_any c w0).mono ?_
    rintro e w1 ⟨rfl, hb⟩
    generalize checkC c = x at hc ⊢
    have e1 : (x == 0) = false := by simpa using hc
    have HV1 := Lib.hid (HV0.out.later hb)
    clear hb HV0 y0 y1 y2 y3 y4 y5 y6 y7 y8 y9 y10
    obtain ⟨y0, y1, y2, y3, y4, y5, y6, y7, y8, y9, y10⟩ := box11 HV1.out.box
    obtain ⟨⟨z0, z1, z2, z3, z4⟩, f0, f1, f2, f3, f4⟩ := box5 HV1.out.plc
    go_wp2
    refine bodyPost_ret (v := .tuple #[.agg #[.int .i64 0, .int .i64 0, .int .i64 0, .int .i64 0, .int .i64 0], .bool false]) (by simp [results, Try.results23, go_sem, *]) rfl ⟨rfl, HV1.out.bel.trans ?_⟩
    exact (by repeat (first | with_reducible exact Below.refl _ _ | with_reducible refine Below.drew ?_ | with_reducible refine Below.alloc ?_ (by first | (simp; done) | (simp; omega)) _ | with_reducible refine Below.setCell ?_ (by first | (simp; done) | (simp; omega)) _))
theorem rOf_any (c : Cf) (lb : Int) (w : World) : Calls Try.prog 23 #[(.agg #[.int .i64 c.id, .int .i64 c.m, .int .i64 c.u, .int .i64 c.b, .int .i64 c.cp, .int .i64 c.z, .int .i64 c.s, .int .i64 c.mt, .int .i64 c.o, .int .i64 c.a, .int .i64 c.l]), .int .i64 lb] w (Says w (.tuple #[.agg #[.int .i64 (ofA c lb).s, .int .i64 (ofA c lb).u, .int .i64 (ofA c lb).i, .int .i64 (ofA c lb).m, .int .i64 (ofA c lb).p], .bool (ofB c lb)])) := by
  by_cases h : ofB c lb = true
  · have e : ofA c lb = ofIn c lb := by unfold ofA; rw [if_pos h]
    have hh := ofB_iff.1 h
    rw [e, h]
    exact rOf_core c lb _ _ _ _ _ _ _ _ w rfl rfl hh.1 hh.2.1 hh.2.2 rfl rfl rfl rfl rfl rfl
  · have e : ofA c lb = ⟨0, 0, 0, 0, 0⟩ := by unfold ofA; rw [if_neg h]
    have h2 : ofB c lb = false := by simpa using h
    rw [e, h2]
    exact rOf_no c lb w h2
end Go.Proofs.Yteglgopbagefcaa
