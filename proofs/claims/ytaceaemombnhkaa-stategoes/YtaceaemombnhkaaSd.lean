/- Contracts of boundsOf, mayStand, mayEnd, mayHave. -/
import Derived.Test.YtaceaemombnhkaaSc
import Derived.Test.YtaceaemombnhkaaP
namespace Go.Proofs.Ytaceaemombnhkaa
set_option linter.unusedVariables false
set_option maxRecDepth 100000
set_option linter.unusedSimpArgs false
open Go.RowKit
open Go.RowKit (wrap64)

def BoundsG (w : World) (c : Cf) (e : Ending) (w' : World) : Prop := e = .returned (.agg #[.int .i64 1, .int .i64 1099511627776, .int .i64 0, .int .i64 1099511627776, .int .i64 0, .int .i64 2, .int .i64 0, .int .i64 1099511627776, .int .i64 (-1), .int .i64 (slotsC c - 1), .int .i64 0, .int .i64 (sizeC c), .int .i64 0, .int .i64 2, .int .i64 1, .int .i64 (sizeC c), .int .i64 (c.u * c.b)]) ∧ Below w.heap.size w w'
theorem box17 {w : World} {g : Nat} {t : TypeId} {a0 a1 a2 a3 a4 a5 a6 a7 a8 a9 a10 a11 a12 a13 a14 a15 a16 : Value} (h : Box w g t #[a0, a1, a2, a3, a4, a5, a6, a7, a8, a9, a10, a11, a12, a13, a14, a15, a16]) :
    (w.cell? ⟨g, 0, none⟩ = some a0 ∧ w.cell? ⟨g, 1, none⟩ = some a1 ∧ w.cell? ⟨g, 2, none⟩ = some a2 ∧ w.cell? ⟨g, 3, none⟩ = some a3 ∧ w.cell? ⟨g, 4, none⟩ = some a4 ∧ w.cell? ⟨g, 5, none⟩ = some a5 ∧ w.cell? ⟨g, 6, none⟩ = some a6 ∧ w.cell? ⟨g, 7, none⟩ = some a7 ∧ w.cell? ⟨g, 8, none⟩ = some a8 ∧ w.cell? ⟨g, 9, none⟩ = some a9 ∧ w.cell? ⟨g, 10, none⟩ = some a10 ∧ w.cell? ⟨g, 11, none⟩ = some a11 ∧ w.cell? ⟨g, 12, none⟩ = some a12 ∧ w.cell? ⟨g, 13, none⟩ = some a13 ∧ w.cell? ⟨g, 14, none⟩ = some a14 ∧ w.cell? ⟨g, 15, none⟩ = some a15 ∧ w.cell? ⟨g, 16, none⟩ = some a16) := by
  refine ⟨?_, ?_, ?_, ?_, ?_, ?_, ?_, ?_, ?_, ?_, ?_, ?_, ?_, ?_, ?_, ?_, ?_⟩ <;> (rw [h.cell]; rfl)
set_option maxHeartbeats 2000000 in
theorem bounds_any (c : Cf) (w : World) (hg : Good c) : Calls Try.prog 44 #[(.agg #[.int .i64 c.id, .int .i64 c.m, .int .i64 c.u, .int .i64 c.b, .int .i64 c.cp, .int .i64 c.z, .int .i64 c.s, .int .i64 c.mt, .int .i64 c.o, .int .i64 c.a, .int .i64 c.l])] w (BoundsG w c) := by
  have HM : Hid (IntKind.i64.wrap (c.u * c.b) = c.u * c.b ∧ IntKind.i64.wrap (slotsC c - 1) = slotsC c - 1) := by
    obtain ⟨h1, h2, h3, h4, h5, h6, h7, h8, _⟩ := hg
    have hm := mul_in (a := c.u) (b := c.b) (A := 64) (B := 4096) (by omega) h6 (by omega) h8
    have hs := slots_in c
    exact ⟨wrapk_in (by omega) (by omega), wrapk_in (by omega) (by omega)⟩
  clear hg
  go_enter Try.func44, Try.ntmps44
  go_upto_region 1 with fail
  obtain ⟨h1, h2, h3, h4⟩ := two_boxes' w 23 81 #[.int .i64 c.id, .int .i64 c.m, .int .i64 c.u, .int .i64 c.b, .int .i64 c.cp, .int .i64 c.z, .int .i64 c.s, .int .i64 c.mt, .int .i64 c.o, .int .i64 c.a, .int .i64 c.l] #[.int .i64 0, .int .i64 0, .int .i64 0, .int .i64 0, .int .i64 0, .int .i64 0, .int .i64 0, .int .i64 0, .int .i64 0, .int .i64 0, .int .i64 0, .int .i64 0, .int .i64 0, .int .i64 0, .int .i64 0, .int .i64 0, .int .i64 0]
  have HV := Lib.hid (And.intro h1 (And.intro h2 (And.intro h3 h4)))
  clear h1 h2 h3 h4
  generalize ((w.alloc (.cells #[.int .i64 c.id, .int .i64 c.m, .int .i64 c.u, .int .i64 c.b, .int .i64 c.cp, .int .i64 c.z, .int .i64 c.s, .int .i64 c.mt, .int .i64 c.o, .int .i64 c.a, .int .i64 c.l] 23)).alloc (.cells _ 81)) = w0 at HV ⊢
  obtain ⟨y0, y1, y2, y3, y4, y5, y6, y7, y8, y9, y10⟩ := box11 HV.out.1
  go_wp2_with fail
  refine (size_any c w0).mono ?_
  rintro e w1 ⟨rfl, hb⟩
  have HV1 : Hid (Box w1 w.heap.size 23 #[.int .i64 c.id, .int .i64 c.m, .int .i64 c.u, .int .i64 c.b, .int .i64 c.cp, .int .i64 c.z, .int .i64 c.s, .int .i64 c.mt, .int .i64 c.o, .int .i64 c.a, .int .i64 c.l] ∧ Box w1 (w.heap.size + 1) 81 #[.int .i64 0, .int .i64 0, .int .i64 0, .int .i64 0, .int .i64 0, .int .i64 0, .int .i64 0, .int .i64 0, .int .i64 0, .int .i64 0, .int .i64 0, .int .i64 0, .int .i64 0, .int .i64 0, .int .i64 0, .int .i64 0, .int .i64 0] ∧ Below w.heap.size w w1 ∧ w.heap.size + 2 ≤ w1.heap.size) := ⟨HV.out.1.later hb, HV.out.2.1.later hb, HV.out.2.2.1.trans (hb.mono HV.out.2.2.1.size), Nat.le_trans (Nat.le_of_eq HV.out.2.2.2.symm) hb.size⟩
  have hSZ : stripesC c * (dataC c * c.u) = sizeC c := rfl
  rw [hSZ]
  clear hb HV hSZ y0 y1 y2 y3 y4 y5 y6 y7 y8 y9 y10
  go_upto_region 2 with fail
  refine wpB_start (w.heap.size + 1) (by kernel_rfl) ?_
  have HV2 : Hid (Box w1.drew w.heap.size 23 #[.int .i64 c.id, .int .i64 c.m, .int .i64 c.u, .int .i64 c.b, .int .i64 c.cp, .int .i64 c.z, .int .i64 c.s, .int .i64 c.mt, .int .i64 c.o, .int .i64 c.a, .int .i64 c.l] ∧ Box w1.drew (w.heap.size + 1) 81 #[.int .i64 0, .int .i64 0, .int .i64 0, .int .i64 0, .int .i64 0, .int .i64 0, .int .i64 0, .int .i64 0, .int .i64 0, .int .i64 0, .int .i64 0, .int .i64 0, .int .i64 0, .int .i64 0, .int .i64 0, .int .i64 0, .int .i64 0] ∧ Below w.heap.size w w1.drew ∧ w.heap.size + 2 ≤ w1.drew.heap.size) := ⟨HV1.out.1, HV1.out.2.1, HV1.out.2.2.1.drew, HV1.out.2.2.2⟩
  generalize w1.drew = w2 at HV2 ⊢
  clear HV1
  have y0 := Box.at_ (B := (w.heap.size + 1)) HV2.out.1 (Nat.lt_succ_self _) (i := 0) rfl
  have y1 := Box.at_ (B := (w.heap.size + 1)) HV2.out.1 (Nat.lt_succ_self _) (i := 1) rfl
  have y2 := Box.at_ (B := (w.heap.size + 1)) HV2.out.1 (Nat.lt_succ_self _) (i := 2) rfl
  have y3 := Box.at_ (B := (w.heap.size + 1)) HV2.out.1 (Nat.lt_succ_self _) (i := 3) rfl
  have y4 := Box.at_ (B := (w.heap.size + 1)) HV2.out.1 (Nat.lt_succ_self _) (i := 4) rfl
  have y5 := Box.at_ (B := (w.heap.size + 1)) HV2.out.1 (Nat.lt_succ_self _) (i := 5) rfl
  have y6 := Box.at_ (B := (w.heap.size + 1)) HV2.out.1 (Nat.lt_succ_self _) (i := 6) rfl
  have y7 := Box.at_ (B := (w.heap.size + 1)) HV2.out.1 (Nat.lt_succ_self _) (i := 7) rfl
  have y8 := Box.at_ (B := (w.heap.size + 1)) HV2.out.1 (Nat.lt_succ_self _) (i := 8) rfl
  have y9 := Box.at_ (B := (w.heap.size + 1)) HV2.out.1 (Nat.lt_succ_self _) (i := 9) rfl
  have y10 := Box.at_ (B := (w.heap.size + 1)) HV2.out.1 (Nat.lt_succ_self _) (i := 10) rfl
  refine wpB_take (i := 0) (d := 6) (v := ?v2x0) rfl rfl (by kernel_rfl) (by kernel_rfl) (by kernel_rfl) (fun _ _ _ h => h) (by rfl) ?y2x0 ?r2x0
  case y2x0 => (intro w' hSw; go_simp; try (with_reducible rfl))
  simp only [Act.put, List.setIfInBounds_toArray, List.set_cons_zero, List.set_cons_succ]
  refine wpB_take (i := 1) (d := 7) (v := ?v2x1) rfl rfl (by kernel_rfl) (by kernel_rfl) (by kernel_rfl) (fun _ _ _ h => h) (by rfl) ?y2x1 ?r2x1
  case y2x1 => (intro w' hSw; go_simp; try (with_reducible rfl))
  simp only [Act.put, List.setIfInBounds_toArray, List.set_cons_zero, List.set_cons_succ]
  refine wpB_take (i := 2) (d := 8) (v := ?v2x2) rfl rfl (by kernel_rfl) (by kernel_rfl) (by kernel_rfl) (fun _ _ _ h => h) (by rfl) ?y2x2 ?r2x2
  case y2x2 => (intro w' hSw; go_simp; try (with_reducible rfl))
  simp only [Act.put, List.setIfInBounds_toArray, List.set_cons_zero, List.set_cons_succ]
  refine wpB_take (i := 3) (d := 9) (v := ?v2x3) rfl rfl (by kernel_rfl) (by kernel_rfl) (by kernel_rfl) (fun _ _ _ h => h) (by rfl) ?y2x3 ?r2x3
  case y2x3 => (intro w' hSw; go_simp; try (with_reducible rfl))
  simp only [Act.put, List.setIfInBounds_toArray, List.set_cons_zero, List.set_cons_succ]
  refine wpB_take (i := 4) (d := 10) (v := ?v2x4) rfl rfl (by kernel_rfl) (by kernel_rfl) (by kernel_rfl) (fun _ _ _ h => h) (by rfl) ?y2x4 ?r2x4
  case y2x4 => (intro w' hSw; go_simp; try (with_reducible rfl))
  simp only [Act.put, List.setIfInBounds_toArray, List.set_cons_zero, List.set_cons_succ]
  refine wpB_take (i := 8) (d := 14) (v := ?v2x8) rfl rfl (by kernel_rfl) (by kernel_rfl) (by kernel_rfl) (fun _ _ _ h => h) (by rfl) ?y2x8 ?r2x8
  case y2x8 => (intro w' hSw; go_simp; try (with_reducible rfl))
  simp only [Act.put, List.setIfInBounds_toArray, List.set_cons_zero, List.set_cons_succ]
  refine wpB_take (i := 9) (d := 15) (v := ?v2x9) rfl rfl (by kernel_rfl) (by kernel_rfl) (by kernel_rfl) (fun _ _ _ h => h) (by rfl) ?y2x9 ?r2x9
  case y2x9 => (intro w' hSw; go_simp; try (with_reducible rfl))
  simp only [Act.put, List.setIfInBounds_toArray, List.set_cons_zero, List.set_cons_succ]
  refine wpB_take (i := 10) (d := 16) (v := ?v2x10) rfl rfl (by kernel_rfl) (by kernel_rfl) (by kernel_rfl) (fun _ _ _ h => h) (by rfl) ?y2x10 ?r2x10
  case y2x10 => (intro w' hSw; go_simp; try (with_reducible rfl))
  simp only [Act.put, List.setIfInBounds_toArray, List.set_cons_zero, List.set_cons_succ]
  refine wpB_take (i := 11) (d := 17) (v := ?v2x11) rfl rfl (by kernel_rfl) (by kernel_rfl) (by kernel_rfl) (fun _ _ _ h => h) (by rfl) ?y2x11 ?r2x11
  case y2x11 => (intro w' hSw; go_simp; try (with_reducible rfl))
  simp only [Act.put, List.setIfInBounds_toArray, List.set_cons_zero, List.set_cons_succ]
  refine wpB_take (i := 12) (d := 18) (v := ?v2x12) rfl rfl (by kernel_rfl) (by kernel_rfl) (by kernel_rfl) (fun _ _ _ h => h) (by rfl) ?y2x12 ?r2x12
  case y2x12 => (intro w' hSw; go_simp; try (with_reducible rfl))
  simp only [Act.put, List.setIfInBounds_toArray, List.set_cons_zero, List.set_cons_succ]
  refine wpB_take (i := 13) (d := 19) (v := ?v2x13) rfl rfl (by kernel_rfl) (by kernel_rfl) (by kernel_rfl) (fun _ _ _ h => h) (by rfl) ?y2x13 ?r2x13
  case y2x13 => (intro w' hSw; go_simp; try (with_reducible rfl))
  simp only [Act.put, List.setIfInBounds_toArray, List.set_cons_zero, List.set_cons_succ]
  refine wpB_take (i := 14) (d := 20) (v := ?v2x14) rfl rfl (by kernel_rfl) (by kernel_rfl) (by kernel_rfl) (fun _ _ _ h => h) (by rfl) ?y2x14 ?r2x14
  case y2x14 => (intro w' hSw; go_simp; try (with_reducible rfl))
  simp only [Act.put, List.setIfInBounds_toArray, List.set_cons_zero, List.set_cons_succ]
  refine wpB_take (i := 15) (d := 21) (v := ?v2x15) rfl rfl (by kernel_rfl) (by kernel_rfl) (by kernel_rfl) (fun _ _ _ h => h) (by rfl) ?y2x15 ?r2x15
  case y2x15 => (intro w' hSw; go_simp; try (with_reducible rfl))
  simp only [Act.put, List.setIfInBounds_toArray, List.set_cons_zero, List.set_cons_succ]
  refine wpB_take (i := 16) (d := 22) (v := ?v2x16) rfl rfl (by kernel_rfl) (by kernel_rfl) (by kernel_rfl) (fun _ _ _ h => h) (by rfl) ?y2x16 ?r2x16
  case y2x16 => (intro w' hSw; go_simp; try (with_reducible rfl))
  simp only [Act.put, List.setIfInBounds_toArray, List.set_cons_zero, List.set_cons_succ]
  have hm := HM.out.1
  refine wpB_take (i := 17) (d := 23) (v := ?v2x17) rfl rfl (by kernel_rfl) (by kernel_rfl) (by kernel_rfl) (fun _ _ _ h => h) (by rfl) ?y2x17 ?r2x17
  case y2x17 => (intro w' hSw; go_simp; try (with_reducible rfl))
  simp only [Act.put, List.setIfInBounds_toArray, List.set_cons_zero, List.set_cons_succ]
  clear hm
  refine wpB_do (i := 5) (by kernel_rfl) rfl (by rfl) (fun K hK => ?_)
  go_simp
  refine (slots_any c _).mono ?_
  rintro e w3 ⟨rfl, hb⟩
  have HV3 : Hid (Box w3 (w.heap.size + 1) 81 #[.int .i64 0, .int .i64 0, .int .i64 0, .int .i64 0, .int .i64 0, .int .i64 0, .int .i64 0, .int .i64 0, .int .i64 0, .int .i64 0, .int .i64 0, .int .i64 0, .int .i64 0, .int .i64 0, .int .i64 0, .int .i64 0, .int .i64 0] ∧ Below w.heap.size w w3 ∧ w.heap.size + 2 ≤ w3.heap.size) := ⟨HV2.out.2.1.later hb, HV2.out.2.2.1.trans (hb.mono HV2.out.2.2.1.size), Nat.le_trans HV2.out.2.2.2 hb.size⟩
  have hbk := hb.mono (Nat.le_trans (Nat.le_succ _) HV2.out.2.2.2)
  go_simp
  refine hK.out (w.heap.size + 1) _ _ (Nat.le_refl _) hbk ?_
  clear hb hbk hK HV2 y0 y1 y2 y3 y4 y5 y6 y7 y8 y9 y10
  have hm := HM.out.2
  refine wpB_take (i := 6) (d := 12) (v := ?v2x6) rfl rfl (by kernel_rfl) (by kernel_rfl) (by kernel_rfl) (fun _ _ _ h => h) (by rfl) ?y2x6 ?r2x6
  case y2x6 => (intro w' hSw; go_simp; try (with_reducible rfl))
  simp only [Act.put, List.setIfInBounds_toArray, List.set_cons_zero, List.set_cons_succ]
  clear hm
  refine wpB_take (i := 7) (d := 13) (v := ?v2x7) rfl rfl (by kernel_rfl) (by kernel_rfl) (by kernel_rfl) (fun _ _ _ h => h) (by rfl) ?y2x7 ?r2x7
  case y2x7 => (intro w' hSw; go_simp; try (with_reducible rfl))
  simp only [Act.put, List.setIfInBounds_toArray, List.set_cons_zero, List.set_cons_succ]
  refine wpB_take (i := 18) (d := 24) (v := ?v2x18) rfl rfl (by kernel_rfl) (by kernel_rfl) (by kernel_rfl) (fun _ _ _ h => h) (by rfl) ?y2x18 ?r2x18
  case y2x18 => (intro w' hSw; go_simp; try (with_reducible rfl))
  simp only [Act.put, List.setIfInBounds_toArray, List.set_cons_zero, List.set_cons_succ]
  refine wpB_do (i := 19) (by kernel_rfl) rfl (by rfl) (fun K hK => ?_)
  go_simp
  obtain ⟨y0, y1, y2, y3, y4, y5, y6, y7, y8, y9, y10, y11, y12, y13, y14, y15, y16⟩ := box17 HV3.out.1
  obtain ⟨f0, f1, f2, f3, f4, f5, f6, f7, f8, f9, f10, f11, f12, f13, f14, f15, f16⟩ := froz17 HV3.out.1
  go_simp
  have HV4 : Hid (Box (((((((((((((((((w3.setCell ⟨w.heap.size + 1, 0, none⟩ (.int .i64 1)).setCell ⟨w.heap.size + 1, 1, none⟩ (.int .i64 1099511627776)).setCell ⟨w.heap.size + 1, 2, none⟩ (.int .i64 0)).setCell ⟨w.heap.size + 1, 3, none⟩ (.int .i64 1099511627776)).setCell ⟨w.heap.size + 1, 4, none⟩ (.int .i64 0)).setCell ⟨w.heap.size + 1, 5, none⟩ (.int .i64 2)).setCell ⟨w.heap.size + 1, 6, none⟩ (.int .i64 0)).setCell ⟨w.heap.size + 1, 7, none⟩ (.int .i64 1099511627776)).setCell ⟨w.heap.size + 1, 8, none⟩ (.int .i64 (-1))).setCell ⟨w.heap.size + 1, 9, none⟩ (.int .i64 (slotsC c - 1))).setCell ⟨w.heap.size + 1, 10, none⟩ (.int .i64 0)).setCell ⟨w.heap.size + 1, 11, none⟩ (.int .i64 (sizeC c))).setCell ⟨w.heap.size + 1, 12, none⟩ (.int .i64 0)).setCell ⟨w.heap.size + 1, 13, none⟩ (.int .i64 2)).setCell ⟨w.heap.size + 1, 14, none⟩ (.int .i64 1)).setCell ⟨w.heap.size + 1, 15, none⟩ (.int .i64 (sizeC c))).setCell ⟨w.heap.size + 1, 16, none⟩ (.int .i64 (c.u * c.b))) (w.heap.size + 1) 81 #[.int .i64 1, .int .i64 1099511627776, .int .i64 0, .int .i64 1099511627776, .int .i64 0, .int .i64 2, .int .i64 0, .int .i64 1099511627776, .int .i64 (-1), .int .i64 (slotsC c - 1), .int .i64 0, .int .i64 (sizeC c), .int .i64 0, .int .i64 2, .int .i64 1, .int .i64 (sizeC c), .int .i64 (c.u * c.b)] ∧ Below (w.heap.size + 1) w3 (((((((((((((((((w3.setCell ⟨w.heap.size + 1, 0, none⟩ (.int .i64 1)).setCell ⟨w.heap.size + 1, 1, none⟩ (.int .i64 1099511627776)).setCell ⟨w.heap.size + 1, 2, none⟩ (.int .i64 0)).setCell ⟨w.heap.size + 1, 3, none⟩ (.int .i64 1099511627776)).setCell ⟨w.heap.size + 1, 4, none⟩ (.int .i64 0)).setCell ⟨w.heap.size + 1, 5, none⟩ (.int .i64 2)).setCell ⟨w.heap.size + 1, 6, none⟩ (.int .i64 0)).setCell ⟨w.heap.size + 1, 7, none⟩ (.int .i64 1099511627776)).setCell ⟨w.heap.size + 1, 8, none⟩ (.int .i64 (-1))).setCell ⟨w.heap.size + 1, 9, none⟩ (.int .i64 (slotsC c - 1))).setCell ⟨w.heap.size + 1, 10, none⟩ (.int .i64 0)).setCell ⟨w.heap.size + 1, 11, none⟩ (.int .i64 (sizeC c))).setCell ⟨w.heap.size + 1, 12, none⟩ (.int .i64 0)).setCell ⟨w.heap.size + 1, 13, none⟩ (.int .i64 2)).setCell ⟨w.heap.size + 1, 14, none⟩ (.int .i64 1)).setCell ⟨w.heap.size + 1, 15, none⟩ (.int .i64 (sizeC c))).setCell ⟨w.heap.size + 1, 16, none⟩ (.int .i64 (c.u * c.b))) ∧ Below w.heap.size w (((((((((((((((((w3.setCell ⟨w.heap.size + 1, 0, none⟩ (.int .i64 1)).setCell ⟨w.heap.size + 1, 1, none⟩ (.int .i64 1099511627776)).setCell ⟨w.heap.size + 1, 2, none⟩ (.int .i64 0)).setCell ⟨w.heap.size + 1, 3, none⟩ (.int .i64 1099511627776)).setCell ⟨w.heap.size + 1, 4, none⟩ (.int .i64 0)).setCell ⟨w.heap.size + 1, 5, none⟩ (.int .i64 2)).setCell ⟨w.heap.size + 1, 6, none⟩ (.int .i64 0)).setCell ⟨w.heap.size + 1, 7, none⟩ (.int .i64 1099511627776)).setCell ⟨w.heap.size + 1, 8, none⟩ (.int .i64 (-1))).setCell ⟨w.heap.size + 1, 9, none⟩ (.int .i64 (slotsC c - 1))).setCell ⟨w.heap.size + 1, 10, none⟩ (.int .i64 0)).setCell ⟨w.heap.size + 1, 11, none⟩ (.int .i64 (sizeC c))).setCell ⟨w.heap.size + 1, 12, none⟩ (.int .i64 0)).setCell ⟨w.heap.size + 1, 13, none⟩ (.int .i64 2)).setCell ⟨w.heap.size + 1, 14, none⟩ (.int .i64 1)).setCell ⟨w.heap.size + 1, 15, none⟩ (.int .i64 (sizeC c))).setCell ⟨w.heap.size + 1, 16, none⟩ (.int .i64 (c.u * c.b)))) := by
    have h1 := sets_box0 [.int .i64 1, .int .i64 1099511627776, .int .i64 0, .int .i64 1099511627776, .int .i64 0, .int .i64 2, .int .i64 0, .int .i64 1099511627776, .int .i64 (-1), .int .i64 (slotsC c - 1), .int .i64 0, .int .i64 (sizeC c), .int .i64 0, .int .i64 2, .int .i64 1, .int .i64 (sizeC c), .int .i64 (c.u * c.b)] HV3.out.1 rfl
    have h2 := sets_below (B := w.heap.size + 1) [.int .i64 1, .int .i64 1099511627776, .int .i64 0, .int .i64 1099511627776, .int .i64 0, .int .i64 2, .int .i64 0, .int .i64 1099511627776, .int .i64 (-1), .int .i64 (slotsC c - 1), .int .i64 0, .int .i64 (sizeC c), .int .i64 0, .int .i64 2, .int .i64 1, .int .i64 (sizeC c), .int .i64 (c.u * c.b)] 0 w3 (Below.refl _ _) (Nat.le_refl _)
    have h3 := sets_below [.int .i64 1, .int .i64 1099511627776, .int .i64 0, .int .i64 1099511627776, .int .i64 0, .int .i64 2, .int .i64 0, .int .i64 1099511627776, .int .i64 (-1), .int .i64 (slotsC c - 1), .int .i64 0, .int .i64 (sizeC c), .int .i64 0, .int .i64 2, .int .i64 1, .int .i64 (sizeC c), .int .i64 (c.u * c.b)] 0 w3 HV3.out.2.1 (Nat.le_succ _)
    simp only [sets, Nat.zero_add, Nat.reduceAdd] at h1 h2 h3
    exact ⟨h1, h2, h3⟩
  refine hK.out (w.heap.size + 1) _ _ (Nat.le_refl _) HV4.out.2.1 ?_
  generalize (((((((((((((((((w3.setCell ⟨w.heap.size + 1, 0, none⟩ (.int .i64 1)).setCell ⟨w.heap.size + 1, 1, none⟩ (.int .i64 1099511627776)).setCell ⟨w.heap.size + 1, 2, none⟩ (.int .i64 0)).setCell ⟨w.heap.size + 1, 3, none⟩ (.int .i64 1099511627776)).setCell ⟨w.heap.size + 1, 4, none⟩ (.int .i64 0)).setCell ⟨w.heap.size + 1, 5, none⟩ (.int .i64 2)).setCell ⟨w.heap.size + 1, 6, none⟩ (.int .i64 0)).setCell ⟨w.heap.size + 1, 7, none⟩ (.int .i64 1099511627776)).setCell ⟨w.heap.size + 1, 8, none⟩ (.int .i64 (-1))).setCell ⟨w.heap.size + 1, 9, none⟩ (.int .i64 (slotsC c - 1))).setCell ⟨w.heap.size + 1, 10, none⟩ (.int .i64 0)).setCell ⟨w.heap.size + 1, 11, none⟩ (.int .i64 (sizeC c))).setCell ⟨w.heap.size + 1, 12, none⟩ (.int .i64 0)).setCell ⟨w.heap.size + 1, 13, none⟩ (.int .i64 2)).setCell ⟨w.heap.size + 1, 14, none⟩ (.int .i64 1)).setCell ⟨w.heap.size + 1, 15, none⟩ (.int .i64 (sizeC c))).setCell ⟨w.heap.size + 1, 16, none⟩ (.int .i64 (c.u * c.b))) = w4 at HV4 ⊢
  clear hK HV3 y0 y1 y2 y3 y4 y5 y6 y7 y8 y9 y10 y11 y12 y13 y14 y15 y16 f0 f1 f2 f3 f4 f5 f6 f7 f8 f9 f10 f11 f12 f13 f14 f15 f16
  refine wpB_done (by kernel_rfl) ?_
  obtain ⟨y0, y1, y2, y3, y4, y5, y6, y7, y8, y9, y10, y11, y12, y13, y14, y15, y16⟩ := box17 HV4.out.1
  go_wp2
  exact bodyPost_ret (v := (.agg #[.int .i64 1, .int .i64 1099511627776, .int .i64 0, .int .i64 1099511627776, .int .i64 0, .int .i64 2, .int .i64 0, .int .i64 1099511627776, .int .i64 (-1), .int .i64 (slotsC c - 1), .int .i64 0, .int .i64 (sizeC c), .int .i64 0, .int .i64 2, .int .i64 1, .int .i64 (sizeC c), .int .i64 (c.u * c.b)])) (by simp [results, Try.results44, go_sem, *]) rfl ⟨rfl, HV4.out.2.2⟩
theorem bounds_loc {c : Cf} {w : World} {w' : World} {e : Ending} (h : BoundsG w c e w') : e = .returned (.agg #[.int .i64 1, .int .i64 1099511627776, .int .i64 0, .int .i64 1099511627776, .int .i64 0, .int .i64 2, .int .i64 0, .int .i64 1099511627776, .int .i64 (-1), .int .i64 (slotsC c - 1), .int .i64 0, .int .i64 (sizeC c), .int .i64 0, .int .i64 2, .int .i64 1, .int .i64 (sizeC c), .int .i64 (c.u * c.b)]) := h.1
theorem oddN_mid {st : List Int} {k : Nat} (hk : k ≤ st.length) : oddN (st.take k) ≤ k := by
  have := oddN_le (st.take k)
  rw [List.length_take] at this
  omega
set_option maxHeartbeats 2000000 in
theorem stand_any (c : Cf) (A : Option Addr) (st : List Int) (k : Nat) (w : World) (h : IntsAt w (LT w.heap.size) A st) (hl : st.length ≤ 1000000) :
    Calls Try.prog 53 #[(.agg #[.int .i64 1, .int .i64 1099511627776, .int .i64 0, .int .i64 1099511627776, .int .i64 0, .int .i64 2, .int .i64 0, .int .i64 1099511627776, .int .i64 (-1), .int .i64 (slotsC c - 1), .int .i64 0, .int .i64 (sizeC c), .int .i64 0, .int .i64 2, .int .i64 1, .int .i64 (sizeC c), .int .i64 (c.u * c.b)]), .slice A st.length k] w (SaysP w (StandR st)) := by
  go_enter Try.func53, Try.ntmps53
  go_upto_region 1 with fail
  have HV : Hid (∀ w1, Below (w.alloc (.cells #[.int .i64 1, .int .i64 1099511627776, .int .i64 0, .int .i64 1099511627776, .int .i64 0, .int .i64 2, .int .i64 0, .int .i64 1099511627776, .int .i64 (-1), .int .i64 (slotsC c - 1), .int .i64 0, .int .i64 (sizeC c), .int .i64 0, .int .i64 2, .int .i64 1, .int .i64 (sizeC c), .int .i64 (c.u * c.b)] 81)).heap.size (w.alloc (.cells #[.int .i64 1, .int .i64 1099511627776, .int .i64 0, .int .i64 1099511627776, .int .i64 0, .int .i64 2, .int .i64 0, .int .i64 1099511627776, .int .i64 (-1), .int .i64 (slotsC c - 1), .int .i64 0, .int .i64 (sizeC c), .int .i64 0, .int .i64 2, .int .i64 1, .int .i64 (sizeC c), .int .i64 (c.u * c.b)] 81)) w1 → Box w1 w.heap.size 81 #[.int .i64 1, .int .i64 1099511627776, .int .i64 0, .int .i64 1099511627776, .int .i64 0, .int .i64 2, .int .i64 0, .int .i64 1099511627776, .int .i64 (-1), .int .i64 (slotsC c - 1), .int .i64 0, .int .i64 (sizeC c), .int .i64 0, .int .i64 2, .int .i64 1, .int .i64 (sizeC c), .int .i64 (c.u * c.b)] ∧ IntsAt w1 (LT w1.heap.size) A st ∧ Below w.heap.size w w1) := fun w1 hb => ⟨(Box.fresh w 81 #[.int .i64 1, .int .i64 1099511627776, .int .i64 0, .int .i64 1099511627776, .int .i64 0, .int .i64 2, .int .i64 0, .int .i64 1099511627776, .int .i64 (-1), .int .i64 (slotsC c - 1), .int .i64 0, .int .i64 (sizeC c), .int .i64 0, .int .i64 2, .int .i64 1, .int .i64 (sizeC c), .int .i64 (c.u * c.b)]).later hb, h.later (below_trans (below_one w _) hb), below_trans (below_one w _) hb⟩
  generalize (w.alloc (.cells #[.int .i64 1, .int .i64 1099511627776, .int .i64 0, .int .i64 1099511627776, .int .i64 0, .int .i64 2, .int .i64 0, .int .i64 1099511627776, .int .i64 (-1), .int .i64 (slotsC c - 1), .int .i64 0, .int .i64 (sizeC c), .int .i64 0, .int .i64 2, .int .i64 1, .int .i64 (sizeC c), .int .i64 (c.u * c.b)] 81)) = w0 at HV ⊢
  clear h
  obtain ⟨h1, h2, h3⟩ := HV.out w0 (Below.refl _ _)
  obtain ⟨y0, y1, y2, y3, y4, y5, y6, y7, y8, y9, y10, y11, y12, y13, y14, y15, y16⟩ := box17 h1
  go_wp2
  clear h1 h2 h3 y0 y1 y2 y3 y4 y5 y6 y7 y8 y9 y10 y11 y12 y13 y14 y15 y16
  go_loopw [5, 7, 10] (fun o _ i wr => ∃ q : Nat, q ≤ st.length ∧ i = .int .i64 q ∧ o = .int .i64 (oddN (st.take q) : Nat) ∧ (∀ j (hj : j < st.length), j < q → 0 ≤ st[j] ∧ st[j] ≤ 2) ∧ Below w0.heap.size w0 wr) (fun _ _ i _ => st.length - (intOf i).toNat)
  case atStart => exact ⟨0, by omega, rfl, rfl, fun j _ hj => absurd hj (Nat.not_lt_zero j), Below.refl _ _⟩
  case round =>
    obtain ⟨q, hq, rfl, rfl, hall, hb0⟩ := hrel
    have HB := Lib.hid hb0
    obtain ⟨h1, h2, h3⟩ := HV.out wr hb0
    obtain ⟨y0, y1, y2, y3, y4, y5, y6, y7, y8, y9, y10, y11, y12, y13, y14, y15, y16⟩ := box17 h1
    by_cases hlt : q < st.length
    · obtain ⟨g, off, rfl, hg, hc⟩ := h2 (by omega)
      have hcq := hc q hlt
      have HN : Hid (0 ≤ st[q] ∧ st[q] ≤ 2 → ∀ j (hj : j < st.length), j < q + 1 → 0 ≤ st[j] ∧ st[j] ≤ 2) := fun hx j hj hjk => by
        rcases Nat.lt_or_ge j q with h1 | h1
        · exact hall j hj h1
        · obtain rfl : j = q := by omega
          exact hx
      have HT := Lib.hid (oddN_take hlt)
      have HO := Lib.hid (oddN_mid (Nat.le_of_lt hlt))
      have HM : Hid (st[q] ∈ st) := List.getElem_mem hlt
      clear hall hc h1 h2 h3 hg hb0
      generalize st[q] = m at hcq HN HT HM
      generalize oddN (st.take q) = o at HT HO ⊢
      go_wp2_with fail
      refine (has_any 0 2 m wr).mono ?_
      rintro e w1 ⟨b, rfl, hbb, hb1⟩
      have HB1 := Lib.hid (below_trans HB.out hb1)
      clear hb1 HB hcq y0 y1 y2 y3 y4 y5 y6 y7 y8 y9 y10 y11 y12 y13 y14 y15 y16
      cases b with
      | false =>
        have hn : ¬ (0 ≤ m ∧ m ≤ 2) := fun h => by simp at hbb; omega
        go_wp2
        go_ret
        exact SaysP.no (fun h => hn (h.1 m HM.out)) (HV.out _ HB1.out).2.2
      | true =>
        have hm := hbb.1 rfl
        have HN2 := Lib.hid (HN.out hm)
        clear hbb hm HN
        have ho := HO.out
        by_cases h0 : m = 0
        · have h0b : (m != 0) = false := by simp [h0]
          have HT2 : Hid (oddN (st.take (q + 1)) = o) := by
            show _ = _
            rw [HT.out, if_pos h0, Nat.add_zero]
          clear h0
          go_wp2
          go_roundw
          case rel => exact ⟨q + 1, by omega, by go_num, by rw [HT2.out], HN2.out, HB1.out⟩
          case measure => simp [intOf]; omega
        · have h0b : (m != 0) = true := by simpa using h0
          have HT2 : Hid (oddN (st.take (q + 1)) = o + 1) := by
            show _ = _
            rw [HT.out, if_neg h0]
          clear h0
          go_wp2
          go_roundw
          case rel => exact ⟨q + 1, by omega, by go_num, by rw [HT2.out]; go_num, HN2.out, HB1.out⟩
          case measure => simp [intOf]; omega
    · obtain rfl : q = st.length := by omega
      rw [List.take_length]
      have HN : Hid (oddN st ≤ 1 ↔ StandR st) := ⟨fun ho => ⟨fun n hn => by
        obtain ⟨j, hj, e⟩ := List.getElem_of_mem hn
        rw [← e]
        exact hall j hj hj, ho⟩, fun h => h.2⟩
      have H3 := Lib.hid h3
      clear hall h1 h2 h3 hb0 y0 y1 y2 y3 y4 y5 y6 y7 y8 y9 y10 y11 y12 y13 y14 y15 y16
      generalize oddN st = o at HN ⊢
      go_wp2
      go_ret
      exact ⟨_, rfl, by rw [← HN.out, decide_eq_true_eq]; omega, H3.out⟩
theorem end_any (c : Cf) (v : Int) (has : Bool) (w : World) : Calls Try.prog 85 #[(.agg #[.int .i64 1, .int .i64 1099511627776, .int .i64 0, .int .i64 1099511627776, .int .i64 0, .int .i64 2, .int .i64 0, .int .i64 1099511627776, .int .i64 (-1), .int .i64 (slotsC c - 1), .int .i64 0, .int .i64 (sizeC c), .int .i64 0, .int .i64 2, .int .i64 1, .int .i64 (sizeC c), .int .i64 (c.u * c.b)]), .int .i64 v, .bool has] w (SaysP w (EndR c v (has = true))) := by
  go_enter Try.func85, Try.ntmps85
  go_upto_region 1 with fail
  have HV : Hid (∀ w1, Below (w.alloc (.cells #[.int .i64 1, .int .i64 1099511627776, .int .i64 0, .int .i64 1099511627776, .int .i64 0, .int .i64 2, .int .i64 0, .int .i64 1099511627776, .int .i64 (-1), .int .i64 (slotsC c - 1), .int .i64 0, .int .i64 (sizeC c), .int .i64 0, .int .i64 2, .int .i64 1, .int .i64 (sizeC c), .int .i64 (c.u * c.b)] 81)).heap.size (w.alloc (.cells #[.int .i64 1, .int .i64 1099511627776, .int .i64 0, .int .i64 1099511627776, .int .i64 0, .int .i64 2, .int .i64 0, .int .i64 1099511627776, .int .i64 (-1), .int .i64 (slotsC c - 1), .int .i64 0, .int .i64 (sizeC c), .int .i64 0, .int .i64 2, .int .i64 1, .int .i64 (sizeC c), .int .i64 (c.u * c.b)] 81)) w1 → Below w.heap.size w w1) := fun w1 hb => below_trans (below_one w _) hb
  have HB := Lib.hid (Box.fresh w 81 #[.int .i64 1, .int .i64 1099511627776, .int .i64 0, .int .i64 1099511627776, .int .i64 0, .int .i64 2, .int .i64 0, .int .i64 1099511627776, .int .i64 (-1), .int .i64 (slotsC c - 1), .int .i64 0, .int .i64 (sizeC c), .int .i64 0, .int .i64 2, .int .i64 1, .int .i64 (sizeC c), .int .i64 (c.u * c.b)])
  generalize (w.alloc (.cells #[.int .i64 1, .int .i64 1099511627776, .int .i64 0, .int .i64 1099511627776, .int .i64 0, .int .i64 2, .int .i64 0, .int .i64 1099511627776, .int .i64 (-1), .int .i64 (slotsC c - 1), .int .i64 0, .int .i64 (sizeC c), .int .i64 0, .int .i64 2, .int .i64 1, .int .i64 (sizeC c), .int .i64 (c.u * c.b)] 81)) = w0 at HV HB ⊢
  obtain ⟨y0, y1, y2, y3, y4, y5, y6, y7, y8, y9, y10, y11, y12, y13, y14, y15, y16⟩ := box17 HB.out
  go_wp2_with fail
  refine (has_any 0 (sizeC c) v w0).mono ?_
  rintro e w1 ⟨b, rfl, hbb, hb1⟩
  have HB1 := Lib.hid (HV.out w1 hb1)
  clear hb1 HB y0 y1 y2 y3 y4 y5 y6 y7 y8 y9 y10 y11 y12 y13 y14 y15 y16
  cases b with
  | false =>
    have hn : ¬ (0 ≤ v ∧ v ≤ sizeC c) := fun h => by simp at hbb; omega
    go_wp2
    go_ret
    exact SaysP.no (fun h => hn h.1) HB1.out
  | true =>
    have hm := Lib.hid (hbb.1 rfl)
    clear hbb
    by_cases h0 : v = 0
    · have h0b : (v == 0) = true := by simp [h0]
      have H0 := Lib.hid h0
      clear h0
      go_wp2
      go_ret
      exact SaysP.yes ⟨hm.out, Or.inl H0.out⟩ HB1.out
    · have h0b : (v == 0) = false := by simpa using h0
      have H0 := Lib.hid h0
      clear h0
      go_wp2
      go_ret
      refine ⟨has, rfl, ⟨fun h => ⟨hm.out, Or.inr h⟩, fun h => h.2.resolve_left H0.out⟩, HB1.out⟩
set_option maxHeartbeats 2000000 in
theorem have_any (c : Cf) (X : Option Addr) (ps : List Pr) (x : Nat) (w : World) (h : PrsAt w (LT w.heap.size) X ps) (hl : ps.length ≤ 140737488351232) :
    Calls Try.prog 84 #[(.agg #[.int .i64 1, .int .i64 1099511627776, .int .i64 0, .int .i64 1099511627776, .int .i64 0, .int .i64 2, .int .i64 0, .int .i64 1099511627776, .int .i64 (-1), .int .i64 (slotsC c - 1), .int .i64 0, .int .i64 (sizeC c), .int .i64 0, .int .i64 2, .int .i64 1, .int .i64 (sizeC c), .int .i64 (c.u * c.b)]), .slice X ps.length x] w (SaysP w (HaveR c ps)) := by
  go_enter Try.func84, Try.ntmps84
  go_upto_region 1 with fail
  have HV : Hid (∀ w1, Below (w.alloc (.cells #[.int .i64 1, .int .i64 1099511627776, .int .i64 0, .int .i64 1099511627776, .int .i64 0, .int .i64 2, .int .i64 0, .int .i64 1099511627776, .int .i64 (-1), .int .i64 (slotsC c - 1), .int .i64 0, .int .i64 (sizeC c), .int .i64 0, .int .i64 2, .int .i64 1, .int .i64 (sizeC c), .int .i64 (c.u * c.b)] 81)).heap.size (w.alloc (.cells #[.int .i64 1, .int .i64 1099511627776, .int .i64 0, .int .i64 1099511627776, .int .i64 0, .int .i64 2, .int .i64 0, .int .i64 1099511627776, .int .i64 (-1), .int .i64 (slotsC c - 1), .int .i64 0, .int .i64 (sizeC c), .int .i64 0, .int .i64 2, .int .i64 1, .int .i64 (sizeC c), .int .i64 (c.u * c.b)] 81)) w1 → Box w1 w.heap.size 81 #[.int .i64 1, .int .i64 1099511627776, .int .i64 0, .int .i64 1099511627776, .int .i64 0, .int .i64 2, .int .i64 0, .int .i64 1099511627776, .int .i64 (-1), .int .i64 (slotsC c - 1), .int .i64 0, .int .i64 (sizeC c), .int .i64 0, .int .i64 2, .int .i64 1, .int .i64 (sizeC c), .int .i64 (c.u * c.b)] ∧ PrsAt w1 (LT w1.heap.size) X ps ∧ Below w.heap.size w w1) := fun w1 hb => ⟨(Box.fresh w 81 #[.int .i64 1, .int .i64 1099511627776, .int .i64 0, .int .i64 1099511627776, .int .i64 0, .int .i64 2, .int .i64 0, .int .i64 1099511627776, .int .i64 (-1), .int .i64 (slotsC c - 1), .int .i64 0, .int .i64 (sizeC c), .int .i64 0, .int .i64 2, .int .i64 1, .int .i64 (sizeC c), .int .i64 (c.u * c.b)]).later hb, h.later (below_trans (below_one w _) hb), below_trans (below_one w _) hb⟩
  generalize (w.alloc (.cells #[.int .i64 1, .int .i64 1099511627776, .int .i64 0, .int .i64 1099511627776, .int .i64 0, .int .i64 2, .int .i64 0, .int .i64 1099511627776, .int .i64 (-1), .int .i64 (slotsC c - 1), .int .i64 0, .int .i64 (sizeC c), .int .i64 0, .int .i64 2, .int .i64 1, .int .i64 (sizeC c), .int .i64 (c.u * c.b)] 81)) = w0 at HV ⊢
  clear h
  go_wp2
  go_loopw [6, 9] (fun _ i wr => ∃ q : Nat, q ≤ ps.length ∧ i = .int .i64 q ∧ (∀ j (hj : j < ps.length), j < q → ParR c ps[j]) ∧ Below w0.heap.size w0 wr) (fun _ i _ => ps.length - (intOf i).toNat)
  case atStart => exact ⟨0, by omega, rfl, fun j _ hj => absurd hj (Nat.not_lt_zero j), Below.refl _ _⟩
  case round =>
    obtain ⟨q, hq, rfl, hall, hb0⟩ := hrel
    have HB := Lib.hid hb0
    obtain ⟨h1, h2, h3⟩ := HV.out wr hb0
    by_cases hlt : q < ps.length
    · obtain ⟨g, off, rfl, hg, hc⟩ := h2 (by omega)
      obtain ⟨Y, y, c0, c1, _, _, hpl⟩ := hc q hlt
      have HN : Hid (ParR c ps[q] → ∀ j (hj : j < ps.length), j < q + 1 → ParR c ps[j]) := fun hx j hj hjk => by
        rcases Nat.lt_or_ge j q with h1 | h1
        · exact hall j hj h1
        · obtain rfl : j = q := by omega
          exact hx
      have HM : Hid (ps[q] ∈ ps) := List.getElem_mem hlt
      clear hall hc h1 h2 h3 hg hb0
      generalize ps[q] = p at c0 c1 HN HM hpl
      obtain ⟨pw, pb⟩ := p
      dsimp only at c0 c1 hpl
      go_upto_region 4 with fail
      have HP := Lib.hid (Box.fresh wr 55 #[.int .i64 pw, .slice Y pb.length y])
      have HB2 : Hid (Below w0.heap.size w0 (wr.alloc (.cells #[.int .i64 pw, .slice Y pb.length y] 55))) := below_trans HB.out (below_one _ _)
      generalize (wr.alloc (.cells #[.int .i64 pw, .slice Y pb.length y] 55)) = w2 at HP HB2 ⊢
      generalize wr.heap.size = g2 at HP ⊢
      obtain ⟨y0, y1, y2, y3, y4, y5, y6, y7, y8, y9, y10, y11, y12, y13, y14, y15, y16⟩ := box17 (HV.out w2 HB2.out).1
      obtain ⟨z0, z1⟩ := box2 HP.out
      clear c0 c1 HB
      go_wp2_with fail
      refine (has_any 1 (sizeC c) pw w2).mono ?_
      rintro e w3 ⟨b, rfl, hbb, hb1⟩
      have HB3 := Lib.hid (below_trans HB2.out hb1)
      have HP3 := Lib.hid (HP.out.later hb1)
      clear hb1 HB2 HP y0 y1 y2 y3 y4 y5 y6 y7 y8 y9 y10 y11 y12 y13 y14 y15 y16 z0 z1
      cases b with
      | false =>
        have hn : ¬ (1 ≤ pw ∧ pw ≤ sizeC c) := fun h => by simp at hbb; omega
        go_wp2
        go_ret
        exact SaysP.no (fun h => hn (h.1 _ HM.out).1) (HV.out _ HB3.out).2.2
      | true =>
        have hm := Lib.hid (hbb.1 rfl)
        clear hbb
        obtain ⟨y0, y1, y2, y3, y4, y5, y6, y7, y8, y9, y10, y11, y12, y13, y14, y15, y16⟩ := box17 (HV.out w3 HB3.out).1
        obtain ⟨z0, z1⟩ := box2 HP3.out
        by_cases h0 : (pb.length : Int) = c.u * c.b
        · have HN2 := Lib.hid (HN.out ⟨hm.out, h0⟩)
          have h0b : ((pb.length : Int) != c.u * c.b) = false := by simpa using h0
          clear h0
          go_wp2
          go_roundw
          case rel => exact ⟨q + 1, by omega, by go_num, HN2.out, HB3.out⟩
          case measure => simp [intOf]; omega
        · have H0 := Lib.hid h0
          have h0b : ((pb.length : Int) != c.u * c.b) = true := by simpa using h0
          clear h0
          go_wp2
          go_ret
          exact SaysP.no (fun h => H0.out (h.1 _ HM.out).2) (HV.out _ HB3.out).2.2
    · obtain rfl : q = ps.length := by omega
      have HA : Hid (∀ p ∈ ps, ParR c p) := fun p hp => by
        obtain ⟨j, hj, e⟩ := List.getElem_of_mem hp
        rw [← e]
        exact hall j hj hj
      obtain ⟨y0, y1, y2, y3, y4, y5, y6, y7, y8, y9, y10, y11, y12, y13, y14, y15, y16⟩ := box17 h1
      clear hall h1 h2 h3 hb0
      go_wp2_with fail
      refine (has_any 0 2 (ps.length : Int) wr).mono ?_
      rintro e w1 ⟨b, rfl, hbb, hb1⟩
      have HB1 := Lib.hid (HV.out _ (below_trans HB.out hb1)).2.2
      have HBB := Lib.hid hbb
      clear hb1 hbb HB y0 y1 y2 y3 y4 y5 y6 y7 y8 y9 y10 y11 y12 y13 y14 y15 y16
      go_wp2
      go_ret
      exact ⟨b, rfl, HBB.out.trans ⟨fun h => ⟨HA.out, by omega⟩, fun h => by have := h.2; omega⟩, HB1.out⟩
end Go.Proofs.Ytaceaemombnhkaa
