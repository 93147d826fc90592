/- The contract of the reference's Numbers. -/
import Derived.Test.YtaceaemombnhkaaK
import Derived.Deep.CutBlock
namespace Go.Proofs.Ytaceaemombnhkaa
set_option linter.unusedVariables false
set_option maxRecDepth 100000
set_option linter.unusedSimpArgs false
open Go.RowKit
open Go.RowKit (wrap64)

theorem bytes_wraps {c : Cf} (hs : c.sane = true) : wrap64 (320 + 8 * c.m + 48 * c.z + wrap64 (wrap64 ((c.z + 1) * c.u) * c.b)) = 320 + 8 * c.m + 48 * c.z + (c.z + 1) * c.u * c.b := by
  have h := room_in hs
  obtain ⟨hm, hu, hb, hcp, hz, _⟩ := (sane_iff c).1 hs
  rw [wrap_in (n := (c.z + 1) * c.u) (by omega) (by omega), wrap_in (n := (c.z + 1) * c.u * c.b) (by omega) (by omega)]
  obtain ⟨_, h3, h4⟩ := h
  generalize (c.z + 1) * c.u * c.b = X at h3 h4 ⊢
  rw [wrap_in (by omega) (by omega)]
theorem up_div {n b : Int} (hn : 0 ≤ n) (hb : 1 ≤ b) : (n + b - 1) / b = if 0 < n % b then n / b + 1 else n / b := by
  have h0 := Int.emod_nonneg n (show b ≠ 0 by omega)
  have h1 := Int.emod_lt_of_pos n (show 0 < b by omega)
  have h2 := Int.mul_ediv_add_emod n b
  have e : n + b - 1 = (n % b + b - 1) + b * (n / b) := by omega
  rw [e, Int.add_mul_ediv_left _ _ (by omega)]
  split
  · have h3 : (n % b + b - 1) / b = 1 := by
      have e2 : n % b + b - 1 = (n % b - 1) + b * 1 := by omega
      rw [e2, Int.add_mul_ediv_left _ _ (by omega), Int.ediv_eq_zero_of_lt (by omega) (by omega)]
      omega
    omega
  · have h3 : (n % b + b - 1) / b = 0 := Int.ediv_eq_zero_of_lt (by omega) (by omega)
    omega
theorem two_boxes {w w' : World} {t u : TypeId} {a b : Array Value} (hb : Below ((w.alloc (.cells a t)).alloc (.cells b u)).heap.size ((w.alloc (.cells a t)).alloc (.cells b u)) w') :
    Box w' w.heap.size t a ∧ Box w' (w.heap.size + 1) u b ∧ Below w.heap.size w w' ∧ w.heap.size + 2 ≤ w'.heap.size := by
  have h1 := ((Box.fresh w t a).later ((Below.refl _ _).alloc (Nat.le_refl _) (.cells b u))).later hb
  have h2 := (Box.fresh (w.alloc (.cells a t)) u b).later hb
  refine ⟨h1, by simpa using h2, (((Below.refl _ _).alloc (Nat.le_refl _) _).alloc (by simp) _).trans (hb.mono (by simp; omega)), ?_⟩
  have := hb.size
  simp at this
  omega
/-- A block of seven cells. -/
theorem box7 {w : World} {g : Nat} {t : TypeId} {a0 a1 a2 a3 a4 a5 a6 : Value} (h : Box w g t #[a0, a1, a2, a3, a4, a5, a6]) :
    (w.cell? ⟨g, 0, none⟩ = some a0 ∧ w.cell? ⟨g, 1, none⟩ = some a1 ∧ w.cell? ⟨g, 2, none⟩ = some a2 ∧ w.cell? ⟨g, 3, none⟩ = some a3 ∧ w.cell? ⟨g, 4, none⟩ = some a4 ∧ w.cell? ⟨g, 5, none⟩ = some a5 ∧ w.cell? ⟨g, 6, none⟩ = some a6) ∧ (w.frozen? ⟨g, 0, none⟩ = false ∧ w.frozen? ⟨g, 1, none⟩ = false ∧ w.frozen? ⟨g, 2, none⟩ = false ∧ w.frozen? ⟨g, 3, none⟩ = false ∧ w.frozen? ⟨g, 4, none⟩ = false ∧ w.frozen? ⟨g, 5, none⟩ = false ∧ w.frozen? ⟨g, 6, none⟩ = false) := by
  refine ⟨⟨?_, ?_, ?_, ?_, ?_, ?_, ?_⟩, ⟨?_, ?_, ?_, ?_, ?_, ?_, ?_⟩⟩ <;> first | (rw [h.cell]; rfl) | exact h.frozen _
set_option maxHeartbeats 1000000 in
theorem nums_no (c : Cf) (w : World) (hs : c.sane = false) : Calls Try.prog 50 #[(.agg #[.int .i64 c.id, .int .i64 c.m, .int .i64 c.u, .int .i64 c.b, .int .i64 c.cp, .int .i64 c.z, .int .i64 c.s, .int .i64 c.mt, .int .i64 c.o, .int .i64 c.a, .int .i64 c.l])] w (Says w (.agg #[.int .i64 0, .int .i64 0, .int .i64 0, .int .i64 0, .int .i64 0, .int .i64 0, .int .i64 0])) := by
  go_enter Try.func50, Try.ntmps50
  go_wp2_with fail
  refine (sane_any c _).mono ?_
  rintro e w1 ⟨rfl, hb⟩
  rw [hs]
  have HT := Lib.hid (two_boxes hb)
  obtain ⟨⟨z0, z1, z2, z3, z4, z5, z6⟩, f0, f1, f2, f3, f4, f5, f6⟩ := box7 HT.out.2.1
  clear hb hs
  go_wp2
  refine bodyPost_ret (v := .agg #[.int .i64 0, .int .i64 0, .int .i64 0, .int .i64 0, .int .i64 0, .int .i64 0, .int .i64 0]) (by simp [results, Try.results50, go_sem, *]) rfl ⟨rfl, HT.out.2.2.1.trans ?_⟩
  exact (by repeat (first | with_reducible exact Below.refl _ _ | with_reducible refine Below.drew ?_ | with_reducible refine Below.alloc ?_ (by first | (simp; done) | (simp; omega)) _ | with_reducible refine Below.setCell ?_ (by first | (simp; done) | (simp; omega)) _))
theorem nums_eq {c : Cf} (hs : c.sane = true) : c.m - 1 = dataC c ∧ IntKind.i64.wrap (dataC c * c.u) = dataC c * c.u ∧ IntKind.i64.wrap (IntKind.i64.wrap (stripesC c * dataC c) * c.u) = stripesC c * (dataC c * c.u) ∧
    IntKind.i64.wrap (c.cp.tdiv c.u) = stripesC c ∧ IntKind.i64.wrap (c.z + c.s) = slotsC c ∧ IntKind.i64.wrap (IntKind.i64.wrap (c.z + c.s) + c.mt) = allC c := by
  have h := (sane_iff c).1 hs
  have hd := data_in c
  have hr := row_in c
  have ht := stripes_in c
  have hz := size_in c
  have hsd := mul_in ht.1 ht.2 hd.1 hd.2
  have hq := div_in (a := c.cp) (b := c.u) (by omega) (by omega)
  refine ⟨?_, wrapk_in (by omega) (by omega), ?_, ?_, ?_, ?_⟩
  · unfold dataC
    rw [if_pos hs]
  · rw [wrapk_in (n := stripesC c * dataC c) (by omega) (by omega), Int.mul_assoc]
    exact wrapk_in (by omega) (by omega)
  · rw [Int.tdiv_eq_ediv_of_nonneg (by omega), wrapk_in (by omega) (by omega)]
    unfold stripesC
    rw [if_pos hs]
  · rw [wrapk_in (by omega) (by omega)]
    unfold slotsC
    rw [if_pos hs]
  · rw [wrapk_in (n := c.z + c.s) (by omega) (by omega), wrapk_in (by omega) (by omega)]
    unfold allC slotsC
    rw [if_pos hs, if_pos hs]
    omega
set_option maxRecDepth 100000 in
set_option maxHeartbeats 4000000 in
theorem nums_yes (c : Cf) (w : World) (hs : c.sane = true) : Calls Try.prog 50 #[(.agg #[.int .i64 c.id, .int .i64 c.m, .int .i64 c.u, .int .i64 c.b, .int .i64 c.cp, .int .i64 c.z, .int .i64 c.s, .int .i64 c.mt, .int .i64 c.o, .int .i64 c.a, .int .i64 c.l])] w (Says w (.agg #[.int .i64 (dataC c), .int .i64 (dataC c * c.u), .int .i64 (stripesC c), .int .i64 (stripesC c * (dataC c * c.u)), .int .i64 (slotsC c), .int .i64 (allC c), .int .i64 (roomC c)])) := by
  have HS := Lib.hid ((sane_iff c).1 hs)
  have HW := Lib.hid (bytes_wraps hs)
  go_enter Try.func50, Try.ntmps50
  go_wp2_with fail
  refine (sane_any c _).mono ?_
  rintro e w1 ⟨rfl, hb⟩
  rw [hs]
  have HT := Lib.hid (two_boxes hb)
  obtain ⟨y0, y1, y2, y3, y4, y5, y6, y7, y8, y9, y10⟩ := box11 HT.out.1
  clear hb
  have b1 := HS.out.1
  have b2 := HS.out.2.1
  have b3 := HS.out.2.2.1
  have b4 := HS.out.2.2.2.1
  have b5 := HS.out.2.2.2.2.1
  go_upto_region 5 with fail
  have HX : Hid (∀ X : Int, wrap64 (320 + 8 * c.m + 48 * c.z + wrap64 (wrap64 ((c.z + 1) * c.u) * c.b)) = X → (0 ≤ X ∧ X ≤ 1152922604177195328) ∧ roomC c = (if 0 < X % c.b then X / c.b + 1 else X / c.b) + 2) := by
    show ∀ X : Int, wrap64 (320 + 8 * c.m + 48 * c.z + wrap64 (wrap64 ((c.z + 1) * c.u) * c.b)) = X → (0 ≤ X ∧ X ≤ 1152922604177195328) ∧ roomC c = (if 0 < X % c.b then X / c.b + 1 else X / c.b) + 2
    intro X hX
    rw [HW.out] at hX
    have h := room_in hs
    have h0 : 0 ≤ X := by omega
    refine ⟨by omega, ?_⟩
    unfold roomC
    rw [if_pos hs, hX, up_div h0 b3.1]
  generalize wrap64 (320 + 8 * c.m + 48 * c.z + wrap64 (wrap64 ((c.z + 1) * c.u) * c.b)) = X at HX ⊢
  have HR := Lib.hid (HX.out X rfl)
  clear HX HW
  have x1 := HR.out.1
  have d1 := div_in (a := X) (b := c.b) (by omega) (by omega)
  have m1 : 0 ≤ X % c.b := Int.emod_nonneg _ (by omega)
  have m2 : X % c.b < c.b := Int.emod_lt_of_pos _ (by omega)
  have HC := Lib.hid hs
  clear hs
  by_cases hm : 0 < X % c.b
  · have HQ : Hid (roomC c = X / c.b + 1 + 2) := by
      show roomC c = X / c.b + 1 + 2
      rw [HR.out.2, if_pos hm]
    go_wp2_with fail
    refine wpB_start (w.heap.size + 1) (by kernel_rfl) ?_
    have HV : Hid (Box w1.drew w.heap.size 23 #[.int .i64 c.id, .int .i64 c.m, .int .i64 c.u, .int .i64 c.b, .int .i64 c.cp, .int .i64 c.z, .int .i64 c.s, .int .i64 c.mt, .int .i64 c.o, .int .i64 c.a, .int .i64 c.l] ∧ Box w1.drew (w.heap.size + 1) 87 #[.int .i64 0, .int .i64 0, .int .i64 0, .int .i64 0, .int .i64 0, .int .i64 0, .int .i64 0] ∧ Below w.heap.size w w1.drew) := ⟨HT.out.1.later (Below.refl _ _).drew, HT.out.2.1.later (Below.refl _ _).drew, HT.out.2.2.1.drew⟩
    generalize w1.drew = w0 at HV ⊢
    clear HT y0 y1 y2 y3 y4 y5 y6 y7 y8 y9 y10
    have u0 : ¬ c.u = 0 := by omega
    have u1 : (c.u == 0) = false := by simpa using u0
    have q0 : ∀ w', Below (w.heap.size + 1) w0 w' → w'.cell? ⟨w.heap.size, 0, none⟩ = some (.int .i64 c.id) := fun w' h => (box11 (HV.out.1.under h (by omega))).1
    have q1 : ∀ w', Below (w.heap.size + 1) w0 w' → w'.cell? ⟨w.heap.size, 1, none⟩ = some (.int .i64 c.m) := fun w' h => (box11 (HV.out.1.under h (by omega))).2.1
    have q2 : ∀ w', Below (w.heap.size + 1) w0 w' → w'.cell? ⟨w.heap.size, 2, none⟩ = some (.int .i64 c.u) := fun w' h => (box11 (HV.out.1.under h (by omega))).2.2.1
    have q3 : ∀ w', Below (w.heap.size + 1) w0 w' → w'.cell? ⟨w.heap.size, 3, none⟩ = some (.int .i64 c.b) := fun w' h => (box11 (HV.out.1.under h (by omega))).2.2.2.1
    have q4 : ∀ w', Below (w.heap.size + 1) w0 w' → w'.cell? ⟨w.heap.size, 4, none⟩ = some (.int .i64 c.cp) := fun w' h => (box11 (HV.out.1.under h (by omega))).2.2.2.2.1
    have q5 : ∀ w', Below (w.heap.size + 1) w0 w' → w'.cell? ⟨w.heap.size, 5, none⟩ = some (.int .i64 c.z) := fun w' h => (box11 (HV.out.1.under h (by omega))).2.2.2.2.2.1
    have q6 : ∀ w', Below (w.heap.size + 1) w0 w' → w'.cell? ⟨w.heap.size, 6, none⟩ = some (.int .i64 c.s) := fun w' h => (box11 (HV.out.1.under h (by omega))).2.2.2.2.2.2.1
    have q7 : ∀ w', Below (w.heap.size + 1) w0 w' → w'.cell? ⟨w.heap.size, 7, none⟩ = some (.int .i64 c.mt) := fun w' h => (box11 (HV.out.1.under h (by omega))).2.2.2.2.2.2.2.1
    have q8 : ∀ w', Below (w.heap.size + 1) w0 w' → w'.cell? ⟨w.heap.size, 8, none⟩ = some (.int .i64 c.o) := fun w' h => (box11 (HV.out.1.under h (by omega))).2.2.2.2.2.2.2.2.1
    have q9 : ∀ w', Below (w.heap.size + 1) w0 w' → w'.cell? ⟨w.heap.size, 9, none⟩ = some (.int .i64 c.a) := fun w' h => (box11 (HV.out.1.under h (by omega))).2.2.2.2.2.2.2.2.2.1
    have q10 : ∀ w', Below (w.heap.size + 1) w0 w' → w'.cell? ⟨w.heap.size, 10, none⟩ = some (.int .i64 c.l) := fun w' h => (box11 (HV.out.1.under h (by omega))).2.2.2.2.2.2.2.2.2.2
    refine wpB_take (i := 0) (d := 42) (v := ?v8ax0) rfl rfl (by kernel_rfl) (by kernel_rfl) (by kernel_rfl) (fun _ _ _ h => h) (by rfl) ?y8ax0 ?r8ax0
    case y8ax0 => (intro w' hSw; go_simp; try (with_reducible rfl))
    simp only [Act.put, List.setIfInBounds_toArray, List.set_cons_zero, List.set_cons_succ]
    refine wpB_take (i := 1) (d := 43) (v := ?v8ax1) rfl rfl (by kernel_rfl) (by kernel_rfl) (by kernel_rfl) (fun _ _ _ h => h) (by rfl) ?y8ax1 ?r8ax1
    case y8ax1 => (intro w' hSw; go_simp; try (with_reducible rfl))
    simp only [Act.put, List.setIfInBounds_toArray, List.set_cons_zero, List.set_cons_succ]
    refine wpB_take (i := 2) (d := 44) (v := ?v8ax2) rfl rfl (by kernel_rfl) (by kernel_rfl) (by kernel_rfl) (fun _ _ _ h => h) (by rfl) ?y8ax2 ?r8ax2
    case y8ax2 => (intro w' hSw; go_simp; try (with_reducible rfl))
    simp only [Act.put, List.setIfInBounds_toArray, List.set_cons_zero, List.set_cons_succ]
    refine wpB_take (i := 3) (d := 45) (v := ?v8ax3) rfl rfl (by kernel_rfl) (by kernel_rfl) (by kernel_rfl) (fun _ _ _ h => h) (by rfl) ?y8ax3 ?r8ax3
    case y8ax3 => (intro w' hSw; go_simp; try (with_reducible rfl))
    simp only [Act.put, List.setIfInBounds_toArray, List.set_cons_zero, List.set_cons_succ]
    refine wpB_take (i := 4) (d := 46) (v := ?v8ax4) rfl rfl (by kernel_rfl) (by kernel_rfl) (by kernel_rfl) (fun _ _ _ h => h) (by rfl) ?y8ax4 ?r8ax4
    case y8ax4 => (intro w' hSw; go_simp; try (with_reducible rfl))
    simp only [Act.put, List.setIfInBounds_toArray, List.set_cons_zero, List.set_cons_succ]
    refine wpB_take (i := 5) (d := 47) (v := ?v8ax5) rfl rfl (by kernel_rfl) (by kernel_rfl) (by kernel_rfl) (fun _ _ _ h => h) (by rfl) ?y8ax5 ?r8ax5
    case y8ax5 => (intro w' hSw; go_simp; try (with_reducible rfl))
    simp only [Act.put, List.setIfInBounds_toArray, List.set_cons_zero, List.set_cons_succ]
    refine wpB_take (i := 6) (d := 48) (v := ?v8ax6) rfl rfl (by kernel_rfl) (by kernel_rfl) (by kernel_rfl) (fun _ _ _ h => h) (by rfl) ?y8ax6 ?r8ax6
    case y8ax6 => (intro w' hSw; go_simp; try (with_reducible rfl))
    simp only [Act.put, List.setIfInBounds_toArray, List.set_cons_zero, List.set_cons_succ]
    refine wpB_take (i := 7) (d := 49) (v := ?v8ax7) rfl rfl (by kernel_rfl) (by kernel_rfl) (by kernel_rfl) (fun _ _ _ h => h) (by rfl) ?y8ax7 ?r8ax7
    case y8ax7 => (intro w' hSw; go_simp; try (with_reducible rfl))
    simp only [Act.put, List.setIfInBounds_toArray, List.set_cons_zero, List.set_cons_succ]
    refine wpB_take (i := 8) (d := 50) (v := ?v8ax8) rfl rfl (by kernel_rfl) (by kernel_rfl) (by kernel_rfl) (fun _ _ _ h => h) (by rfl) ?y8ax8 ?r8ax8
    case y8ax8 => (intro w' hSw; go_simp; try (with_reducible rfl))
    simp only [Act.put, List.setIfInBounds_toArray, List.set_cons_zero, List.set_cons_succ]
    refine wpB_take (i := 9) (d := 51) (v := ?v8ax9) rfl rfl (by kernel_rfl) (by kernel_rfl) (by kernel_rfl) (fun _ _ _ h => h) (by rfl) ?y8ax9 ?r8ax9
    case y8ax9 => (intro w' hSw; go_simp; try (with_reducible rfl))
    simp only [Act.put, List.setIfInBounds_toArray, List.set_cons_zero, List.set_cons_succ]
    refine wpB_take (i := 10) (d := 52) (v := ?v8ax10) rfl rfl (by kernel_rfl) (by kernel_rfl) (by kernel_rfl) (fun _ _ _ h => h) (by rfl) ?y8ax10 ?r8ax10
    case y8ax10 => (intro w' hSw; go_simp; try (with_reducible rfl))
    simp only [Act.put, List.setIfInBounds_toArray, List.set_cons_zero, List.set_cons_succ]
    refine wpB_take (i := 11) (d := 53) (v := ?v8ax11) rfl rfl (by kernel_rfl) (by kernel_rfl) (by kernel_rfl) (fun _ _ _ h => h) (by rfl) ?y8ax11 ?r8ax11
    case y8ax11 => (intro w' hSw; go_simp; try (with_reducible rfl))
    simp only [Act.put, List.setIfInBounds_toArray, List.set_cons_zero, List.set_cons_succ]
    refine wpB_take (i := 12) (d := 54) (v := ?v8ax12) rfl rfl (by kernel_rfl) (by kernel_rfl) (by kernel_rfl) (fun _ _ _ h => h) (by rfl) ?y8ax12 ?r8ax12
    case y8ax12 => (intro w' hSw; go_simp; try (with_reducible rfl))
    simp only [Act.put, List.setIfInBounds_toArray, List.set_cons_zero, List.set_cons_succ]
    refine wpB_take (i := 13) (d := 55) (v := ?v8ax13) rfl rfl (by kernel_rfl) (by kernel_rfl) (by kernel_rfl) (fun _ _ _ h => h) (by rfl) ?y8ax13 ?r8ax13
    case y8ax13 => (intro w' hSw; go_simp; try (with_reducible rfl))
    simp only [Act.put, List.setIfInBounds_toArray, List.set_cons_zero, List.set_cons_succ]
    refine wpB_take (i := 14) (d := 56) (v := ?v8ax14) rfl rfl (by kernel_rfl) (by kernel_rfl) (by kernel_rfl) (fun _ _ _ h => h) (by rfl) ?y8ax14 ?r8ax14
    case y8ax14 => (intro w' hSw; go_simp; try (with_reducible rfl))
    simp only [Act.put, List.setIfInBounds_toArray, List.set_cons_zero, List.set_cons_succ]
    refine wpB_take (i := 15) (d := 57) (v := ?v8ax15) rfl rfl (by kernel_rfl) (by kernel_rfl) (by kernel_rfl) (fun _ _ _ h => h) (by rfl) ?y8ax15 ?r8ax15
    case y8ax15 => (intro w' hSw; go_simp; try (with_reducible rfl))
    simp only [Act.put, List.setIfInBounds_toArray, List.set_cons_zero, List.set_cons_succ]
    refine wpB_take (i := 16) (d := 58) (v := ?v8ax16) rfl rfl (by kernel_rfl) (by kernel_rfl) (by kernel_rfl) (fun _ _ _ h => h) (by rfl) ?y8ax16 ?r8ax16
    case y8ax16 => (intro w' hSw; go_simp; try (with_reducible rfl))
    simp only [Act.put, List.setIfInBounds_toArray, List.set_cons_zero, List.set_cons_succ]
    refine wpB_take (i := 17) (d := 59) (v := ?v8ax17) rfl rfl (by kernel_rfl) (by kernel_rfl) (by kernel_rfl) (fun _ _ _ h => h) (by rfl) ?y8ax17 ?r8ax17
    case y8ax17 => (intro w' hSw; go_simp; try (with_reducible rfl))
    simp only [Act.put, List.setIfInBounds_toArray, List.set_cons_zero, List.set_cons_succ]
    refine wpB_take (i := 18) (d := 60) (v := ?v8ax18) rfl rfl (by kernel_rfl) (by kernel_rfl) (by kernel_rfl) (fun _ _ _ h => h) (by rfl) ?y8ax18 ?r8ax18
    case y8ax18 => (intro w' hSw; go_simp; try (with_reducible rfl))
    simp only [Act.put, List.setIfInBounds_toArray, List.set_cons_zero, List.set_cons_succ]
    refine wpB_take (i := 19) (d := 61) (v := ?v8ax19) rfl rfl (by kernel_rfl) (by kernel_rfl) (by kernel_rfl) (fun _ _ _ h => h) (by rfl) ?y8ax19 ?r8ax19
    case y8ax19 => (intro w' hSw; go_simp; try (with_reducible rfl))
    simp only [Act.put, List.setIfInBounds_toArray, List.set_cons_zero, List.set_cons_succ]
    refine wpB_take (i := 20) (d := 62) (v := ?v8ax20) rfl rfl (by kernel_rfl) (by kernel_rfl) (by kernel_rfl) (fun _ _ _ h => h) (by rfl) ?y8ax20 ?r8ax20
    case y8ax20 => (intro w' hSw; go_simp; try (with_reducible rfl))
    simp only [Act.put, List.setIfInBounds_toArray, List.set_cons_zero, List.set_cons_succ]
    refine wpB_take (i := 21) (d := 63) (v := ?v8ax21) rfl rfl (by kernel_rfl) (by kernel_rfl) (by kernel_rfl) (fun _ _ _ h => h) (by rfl) ?y8ax21 ?r8ax21
    case y8ax21 => (intro w' hSw; go_simp; try (with_reducible rfl))
    simp only [Act.put, List.setIfInBounds_toArray, List.set_cons_zero, List.set_cons_succ]
    refine wpB_take (i := 22) (d := 64) (v := ?v8ax22) rfl rfl (by kernel_rfl) (by kernel_rfl) (by kernel_rfl) (fun _ _ _ h => h) (by rfl) ?y8ax22 ?r8ax22
    case y8ax22 => (intro w' hSw; go_simp; try (with_reducible rfl))
    simp only [Act.put, List.setIfInBounds_toArray, List.set_cons_zero, List.set_cons_succ]
    refine wpB_take (i := 23) (d := 65) (v := ?v8ax23) rfl rfl (by kernel_rfl) (by kernel_rfl) (by kernel_rfl) (fun _ _ _ h => h) (by rfl) ?y8ax23 ?r8ax23
    case y8ax23 => (intro w' hSw; go_simp; try (with_reducible rfl))
    simp only [Act.put, List.setIfInBounds_toArray, List.set_cons_zero, List.set_cons_succ]
    refine wpB_take (i := 24) (d := 66) (v := ?v8ax24) rfl rfl (by kernel_rfl) (by kernel_rfl) (by kernel_rfl) (fun _ _ _ h => h) (by rfl) ?y8ax24 ?r8ax24
    case y8ax24 => (intro w' hSw; go_simp; try (with_reducible rfl))
    simp only [Act.put, List.setIfInBounds_toArray, List.set_cons_zero, List.set_cons_succ]
    refine wpB_take (i := 25) (d := 67) (v := ?v8ax25) rfl rfl (by kernel_rfl) (by kernel_rfl) (by kernel_rfl) (fun _ _ _ h => h) (by rfl) ?y8ax25 ?r8ax25
    case y8ax25 => (intro w' hSw; go_simp; try (with_reducible rfl))
    simp only [Act.put, List.setIfInBounds_toArray, List.set_cons_zero, List.set_cons_succ]
    refine wpB_take (i := 26) (d := 68) (v := ?v8ax26) rfl rfl (by kernel_rfl) (by kernel_rfl) (by kernel_rfl) (fun _ _ _ h => h) (by rfl) ?y8ax26 ?r8ax26
    case y8ax26 => (intro w' hSw; go_simp; try (with_reducible rfl))
    simp only [Act.put, List.setIfInBounds_toArray, List.set_cons_zero, List.set_cons_succ]
    refine wpB_take (i := 27) (d := 69) (v := ?v8ax27) rfl rfl (by kernel_rfl) (by kernel_rfl) (by kernel_rfl) (fun _ _ _ h => h) (by rfl) ?y8ax27 ?r8ax27
    case y8ax27 => (intro w' hSw; go_simp; try (with_reducible rfl))
    simp only [Act.put, List.setIfInBounds_toArray, List.set_cons_zero, List.set_cons_succ]
    refine wpB_take (i := 28) (d := 70) (v := ?v8ax28) rfl rfl (by kernel_rfl) (by kernel_rfl) (by kernel_rfl) (fun _ _ _ h => h) (by rfl) ?y8ax28 ?r8ax28
    case y8ax28 => (intro w' hSw; go_simp; try (with_reducible rfl))
    simp only [Act.put, List.setIfInBounds_toArray, List.set_cons_zero, List.set_cons_succ]
    refine wpB_take (i := 29) (d := 71) (v := ?v8ax29) rfl rfl (by kernel_rfl) (by kernel_rfl) (by kernel_rfl) (fun _ _ _ h => h) (by rfl) ?y8ax29 ?r8ax29
    case y8ax29 => (intro w' hSw; go_simp; try (with_reducible rfl))
    simp only [Act.put, List.setIfInBounds_toArray, List.set_cons_zero, List.set_cons_succ]
    refine wpB_take (i := 30) (d := 72) (v := ?v8ax30) rfl rfl (by kernel_rfl) (by kernel_rfl) (by kernel_rfl) (fun _ _ _ h => h) (by rfl) ?y8ax30 ?r8ax30
    case y8ax30 => (intro w' hSw; go_simp; try (with_reducible rfl))
    simp only [Act.put, List.setIfInBounds_toArray, List.set_cons_zero, List.set_cons_succ]
    refine wpB_take (i := 31) (d := 73) (v := ?v8ax31) rfl rfl (by kernel_rfl) (by kernel_rfl) (by kernel_rfl) (fun _ _ _ h => h) (by rfl) ?y8ax31 ?r8ax31
    case y8ax31 => (intro w' hSw; go_simp; try (with_reducible rfl))
    simp only [Act.put, List.setIfInBounds_toArray, List.set_cons_zero, List.set_cons_succ]
    refine wpB_take (i := 32) (d := 74) (v := ?v8ax32) rfl rfl (by kernel_rfl) (by kernel_rfl) (by kernel_rfl) (fun _ _ _ h => h) (by rfl) ?y8ax32 ?r8ax32
    case y8ax32 => (intro w' hSw; go_simp; try (with_reducible rfl))
    simp only [Act.put, List.setIfInBounds_toArray, List.set_cons_zero, List.set_cons_succ]
    refine wpB_take (i := 33) (d := 75) (v := ?v8ax33) rfl rfl (by kernel_rfl) (by kernel_rfl) (by kernel_rfl) (fun _ _ _ h => h) (by rfl) ?y8ax33 ?r8ax33
    case y8ax33 => (intro w' hSw; go_simp; try (with_reducible rfl))
    simp only [Act.put, List.setIfInBounds_toArray, List.set_cons_zero, List.set_cons_succ]
    refine wpB_take (i := 34) (d := 76) (v := ?v8ax34) rfl rfl (by kernel_rfl) (by kernel_rfl) (by kernel_rfl) (fun _ _ _ h => h) (by rfl) ?y8ax34 ?r8ax34
    case y8ax34 => (intro w' hSw; go_simp; try (with_reducible rfl))
    simp only [Act.put, List.setIfInBounds_toArray, List.set_cons_zero, List.set_cons_succ]
    refine wpB_take (i := 35) (d := 77) (v := ?v8ax35) rfl rfl (by kernel_rfl) (by kernel_rfl) (by kernel_rfl) (fun _ _ _ h => h) (by rfl) ?y8ax35 ?r8ax35
    case y8ax35 => (intro w' hSw; go_simp; try (with_reducible rfl))
    simp only [Act.put, List.setIfInBounds_toArray, List.set_cons_zero, List.set_cons_succ]
    refine wpB_do (i := 36) (by kernel_rfl) rfl (by rfl) (fun K hK => ?_)
    go_simp
    obtain ⟨⟨z0, z1, z2, z3, z4, z5, z6⟩, f0, f1, f2, f3, f4, f5, f6⟩ := box7 HV.out.2.1
    go_simp
    have e0 : c.m - 1 = dataC c := (nums_eq HC.out).1
    rw [e0, (nums_eq HC.out).2.1, (nums_eq HC.out).2.2.2.1, (nums_eq HC.out).2.2.1, (nums_eq HC.out).2.2.2.2.2, (nums_eq HC.out).2.2.2.2.1]
    have e6 : IntKind.i64.wrap (X / c.b + 1 + 2) = roomC c := by rw [HQ.out]; exact wrapk_in (by omega) (by omega)
    rw [e6]
    have HN : Hid (Box (((((((w0.setCell ⟨w.heap.size + 1, 0, none⟩ (.int .i64 (dataC c))).setCell ⟨w.heap.size + 1, 1, none⟩ (.int .i64 (dataC c * c.u))).setCell ⟨w.heap.size + 1, 2, none⟩ (.int .i64 (stripesC c))).setCell ⟨w.heap.size + 1, 3, none⟩ (.int .i64 (stripesC c * (dataC c * c.u)))).setCell ⟨w.heap.size + 1, 4, none⟩ (.int .i64 (slotsC c))).setCell ⟨w.heap.size + 1, 5, none⟩ (.int .i64 (allC c))).setCell ⟨w.heap.size + 1, 6, none⟩ (.int .i64 (roomC c))) (w.heap.size + 1) 87 #[.int .i64 (dataC c), .int .i64 (dataC c * c.u), .int .i64 (stripesC c), .int .i64 (stripesC c * (dataC c * c.u)), .int .i64 (slotsC c), .int .i64 (allC c), .int .i64 (roomC c)] ∧ Below w.heap.size w (((((((w0.setCell ⟨w.heap.size + 1, 0, none⟩ (.int .i64 (dataC c))).setCell ⟨w.heap.size + 1, 1, none⟩ (.int .i64 (dataC c * c.u))).setCell ⟨w.heap.size + 1, 2, none⟩ (.int .i64 (stripesC c))).setCell ⟨w.heap.size + 1, 3, none⟩ (.int .i64 (stripesC c * (dataC c * c.u)))).setCell ⟨w.heap.size + 1, 4, none⟩ (.int .i64 (slotsC c))).setCell ⟨w.heap.size + 1, 5, none⟩ (.int .i64 (allC c))).setCell ⟨w.heap.size + 1, 6, none⟩ (.int .i64 (roomC c))) ∧ Below (w.heap.size + 1) w0 (((((((w0.setCell ⟨w.heap.size + 1, 0, none⟩ (.int .i64 (dataC c))).setCell ⟨w.heap.size + 1, 1, none⟩ (.int .i64 (dataC c * c.u))).setCell ⟨w.heap.size + 1, 2, none⟩ (.int .i64 (stripesC c))).setCell ⟨w.heap.size + 1, 3, none⟩ (.int .i64 (stripesC c * (dataC c * c.u)))).setCell ⟨w.heap.size + 1, 4, none⟩ (.int .i64 (slotsC c))).setCell ⟨w.heap.size + 1, 5, none⟩ (.int .i64 (allC c))).setCell ⟨w.heap.size + 1, 6, none⟩ (.int .i64 (roomC c)))) := by
      refine ⟨?_, HV.out.2.2.trans ?_, ?_⟩
      · exact ((((((HV.out.2.1.store 0 _).store 1 _).store 2 _).store 3 _).store 4 _).store 5 _).store 6 _
      · exact (by repeat (first | with_reducible exact Below.refl _ _ | with_reducible refine Below.drew ?_ | with_reducible refine Below.alloc ?_ (by first | (simp; done) | (simp; omega)) _ | with_reducible refine Below.setCell ?_ (by first | (simp; done) | (simp; omega)) _))
      · exact (by repeat (first | with_reducible exact Below.refl _ _ | with_reducible refine Below.drew ?_ | with_reducible refine Below.alloc ?_ (by first | (simp; done) | (simp; omega)) _ | with_reducible refine Below.setCell ?_ (by first | (simp; done) | (simp; omega)) _))
    generalize (((((((w0.setCell ⟨w.heap.size + 1, 0, none⟩ (.int .i64 (dataC c))).setCell ⟨w.heap.size + 1, 1, none⟩ (.int .i64 (dataC c * c.u))).setCell ⟨w.heap.size + 1, 2, none⟩ (.int .i64 (stripesC c))).setCell ⟨w.heap.size + 1, 3, none⟩ (.int .i64 (stripesC c * (dataC c * c.u)))).setCell ⟨w.heap.size + 1, 4, none⟩ (.int .i64 (slotsC c))).setCell ⟨w.heap.size + 1, 5, none⟩ (.int .i64 (allC c))).setCell ⟨w.heap.size + 1, 6, none⟩ (.int .i64 (roomC c))) = W at HN ⊢
    refine hK.out (w.heap.size + 1) _ _ (Nat.le_refl _) HN.out.2.2 ?_
    clear hK e0 e6 HQ HV q0 q1 q2 q3 q4 q5 q6 q7 q8 q9 q10 z0 z1 z2 z3 z4 z5 z6 f0 f1 f2 f3 f4 f5 f6 hm
    refine wpB_done (by kernel_rfl) ?_
    obtain ⟨⟨z0, z1, z2, z3, z4, z5, z6⟩, f0, f1, f2, f3, f4, f5, f6⟩ := box7 HN.out.1
    go_wp2
    exact bodyPost_ret (v := .agg #[.int .i64 (dataC c), .int .i64 (dataC c * c.u), .int .i64 (stripesC c), .int .i64 (stripesC c * (dataC c * c.u)), .int .i64 (slotsC c), .int .i64 (allC c), .int .i64 (roomC c)]) (by simp [results, Try.results50, go_sem, *]) rfl ⟨rfl, HN.out.2.1⟩
  · have HQ : Hid (roomC c = X / c.b + 2) := by
      show roomC c = X / c.b + 2
      rw [HR.out.2, if_neg hm]
    go_wp2_with fail
    refine wpB_start (w.heap.size + 1) (by kernel_rfl) ?_
    have HV : Hid (Box w1.drew w.heap.size 23 #[.int .i64 c.id, .int .i64 c.m, .int .i64 c.u, .int .i64 c.b, .int .i64 c.cp, .int .i64 c.z, .int .i64 c.s, .int .i64 c.mt, .int .i64 c.o, .int .i64 c.a, .int .i64 c.l] ∧ Box w1.drew (w.heap.size + 1) 87 #[.int .i64 0, .int .i64 0, .int .i64 0, .int .i64 0, .int .i64 0, .int .i64 0, .int .i64 0] ∧ Below w.heap.size w w1.drew) := ⟨HT.out.1.later (Below.refl _ _).drew, HT.out.2.1.later (Below.refl _ _).drew, HT.out.2.2.1.drew⟩
    generalize w1.drew = w0 at HV ⊢
    clear HT y0 y1 y2 y3 y4 y5 y6 y7 y8 y9 y10
    have u0 : ¬ c.u = 0 := by omega
    have u1 : (c.u == 0) = false := by simpa using u0
    have q0 : ∀ w', Below (w.heap.size + 1) w0 w' → w'.cell? ⟨w.heap.size, 0, none⟩ = some (.int .i64 c.id) := fun w' h => (box11 (HV.out.1.under h (by omega))).1
    have q1 : ∀ w', Below (w.heap.size + 1) w0 w' → w'.cell? ⟨w.heap.size, 1, none⟩ = some (.int .i64 c.m) := fun w' h => (box11 (HV.out.1.under h (by omega))).2.1
    have q2 : ∀ w', Below (w.heap.size + 1) w0 w' → w'.cell? ⟨w.heap.size, 2, none⟩ = some (.int .i64 c.u) := fun w' h => (box11 (HV.out.1.under h (by omega))).2.2.1
    have q3 : ∀ w', Below (w.heap.size + 1) w0 w' → w'.cell? ⟨w.heap.size, 3, none⟩ = some (.int .i64 c.b) := fun w' h => (box11 (HV.out.1.under h (by omega))).2.2.2.1
    have q4 : ∀ w', Below (w.heap.size + 1) w0 w' → w'.cell? ⟨w.heap.size, 4, none⟩ = some (.int .i64 c.cp) := fun w' h => (box11 (HV.out.1.under h (by omega))).2.2.2.2.1
    have q5 : ∀ w', Below (w.heap.size + 1) w0 w' → w'.cell? ⟨w.heap.size, 5, none⟩ = some (.int .i64 c.z) := fun w' h => (box11 (HV.out.1.under h (by omega))).2.2.2.2.2.1
    have q6 : ∀ w', Below (w.heap.size + 1) w0 w' → w'.cell? ⟨w.heap.size, 6, none⟩ = some (.int .i64 c.s) := fun w' h => (box11 (HV.out.1.under h (by omega))).2.2.2.2.2.2.1
    have q7 : ∀ w', Below (w.heap.size + 1) w0 w' → w'.cell? ⟨w.heap.size, 7, none⟩ = some (.int .i64 c.mt) := fun w' h => (box11 (HV.out.1.under h (by omega))).2.2.2.2.2.2.2.1
    have q8 : ∀ w', Below (w.heap.size + 1) w0 w' → w'.cell? ⟨w.heap.size, 8, none⟩ = some (.int .i64 c.o) := fun w' h => (box11 (HV.out.1.under h (by omega))).2.2.2.2.2.2.2.2.1
    have q9 : ∀ w', Below (w.heap.size + 1) w0 w' → w'.cell? ⟨w.heap.size, 9, none⟩ = some (.int .i64 c.a) := fun w' h => (box11 (HV.out.1.under h (by omega))).2.2.2.2.2.2.2.2.2.1
    have q10 : ∀ w', Below (w.heap.size + 1) w0 w' → w'.cell? ⟨w.heap.size, 10, none⟩ = some (.int .i64 c.l) := fun w' h => (box11 (HV.out.1.under h (by omega))).2.2.2.2.2.2.2.2.2.2
    refine wpB_take (i := 0) (d := 42) (v := ?v8bx0) rfl rfl (by kernel_rfl) (by kernel_rfl) (by kernel_rfl) (fun _ _ _ h => h) (by rfl) ?y8bx0 ?r8bx0
    case y8bx0 => (intro w' hSw; go_simp; try (with_reducible rfl))
    simp only [Act.put, List.setIfInBounds_toArray, List.set_cons_zero, List.set_cons_succ]
    refine wpB_take (i := 1) (d := 43) (v := ?v8bx1) rfl rfl (by kernel_rfl) (by kernel_rfl) (by kernel_rfl) (fun _ _ _ h => h) (by rfl) ?y8bx1 ?r8bx1
    case y8bx1 => (intro w' hSw; go_simp; try (with_reducible rfl))
    simp only [Act.put, List.setIfInBounds_toArray, List.set_cons_zero, List.set_cons_succ]
    refine wpB_take (i := 2) (d := 44) (v := ?v8bx2) rfl rfl (by kernel_rfl) (by kernel_rfl) (by kernel_rfl) (fun _ _ _ h => h) (by rfl) ?y8bx2 ?r8bx2
    case y8bx2 => (intro w' hSw; go_simp; try (with_reducible rfl))
    simp only [Act.put, List.setIfInBounds_toArray, List.set_cons_zero, List.set_cons_succ]
    refine wpB_take (i := 3) (d := 45) (v := ?v8bx3) rfl rfl (by kernel_rfl) (by kernel_rfl) (by kernel_rfl) (fun _ _ _ h => h) (by rfl) ?y8bx3 ?r8bx3
    case y8bx3 => (intro w' hSw; go_simp; try (with_reducible rfl))
    simp only [Act.put, List.setIfInBounds_toArray, List.set_cons_zero, List.set_cons_succ]
    refine wpB_take (i := 4) (d := 46) (v := ?v8bx4) rfl rfl (by kernel_rfl) (by kernel_rfl) (by kernel_rfl) (fun _ _ _ h => h) (by rfl) ?y8bx4 ?r8bx4
    case y8bx4 => (intro w' hSw; go_simp; try (with_reducible rfl))
    simp only [Act.put, List.setIfInBounds_toArray, List.set_cons_zero, List.set_cons_succ]
    refine wpB_take (i := 5) (d := 47) (v := ?v8bx5) rfl rfl (by kernel_rfl) (by kernel_rfl) (by kernel_rfl) (fun _ _ _ h => h) (by rfl) ?y8bx5 ?r8bx5
    case y8bx5 => (intro w' hSw; go_simp; try (with_reducible rfl))
    simp only [Act.put, List.setIfInBounds_toArray, List.set_cons_zero, List.set_cons_succ]
    refine wpB_take (i := 6) (d := 48) (v := ?v8bx6) rfl rfl (by kernel_rfl) (by kernel_rfl) (by kernel_rfl) (fun _ _ _ h => h) (by rfl) ?y8bx6 ?r8bx6
    case y8bx6 => (intro w' hSw; go_simp; try (with_reducible rfl))
    simp only [Act.put, List.setIfInBounds_toArray, List.set_cons_zero, List.set_cons_succ]
    refine wpB_take (i := 7) (d := 49) (v := ?v8bx7) rfl rfl (by kernel_rfl) (by kernel_rfl) (by kernel_rfl) (fun _ _ _ h => h) (by rfl) ?y8bx7 ?r8bx7
    case y8bx7 => (intro w' hSw; go_simp; try (with_reducible rfl))
    simp only [Act.put, List.setIfInBounds_toArray, List.set_cons_zero, List.set_cons_succ]
    refine wpB_take (i := 8) (d := 50) (v := ?v8bx8) rfl rfl (by kernel_rfl) (by kernel_rfl) (by kernel_rfl) (fun _ _ _ h => h) (by rfl) ?y8bx8 ?r8bx8
    case y8bx8 => (intro w' hSw; go_simp; try (with_reducible rfl))
    simp only [Act.put, List.setIfInBounds_toArray, List.set_cons_zero, List.set_cons_succ]
    refine wpB_take (i := 9) (d := 51) (v := ?v8bx9) rfl rfl (by kernel_rfl) (by kernel_rfl) (by kernel_rfl) (fun _ _ _ h => h) (by rfl) ?y8bx9 ?r8bx9
    case y8bx9 => (intro w' hSw; go_simp; try (with_reducible rfl))
    simp only [Act.put, List.setIfInBounds_toArray, List.set_cons_zero, List.set_cons_succ]
    refine wpB_take (i := 10) (d := 52) (v := ?v8bx10) rfl rfl (by kernel_rfl) (by kernel_rfl) (by kernel_rfl) (fun _ _ _ h => h) (by rfl) ?y8bx10 ?r8bx10
    case y8bx10 => (intro w' hSw; go_simp; try (with_reducible rfl))
    simp only [Act.put, List.setIfInBounds_toArray, List.set_cons_zero, List.set_cons_succ]
    refine wpB_take (i := 11) (d := 53) (v := ?v8bx11) rfl rfl (by kernel_rfl) (by kernel_rfl) (by kernel_rfl) (fun _ _ _ h => h) (by rfl) ?y8bx11 ?r8bx11
    case y8bx11 => (intro w' hSw; go_simp; try (with_reducible rfl))
    simp only [Act.put, List.setIfInBounds_toArray, List.set_cons_zero, List.set_cons_succ]
    refine wpB_take (i := 12) (d := 54) (v := ?v8bx12) rfl rfl (by kernel_rfl) (by kernel_rfl) (by kernel_rfl) (fun _ _ _ h => h) (by rfl) ?y8bx12 ?r8bx12
    case y8bx12 => (intro w' hSw; go_simp; try (with_reducible rfl))
    simp only [Act.put, List.setIfInBounds_toArray, List.set_cons_zero, List.set_cons_succ]
    refine wpB_take (i := 13) (d := 55) (v := ?v8bx13) rfl rfl (by kernel_rfl) (by kernel_rfl) (by kernel_rfl) (fun _ _ _ h => h) (by rfl) ?y8bx13 ?r8bx13
    case y8bx13 => (intro w' hSw; go_simp; try (with_reducible rfl))
    simp only [Act.put, List.setIfInBounds_toArray, List.set_cons_zero, List.set_cons_succ]
    refine wpB_take (i := 14) (d := 56) (v := ?v8bx14) rfl rfl (by kernel_rfl) (by kernel_rfl) (by kernel_rfl) (fun _ _ _ h => h) (by rfl) ?y8bx14 ?r8bx14
    case y8bx14 => (intro w' hSw; go_simp; try (with_reducible rfl))
    simp only [Act.put, List.setIfInBounds_toArray, List.set_cons_zero, List.set_cons_succ]
    refine wpB_take (i := 15) (d := 57) (v := ?v8bx15) rfl rfl (by kernel_rfl) (by kernel_rfl) (by kernel_rfl) (fun _ _ _ h => h) (by rfl) ?y8bx15 ?r8bx15
    case y8bx15 => (intro w' hSw; go_simp; try (with_reducible rfl))
    simp only [Act.put, List.setIfInBounds_toArray, List.set_cons_zero, List.set_cons_succ]
    refine wpB_take (i := 16) (d := 58) (v := ?v8bx16) rfl rfl (by kernel_rfl) (by kernel_rfl) (by kernel_rfl) (fun _ _ _ h => h) (by rfl) ?y8bx16 ?r8bx16
    case y8bx16 => (intro w' hSw; go_simp; try (with_reducible rfl))
    simp only [Act.put, List.setIfInBounds_toArray, List.set_cons_zero, List.set_cons_succ]
    refine wpB_take (i := 17) (d := 59) (v := ?v8bx17) rfl rfl (by kernel_rfl) (by kernel_rfl) (by kernel_rfl) (fun _ _ _ h => h) (by rfl) ?y8bx17 ?r8bx17
    case y8bx17 => (intro w' hSw; go_simp; try (with_reducible rfl))
    simp only [Act.put, List.setIfInBounds_toArray, List.set_cons_zero, List.set_cons_succ]
    refine wpB_take (i := 18) (d := 60) (v := ?v8bx18) rfl rfl (by kernel_rfl) (by kernel_rfl) (by kernel_rfl) (fun _ _ _ h => h) (by rfl) ?y8bx18 ?r8bx18
    case y8bx18 => (intro w' hSw; go_simp; try (with_reducible rfl))
    simp only [Act.put, List.setIfInBounds_toArray, List.set_cons_zero, List.set_cons_succ]
    refine wpB_take (i := 19) (d := 61) (v := ?v8bx19) rfl rfl (by kernel_rfl) (by kernel_rfl) (by kernel_rfl) (fun _ _ _ h => h) (by rfl) ?y8bx19 ?r8bx19
    case y8bx19 => (intro w' hSw; go_simp; try (with_reducible rfl))
    simp only [Act.put, List.setIfInBounds_toArray, List.set_cons_zero, List.set_cons_succ]
    refine wpB_take (i := 20) (d := 62) (v := ?v8bx20) rfl rfl (by kernel_rfl) (by kernel_rfl) (by kernel_rfl) (fun _ _ _ h => h) (by rfl) ?y8bx20 ?r8bx20
    case y8bx20 => (intro w' hSw; go_simp; try (with_reducible rfl))
    simp only [Act.put, List.setIfInBounds_toArray, List.set_cons_zero, List.set_cons_succ]
    refine wpB_take (i := 21) (d := 63) (v := ?v8bx21) rfl rfl (by kernel_rfl) (by kernel_rfl) (by kernel_rfl) (fun _ _ _ h => h) (by rfl) ?y8bx21 ?r8bx21
    case y8bx21 => (intro w' hSw; go_simp; try (with_reducible rfl))
    simp only [Act.put, List.setIfInBounds_toArray, List.set_cons_zero, List.set_cons_succ]
    refine wpB_take (i := 22) (d := 64) (v := ?v8bx22) rfl rfl (by kernel_rfl) (by kernel_rfl) (by kernel_rfl) (fun _ _ _ h => h) (by rfl) ?y8bx22 ?r8bx22
    case y8bx22 => (intro w' hSw; go_simp; try (with_reducible rfl))
    simp only [Act.put, List.setIfInBounds_toArray, List.set_cons_zero, List.set_cons_succ]
    refine wpB_take (i := 23) (d := 65) (v := ?v8bx23) rfl rfl (by kernel_rfl) (by kernel_rfl) (by kernel_rfl) (fun _ _ _ h => h) (by rfl) ?y8bx23 ?r8bx23
    case y8bx23 => (intro w' hSw; go_simp; try (with_reducible rfl))
    simp only [Act.put, List.setIfInBounds_toArray, List.set_cons_zero, List.set_cons_succ]
    refine wpB_take (i := 24) (d := 66) (v := ?v8bx24) rfl rfl (by kernel_rfl) (by kernel_rfl) (by kernel_rfl) (fun _ _ _ h => h) (by rfl) ?y8bx24 ?r8bx24
    case y8bx24 => (intro w' hSw; go_simp; try (with_reducible rfl))
    simp only [Act.put, List.setIfInBounds_toArray, List.set_cons_zero, List.set_cons_succ]
    refine wpB_take (i := 25) (d := 67) (v := ?v8bx25) rfl rfl (by kernel_rfl) (by kernel_rfl) (by kernel_rfl) (fun _ _ _ h => h) (by rfl) ?y8bx25 ?r8bx25
    case y8bx25 => (intro w' hSw; go_simp; try (with_reducible rfl))
    simp only [Act.put, List.setIfInBounds_toArray, List.set_cons_zero, List.set_cons_succ]
    refine wpB_take (i := 26) (d := 68) (v := ?v8bx26) rfl rfl (by kernel_rfl) (by kernel_rfl) (by kernel_rfl) (fun _ _ _ h => h) (by rfl) ?y8bx26 ?r8bx26
    case y8bx26 => (intro w' hSw; go_simp; try (with_reducible rfl))
    simp only [Act.put, List.setIfInBounds_toArray, List.set_cons_zero, List.set_cons_succ]
    refine wpB_take (i := 27) (d := 69) (v := ?v8bx27) rfl rfl (by kernel_rfl) (by kernel_rfl) (by kernel_rfl) (fun _ _ _ h => h) (by rfl) ?y8bx27 ?r8bx27
    case y8bx27 => (intro w' hSw; go_simp; try (with_reducible rfl))
    simp only [Act.put, List.setIfInBounds_toArray, List.set_cons_zero, List.set_cons_succ]
    refine wpB_take (i := 28) (d := 70) (v := ?v8bx28) rfl rfl (by kernel_rfl) (by kernel_rfl) (by kernel_rfl) (fun _ _ _ h => h) (by rfl) ?y8bx28 ?r8bx28
    case y8bx28 => (intro w' hSw; go_simp; try (with_reducible rfl))
    simp only [Act.put, List.setIfInBounds_toArray, List.set_cons_zero, List.set_cons_succ]
    refine wpB_take (i := 29) (d := 71) (v := ?v8bx29) rfl rfl (by kernel_rfl) (by kernel_rfl) (by kernel_rfl) (fun _ _ _ h => h) (by rfl) ?y8bx29 ?r8bx29
    case y8bx29 => (intro w' hSw; go_simp; try (with_reducible rfl))
    simp only [Act.put, List.setIfInBounds_toArray, List.set_cons_zero, List.set_cons_succ]
    refine wpB_take (i := 30) (d := 72) (v := ?v8bx30) rfl rfl (by kernel_rfl) (by kernel_rfl) (by kernel_rfl) (fun _ _ _ h => h) (by rfl) ?y8bx30 ?r8bx30
    case y8bx30 => (intro w' hSw; go_simp; try (with_reducible rfl))
    simp only [Act.put, List.setIfInBounds_toArray, List.set_cons_zero, List.set_cons_succ]
    refine wpB_take (i := 31) (d := 73) (v := ?v8bx31) rfl rfl (by kernel_rfl) (by kernel_rfl) (by kernel_rfl) (fun _ _ _ h => h) (by rfl) ?y8bx31 ?r8bx31
    case y8bx31 => (intro w' hSw; go_simp; try (with_reducible rfl))
    simp only [Act.put, List.setIfInBounds_toArray, List.set_cons_zero, List.set_cons_succ]
    refine wpB_take (i := 32) (d := 74) (v := ?v8bx32) rfl rfl (by kernel_rfl) (by kernel_rfl) (by kernel_rfl) (fun _ _ _ h => h) (by rfl) ?y8bx32 ?r8bx32
    case y8bx32 => (intro w' hSw; go_simp; try (with_reducible rfl))
    simp only [Act.put, List.setIfInBounds_toArray, List.set_cons_zero, List.set_cons_succ]
    refine wpB_take (i := 33) (d := 75) (v := ?v8bx33) rfl rfl (by kernel_rfl) (by kernel_rfl) (by kernel_rfl) (fun _ _ _ h => h) (by rfl) ?y8bx33 ?r8bx33
    case y8bx33 => (intro w' hSw; go_simp; try (with_reducible rfl))
    simp only [Act.put, List.setIfInBounds_toArray, List.set_cons_zero, List.set_cons_succ]
    refine wpB_take (i := 34) (d := 76) (v := ?v8bx34) rfl rfl (by kernel_rfl) (by kernel_rfl) (by kernel_rfl) (fun _ _ _ h => h) (by rfl) ?y8bx34 ?r8bx34
    case y8bx34 => (intro w' hSw; go_simp; try (with_reducible rfl))
    simp only [Act.put, List.setIfInBounds_toArray, List.set_cons_zero, List.set_cons_succ]
    refine wpB_take (i := 35) (d := 77) (v := ?v8bx35) rfl rfl (by kernel_rfl) (by kernel_rfl) (by kernel_rfl) (fun _ _ _ h => h) (by rfl) ?y8bx35 ?r8bx35
    case y8bx35 => (intro w' hSw; go_simp; try (with_reducible rfl))
    simp only [Act.put, List.setIfInBounds_toArray, List.set_cons_zero, List.set_cons_succ]
    refine wpB_do (i := 36) (by kernel_rfl) rfl (by rfl) (fun K hK => ?_)
    go_simp
    obtain ⟨⟨z0, z1, z2, z3, z4, z5, z6⟩, f0, f1, f2, f3, f4, f5, f6⟩ := box7 HV.out.2.1
    go_simp
    have e0 : c.m - 1 = dataC c := (nums_eq HC.out).1
    rw [e0, (nums_eq HC.out).2.1, (nums_eq HC.out).2.2.2.1, (nums_eq HC.out).2.2.1, (nums_eq HC.out).2.2.2.2.2, (nums_eq HC.out).2.2.2.2.1]
    have e6 : IntKind.i64.wrap (X / c.b + 2) = roomC c := by rw [HQ.out]; exact wrapk_in (by omega) (by omega)
    rw [e6]
    have HN : Hid (Box (((((((w0.setCell ⟨w.heap.size + 1, 0, none⟩ (.int .i64 (dataC c))).setCell ⟨w.heap.size + 1, 1, none⟩ (.int .i64 (dataC c * c.u))).setCell ⟨w.heap.size + 1, 2, none⟩ (.int .i64 (stripesC c))).setCell ⟨w.heap.size + 1, 3, none⟩ (.int .i64 (stripesC c * (dataC c * c.u)))).setCell ⟨w.heap.size + 1, 4, none⟩ (.int .i64 (slotsC c))).setCell ⟨w.heap.size + 1, 5, none⟩ (.int .i64 (allC c))).setCell ⟨w.heap.size + 1, 6, none⟩ (.int .i64 (roomC c))) (w.heap.size + 1) 87 #[.int .i64 (dataC c), .int .i64 (dataC c * c.u), .int .i64 (stripesC c), .int .i64 (stripesC c * (dataC c * c.u)), .int .i64 (slotsC c), .int .i64 (allC c), .int .i64 (roomC c)] ∧ Below w.heap.size w (((((((w0.setCell ⟨w.heap.size + 1, 0, none⟩ (.int .i64 (dataC c))).setCell ⟨w.heap.size + 1, 1, none⟩ (.int .i64 (dataC c * c.u))).setCell ⟨w.heap.size + 1, 2, none⟩ (.int .i64 (stripesC c))).setCell ⟨w.heap.size + 1, 3, none⟩ (.int .i64 (stripesC c * (dataC c * c.u)))).setCell ⟨w.heap.size + 1, 4, none⟩ (.int .i64 (slotsC c))).setCell ⟨w.heap.size + 1, 5, none⟩ (.int .i64 (allC c))).setCell ⟨w.heap.size + 1, 6, none⟩ (.int .i64 (roomC c))) ∧ Below (w.heap.size + 1) w0 (((((((w0.setCell ⟨w.heap.size + 1, 0, none⟩ (.int .i64 (dataC c))).setCell ⟨w.heap.size + 1, 1, none⟩ (.int .i64 (dataC c * c.u))).setCell ⟨w.heap.size + 1, 2, none⟩ (.int .i64 (stripesC c))).setCell ⟨w.heap.size + 1, 3, none⟩ (.int .i64 (stripesC c * (dataC c * c.u)))).setCell ⟨w.heap.size + 1, 4, none⟩ (.int .i64 (slotsC c))).setCell ⟨w.heap.size + 1, 5, none⟩ (.int .i64 (allC c))).setCell ⟨w.heap.size + 1, 6, none⟩ (.int .i64 (roomC c)))) := by
      refine ⟨?_, HV.out.2.2.trans ?_, ?_⟩
      · exact ((((((HV.out.2.1.store 0 _).store 1 _).store 2 _).store 3 _).store 4 _).store 5 _).store 6 _
      · exact (by repeat (first | with_reducible exact Below.refl _ _ | with_reducible refine Below.drew ?_ | with_reducible refine Below.alloc ?_ (by first | (simp; done) | (simp; omega)) _ | with_reducible refine Below.setCell ?_ (by first | (simp; done) | (simp; omega)) _))
      · exact (by repeat (first | with_reducible exact Below.refl _ _ | with_reducible refine Below.drew ?_ | with_reducible refine Below.alloc ?_ (by first | (simp; done) | (simp; omega)) _ | with_reducible refine Below.setCell ?_ (by first | (simp; done) | (simp; omega)) _))
    generalize (((((((w0.setCell ⟨w.heap.size + 1, 0, none⟩ (.int .i64 (dataC c))).setCell ⟨w.heap.size + 1, 1, none⟩ (.int .i64 (dataC c * c.u))).setCell ⟨w.heap.size + 1, 2, none⟩ (.int .i64 (stripesC c))).setCell ⟨w.heap.size + 1, 3, none⟩ (.int .i64 (stripesC c * (dataC c * c.u)))).setCell ⟨w.heap.size + 1, 4, none⟩ (.int .i64 (slotsC c))).setCell ⟨w.heap.size + 1, 5, none⟩ (.int .i64 (allC c))).setCell ⟨w.heap.size + 1, 6, none⟩ (.int .i64 (roomC c))) = W at HN ⊢
    refine hK.out (w.heap.size + 1) _ _ (Nat.le_refl _) HN.out.2.2 ?_
    clear hK e0 e6 HQ HV q0 q1 q2 q3 q4 q5 q6 q7 q8 q9 q10 z0 z1 z2 z3 z4 z5 z6 f0 f1 f2 f3 f4 f5 f6 hm
    refine wpB_done (by kernel_rfl) ?_
    obtain ⟨⟨z0, z1, z2, z3, z4, z5, z6⟩, f0, f1, f2, f3, f4, f5, f6⟩ := box7 HN.out.1
    go_wp2
    exact bodyPost_ret (v := .agg #[.int .i64 (dataC c), .int .i64 (dataC c * c.u), .int .i64 (stripesC c), .int .i64 (stripesC c * (dataC c * c.u)), .int .i64 (slotsC c), .int .i64 (allC c), .int .i64 (roomC c)]) (by simp [results, Try.results50, go_sem, *]) rfl ⟨rfl, HN.out.2.1⟩
end Go.Proofs.Ytaceaemombnhkaa
