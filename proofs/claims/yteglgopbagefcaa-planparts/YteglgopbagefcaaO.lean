/- What settings that may be are; contracts of below, parity, member, unitOf, written. -/
import Derived.Test.YteglgopbagefcaaN
namespace Go.Proofs.Yteglgopbagefcaa
set_option linter.unusedVariables false
set_option linter.unusedSimpArgs false
open Go.RowKit
open Go.RowKit (wrap64)

/-- Settings that may be: what their numbers are. -/
structure Ok (c : Cf) : Prop where
  m1 : 3 ≤ c.m
  m2 : c.m ≤ 16
  u1 : 1 ≤ c.u
  u2 : c.u ≤ 64
  d : dataC c = c.m - 1
  s : stripesC c * c.u = c.cp
  s1 : 1 ≤ stripesC c
  s2 : stripesC c ≤ 4096
  cp : c.cp ≤ 4096
  r1 : 2 ≤ dataC c * c.u
  r2 : dataC c * c.u ≤ 960
  z1 : 0 ≤ stripesC c * (dataC c * c.u)
  z2 : stripesC c * (dataC c * c.u) ≤ 61440
theorem ok_of {c : Cf} (h : checkC c = 0) : Ok c := by
  have hg : boundedC c = true ∧ agreedC c = true := by
    unfold checkC at h
    split at h
    · assumption
    · omega
  have hb := (bounded_iff c).1 hg.1
  have hs := bounded_sane hg.1
  have hG := (good_iff c).1 hg
  have hd : dataC c = c.m - 1 := by unfold dataC; rw [if_pos hs]
  have hst : stripesC c = c.cp / c.u := by unfold stripesC; rw [if_pos hs]
  have hm : c.cp % c.u = 0 := hG.2.2.2.2.2.2.2.2.2.2.1
  have he : stripesC c * c.u = c.cp := by rw [hst]; exact Int.ediv_mul_cancel (Int.dvd_of_emod_eq_zero hm)
  have h1 : 1 ≤ stripesC c := by
    rcases Int.lt_or_le (stripesC c) 1 with h | h
    · have : stripesC c * c.u ≤ 0 := Int.mul_nonpos_of_nonpos_of_nonneg (by omega) (by omega)
      omega
    · exact h
  have h2 : stripesC c ≤ 4096 := by
    have := div_in (a := c.cp) (b := c.u) (by omega) (by omega)
    omega
  have hr := mul_in (a := dataC c) (b := c.u) (A := 15) (B := 64) (by omega) (by omega) (by omega) (by omega)
  have hr1 : 2 * 1 ≤ dataC c * c.u := Int.mul_le_mul (by omega) (by omega) (by omega) (by omega)
  have ez : stripesC c * (dataC c * c.u) = dataC c * c.cp := by rw [← he, ← Int.mul_assoc, Int.mul_comm (stripesC c) (dataC c), Int.mul_assoc]
  have hz := mul_in (a := dataC c) (b := c.cp) (A := 15) (B := 4096) (by omega) (by omega) (by omega) (by omega)
  exact ⟨by omega, by omega, by omega, by omega, hd, he, h1, h2, by omega, by omega, by omega, by omega, by omega⟩

/-- Is it from 0 to one below so many? -/
def belowC (n k : Int) : Bool := decide (0 ≤ n ∧ n < k)
theorem belowC_iff {n k : Int} : belowC n k = true ↔ 0 ≤ n ∧ n < k := by simp [belowC]
theorem belowC_not {n k : Int} : belowC n k = false ↔ ¬ (0 ≤ n ∧ n < k) := by unfold belowC; exact decide_eq_false_iff_not
theorem below_any (n k : Int) (w : World) : Calls Try.prog 40 #[.int .i64 n, .int .i64 k] w fun e w' => e = .returned (.bool (belowC n k)) ∧ w = w' := by
  by_cases h1 : 0 ≤ n
  · by_cases h2 : n < k
    · have HB : Hid (belowC n k = true) := by exact belowC_iff.2 ⟨h1, h2⟩
      go_enter Try.func40, Try.ntmps40
      go_wp2
      go_ret
      exact ⟨by rw [HB.out]; rfl, rfl⟩
    · have HB : Hid (belowC n k = false) := by exact belowC_not.2 (by omega)
      go_enter Try.func40, Try.ntmps40
      go_wp2
      go_ret
      exact ⟨by rw [HB.out]; rfl, rfl⟩
  · have HB : Hid (belowC n k = false) := by exact belowC_not.2 (by omega)
    go_enter Try.func40, Try.ntmps40
    go_wp2
    go_ret
    exact ⟨by rw [HB.out]; rfl, rfl⟩

set_option maxHeartbeats 1000000 in
theorem par_any (c : Cf) (s : Int) (w : World) (hm : 3 ≤ c.m ∧ c.m ≤ 16) (hs : 0 ≤ s ∧ s ≤ 1048576) : Calls Try.prog 54 #[(.agg #[.int .i64 c.id, .int .i64 c.m, .int .i64 c.u, .int .i64 c.b, .int .i64 c.cp, .int .i64 c.z, .int .i64 c.s, .int .i64 c.mt, .int .i64 c.o, .int .i64 c.a, .int .i64 c.l]), .int .i64 s] w (Says w (.int .i64 (s % c.m))) := by
  have m1 : 0 ≤ s % c.m := Int.emod_nonneg _ (by omega)
  have m2 : s % c.m < c.m := Int.emod_lt_of_pos _ (by omega)
  go_enter Try.func54, Try.ntmps54
  go_wp2
  go_ret
  exact ⟨rfl, (At.new c w).2.1⟩

set_option maxHeartbeats 2000000 in
theorem mem_any (c : Cf) (s u : Int) (w : World) (hm : 3 ≤ c.m ∧ c.m ≤ 16) (hs : 0 ≤ s ∧ s ≤ 1048576) (hu : 0 ≤ u ∧ u ≤ 1048576) : Calls Try.prog 41 #[(.agg #[.int .i64 c.id, .int .i64 c.m, .int .i64 c.u, .int .i64 c.b, .int .i64 c.cp, .int .i64 c.z, .int .i64 c.s, .int .i64 c.mt, .int .i64 c.o, .int .i64 c.a, .int .i64 c.l]), .int .i64 s, .int .i64 u] w (Says w (.int .i64 ((s % c.m + 1 + u) % c.m))) := by
  have m1 : 0 ≤ s % c.m := Int.emod_nonneg _ (by omega)
  have m2 : s % c.m < c.m := Int.emod_lt_of_pos _ (by omega)
  have HM := Lib.hid hm
  have HS := Lib.hid hs
  go_enter Try.func41, Try.ntmps41
  go_wp2_with fail
  have HV0 := Lib.hid (At.new c w)
  generalize (w.alloc (.cells #[.int .i64 c.id, .int .i64 c.m, .int .i64 c.u, .int .i64 c.b, .int .i64 c.cp, .int .i64 c.z, .int .i64 c.s, .int .i64 c.mt, .int .i64 c.o, .int .i64 c.a, .int .i64 c.l] 23)) = w0 at HV0 ⊢
  refine wpB_start (w.heap.size + 1) (by kernel_rfl) ?_
  have HV1 := Lib.hid HV0.out.drew
  generalize w0.drew = w1 at HV1 ⊢
  clear HV0
  have q0 : ∀ w', Below (w.heap.size + 1) w1 w' → w'.cell? ⟨w.heap.size, 0, none⟩ = some (.int .i64 c.id) := fun w' h => (box11 (HV1.out.below h)).1
  have q1 : ∀ w', Below (w.heap.size + 1) w1 w' → w'.cell? ⟨w.heap.size, 1, none⟩ = some (.int .i64 c.m) := fun w' h => (box11 (HV1.out.below h)).2.1
  have q2 : ∀ w', Below (w.heap.size + 1) w1 w' → w'.cell? ⟨w.heap.size, 2, none⟩ = some (.int .i64 c.u) := fun w' h => (box11 (HV1.out.below h)).2.2.1
  have q3 : ∀ w', Below (w.heap.size + 1) w1 w' → w'.cell? ⟨w.heap.size, 3, none⟩ = some (.int .i64 c.b) := fun w' h => (box11 (HV1.out.below h)).2.2.2.1
  have q4 : ∀ w', Below (w.heap.size + 1) w1 w' → w'.cell? ⟨w.heap.size, 4, none⟩ = some (.int .i64 c.cp) := fun w' h => (box11 (HV1.out.below h)).2.2.2.2.1
  have q5 : ∀ w', Below (w.heap.size + 1) w1 w' → w'.cell? ⟨w.heap.size, 5, none⟩ = some (.int .i64 c.z) := fun w' h => (box11 (HV1.out.below h)).2.2.2.2.2.1
  have q6 : ∀ w', Below (w.heap.size + 1) w1 w' → w'.cell? ⟨w.heap.size, 6, none⟩ = some (.int .i64 c.s) := fun w' h => (box11 (HV1.out.below h)).2.2.2.2.2.2.1
  have q7 : ∀ w', Below (w.heap.size + 1) w1 w' → w'.cell? ⟨w.heap.size, 7, none⟩ = some (.int .i64 c.mt) := fun w' h => (box11 (HV1.out.below h)).2.2.2.2.2.2.2.1
  have q8 : ∀ w', Below (w.heap.size + 1) w1 w' → w'.cell? ⟨w.heap.size, 8, none⟩ = some (.int .i64 c.o) := fun w' h => (box11 (HV1.out.below h)).2.2.2.2.2.2.2.2.1
  have q9 : ∀ w', Below (w.heap.size + 1) w1 w' → w'.cell? ⟨w.heap.size, 9, none⟩ = some (.int .i64 c.a) := fun w' h => (box11 (HV1.out.below h)).2.2.2.2.2.2.2.2.2.1
  have q10 : ∀ w', Below (w.heap.size + 1) w1 w' → w'.cell? ⟨w.heap.size, 10, none⟩ = some (.int .i64 c.l) := fun w' h => (box11 (HV1.out.below h)).2.2.2.2.2.2.2.2.2.2
  refine wpB_take (i := 0) (d := 7) (v := ?v1x0) rfl rfl (by kernel_rfl) (by kernel_rfl) (by kernel_rfl) (fun _ _ _ h => h) (by rfl) ?y1x0 ?r1x0
  case y1x0 => (intro w' hSw; go_simp; try (with_reducible rfl))
  simp only [Act.put, List.setIfInBounds_toArray, List.set_cons_zero, List.set_cons_succ]
  refine wpB_take (i := 1) (d := 8) (v := ?v1x1) rfl rfl (by kernel_rfl) (by kernel_rfl) (by kernel_rfl) (fun _ _ _ h => h) (by rfl) ?y1x1 ?r1x1
  case y1x1 => (intro w' hSw; go_simp; try (with_reducible rfl))
  simp only [Act.put, List.setIfInBounds_toArray, List.set_cons_zero, List.set_cons_succ]
  refine wpB_take (i := 4) (d := 11) (v := ?v1x4) rfl rfl (by kernel_rfl) (by kernel_rfl) (by kernel_rfl) (fun _ _ _ h => h) (by rfl) ?y1x4 ?r1x4
  case y1x4 => (intro w' hSw; go_simp; try (with_reducible rfl))
  simp only [Act.put, List.setIfInBounds_toArray, List.set_cons_zero, List.set_cons_succ]
  refine wpB_take (i := 6) (d := 13) (v := ?v1x6) rfl rfl (by kernel_rfl) (by kernel_rfl) (by kernel_rfl) (fun _ _ _ h => h) (by rfl) ?y1x6 ?r1x6
  case y1x6 => (intro w' hSw; go_simp; try (with_reducible rfl))
  simp only [Act.put, List.setIfInBounds_toArray, List.set_cons_zero, List.set_cons_succ]
  refine wpB_take (i := 7) (d := 14) (v := ?v1x7) rfl rfl (by kernel_rfl) (by kernel_rfl) (by kernel_rfl) (fun _ _ _ h => h) (by rfl) ?y1x7 ?r1x7
  case y1x7 => (intro w' hSw; go_simp; try (with_reducible rfl))
  simp only [Act.put, List.setIfInBounds_toArray, List.set_cons_zero, List.set_cons_succ]
  refine wpB_do (i := 2) (by kernel_rfl) rfl (by rfl) (fun K hK => ?_)
  go_simp
  refine (par_any c s w1 HM.out HS.out).mono ?_
  rintro e w2 ⟨rfl, hb⟩
  have HV2 := Lib.hid (HV1.out.later hb)
  have hbk := hb.mono HV1.out.2.2
  go_simp
  refine hK.out (w.heap.size + 1) _ _ (Nat.le_refl _) hbk ?_
  clear hK hb hbk HV1 q0 q1 q2 q3 q4 q5 q6 q7 q8 q9 q10
  have q0 : ∀ w', Below (w.heap.size + 1) w2 w' → w'.cell? ⟨w.heap.size, 0, none⟩ = some (.int .i64 c.id) := fun w' h => (box11 (HV2.out.below h)).1
  have q1 : ∀ w', Below (w.heap.size + 1) w2 w' → w'.cell? ⟨w.heap.size, 1, none⟩ = some (.int .i64 c.m) := fun w' h => (box11 (HV2.out.below h)).2.1
  have q2 : ∀ w', Below (w.heap.size + 1) w2 w' → w'.cell? ⟨w.heap.size, 2, none⟩ = some (.int .i64 c.u) := fun w' h => (box11 (HV2.out.below h)).2.2.1
  have q3 : ∀ w', Below (w.heap.size + 1) w2 w' → w'.cell? ⟨w.heap.size, 3, none⟩ = some (.int .i64 c.b) := fun w' h => (box11 (HV2.out.below h)).2.2.2.1
  have q4 : ∀ w', Below (w.heap.size + 1) w2 w' → w'.cell? ⟨w.heap.size, 4, none⟩ = some (.int .i64 c.cp) := fun w' h => (box11 (HV2.out.below h)).2.2.2.2.1
  have q5 : ∀ w', Below (w.heap.size + 1) w2 w' → w'.cell? ⟨w.heap.size, 5, none⟩ = some (.int .i64 c.z) := fun w' h => (box11 (HV2.out.below h)).2.2.2.2.2.1
  have q6 : ∀ w', Below (w.heap.size + 1) w2 w' → w'.cell? ⟨w.heap.size, 6, none⟩ = some (.int .i64 c.s) := fun w' h => (box11 (HV2.out.below h)).2.2.2.2.2.2.1
  have q7 : ∀ w', Below (w.heap.size + 1) w2 w' → w'.cell? ⟨w.heap.size, 7, none⟩ = some (.int .i64 c.mt) := fun w' h => (box11 (HV2.out.below h)).2.2.2.2.2.2.2.1
  have q8 : ∀ w', Below (w.heap.size + 1) w2 w' → w'.cell? ⟨w.heap.size, 8, none⟩ = some (.int .i64 c.o) := fun w' h => (box11 (HV2.out.below h)).2.2.2.2.2.2.2.2.1
  have q9 : ∀ w', Below (w.heap.size + 1) w2 w' → w'.cell? ⟨w.heap.size, 9, none⟩ = some (.int .i64 c.a) := fun w' h => (box11 (HV2.out.below h)).2.2.2.2.2.2.2.2.2.1
  have q10 : ∀ w', Below (w.heap.size + 1) w2 w' → w'.cell? ⟨w.heap.size, 10, none⟩ = some (.int .i64 c.l) := fun w' h => (box11 (HV2.out.below h)).2.2.2.2.2.2.2.2.2.2

  generalize hx : s % c.m = x at m1 m2 ⊢
  have HX := Lib.hid hx
  clear hx
  have z0 : ¬ c.m = 0 := by omega
  have z1 : (c.m == 0) = false := by simpa using z0
  refine wpB_take (i := 3) (d := 10) (v := ?v1x3) rfl rfl (by kernel_rfl) (by kernel_rfl) (by kernel_rfl) (fun _ _ _ h => h) (by rfl) ?y1x3 ?r1x3
  case y1x3 => (intro w' hSw; go_simp; try (with_reducible rfl))
  simp only [Act.put, List.setIfInBounds_toArray, List.set_cons_zero, List.set_cons_succ]
  refine wpB_take (i := 5) (d := 12) (v := ?v1x5) rfl rfl (by kernel_rfl) (by kernel_rfl) (by kernel_rfl) (fun _ _ _ h => h) (by rfl) ?y1x5 ?r1x5
  case y1x5 => (intro w' hSw; go_simp; try (with_reducible rfl))
  simp only [Act.put, List.setIfInBounds_toArray, List.set_cons_zero, List.set_cons_succ]
  refine wpB_take (i := 8) (d := 15) (v := ?v1x8) rfl rfl (by kernel_rfl) (by kernel_rfl) (by kernel_rfl) (fun _ _ _ h => h) (by rfl) ?y1x8 ?r1x8
  case y1x8 => (intro w' hSw; go_simp; try (with_reducible rfl))
  simp only [Act.put, List.setIfInBounds_toArray, List.set_cons_zero, List.set_cons_succ]
  refine wpB_take (i := 9) (d := 6) (v := ?v1x9) rfl rfl (by kernel_rfl) (by kernel_rfl) (by kernel_rfl) (fun _ _ _ h => h) (by rfl) ?y1x9 ?r1x9
  case y1x9 => (intro w' hSw; go_simp; try (with_reducible rfl))
  simp only [Act.put, List.setIfInBounds_toArray, List.set_cons_zero, List.set_cons_succ]
  refine wpB_done (by kernel_rfl) ?_
  go_wp2
  go_ret
  refine ⟨ret_i64 ?_, HV2.out.2.1⟩
  rw [HX.out, wrapk_in (n := x + 1) (by omega) (by omega), wrapk_in (n := x + 1 + u) (by omega) (by omega), Int.tmod_eq_emod_of_nonneg (by omega)]

set_option maxHeartbeats 1000000 in
theorem uni_par (c : Cf) (s : Int) (w : World) (hm : 3 ≤ c.m ∧ c.m ≤ 16) (hs : 0 ≤ s ∧ s ≤ 1048576) : Calls Try.prog 63 #[(.agg #[.int .i64 c.id, .int .i64 c.m, .int .i64 c.u, .int .i64 c.b, .int .i64 c.cp, .int .i64 c.z, .int .i64 c.s, .int .i64 c.mt, .int .i64 c.o, .int .i64 c.a, .int .i64 c.l]), .int .i64 s, .int .i64 (s % c.m)] w (Says w (.int .i64 (-1))) := by
  have m1 : 0 ≤ s % c.m := Int.emod_nonneg _ (by omega)
  have m2 : s % c.m < c.m := Int.emod_lt_of_pos _ (by omega)
  have HM := Lib.hid hm
  have HS := Lib.hid hs
  go_enter Try.func63, Try.ntmps63
  go_wp2_with fail
  have HV0 := Lib.hid (At.new c w)
  generalize (w.alloc (.cells #[.int .i64 c.id, .int .i64 c.m, .int .i64 c.u, .int .i64 c.b, .int .i64 c.cp, .int .i64 c.z, .int .i64 c.s, .int .i64 c.mt, .int .i64 c.o, .int .i64 c.a, .int .i64 c.l] 23)) = w0 at HV0 ⊢
  refine (par_any c s w0 HM.out HS.out).mono ?_
  rintro e w1 ⟨rfl, hb⟩
  have HV1 := Lib.hid (HV0.out.later hb)
  clear hb HV0
  generalize s % c.m = x at m1 m2 ⊢
  go_wp2
  go_ret
  exact ⟨rfl, HV1.out.2.1⟩
set_option maxHeartbeats 1000000 in
theorem uni_not (c : Cf) (s m : Int) (w : World) (hm : 3 ≤ c.m ∧ c.m ≤ 16) (hs : 0 ≤ s ∧ s ≤ 1048576) (h1 : 0 ≤ m) (h2 : m < c.m) (hn : ¬ m = s % c.m) : Calls Try.prog 63 #[(.agg #[.int .i64 c.id, .int .i64 c.m, .int .i64 c.u, .int .i64 c.b, .int .i64 c.cp, .int .i64 c.z, .int .i64 c.s, .int .i64 c.mt, .int .i64 c.o, .int .i64 c.a, .int .i64 c.l]), .int .i64 s, .int .i64 m] w (Says w (.int .i64 ((m - s % c.m - 1 + c.m) % c.m))) := by
  have m1 : 0 ≤ s % c.m := Int.emod_nonneg _ (by omega)
  have m2 : s % c.m < c.m := Int.emod_lt_of_pos _ (by omega)
  have HM := Lib.hid hm
  have HS := Lib.hid hs
  go_enter Try.func63, Try.ntmps63
  go_wp2_with fail
  have HV0 := Lib.hid (At.new c w)
  generalize (w.alloc (.cells #[.int .i64 c.id, .int .i64 c.m, .int .i64 c.u, .int .i64 c.b, .int .i64 c.cp, .int .i64 c.z, .int .i64 c.s, .int .i64 c.mt, .int .i64 c.o, .int .i64 c.a, .int .i64 c.l] 23)) = w0 at HV0 ⊢
  refine (par_any c s w0 HM.out HS.out).mono ?_
  rintro e w1 ⟨rfl, hb⟩
  have HV1 := Lib.hid (HV0.out.later hb)
  clear hb HV0
  generalize hx : s % c.m = x at m1 m2 hn ⊢
  have HX := Lib.hid hx
  clear hx
  obtain ⟨y0, y1, y2, y3, y4, y5, y6, y7, y8, y9, y10⟩ := box11 HV1.out.1
  have e1 : (m == x) = false := by simpa using hn
  go_wp2
  go_ret
  exact ⟨by rw [HX.out]; rfl, HV1.out.2.1⟩
/-- P8.1: the data unit that a member has of a stripe. -/
def uniC (c : Cf) (s m : Int) : Int := if m = s % c.m then -1 else (m - s % c.m - 1 + c.m) % c.m
theorem uni_any (c : Cf) (s m : Int) (w : World) (hm : 3 ≤ c.m ∧ c.m ≤ 16) (hs : 0 ≤ s ∧ s ≤ 1048576) (h1 : 0 ≤ m) (h2 : m < c.m) : Calls Try.prog 63 #[(.agg #[.int .i64 c.id, .int .i64 c.m, .int .i64 c.u, .int .i64 c.b, .int .i64 c.cp, .int .i64 c.z, .int .i64 c.s, .int .i64 c.mt, .int .i64 c.o, .int .i64 c.a, .int .i64 c.l]), .int .i64 s, .int .i64 m] w (Says w (.int .i64 (uniC c s m))) := by
  unfold uniC
  by_cases hn : m = s % c.m
  · rw [if_pos hn]
    subst hn
    exact uni_par c s w hm hs
  · rw [if_neg hn]
    exact uni_not c s m w hm hs h1 h2 hn

/-- P8.3: n brought to what a zone has. -/
def wriC (c : Cf) (n : Int) : Int := if n < 0 then 0 else if stripesC c * (dataC c * c.u) < n then stripesC c * (dataC c * c.u) else n
set_option maxHeartbeats 1000000 in
theorem wri_any (c : Cf) (n : Int) (w : World) : Calls Try.prog 57 #[(.agg #[.int .i64 c.id, .int .i64 c.m, .int .i64 c.u, .int .i64 c.b, .int .i64 c.cp, .int .i64 c.z, .int .i64 c.s, .int .i64 c.mt, .int .i64 c.o, .int .i64 c.a, .int .i64 c.l]), .int .i64 n] w (Says w (.int .i64 (wriC c n))) := by
  have HZ := Lib.hid (size_in c)
  have HW : Hid (∀ Z : Int, stripesC c * (dataC c * c.u) = Z → (n < 0 → wriC c n = 0) ∧ (0 ≤ n → Z < n → wriC c n = Z) ∧ (0 ≤ n → n ≤ Z → wriC c n = n)) := by
    show ∀ Z : Int, stripesC c * (dataC c * c.u) = Z → (n < 0 → wriC c n = 0) ∧ (0 ≤ n → Z < n → wriC c n = Z) ∧ (0 ≤ n → n ≤ Z → wriC c n = n)
    rintro Z rfl
    unfold wriC
    refine ⟨fun h => if_pos h, fun h1 h2 => ?_, fun h1 h2 => ?_⟩
    · rw [if_neg (by omega), if_pos h2]
    · rw [if_neg (by omega), if_neg (by omega)]
  by_cases hn : n < 0
  · go_enter Try.func57, Try.ntmps57
    go_wp2_with fail
    have HV0 := Lib.hid (At.new c w)
    generalize (w.alloc (.cells #[.int .i64 c.id, .int .i64 c.m, .int .i64 c.u, .int .i64 c.b, .int .i64 c.cp, .int .i64 c.z, .int .i64 c.s, .int .i64 c.mt, .int .i64 c.o, .int .i64 c.a, .int .i64 c.l] 23)) = w0 at HV0 ⊢
    refine (size_any c w0).mono ?_
    rintro e w1 ⟨rfl, hb⟩
    have HV1 := Lib.hid (HV0.out.later hb)
    clear hb HV0
    have z1 := HZ.out
    have HQ := Lib.hid (HW.out _ rfl)
    clear HW HZ
    generalize stripesC c * (dataC c * c.u) = Z at z1 HQ ⊢
    by_cases hz : Z < 0
    · omega
    · go_wp2
      go_ret
      exact ⟨by rw [HQ.out.1 hn]; rfl, HV1.out.2.1⟩
  · go_enter Try.func57, Try.ntmps57
    go_wp2_with fail
    have HV0 := Lib.hid (At.new c w)
    generalize (w.alloc (.cells #[.int .i64 c.id, .int .i64 c.m, .int .i64 c.u, .int .i64 c.b, .int .i64 c.cp, .int .i64 c.z, .int .i64 c.s, .int .i64 c.mt, .int .i64 c.o, .int .i64 c.a, .int .i64 c.l] 23)) = w0 at HV0 ⊢
    refine (size_any c w0).mono ?_
    rintro e w1 ⟨rfl, hb⟩
    have HV1 := Lib.hid (HV0.out.later hb)
    clear hb HV0
    have z1 := HZ.out
    have HQ := Lib.hid (HW.out _ rfl)
    clear HW HZ
    generalize stripesC c * (dataC c * c.u) = Z at z1 HQ ⊢
    by_cases hz : Z < n
    · go_wp2
      go_ret
      exact ⟨by rw [HQ.out.2.1 (by omega) hz]; rfl, HV1.out.2.1⟩
    · go_wp2
      go_ret
      exact ⟨by rw [HQ.out.2.2 (by omega) (by omega)]; rfl, HV1.out.2.1⟩
end Go.Proofs.Yteglgopbagefcaa
