/- Contracts of writes, Steps, Count. -/
import Derived.Test.YteglgopbagefcaaPd
namespace Go.Proofs.Yteglgopbagefcaa
set_option linter.unusedVariables false
set_option linter.unusedSimpArgs false
open Go.RowKit Go.Shelf
open Go.RowKit (wrap64)

/-- writes handed back its iterator. -/
def GaveW (c : Cf) (a n : Int) (w : World) (e : Ending) (w' : World) : Prop := ∃ Ba Bn Bc, e = .returned (.func (.func 37) #[] #[.pointer (some ⟨Ba, 0, none⟩), .pointer (some ⟨Bn, 0, none⟩), .pointer (some ⟨Bc, 0, none⟩)]) ∧ AtW c a n Ba Bn Bc w' ∧ Below w.heap.size w w'
theorem hmf : ∀ (fn : Fn) (first cap : Array Value) (w : World), (Instr.makeFunc fn first cap).run Try.prog w = .ok (.func fn first cap) w := fun _ _ _ _ => rfl
set_option maxHeartbeats 1000000 in
theorem writes_any (c : Cf) (a n : Int) (w : World) : Calls Try.prog 27 #[(.agg #[.int .i64 c.id, .int .i64 c.m, .int .i64 c.u, .int .i64 c.b, .int .i64 c.cp, .int .i64 c.z, .int .i64 c.s, .int .i64 c.mt, .int .i64 c.o, .int .i64 c.a, .int .i64 c.l]), .int .i64 a, .int .i64 n] w (GaveW c a n w) := by
  have hm := hmf
  go_enter Try.func27, Try.ntmps27
  go_wp2
  go_ret
  refine ⟨w.heap.size + 1, w.heap.size + 1 + 1, w.heap.size, rfl, ⟨?_, ?_, ?_⟩, ?_⟩
  · have h := Boxed.new (w.alloc (.cells #[.int .i64 c.id, .int .i64 c.m, .int .i64 c.u, .int .i64 c.b, .int .i64 c.cp, .int .i64 c.z, .int .i64 c.s, .int .i64 c.mt, .int .i64 c.o, .int .i64 c.a, .int .i64 c.l] 23)) 3 (.int .i64 a)
    rw [World.size_alloc] at h
    exact h.alloc _
  · have h := Boxed.new ((w.alloc (.cells #[.int .i64 c.id, .int .i64 c.m, .int .i64 c.u, .int .i64 c.b, .int .i64 c.cp, .int .i64 c.z, .int .i64 c.s, .int .i64 c.mt, .int .i64 c.o, .int .i64 c.a, .int .i64 c.l] 23)).alloc (.cells #[.int .i64 a] 3)) 3 (.int .i64 n)
    simp only [World.size_alloc] at h
    exact h
  · exact (Box.fresh w 23 #[.int .i64 c.id, .int .i64 c.m, .int .i64 c.u, .int .i64 c.b, .int .i64 c.cp, .int .i64 c.z, .int .i64 c.s, .int .i64 c.mt, .int .i64 c.o, .int .i64 c.a, .int .i64 c.l]).later (((Below.refl _ _).alloc (Nat.le_refl _) _).alloc (by simp) _)
  · exact (((Below.refl _ w).alloc (Nat.le_refl _) _).alloc (by simp) _).alloc (by simp; omega) _
/-- P9.1: Steps; Count. -/
def stepsA (c : Cf) (a n : Int) : List St := if rightC c a n = true then stepsL c a n.toNat else []
def countA (c : Cf) (a n : Int) : Int := if rightC c a n = true then n + (a + n) / (dataC c * c.u) - a / (dataC c * c.u) else 0
theorem stepsA_len (c : Cf) (a n : Int) : (stepsA c a n).length ≤ 122880 := by
  unfold stepsA
  split
  · rename_i h
    obtain ⟨h1, h2, h3, h4⟩ := rightC_iff.1 h
    have := (ok_of h1).z2
    have := stepsL_len c a n.toNat
    omega
  · simp
theorem gaveS_nil {w w' : World} (hb : Below w.heap.size w w') : GaveS w [] (.returned (.slice none 0 0)) w' := ⟨_, rfl, Rw.nil _ _ _, hb⟩
set_option maxHeartbeats 1000000 in
theorem steps_any (c : Cf) (a n : Int) (w : World) (hn : n ≤ 9223372036854775807) (ha : a ≤ 9223372036854775807) : Calls Try.prog 12 #[(.agg #[.int .i64 c.id, .int .i64 c.m, .int .i64 c.u, .int .i64 c.b, .int .i64 c.cp, .int .i64 c.z, .int .i64 c.s, .int .i64 c.mt, .int .i64 c.o, .int .i64 c.a, .int .i64 c.l]), .int .i64 a, .int .i64 n] w (GaveS w (stepsA c a n)) := by
  by_cases hr : rightC c a n = true
  · have HL : Hid ((stepsA c a n).length ≤ 122880) := stepsA_len c a n
    have HA : Hid (stepsA c a n = stepsL c a n.toNat) := by
      show stepsA c a n = _
      unfold stepsA
      rw [if_pos hr]
    rw [HA.out] at HL ⊢
    have HN : Hid (n = (n.toNat : Int)) := by show n = _; have := (rightC_iff.1 hr).2.2.1; omega
    have HR := Lib.hid hr
    clear hr HA
    go_enter Try.func12, Try.ntmps12
    go_wp2_with fail
    have HV0 := Lib.hid (At.new c w)
    generalize (w.alloc (.cells #[.int .i64 c.id, .int .i64 c.m, .int .i64 c.u, .int .i64 c.b, .int .i64 c.cp, .int .i64 c.z, .int .i64 c.s, .int .i64 c.mt, .int .i64 c.o, .int .i64 c.a, .int .i64 c.l] 23)) = w0 at HV0 ⊢
    obtain ⟨y0, y1, y2, y3, y4, y5, y6, y7, y8, y9, y10⟩ := box11 HV0.out.1
    refine (pwithin_any c a n w0 hn ha).mono ?_
    rintro e w1 ⟨rfl, hb⟩
    rw [HR.out]
    have HV1 := Lib.hid (HV0.out.later hb)
    clear hb HV0 y0 y1 y2 y3 y4 y5 y6 y7 y8 y9 y10
    obtain ⟨y0, y1, y2, y3, y4, y5, y6, y7, y8, y9, y10⟩ := box11 HV1.out.1
    go_wp2_with fail
    refine (writes_any c a n w1).mono ?_
    rintro e w2 ⟨Ba, Bn, Bc, rfl, hat, hb⟩
    have HV2 := Lib.hid (HV1.out.later hb)
    have HW := Lib.hid hat
    clear hb hat HV1 y0 y1 y2 y3 y4 y5 y6 y7 y8 y9 y10
    go_wp2_with fail
    have HH : Hid (Hands 37 #[.pointer (some ⟨Ba, 0, none⟩), .pointer (some ⟨Bn, 0, none⟩), .pointer (some ⟨Bc, 0, none⟩)] (stepsL c a n.toNat) w2) := by
      have h := HW.out
      rw [HN.out] at h
      exact hands_writes c a n.toNat Ba Bn Bc w2 (by rw [← HN.out]; exact HR.out) h
    refine (gather_any 37 _ _ w2 enters37 (Nat.le_trans HL.out (by omega)) HH.out).mono ?_
    rintro e w3 ⟨v, rfl, hrw, hb⟩
    have HV3 := Lib.hid (HV2.out.later hb)
    have HX : Hid (Rw St.cs 41 w3 w.heap.size v (stepsL c a n.toNat)) := hrw.mono HV2.out.2.1.size
    clear hb hrw HV2 HW HH
    go_wp2
    go_ret
    exact ⟨v, rfl, HX.out, HV3.out.2.1⟩
  · have hf : rightC c a n = false := by simpa using hr
    have HA : Hid (stepsA c a n = []) := by
      show stepsA c a n = _
      unfold stepsA
      rw [if_neg hr]
    rw [HA.out]
    have HR := Lib.hid hf
    clear hr hf HA
    go_enter Try.func12, Try.ntmps12
    go_wp2_with fail
    have HV0 := Lib.hid (At.new c w)
    generalize (w.alloc (.cells #[.int .i64 c.id, .int .i64 c.m, .int .i64 c.u, .int .i64 c.b, .int .i64 c.cp, .int .i64 c.z, .int .i64 c.s, .int .i64 c.mt, .int .i64 c.o, .int .i64 c.a, .int .i64 c.l] 23)) = w0 at HV0 ⊢
    obtain ⟨y0, y1, y2, y3, y4, y5, y6, y7, y8, y9, y10⟩ := box11 HV0.out.1
    refine (pwithin_any c a n w0 hn ha).mono ?_
    rintro e w1 ⟨rfl, hb⟩
    rw [HR.out]
    have HV1 := Lib.hid (HV0.out.later hb)
    clear hb HV0 y0 y1 y2 y3 y4 y5 y6 y7 y8 y9 y10
    obtain ⟨y0, y1, y2, y3, y4, y5, y6, y7, y8, y9, y10⟩ := box11 HV1.out.1
    go_wp2
    go_ret
    exact gaveS_nil HV1.out.2.1
theorem count_yes (c : Cf) (a n R X Y : Int) (w : World) (hr : rightC c a n = true) (hR : dataC c * c.u = R) (hX : (a + n) / R = X) (hY : a / R = Y) : Calls Try.prog 13 #[(.agg #[.int .i64 c.id, .int .i64 c.m, .int .i64 c.u, .int .i64 c.b, .int .i64 c.cp, .int .i64 c.z, .int .i64 c.s, .int .i64 c.mt, .int .i64 c.o, .int .i64 c.a, .int .i64 c.l]), .int .i64 a, .int .i64 n] w (Says w (.int .i64 (n + X - Y))) := by
  obtain ⟨h1, h2, h3, h4⟩ := rightC_iff.1 hr
  have o5 := (ok_of h1).r1
  have o6 := (ok_of h1).r2
  have o7 := (ok_of h1).z2
  rw [hR] at o5 o6
  have HR := Lib.hid hR
  have HG := Lib.hid hr
  have h5 : a + n ≤ 61440 := by omega
  clear h4 o7 h1 hr hR
  have d1 := div_in (a := a + n) (b := R) (by omega) (by omega)
  have d2 := div_in (a := a) (b := R) (by omega) (by omega)
  rw [hX] at d1
  rw [hY] at d2
  have HT : Hid ((a + n).tdiv R = X ∧ a.tdiv R = Y) := ⟨by rw [tdiv_of (by omega), hX], by rw [tdiv_of (by omega), hY]⟩
  clear hX hY
  have z0 : ¬ R = 0 := by omega
  have z1 : (R == 0) = false := by simpa using z0
  go_enter Try.func13, Try.ntmps13
  go_wp2_with fail
  have HV0 := Lib.hid (At.new c w)
  generalize (w.alloc (.cells #[.int .i64 c.id, .int .i64 c.m, .int .i64 c.u, .int .i64 c.b, .int .i64 c.cp, .int .i64 c.z, .int .i64 c.s, .int .i64 c.mt, .int .i64 c.o, .int .i64 c.a, .int .i64 c.l] 23)) = w0 at HV0 ⊢
  obtain ⟨y0, y1, y2, y3, y4, y5, y6, y7, y8, y9, y10⟩ := box11 HV0.out.1
  refine (pwithin_any c a n w0 (by omega) (by omega)).mono ?_
  rintro e w1 ⟨rfl, hb⟩
  rw [HG.out]
  have HV1 := Lib.hid (HV0.out.later hb)
  clear hb HV0 y0 y1 y2 y3 y4 y5 y6 y7 y8 y9 y10
  obtain ⟨y0, y1, y2, y3, y4, y5, y6, y7, y8, y9, y10⟩ := box11 HV1.out.1
  go_wp2_with fail
  refine (row_to HR.out w1).mono ?_
  rintro e w2 ⟨rfl, hb⟩
  have HV2 := Lib.hid (HV1.out.later hb)
  clear hb HV1 y0 y1 y2 y3 y4 y5 y6 y7 y8 y9 y10
  obtain ⟨y0, y1, y2, y3, y4, y5, y6, y7, y8, y9, y10⟩ := box11 HV2.out.1
  have t1 := HT.out.1
  have t2 := HT.out.2
  go_upto_region 4 with fail
  go_region
  all_goals go_wp2
  all_goals go_ret
  all_goals exact ⟨rfl, HV2.out.2.1.drew⟩
theorem count_any (c : Cf) (a n : Int) (w : World) (hn : n ≤ 9223372036854775807) (ha : a ≤ 9223372036854775807) : Calls Try.prog 13 #[(.agg #[.int .i64 c.id, .int .i64 c.m, .int .i64 c.u, .int .i64 c.b, .int .i64 c.cp, .int .i64 c.z, .int .i64 c.s, .int .i64 c.mt, .int .i64 c.o, .int .i64 c.a, .int .i64 c.l]), .int .i64 a, .int .i64 n] w (Says w (.int .i64 (countA c a n))) := by
  by_cases hr : rightC c a n = true
  · have HA : Hid (countA c a n = n + (a + n) / (dataC c * c.u) - a / (dataC c * c.u)) := by
      show countA c a n = _
      unfold countA
      rw [if_pos hr]
    rw [HA.out]
    exact count_yes c a n _ _ _ w hr rfl rfl rfl
  · have hf : rightC c a n = false := by simpa using hr
    have HA : Hid (countA c a n = 0) := by
      show countA c a n = _
      unfold countA
      rw [if_neg hr]
    rw [HA.out]
    have HR := Lib.hid hf
    clear hr hf HA
    go_enter Try.func13, Try.ntmps13
    go_wp2_with fail
    have HV0 := Lib.hid (At.new c w)
    generalize (w.alloc (.cells #[.int .i64 c.id, .int .i64 c.m, .int .i64 c.u, .int .i64 c.b, .int .i64 c.cp, .int .i64 c.z, .int .i64 c.s, .int .i64 c.mt, .int .i64 c.o, .int .i64 c.a, .int .i64 c.l] 23)) = w0 at HV0 ⊢
    obtain ⟨y0, y1, y2, y3, y4, y5, y6, y7, y8, y9, y10⟩ := box11 HV0.out.1
    refine (pwithin_any c a n w0 hn ha).mono ?_
    rintro e w1 ⟨rfl, hb⟩
    rw [HR.out]
    have HV1 := Lib.hid (HV0.out.later hb)
    clear hb HV0 y0 y1 y2 y3 y4 y5 y6 y7 y8 y9 y10
    obtain ⟨y0, y1, y2, y3, y4, y5, y6, y7, y8, y9, y10⟩ := box11 HV1.out.1
    go_wp2
    go_ret
    exact ⟨rfl, HV1.out.2.1⟩

theorem div_succ {x R : Int} (hR : 0 < R) : (x + 1) / R = x / R + if (x + 1) % R = 0 then 1 else 0 := by
  have h1 := Int.mul_ediv_add_emod x R
  have h2 := Int.emod_nonneg x (show R ≠ 0 by omega)
  have h3 := Int.emod_lt_of_pos x hR
  by_cases h : x % R = R - 1
  · have : (x + 1) / R = x / R + 1 ∧ (x + 1) % R = 0 := (Int.ediv_emod_unique hR).2 ⟨by rw [Int.mul_add]; omega, by omega, by omega⟩
    rw [this.1, this.2, if_pos rfl]
  · have : (x + 1) / R = x / R ∧ (x + 1) % R = x % R + 1 := (Int.ediv_emod_unique hR).2 ⟨by omega, by omega, by omega⟩
    rw [this.1, this.2, if_neg (by omega)]
    omega
theorem count_len {c : Cf} (hc : checkC c = 0) (a : Int) (k : Nat) : ((stepsL c a k).length : Int) = k + (a + k) / (dataC c * c.u) - a / (dataC c * c.u) := by
  have hR := (ok_of hc).r1
  induction k with
  | zero => simp [stepsL_zero]
  | succ k ih =>
    rw [stepsL_succ, List.length_append]
    have e : a + ((k + 1 : Nat) : Int) = a + k + 1 := by push_cast; omega
    rw [e, div_succ (by omega)]
    have hl : ((stepsOf c (a + k)).length : Int) = 1 + if (a + k + 1) % (dataC c * c.u) = 0 then 1 else 0 := by
      unfold stepsOf
      split <;> simp
    push_cast
    rw [ih, hl]
    omega
theorem countA_eq (c : Cf) (a n : Int) : countA c a n = ((stepsA c a n).length : Int) := by
  unfold countA stepsA
  split
  · rename_i h
    obtain ⟨h1, h2, h3, h4⟩ := rightC_iff.1 h
    rw [count_len h1]
    have e : ((n.toNat : Nat) : Int) = n := by omega
    rw [e]
  · rfl
end Go.Proofs.Yteglgopbagefcaa
