/- Contracts of hasStripe, hasMember, Parity, Member, Unit. -/
import Derived.Test.YteglgopbagefcaaO
namespace Go.Proofs.Yteglgopbagefcaa
set_option linter.unusedVariables false
set_option linter.unusedSimpArgs false
open Go.RowKit
open Go.RowKit (wrap64)

/-- May these settings be, and have they that stripe? -/
def hasS (c : Cf) (s : Int) : Bool := decide (checkC c = 0 ∧ 0 ≤ s ∧ s < stripesC c)
/-- May these settings be, and have they that member? -/
def hasM (c : Cf) (m : Int) : Bool := decide (checkC c = 0 ∧ 0 ≤ m ∧ m < c.m)
theorem hasS_iff {c : Cf} {s : Int} : hasS c s = true ↔ checkC c = 0 ∧ 0 ≤ s ∧ s < stripesC c := by simp [hasS]
theorem hasM_iff {c : Cf} {m : Int} : hasM c m = true ↔ checkC c = 0 ∧ 0 ≤ m ∧ m < c.m := by simp [hasM]
set_option maxHeartbeats 1000000 in
theorem hasS_any (c : Cf) (s : Int) (w : World) : Calls Try.prog 62 #[(.agg #[.int .i64 c.id, .int .i64 c.m, .int .i64 c.u, .int .i64 c.b, .int .i64 c.cp, .int .i64 c.z, .int .i64 c.s, .int .i64 c.mt, .int .i64 c.o, .int .i64 c.a, .int .i64 c.l]), .int .i64 s] w (Says w (.bool (hasS c s))) := by
  by_cases hc : checkC c = 0
  · have HB : Hid (hasS c s = belowC s (stripesC c)) := by
      show hasS c s = _
      simp [hasS, belowC, hc]
    rw [HB.out]
    clear HB
    go_enter Try.func62, Try.ntmps62
    go_wp2_with fail
    have HV0 := Lib.hid (At.new c w)
    generalize (w.alloc (.cells #[.int .i64 c.id, .int .i64 c.m, .int .i64 c.u, .int .i64 c.b, .int .i64 c.cp, .int .i64 c.z, .int .i64 c.s, .int .i64 c.mt, .int .i64 c.o, .int .i64 c.a, .int .i64 c.l] 23)) = w0 at HV0 ⊢
    obtain ⟨y0, y1, y2, y3, y4, y5, y6, y7, y8, y9, y10⟩ := box11 HV0.out.1
    refine (check_any c w0).mono ?_
    rintro e w1 ⟨rfl, hb⟩
    rw [hc]
    clear hc
    have HV1 := Lib.hid (HV0.out.later hb)
    clear hb HV0 y0 y1 y2 y3 y4 y5 y6 y7 y8 y9 y10
    obtain ⟨y0, y1, y2, y3, y4, y5, y6, y7, y8, y9, y10⟩ := box11 HV1.out.1
    go_wp2_with fail
    refine (stripes_any c w1).mono ?_
    rintro e w2 ⟨rfl, hb⟩
    have HV2 := Lib.hid (HV1.out.later hb)
    clear hb HV1 y0 y1 y2 y3 y4 y5 y6 y7 y8 y9 y10
    obtain ⟨y0, y1, y2, y3, y4, y5, y6, y7, y8, y9, y10⟩ := box11 HV2.out.1
    go_wp2_with fail
    refine (below_any s (stripesC c) w2).mono ?_
    rintro e w' ⟨rfl, rfl⟩
    go_wp2
    go_ret
    exact ⟨rfl, HV2.out.2.1⟩
  · have HB : Hid (hasS c s = false) := by
      show hasS c s = _
      simp [hasS, hc]
    rw [HB.out]
    clear HB
    go_enter Try.func62, Try.ntmps62
    go_wp2_with fail
    have HV0 := Lib.hid (At.new c w)
    generalize (w.alloc (.cells #[.int .i64 c.id, .int .i64 c.m, .int .i64 c.u, .int .i64 c.b, .int .i64 c.cp, .int .i64 c.z, .int .i64 c.s, .int .i64 c.mt, .int .i64 c.o, .int .i64 c.a, .int .i64 c.l] 23)) = w0 at HV0 ⊢
    obtain ⟨y0, y1, y2, y3, y4, y5, y6, y7, y8, y9, y10⟩ := box11 HV0.out.1
    refine (check_any c w0).mono ?_
    rintro e w1 ⟨rfl, hb⟩
    generalize checkC c = x at hc ⊢
    have e1 : (x == 0) = false := by simpa using hc
    have HV1 := Lib.hid (HV0.out.later hb)
    clear hb HV0 y0 y1 y2 y3 y4 y5 y6 y7 y8 y9 y10
    obtain ⟨y0, y1, y2, y3, y4, y5, y6, y7, y8, y9, y10⟩ := box11 HV1.out.1
    go_wp2
    go_ret
    exact ⟨rfl, HV1.out.2.1⟩
set_option maxHeartbeats 1000000 in
theorem hasM_any (c : Cf) (s : Int) (w : World) : Calls Try.prog 64 #[(.agg #[.int .i64 c.id, .int .i64 c.m, .int .i64 c.u, .int .i64 c.b, .int .i64 c.cp, .int .i64 c.z, .int .i64 c.s, .int .i64 c.mt, .int .i64 c.o, .int .i64 c.a, .int .i64 c.l]), .int .i64 s] w (Says w (.bool (hasM c s))) := by
  by_cases hc : checkC c = 0
  · have HB : Hid (hasM c s = belowC s (c.m)) := by
      show hasM c s = _
      simp [hasM, belowC, hc]
    rw [HB.out]
    clear HB
    go_enter Try.func64, Try.ntmps64
    go_wp2_with fail
    have HV0 := Lib.hid (At.new c w)
    generalize (w.alloc (.cells #[.int .i64 c.id, .int .i64 c.m, .int .i64 c.u, .int .i64 c.b, .int .i64 c.cp, .int .i64 c.z, .int .i64 c.s, .int .i64 c.mt, .int .i64 c.o, .int .i64 c.a, .int .i64 c.l] 23)) = w0 at HV0 ⊢
    obtain ⟨y0, y1, y2, y3, y4, y5, y6, y7, y8, y9, y10⟩ := box11 HV0.out.1
    refine (check_any c w0).mono ?_
    rintro e w1 ⟨rfl, hb⟩
    rw [hc]
    clear hc
    have HV1 := Lib.hid (HV0.out.later hb)
    clear hb HV0 y0 y1 y2 y3 y4 y5 y6 y7 y8 y9 y10
    obtain ⟨y0, y1, y2, y3, y4, y5, y6, y7, y8, y9, y10⟩ := box11 HV1.out.1
    go_wp2_with fail
    refine (below_any s c.m w1).mono ?_
    rintro e w' ⟨rfl, rfl⟩
    go_wp2
    go_ret
    exact ⟨rfl, HV1.out.2.1⟩
  · have HB : Hid (hasM c s = false) := by
      show hasM c s = _
      simp [hasM, hc]
    rw [HB.out]
    clear HB
    go_enter Try.func64, Try.ntmps64
    go_wp2_with fail
    have HV0 := Lib.hid (At.new c w)
    generalize (w.alloc (.cells #[.int .i64 c.id, .int .i64 c.m, .int .i64 c.u, .int .i64 c.b, .int .i64 c.cp, .int .i64 c.z, .int .i64 c.s, .int .i64 c.mt, .int .i64 c.o, .int .i64 c.a, .int .i64 c.l] 23)) = w0 at HV0 ⊢
    obtain ⟨y0, y1, y2, y3, y4, y5, y6, y7, y8, y9, y10⟩ := box11 HV0.out.1
    refine (check_any c w0).mono ?_
    rintro e w1 ⟨rfl, hb⟩
    generalize checkC c = x at hc ⊢
    have e1 : (x == 0) = false := by simpa using hc
    have HV1 := Lib.hid (HV0.out.later hb)
    clear hb HV0 y0 y1 y2 y3 y4 y5 y6 y7 y8 y9 y10
    obtain ⟨y0, y1, y2, y3, y4, y5, y6, y7, y8, y9, y10⟩ := box11 HV1.out.1
    go_wp2
    go_ret
    exact ⟨rfl, HV1.out.2.1⟩
/-- P8.1: Parity. -/
def parityA (c : Cf) (s : Int) : Int := if hasS c s = true then s % c.m else 0
set_option maxHeartbeats 1000000 in
theorem parity_any (c : Cf) (s : Int) (w : World) : Calls Try.prog 53 #[(.agg #[.int .i64 c.id, .int .i64 c.m, .int .i64 c.u, .int .i64 c.b, .int .i64 c.cp, .int .i64 c.z, .int .i64 c.s, .int .i64 c.mt, .int .i64 c.o, .int .i64 c.a, .int .i64 c.l]), .int .i64 s] w (Says w (.int .i64 (parityA c s))) := by
  unfold parityA
  by_cases hc : hasS c s = true
  · rw [if_pos hc]
    have HH := Lib.hid (hasS_iff.1 hc)
    have HO := Lib.hid (ok_of HH.out.1)
    go_enter Try.func53, Try.ntmps53
    go_wp2_with fail
    have HV0 := Lib.hid (At.new c w)
    generalize (w.alloc (.cells #[.int .i64 c.id, .int .i64 c.m, .int .i64 c.u, .int .i64 c.b, .int .i64 c.cp, .int .i64 c.z, .int .i64 c.s, .int .i64 c.mt, .int .i64 c.o, .int .i64 c.a, .int .i64 c.l] 23)) = w0 at HV0 ⊢
    obtain ⟨y0, y1, y2, y3, y4, y5, y6, y7, y8, y9, y10⟩ := box11 HV0.out.1
    refine (hasS_any c s w0).mono ?_
    rintro e w1 ⟨rfl, hb⟩
    rw [hc]
    clear hc
    have HV1 := Lib.hid (HV0.out.later hb)
    clear hb HV0 y0 y1 y2 y3 y4 y5 y6 y7 y8 y9 y10
    obtain ⟨y0, y1, y2, y3, y4, y5, y6, y7, y8, y9, y10⟩ := box11 HV1.out.1
    go_wp2_with fail
    refine (par_any c s w1 ⟨HO.out.m1, HO.out.m2⟩ ⟨HH.out.2.1, by have := HH.out.2.2; have := HO.out.s2; omega⟩).mono ?_
    rintro e w2 ⟨rfl, hb⟩
    have HV2 := Lib.hid (HV1.out.later hb)
    clear hb HV1 y0 y1 y2 y3 y4 y5 y6 y7 y8 y9 y10
    obtain ⟨y0, y1, y2, y3, y4, y5, y6, y7, y8, y9, y10⟩ := box11 HV2.out.1
    go_wp2
    go_ret
    exact ⟨rfl, HV2.out.2.1⟩
  · rw [if_neg hc]
    have hc : hasS c s = false := by simpa using hc
    go_enter Try.func53, Try.ntmps53
    go_wp2_with fail
    have HV0 := Lib.hid (At.new c w)
    generalize (w.alloc (.cells #[.int .i64 c.id, .int .i64 c.m, .int .i64 c.u, .int .i64 c.b, .int .i64 c.cp, .int .i64 c.z, .int .i64 c.s, .int .i64 c.mt, .int .i64 c.o, .int .i64 c.a, .int .i64 c.l] 23)) = w0 at HV0 ⊢
    obtain ⟨y0, y1, y2, y3, y4, y5, y6, y7, y8, y9, y10⟩ := box11 HV0.out.1
    refine (hasS_any c s w0).mono ?_
    rintro e w1 ⟨rfl, hb⟩
    rw [hc]
    clear hc
    have HV1 := Lib.hid (HV0.out.later hb)
    clear hb HV0 y0 y1 y2 y3 y4 y5 y6 y7 y8 y9 y10
    obtain ⟨y0, y1, y2, y3, y4, y5, y6, y7, y8, y9, y10⟩ := box11 HV1.out.1
    go_wp2
    go_ret
    exact ⟨rfl, HV1.out.2.1⟩
/-- P8.1: Member. -/
def memberA (c : Cf) (s u : Int) : Int := if hasS c s = true ∧ belowC u (dataC c) = true then (s % c.m + 1 + u) % c.m else 0
/-- P8.1: Unit. -/
def unitA (c : Cf) (s m : Int) : Int := if hasS c s = true ∧ belowC m c.m = true then uniC c s m else 0
end Go.Proofs.Yteglgopbagefcaa
