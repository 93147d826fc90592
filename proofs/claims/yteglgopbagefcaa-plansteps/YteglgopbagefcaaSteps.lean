/- The walk of PlanSteps. -/
import Derived.Test.YteglgopbagefcaaPg
import Derived.Test.YteglgopbagefcaaPh
namespace Go.Proofs.Yteglgopbagefcaa
set_option linter.unusedVariables false
set_option linter.unusedSimpArgs false
open Go.RowKit Go.Shelf
open Go.RowKit (wrap64)

set_option maxHeartbeats 2000000 in
theorem planSteps_walk (c : Cf) (a n : Int) (w : World) (hn : n ≤ 9223372036854775807) (ha : a ≤ 9223372036854775807) : Calls Try.prog 3 #[(.agg #[.int .i64 c.id, .int .i64 c.m, .int .i64 c.u, .int .i64 c.b, .int .i64 c.cp, .int .i64 c.z, .int .i64 c.s, .int .i64 c.mt, .int .i64 c.o, .int .i64 c.a, .int .i64 c.l]), .int .i64 a, .int .i64 n] w (Says w (.bool true)) := by
  by_cases hc : checkC c = 0
  · by_cases hs : smallC c = true
    · have HS := Lib.hid hs
      clear hs
      go_enter Try.func3, Try.ntmps3
      go_wp2_with fail
      have HV0 := Lib.hid (At.new c w)
      generalize (w.alloc (.cells #[.int .i64 c.id, .int .i64 c.m, .int .i64 c.u, .int .i64 c.b, .int .i64 c.cp, .int .i64 c.z, .int .i64 c.s, .int .i64 c.mt, .int .i64 c.o, .int .i64 c.a, .int .i64 c.l] 23)) = w0 at HV0 ⊢
      obtain ⟨y0, y1, y2, y3, y4, y5, y6, y7, y8, y9, y10⟩ := box11 HV0.out.1
      refine (refCheck_any c w0).mono ?_
      rintro e w1 ⟨rfl, hb⟩
      rw [hc]
      clear hc
      have HV1 := Lib.hid (HV0.out.later hb)
      clear hb HV0 y0 y1 y2 y3 y4 y5 y6 y7 y8 y9 y10
      obtain ⟨y0, y1, y2, y3, y4, y5, y6, y7, y8, y9, y10⟩ := box11 HV1.out.1
      go_wp2_with fail
      refine (small_any c w1).mono ?_
      rintro e w2 ⟨rfl, hb⟩
      rw [HS.out]
      have HV2 := Lib.hid (HV1.out.later hb)
      clear hb HV1 y0 y1 y2 y3 y4 y5 y6 y7 y8 y9 y10
      obtain ⟨y0, y1, y2, y3, y4, y5, y6, y7, y8, y9, y10⟩ := box11 HV2.out.1
      go_wp2_with fail
      refine (rSteps_any c a n w2 hn ha).mono ?_
      rintro e w3 ⟨v1, rfl, hrw, hb⟩
      have HV3 := Lib.hid (HV2.out.later hb)
      have HR1 := Lib.hid hrw
      clear hrw hb HV2 y0 y1 y2 y3 y4 y5 y6 y7 y8 y9 y10
      obtain ⟨y0, y1, y2, y3, y4, y5, y6, y7, y8, y9, y10⟩ := box11 HV3.out.1
      go_wp2_with fail
      refine (steps_any c a n w3 hn ha).mono ?_
      rintro e w4 ⟨v2, rfl, hrw, hb⟩
      have HV4 := Lib.hid (HV3.out.later hb)
      have HR1b := Lib.hid (HR1.out.later hb)
      obtain ⟨A, ca, rfl, hca, hsA⟩ := HR1b.out.seen St.len
      obtain ⟨D, cb, rfl, hcb, hsB⟩ := hrw.seen St.len
      have HSA := Lib.hid hsA
      have HSB := Lib.hid hsB
      clear hrw hb HV3 HR1 HR1b hsA hsB y0 y1 y2 y3 y4 y5 y6 y7 y8 y9 y10
      obtain ⟨y0, y1, y2, y3, y4, y5, y6, y7, y8, y9, y10⟩ := box11 HV4.out.1
      have HL := Lib.hid (stepsA_len c a n)
      go_wp2_with fail
      refine (same_eq D A cb ca (stepsA c a n) w4 HSB.out HSA.out (Nat.le_trans HL.out (by omega))).mono ?_
      rintro e w5 ⟨rfl, hb⟩
      have HV5 := Lib.hid (HV4.out.later hb)
      clear hb HV4 HSA HSB y0 y1 y2 y3 y4 y5 y6 y7 y8 y9 y10
      obtain ⟨y0, y1, y2, y3, y4, y5, y6, y7, y8, y9, y10⟩ := box11 HV5.out.1
      go_wp2_with fail
      refine (count_any c a n w5 hn ha).mono ?_
      rintro e w6 ⟨rfl, hb⟩
      have HV6 := Lib.hid (HV5.out.later hb)
      clear hb HV5 y0 y1 y2 y3 y4 y5 y6 y7 y8 y9 y10 HL
      rw [countA_eq]
      generalize (stepsA c a n).length = N at *
      go_wp2_with fail
      refine (live_any w6).mono ?_
      rintro e w7 ⟨rfl, hb⟩
      have HV7 := Lib.hid (HV6.out.later hb)
      clear hb HV6
      go_wp2
      go_ret
      exact ⟨rfl, HV7.out.2.1⟩
    · have hf : smallC c = false := by simpa using hs
      have HS := Lib.hid hf
      clear hs hf
      go_enter Try.func3, Try.ntmps3
      go_wp2_with fail
      have HV0 := Lib.hid (At.new c w)
      generalize (w.alloc (.cells #[.int .i64 c.id, .int .i64 c.m, .int .i64 c.u, .int .i64 c.b, .int .i64 c.cp, .int .i64 c.z, .int .i64 c.s, .int .i64 c.mt, .int .i64 c.o, .int .i64 c.a, .int .i64 c.l] 23)) = w0 at HV0 ⊢
      obtain ⟨y0, y1, y2, y3, y4, y5, y6, y7, y8, y9, y10⟩ := box11 HV0.out.1
      refine (refCheck_any c w0).mono ?_
      rintro e w1 ⟨rfl, hb⟩
      rw [hc]
      clear hc
      have HV1 := Lib.hid (HV0.out.later hb)
      clear hb HV0 y0 y1 y2 y3 y4 y5 y6 y7 y8 y9 y10
      obtain ⟨y0, y1, y2, y3, y4, y5, y6, y7, y8, y9, y10⟩ := box11 HV1.out.1
      go_wp2_with fail
      refine (small_any c w1).mono ?_
      rintro e w2 ⟨rfl, hb⟩
      rw [HS.out]
      have HV2 := Lib.hid (HV1.out.later hb)
      clear hb HV1 y0 y1 y2 y3 y4 y5 y6 y7 y8 y9 y10
      obtain ⟨y0, y1, y2, y3, y4, y5, y6, y7, y8, y9, y10⟩ := box11 HV2.out.1
      go_wp2_with fail
      refine (live_any w2).mono ?_
      rintro e w3 ⟨rfl, hb⟩
      have HV3 := Lib.hid (HV2.out.later hb)
      clear hb HV2 y0 y1 y2 y3 y4 y5 y6 y7 y8 y9 y10
      obtain ⟨y0, y1, y2, y3, y4, y5, y6, y7, y8, y9, y10⟩ := box11 HV3.out.1
      go_wp2
      go_ret
      exact ⟨rfl, HV3.out.2.1⟩
  · skip
    go_enter Try.func3, Try.ntmps3
    go_wp2_with fail
    have HV0 := Lib.hid (At.new c w)
    generalize (w.alloc (.cells #[.int .i64 c.id, .int .i64 c.m, .int .i64 c.u, .int .i64 c.b, .int .i64 c.cp, .int .i64 c.z, .int .i64 c.s, .int .i64 c.mt, .int .i64 c.o, .int .i64 c.a, .int .i64 c.l] 23)) = w0 at HV0 ⊢
    obtain ⟨y0, y1, y2, y3, y4, y5, y6, y7, y8, y9, y10⟩ := box11 HV0.out.1
    refine (refCheck_any c w0).mono ?_
    rintro e w1 ⟨rfl, hb⟩
    generalize checkC c = x at hc ⊢
    have e1 : (x == 0) = false := by simpa using hc
    have HV1 := Lib.hid (HV0.out.later hb)
    clear hb HV0 y0 y1 y2 y3 y4 y5 y6 y7 y8 y9 y10
    obtain ⟨y0, y1, y2, y3, y4, y5, y6, y7, y8, y9, y10⟩ := box11 HV1.out.1
    go_wp2_with fail
    refine (rSteps_any c a n w1 hn ha).mono ?_
    rintro e w2 ⟨v1, rfl, hrw, hb⟩
    have HV2 := Lib.hid (HV1.out.later hb)
    have HR1 := Lib.hid hrw
    clear hrw hb HV1 y0 y1 y2 y3 y4 y5 y6 y7 y8 y9 y10
    obtain ⟨y0, y1, y2, y3, y4, y5, y6, y7, y8, y9, y10⟩ := box11 HV2.out.1
    go_wp2_with fail
    refine (steps_any c a n w2 hn ha).mono ?_
    rintro e w3 ⟨v2, rfl, hrw, hb⟩
    have HV3 := Lib.hid (HV2.out.later hb)
    have HR1b := Lib.hid (HR1.out.later hb)
    obtain ⟨A, ca, rfl, hca, hsA⟩ := HR1b.out.seen St.len
    obtain ⟨D, cb, rfl, hcb, hsB⟩ := hrw.seen St.len
    have HSA := Lib.hid hsA
    have HSB := Lib.hid hsB
    clear hrw hb HV2 HR1 HR1b hsA hsB y0 y1 y2 y3 y4 y5 y6 y7 y8 y9 y10
    obtain ⟨y0, y1, y2, y3, y4, y5, y6, y7, y8, y9, y10⟩ := box11 HV3.out.1
    have HL := Lib.hid (stepsA_len c a n)
    go_wp2_with fail
    refine (same_eq D A cb ca (stepsA c a n) w3 HSB.out HSA.out (Nat.le_trans HL.out (by omega))).mono ?_
    rintro e w4 ⟨rfl, hb⟩
    have HV4 := Lib.hid (HV3.out.later hb)
    clear hb HV3 HSA HSB y0 y1 y2 y3 y4 y5 y6 y7 y8 y9 y10
    obtain ⟨y0, y1, y2, y3, y4, y5, y6, y7, y8, y9, y10⟩ := box11 HV4.out.1
    go_wp2_with fail
    refine (count_any c a n w4 hn ha).mono ?_
    rintro e w5 ⟨rfl, hb⟩
    have HV5 := Lib.hid (HV4.out.later hb)
    clear hb HV4 y0 y1 y2 y3 y4 y5 y6 y7 y8 y9 y10 HL
    rw [countA_eq]
    generalize (stepsA c a n).length = N at *
    go_wp2_with fail
    refine (live_any w5).mono ?_
    rintro e w6 ⟨rfl, hb⟩
    have HV6 := Lib.hid (HV5.out.later hb)
    clear hb HV5
    go_wp2
    go_ret
    exact ⟨rfl, HV6.out.2.1⟩
end Go.Proofs.Yteglgopbagefcaa
