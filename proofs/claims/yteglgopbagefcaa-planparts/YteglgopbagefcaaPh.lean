/- The contracts of the reference's Small and of the example. -/
import Derived.Test.YteglgopbagefcaaPe
namespace Go.Proofs.Yteglgopbagefcaa
set_option linter.unusedVariables false
set_option linter.unusedSimpArgs false
open Go.RowKit Go.Shelf
open Go.RowKit (wrap64)

/-- Settings that are small. -/
def smallC (c : Cf) : Bool := decide (checkC c = 0 ∧ c.m ≤ 5 ∧ c.u ≤ 3 ∧ c.b ≤ 128 ∧ c.cp ≤ 32 ∧ c.z ≤ 4 ∧ c.s ≤ 2 ∧ c.mt ≤ 4)
theorem smallC_iff {c : Cf} : smallC c = true ↔ checkC c = 0 ∧ c.m ≤ 5 ∧ c.u ≤ 3 ∧ c.b ≤ 128 ∧ c.cp ≤ 32 ∧ c.z ≤ 4 ∧ c.s ≤ 2 ∧ c.mt ≤ 4 := by simp [smallC]
set_option maxHeartbeats 2000000 in
theorem small_any (c : Cf) (w : World) : Calls Try.prog 8 #[(.agg #[.int .i64 c.id, .int .i64 c.m, .int .i64 c.u, .int .i64 c.b, .int .i64 c.cp, .int .i64 c.z, .int .i64 c.s, .int .i64 c.mt, .int .i64 c.o, .int .i64 c.a, .int .i64 c.l])] w (Says w (.bool (smallC c))) := by
  by_cases hc : checkC c = 0
  · skip
    by_cases h0 : c.m ≤ 5
    · skip
      by_cases h1 : c.u ≤ 3
      · skip
        by_cases h2 : c.b ≤ 128
        · skip
          by_cases h3 : c.cp ≤ 32
          · skip
            by_cases h4 : c.z ≤ 4
            · skip
              by_cases h5 : c.s ≤ 2
              · skip
                by_cases h6 : c.mt ≤ 4
                · skip
                  have HB : Hid (smallC c = true) := by
                    show smallC c = _
                    simp [smallC, *]
                  rw [HB.out]
                  clear HB
                  go_enter Try.func8, Try.ntmps8
                  go_wp2_with fail
                  have HV0 := Lib.hid (At.new c w)
                  generalize (w.alloc (.cells #[.int .i64 c.id, .int .i64 c.m, .int .i64 c.u, .int .i64 c.b, .int .i64 c.cp, .int .i64 c.z, .int .i64 c.s, .int .i64 c.mt, .int .i64 c.o, .int .i64 c.a, .int .i64 c.l] 23)) = w0 at HV0 ⊢
                  obtain ⟨y0, y1, y2, y3, y4, y5, y6, y7, y8, y9, y10⟩ := box11 HV0.out.1
                  refine (refCheck_any c w0).mono ?_
                  rintro e w1 ⟨rfl, hb⟩
                  rw [hc]
                  clear hc
                  have HV1 := Lib.hid (HV0.out.later hb)
                  clear hb HV0 y0 y1 y2 y3 y4 y5 y6 y7 y8 y9 y10
                  obtain ⟨y0, y1, y2, y3, y4, y5, y6, y7, y8, y9, y10⟩ := box11 HV1.out.1
                  go_wp2
                  go_ret
                  exact ⟨rfl, HV1.out.2.1⟩
                · skip
                  have HB : Hid (smallC c = false) := by
                    show smallC c = _
                    simp [smallC, *]
                  rw [HB.out]
                  clear HB
                  go_enter Try.func8, Try.ntmps8
                  go_wp2_with fail
                  have HV0 := Lib.hid (At.new c w)
                  generalize (w.alloc (.cells #[.int .i64 c.id, .int .i64 c.m, .int .i64 c.u, .int .i64 c.b, .int .i64 c.cp, .int .i64 c.z, .int .i64 c.s, .int .i64 c.mt, .int .i64 c.o, .int .i64 c.a, .int .i64 c.l] 23)) = w0 at HV0 ⊢
                  obtain ⟨y0, y1, y2, y3, y4, y5, y6, y7, y8, y9, y10⟩ := box11 HV0.out.1
                  refine (refCheck_any c w0).mono ?_
                  rintro e w1 ⟨rfl, hb⟩
                  rw [hc]
                  clear hc
                  have HV1 := Lib.hid (HV0.out.later hb)
                  clear hb HV0 y0 y1 y2 y3 y4 y5 y6 y7 y8 y9 y10
                  obtain ⟨y0, y1, y2, y3, y4, y5, y6, y7, y8, y9, y10⟩ := box11 HV1.out.1
                  go_wp2
                  go_ret
                  exact ⟨(by show Ending.returned (.bool (decide (c.mt ≤ 4))) = _; rw [decide_eq_false (by omega)]), HV1.out.2.1⟩
              · skip
                have HB : Hid (smallC c = false) := by
                  show smallC c = _
                  simp [smallC, *]
                rw [HB.out]
                clear HB
                go_enter Try.func8, Try.ntmps8
                go_wp2_with fail
                have HV0 := Lib.hid (At.new c w)
                generalize (w.alloc (.cells #[.int .i64 c.id, .int .i64 c.m, .int .i64 c.u, .int .i64 c.b, .int .i64 c.cp, .int .i64 c.z, .int .i64 c.s, .int .i64 c.mt, .int .i64 c.o, .int .i64 c.a, .int .i64 c.l] 23)) = w0 at HV0 ⊢
                obtain ⟨y0, y1, y2, y3, y4, y5, y6, y7, y8, y9, y10⟩ := box11 HV0.out.1
                refine (refCheck_any c w0).mono ?_
                rintro e w1 ⟨rfl, hb⟩
                rw [hc]
                clear hc
                have HV1 := Lib.hid (HV0.out.later hb)
                clear hb HV0 y0 y1 y2 y3 y4 y5 y6 y7 y8 y9 y10
                obtain ⟨y0, y1, y2, y3, y4, y5, y6, y7, y8, y9, y10⟩ := box11 HV1.out.1
                go_wp2
                go_ret
                exact ⟨rfl, HV1.out.2.1⟩
            · skip
              have HB : Hid (smallC c = false) := by
                show smallC c = _
                simp [smallC, *]
              rw [HB.out]
              clear HB
              go_enter Try.func8, Try.ntmps8
              go_wp2_with fail
              have HV0 := Lib.hid (At.new c w)
              generalize (w.alloc (.cells #[.int .i64 c.id, .int .i64 c.m, .int .i64 c.u, .int .i64 c.b, .int .i64 c.cp, .int .i64 c.z, .int .i64 c.s, .int .i64 c.mt, .int .i64 c.o, .int .i64 c.a, .int .i64 c.l] 23)) = w0 at HV0 ⊢
              obtain ⟨y0, y1, y2, y3, y4, y5, y6, y7, y8, y9, y10⟩ := box11 HV0.out.1
              refine (refCheck_any c w0).mono ?_
              rintro e w1 ⟨rfl, hb⟩
              rw [hc]
              clear hc
              have HV1 := Lib.hid (HV0.out.later hb)
              clear hb HV0 y0 y1 y2 y3 y4 y5 y6 y7 y8 y9 y10
              obtain ⟨y0, y1, y2, y3, y4, y5, y6, y7, y8, y9, y10⟩ := box11 HV1.out.1
              go_wp2
              go_ret
              exact ⟨rfl, HV1.out.2.1⟩
          · skip
            have HB : Hid (smallC c = false) := by
              show smallC c = _
              simp [smallC, *]
            rw [HB.out]
            clear HB
            go_enter Try.func8, Try.ntmps8
            go_wp2_with fail
            have HV0 := Lib.hid (At.new c w)
            generalize (w.alloc (.cells #[.int .i64 c.id, .int .i64 c.m, .int .i64 c.u, .int .i64 c.b, .int .i64 c.cp, .int .i64 c.z, .int .i64 c.s, .int .i64 c.mt, .int .i64 c.o, .int .i64 c.a, .int .i64 c.l] 23)) = w0 at HV0 ⊢
            obtain ⟨y0, y1, y2, y3, y4, y5, y6, y7, y8, y9, y10⟩ := box11 HV0.out.1
            refine (refCheck_any c w0).mono ?_
            rintro e w1 ⟨rfl, hb⟩
            rw [hc]
            clear hc
            have HV1 := Lib.hid (HV0.out.later hb)
            clear hb HV0 y0 y1 y2 y3 y4 y5 y6 y7 y8 y9 y10
            obtain ⟨y0, y1, y2, y3, y4, y5, y6, y7, y8, y9, y10⟩ := box11 HV1.out.1
            go_wp2
            go_ret
            exact ⟨rfl, HV1.out.2.1⟩
        · skip
          have HB : Hid (smallC c = false) := by
            show smallC c = _
            simp [smallC, *]
          rw [HB.out]
          clear HB
          go_enter Try.func8, Try.ntmps8
          go_wp2_with fail
          have HV0 := Lib.hid (At.new c w)
          generalize (w.alloc (.cells #[.int .i64 c.id, .int .i64 c.m, .int .i64 c.u, .int .i64 c.b, .int .i64 c.cp, .int .i64 c.z, .int .i64 c.s, .int .i64 c.mt, .int .i64 c.o, .int .i64 c.a, .int .i64 c.l] 23)) = w0 at HV0 ⊢
          obtain ⟨y0, y1, y2, y3, y4, y5, y6, y7, y8, y9, y10⟩ := box11 HV0.out.1
          refine (refCheck_any c w0).mono ?_
          rintro e w1 ⟨rfl, hb⟩
          rw [hc]
          clear hc
          have HV1 := Lib.hid (HV0.out.later hb)
          clear hb HV0 y0 y1 y2 y3 y4 y5 y6 y7 y8 y9 y10
          obtain ⟨y0, y1, y2, y3, y4, y5, y6, y7, y8, y9, y10⟩ := box11 HV1.out.1
          go_wp2
          go_ret
          exact ⟨rfl, HV1.out.2.1⟩
      · skip
        have HB : Hid (smallC c = false) := by
          show smallC c = _
          simp [smallC, *]
        rw [HB.out]
        clear HB
        go_enter Try.func8, Try.ntmps8
        go_wp2_with fail
        have HV0 := Lib.hid (At.new c w)
        generalize (w.alloc (.cells #[.int .i64 c.id, .int .i64 c.m, .int .i64 c.u, .int .i64 c.b, .int .i64 c.cp, .int .i64 c.z, .int .i64 c.s, .int .i64 c.mt, .int .i64 c.o, .int .i64 c.a, .int .i64 c.l] 23)) = w0 at HV0 ⊢
        obtain ⟨y0, y1, y2, y3, y4, y5, y6, y7, y8, y9, y10⟩ := box11 HV0.out.1
        refine (refCheck_any c w0).mono ?_
        rintro e w1 ⟨rfl, hb⟩
        rw [hc]
        clear hc
        have HV1 := Lib.hid (HV0.out.later hb)
        clear hb HV0 y0 y1 y2 y3 y4 y5 y6 y7 y8 y9 y10
        obtain ⟨y0, y1, y2, y3, y4, y5, y6, y7, y8, y9, y10⟩ := box11 HV1.out.1
        go_wp2
        go_ret
        exact ⟨rfl, HV1.out.2.1⟩
    · skip
      have HB : Hid (smallC c = false) := by
        show smallC c = _
        simp [smallC, *]
      rw [HB.out]
      clear HB
      go_enter Try.func8, Try.ntmps8
      go_wp2_with fail
      have HV0 := Lib.hid (At.new c w)
      generalize (w.alloc (.cells #[.int .i64 c.id, .int .i64 c.m, .int .i64 c.u, .int .i64 c.b, .int .i64 c.cp, .int .i64 c.z, .int .i64 c.s, .int .i64 c.mt, .int .i64 c.o, .int .i64 c.a, .int .i64 c.l] 23)) = w0 at HV0 ⊢
      obtain ⟨y0, y1, y2, y3, y4, y5, y6, y7, y8, y9, y10⟩ := box11 HV0.out.1
      refine (refCheck_any c w0).mono ?_
      rintro e w1 ⟨rfl, hb⟩
      rw [hc]
      clear hc
      have HV1 := Lib.hid (HV0.out.later hb)
      clear hb HV0 y0 y1 y2 y3 y4 y5 y6 y7 y8 y9 y10
      obtain ⟨y0, y1, y2, y3, y4, y5, y6, y7, y8, y9, y10⟩ := box11 HV1.out.1
      go_wp2
      go_ret
      exact ⟨rfl, HV1.out.2.1⟩
  · have HB : Hid (smallC c = false) := by
      show smallC c = _
      simp [smallC, hc]
    rw [HB.out]
    clear HB
    go_enter Try.func8, Try.ntmps8
    go_wp2_with fail
    have HV0 := Lib.hid (At.new c w)
    generalize (w.alloc (.cells #[.int .i64 c.id, .int .i64 c.m, .int .i64 c.u, .int .i64 c.b, .int .i64 c.cp, .int .i64 c.z, .int .i64 c.s, .int .i64 c.mt, .int .i64 c.o, .int .i64 c.a, .int .i64 c.l] 23)) = w0 at HV0 ⊢
    obtain ⟨y0, y1, y2, y3, y4, y5, y6, y7, y8, y9, y10⟩ := box11 HV0.out.1
    refine (refCheck_any c w0).mono ?_
    rintro e w1 ⟨rfl, hb⟩
    generalize checkC c = x at hc ⊢
    have e1 : (x == 0) = false := by simpa using hc
    have HV1 := Lib.hid (HV0.out.later hb)
    clear hb HV0 y0 y1 y2 y3 y4 y5 y6 y7 y8 y9 y10
    obtain ⟨y0, y1, y2, y3, y4, y5, y6, y7, y8, y9, y10⟩ := box11 HV1.out.1
    go_wp2
    go_ret
    exact ⟨rfl, HV1.out.2.1⟩
theorem plain_steps : stepsA plainC 4 3 = [⟨false, 3, 0, 4, 1⟩, ⟨false, 3, 1, 5, 1⟩, ⟨true, 0, 0, 0, 2⟩, ⟨false, 2, 2, 6, 1⟩] := by kernel_rfl
set_option maxHeartbeats 1000000 in
theorem live_any (w : World) : Calls Try.prog 9 #[] w (Says w (.bool true)) := by
  go_enter Try.func9, Try.ntmps9
  go_wp2_with fail
  refine (plain_any w).mono ?_
  rintro e w1 ⟨rfl, hb1⟩
  have HB1 := Lib.hid hb1
  clear hb1
  go_wp2_with fail
  refine (steps_any plainC 4 3 w1 (by omega) (by omega)).mono ?_
  rintro e w2 ⟨v, rfl, hrw, hb2⟩
  rw [plain_steps] at hrw
  obtain ⟨A, ca, rfl, hca, hs⟩ := hrw.seen St.len
  obtain ⟨g, rfl, a0, a1, a2, a3, a4⟩ := hs.step (i := 1) (by simp)
  obtain ⟨g', hg', b0, b1, b2, b3, b4⟩ := hs.step (i := 2) (by simp)
  obtain ⟨g'', hg'', d0, d1, d2, d3, d4⟩ := hs.step (i := 3) (by simp)
  cases hg'
  cases hg''
  have HB2 := Lib.hid (HB1.out.trans (hb2.mono HB1.out.size))
  simp at a0 a1 a2 a3 a4 b0 b1 b2 b3 b4 d0 d1 d2 d3 d4
  clear hrw hs hca hb2 HB1
  go_wp2
  go_ret
  exact ⟨rfl, HB2.out⟩
end Go.Proofs.Yteglgopbagefcaa
