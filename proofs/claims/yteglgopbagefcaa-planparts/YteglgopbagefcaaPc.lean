/- Contracts of within, endsStripe, parityOf, blockAt, and of the reference's Right. -/
import Derived.Test.YteglgopbagefcaaPb
namespace Go.Proofs.Yteglgopbagefcaa
set_option linter.unusedVariables false
set_option linter.unusedSimpArgs false
open Go.RowKit
open Go.RowKit (wrap64)

/-- The range lies within a zone of settings that may be. -/
def rightC (c : Cf) (a n : Int) : Bool := decide (checkC c = 0 ∧ 0 ≤ a ∧ 0 ≤ n ∧ a + n ≤ stripesC c * (dataC c * c.u))
theorem rightC_iff {c : Cf} {a n : Int} : rightC c a n = true ↔ checkC c = 0 ∧ 0 ≤ a ∧ 0 ≤ n ∧ a + n ≤ stripesC c * (dataC c * c.u) := by simp [rightC]
theorem rightC_not {c : Cf} {a n : Int} (h : ¬ (checkC c = 0 ∧ 0 ≤ a ∧ 0 ≤ n ∧ a + n ≤ stripesC c * (dataC c * c.u))) : rightC c a n = false := by unfold rightC; exact decide_eq_false h
set_option maxHeartbeats 1000000 in
theorem pwithin_any (c : Cf) (a n : Int) (w : World) (hn : n ≤ 9223372036854775807) (ha : a ≤ 9223372036854775807) : Calls Try.prog 25 #[(.agg #[.int .i64 c.id, .int .i64 c.m, .int .i64 c.u, .int .i64 c.b, .int .i64 c.cp, .int .i64 c.z, .int .i64 c.s, .int .i64 c.mt, .int .i64 c.o, .int .i64 c.a, .int .i64 c.l]), .int .i64 a, .int .i64 n] w (Says w (.bool (rightC c a n))) := by
  by_cases hc : checkC c = 0
  · have HZ := Lib.hid (ok_of hc)
    by_cases h1 : 0 ≤ a
    · by_cases h2 : 0 ≤ n
      · have HB : Hid (rightC c a n = decide (a + n ≤ stripesC c * (dataC c * c.u))) := by
          show rightC c a n = _
          simp [rightC, hc, h1, h2]
        have z1 := HZ.out.z1
        have z2 := HZ.out.z2
        rw [HB.out]
        clear HB HZ
        obtain ⟨Z, hZ⟩ : ∃ Z, stripesC c * (dataC c * c.u) = Z := ⟨_, rfl⟩
        have HE := Lib.hid hZ
        rw [hZ] at z1 z2 ⊢
        clear hZ
        have HD : Hid (decide (a ≤ Z - n) = decide (a + n ≤ Z)) := by
          show decide (a ≤ Z - n) = decide (a + n ≤ Z)
          rw [decide_eq_decide]; omega
        rw [← HD.out]
        clear HD
        go_enter Try.func25, Try.ntmps25
        go_wp2_with fail
        have HV0 := Lib.hid (At.new c w)
        generalize (w.alloc (.cells #[.int .i64 c.id, .int .i64 c.m, .int .i64 c.u, .int .i64 c.b, .int .i64 c.cp, .int .i64 c.z, .int .i64 c.s, .int .i64 c.mt, .int .i64 c.o, .int .i64 c.a, .int .i64 c.l] 23)) = w0 at HV0 ⊢
        obtain ⟨y0, y1, y2, y3, y4, y5, y6, y7, y8, y9, y10⟩ := box11 HV0.out.1
        refine (check_any c w0).mono ?_
        rintro e w1 ⟨rfl, hb⟩
        rw [hc]
        clear hc
        have HV1 := Lib.hid (HV0.out.later hb)
        clear hb HV0 y0 y1 y2 y3 y4 y5 y6 y7 y8 y9 y10
        obtain ⟨y0, y1, y2, y3, y4, y5, y6, y7, y8, y9, y10⟩ := box11 HV1.out.1
        go_wp2_with fail
        refine (size_to HE.out w1).mono ?_
        rintro e w2 ⟨rfl, hb⟩
        have HV2 := Lib.hid (HV1.out.later hb)
        clear hb HV1 y0 y1 y2 y3 y4 y5 y6 y7 y8 y9 y10
        obtain ⟨y0, y1, y2, y3, y4, y5, y6, y7, y8, y9, y10⟩ := box11 HV2.out.1
        go_wp2
        go_ret
        exact ⟨rfl, HV2.out.2.1⟩
      · have HB : Hid (rightC c a n = false) := rightC_not (by intro h; omega)
        rw [HB.out]
        clear HB HZ
        go_enter Try.func25, Try.ntmps25
        go_wp2_with fail
        have HV0 := Lib.hid (At.new c w)
        generalize (w.alloc (.cells #[.int .i64 c.id, .int .i64 c.m, .int .i64 c.u, .int .i64 c.b, .int .i64 c.cp, .int .i64 c.z, .int .i64 c.s, .int .i64 c.mt, .int .i64 c.o, .int .i64 c.a, .int .i64 c.l] 23)) = w0 at HV0 ⊢
        obtain ⟨y0, y1, y2, y3, y4, y5, y6, y7, y8, y9, y10⟩ := box11 HV0.out.1
        refine (check_any c w0).mono ?_
        rintro e w1 ⟨rfl, hb⟩
        rw [hc]
        clear hc
        have HV1 := Lib.hid (HV0.out.later hb)
        clear hb HV0 y0 y1 y2 y3 y4 y5 y6 y7 y8 y9 y10
        obtain ⟨y0, y1, y2, y3, y4, y5, y6, y7, y8, y9, y10⟩ := box11 HV1.out.1
        go_wp2
        go_ret
        exact ⟨rfl, HV1.out.2.1⟩
    · have HB : Hid (rightC c a n = false) := rightC_not (by intro h; omega)
      rw [HB.out]
      clear HB HZ
      go_enter Try.func25, Try.ntmps25
      go_wp2_with fail
      have HV0 := Lib.hid (At.new c w)
      generalize (w.alloc (.cells #[.int .i64 c.id, .int .i64 c.m, .int .i64 c.u, .int .i64 c.b, .int .i64 c.cp, .int .i64 c.z, .int .i64 c.s, .int .i64 c.mt, .int .i64 c.o, .int .i64 c.a, .int .i64 c.l] 23)) = w0 at HV0 ⊢
      obtain ⟨y0, y1, y2, y3, y4, y5, y6, y7, y8, y9, y10⟩ := box11 HV0.out.1
      refine (check_any c w0).mono ?_
      rintro e w1 ⟨rfl, hb⟩
      rw [hc]
      clear hc
      have HV1 := Lib.hid (HV0.out.later hb)
      clear hb HV0 y0 y1 y2 y3 y4 y5 y6 y7 y8 y9 y10
      obtain ⟨y0, y1, y2, y3, y4, y5, y6, y7, y8, y9, y10⟩ := box11 HV1.out.1
      go_wp2
      go_ret
      exact ⟨rfl, HV1.out.2.1⟩
  · skip
    have HB : Hid (rightC c a n = false) := rightC_not (by intro h; exact hc h.1)
    rw [HB.out]
    clear HB
    go_enter Try.func25, Try.ntmps25
    go_wp2_with fail
    have HV0 := Lib.hid (At.new c w)
    generalize (w.alloc (.cells #[.int .i64 c.id, .int .i64 c.m, .int .i64 c.u, .int .i64 c.b, .int .i64 c.cp, .int .i64 c.z, .int .i64 c.s, .int .i64 c.mt, .int .i64 c.o, .int .i64 c.a, .int .i64 c.l] 23)) = w0 at HV0 ⊢
    obtain ⟨y0, y1, y2, y3, y4, y5, y6, y7, y8, y9, y10⟩ := box11 HV0.out.1
    refine (check_any c w0).mono ?_
    rintro e w1 ⟨rfl, hb⟩
    generalize checkC c = x at hc ⊢
    have e1 : (x == 0) = false := by simpa using hc
    have HV1 := Lib.hid (HV0.out.later hb)
    clear hb HV0 y0 y1 y2 y3 y4 y5 y6 y7 y8 y9 y10
    obtain ⟨y0, y1, y2, y3, y4, y5, y6, y7, y8, y9, y10⟩ := box11 HV1.out.1
    go_wp2
    go_ret
    exact ⟨rfl, HV1.out.2.1⟩
set_option maxHeartbeats 1000000 in
theorem right_any (c : Cf) (a n : Int) (w : World) (hn : n ≤ 9223372036854775807) (ha : a ≤ 9223372036854775807) : Calls Try.prog 18 #[(.agg #[.int .i64 c.id, .int .i64 c.m, .int .i64 c.u, .int .i64 c.b, .int .i64 c.cp, .int .i64 c.z, .int .i64 c.s, .int .i64 c.mt, .int .i64 c.o, .int .i64 c.a, .int .i64 c.l]), .int .i64 a, .int .i64 n] w (Says w (.bool (rightC c a n))) := by
  by_cases hc : checkC c = 0
  · have HZ := Lib.hid (ok_of hc)
    by_cases h1 : 0 ≤ a
    · by_cases h2 : 0 ≤ n
      · have HB : Hid (rightC c a n = decide (a + n ≤ stripesC c * (dataC c * c.u))) := by
          show rightC c a n = _
          simp [rightC, hc, h1, h2]
        have z1 := HZ.out.z1
        have z2 := HZ.out.z2
        rw [HB.out]
        clear HB HZ
        obtain ⟨Z, hZ⟩ : ∃ Z, stripesC c * (dataC c * c.u) = Z := ⟨_, rfl⟩
        have HE := Lib.hid hZ
        rw [hZ] at z1 z2 ⊢
        clear hZ
        by_cases h3 : a ≤ Z
        · have HD : Hid (decide (n ≤ Z - a) = decide (a + n ≤ Z)) := by
            show decide (n ≤ Z - a) = decide (a + n ≤ Z)
            rw [decide_eq_decide]; omega
          rw [← HD.out]
          clear HD
          go_enter Try.func18, Try.ntmps18
          go_wp2_with fail
          have HV0 := Lib.hid (At.new c w)
          generalize (w.alloc (.cells #[.int .i64 c.id, .int .i64 c.m, .int .i64 c.u, .int .i64 c.b, .int .i64 c.cp, .int .i64 c.z, .int .i64 c.s, .int .i64 c.mt, .int .i64 c.o, .int .i64 c.a, .int .i64 c.l] 23)) = w0 at HV0 ⊢
          obtain ⟨y0, y1, y2, y3, y4, y5, y6, y7, y8, y9, y10⟩ := box11 HV0.out.1
          refine (refCheck_any c w0).mono ?_
          rintro e w1 ⟨rfl, hb⟩
          rw [hc]
          clear hc
          have HV1 := Lib.hid (HV0.out.later hb)
          clear hb HV0 y0 y1 y2 y3 y4 y5 y6 y7 y8 y9 y10
          obtain ⟨y0, y1, y2, y3, y4, y5, y6, y7, y8, y9, y10⟩ := box11 HV1.out.1
          go_wp2_with fail
          refine (rSize_to HE.out w1).mono ?_
          rintro e w2 ⟨rfl, hb⟩
          have HV2 := Lib.hid (HV1.out.later hb)
          clear hb HV1 y0 y1 y2 y3 y4 y5 y6 y7 y8 y9 y10
          obtain ⟨y0, y1, y2, y3, y4, y5, y6, y7, y8, y9, y10⟩ := box11 HV2.out.1
          go_wp2_with fail
          refine (rSize_to HE.out w2).mono ?_
          rintro e w3 ⟨rfl, hb⟩
          have HV3 := Lib.hid (HV2.out.later hb)
          clear hb HV2 y0 y1 y2 y3 y4 y5 y6 y7 y8 y9 y10
          obtain ⟨y0, y1, y2, y3, y4, y5, y6, y7, y8, y9, y10⟩ := box11 HV3.out.1
          go_wp2
          go_ret
          exact ⟨rfl, HV3.out.2.1⟩
        · have HD : Hid (decide (a + n ≤ Z) = false) := decide_eq_false (by omega)
          rw [HD.out]
          clear HD
          go_enter Try.func18, Try.ntmps18
          go_wp2_with fail
          have HV0 := Lib.hid (At.new c w)
          generalize (w.alloc (.cells #[.int .i64 c.id, .int .i64 c.m, .int .i64 c.u, .int .i64 c.b, .int .i64 c.cp, .int .i64 c.z, .int .i64 c.s, .int .i64 c.mt, .int .i64 c.o, .int .i64 c.a, .int .i64 c.l] 23)) = w0 at HV0 ⊢
          obtain ⟨y0, y1, y2, y3, y4, y5, y6, y7, y8, y9, y10⟩ := box11 HV0.out.1
          refine (refCheck_any c w0).mono ?_
          rintro e w1 ⟨rfl, hb⟩
          rw [hc]
          clear hc
          have HV1 := Lib.hid (HV0.out.later hb)
          clear hb HV0 y0 y1 y2 y3 y4 y5 y6 y7 y8 y9 y10
          obtain ⟨y0, y1, y2, y3, y4, y5, y6, y7, y8, y9, y10⟩ := box11 HV1.out.1
          go_wp2_with fail
          refine (rSize_to HE.out w1).mono ?_
          rintro e w2 ⟨rfl, hb⟩
          have HV2 := Lib.hid (HV1.out.later hb)
          clear hb HV1 y0 y1 y2 y3 y4 y5 y6 y7 y8 y9 y10
          obtain ⟨y0, y1, y2, y3, y4, y5, y6, y7, y8, y9, y10⟩ := box11 HV2.out.1
          go_wp2
          go_ret
          exact ⟨rfl, HV2.out.2.1⟩
      · have HB : Hid (rightC c a n = false) := rightC_not (by intro h; omega)
        rw [HB.out]
        clear HB HZ
        go_enter Try.func18, Try.ntmps18
        go_wp2_with fail
        have HV0 := Lib.hid (At.new c w)
        generalize (w.alloc (.cells #[.int .i64 c.id, .int .i64 c.m, .int .i64 c.u, .int .i64 c.b, .int .i64 c.cp, .int .i64 c.z, .int .i64 c.s, .int .i64 c.mt, .int .i64 c.o, .int .i64 c.a, .int .i64 c.l] 23)) = w0 at HV0 ⊢
        obtain ⟨y0, y1, y2, y3, y4, y5, y6, y7, y8, y9, y10⟩ := box11 HV0.out.1
        refine (refCheck_any c w0).mono ?_
        rintro e w1 ⟨rfl, hb⟩
        rw [hc]
        clear hc
        have HV1 := Lib.hid (HV0.out.later hb)
        clear hb HV0 y0 y1 y2 y3 y4 y5 y6 y7 y8 y9 y10
        obtain ⟨y0, y1, y2, y3, y4, y5, y6, y7, y8, y9, y10⟩ := box11 HV1.out.1
        go_wp2
        go_ret
        exact ⟨rfl, HV1.out.2.1⟩
    · have HB : Hid (rightC c a n = false) := rightC_not (by intro h; omega)
      rw [HB.out]
      clear HB HZ
      go_enter Try.func18, Try.ntmps18
      go_wp2_with fail
      have HV0 := Lib.hid (At.new c w)
      generalize (w.alloc (.cells #[.int .i64 c.id, .int .i64 c.m, .int .i64 c.u, .int .i64 c.b, .int .i64 c.cp, .int .i64 c.z, .int .i64 c.s, .int .i64 c.mt, .int .i64 c.o, .int .i64 c.a, .int .i64 c.l] 23)) = w0 at HV0 ⊢
      obtain ⟨y0, y1, y2, y3, y4, y5, y6, y7, y8, y9, y10⟩ := box11 HV0.out.1
      refine (refCheck_any c w0).mono ?_
      rintro e w1 ⟨rfl, hb⟩
      rw [hc]
      clear hc
      have HV1 := Lib.hid (HV0.out.later hb)
      clear hb HV0 y0 y1 y2 y3 y4 y5 y6 y7 y8 y9 y10
      obtain ⟨y0, y1, y2, y3, y4, y5, y6, y7, y8, y9, y10⟩ := box11 HV1.out.1
      go_wp2
      go_ret
      exact ⟨rfl, HV1.out.2.1⟩
  · skip
    have HB : Hid (rightC c a n = false) := rightC_not (by intro h; exact hc h.1)
    rw [HB.out]
    clear HB
    go_enter Try.func18, Try.ntmps18
    go_wp2_with fail
    have HV0 := Lib.hid (At.new c w)
    generalize (w.alloc (.cells #[.int .i64 c.id, .int .i64 c.m, .int .i64 c.u, .int .i64 c.b, .int .i64 c.cp, .int .i64 c.z, .int .i64 c.s, .int .i64 c.mt, .int .i64 c.o, .int .i64 c.a, .int .i64 c.l] 23)) = w0 at HV0 ⊢
    obtain ⟨y0, y1, y2, y3, y4, y5, y6, y7, y8, y9, y10⟩ := box11 HV0.out.1
    refine (refCheck_any c w0).mono ?_
    rintro e w1 ⟨rfl, hb⟩
    generalize checkC c = x at hc ⊢
    have e1 : (x == 0) = false := by simpa using hc
    have HV1 := Lib.hid (HV0.out.later hb)
    clear hb HV0 y0 y1 y2 y3 y4 y5 y6 y7 y8 y9 y10
    obtain ⟨y0, y1, y2, y3, y4, y5, y6, y7, y8, y9, y10⟩ := box11 HV1.out.1
    go_wp2
    go_ret
    exact ⟨rfl, HV1.out.2.1⟩
theorem ends_to (c : Cf) (lb R : Int) (w : World) (hR : dataC c * c.u = R) (hc : checkC c = 0) (h0 : 0 ≤ lb) (h1 : lb ≤ 61440) : Calls Try.prog 38 #[(.agg #[.int .i64 c.id, .int .i64 c.m, .int .i64 c.u, .int .i64 c.b, .int .i64 c.cp, .int .i64 c.z, .int .i64 c.s, .int .i64 c.mt, .int .i64 c.o, .int .i64 c.a, .int .i64 c.l]), .int .i64 lb] w (Says w (.bool ((lb + 1) % R == 0))) := by
  have HR := Lib.hid hR
  have HO := Lib.hid (ok_of hc)
  have o5 := HO.out.r1
  have o6 := HO.out.r2
  rw [hR] at o5 o6
  have z0 : ¬ R = 0 := by omega
  have z1 : (R == 0) = false := by simpa using z0
  clear hR hc HO
  go_enter Try.func38, Try.ntmps38
  go_wp2_with fail
  have HV0 := Lib.hid (At.new c w)
  generalize (w.alloc (.cells #[.int .i64 c.id, .int .i64 c.m, .int .i64 c.u, .int .i64 c.b, .int .i64 c.cp, .int .i64 c.z, .int .i64 c.s, .int .i64 c.mt, .int .i64 c.o, .int .i64 c.a, .int .i64 c.l] 23)) = w0 at HV0 ⊢
  obtain ⟨y0, y1, y2, y3, y4, y5, y6, y7, y8, y9, y10⟩ := box11 HV0.out.1
  refine (row_to HR.out w0).mono ?_
  rintro e w1 ⟨rfl, hb⟩
  have HV1 := Lib.hid (HV0.out.later hb)
  clear hb HV0 y0 y1 y2 y3 y4 y5 y6 y7 y8 y9 y10
  obtain ⟨y0, y1, y2, y3, y4, y5, y6, y7, y8, y9, y10⟩ := box11 HV1.out.1
  go_wp2
  go_ret
  exact ⟨rfl, HV1.out.2.1⟩
/-- The settings lie in block w.heap.size, a step in the next one. -/
structure AtS (c : Cf) (ps : Array Value) (w w' : World) : Prop where
  box : Box w' w.heap.size 23 #[.int .i64 c.id, .int .i64 c.m, .int .i64 c.u, .int .i64 c.b, .int .i64 c.cp, .int .i64 c.z, .int .i64 c.s, .int .i64 c.mt, .int .i64 c.o, .int .i64 c.a, .int .i64 c.l]
  plc : Box w' (w.heap.size + 1) 41 ps
  bel : Below w.heap.size w w'
  sz : w.heap.size + 2 ≤ w'.heap.size
theorem AtS.new (c : Cf) (w : World) {ps : Array Value} : AtS c ps w ((w.alloc (.cells #[.int .i64 c.id, .int .i64 c.m, .int .i64 c.u, .int .i64 c.b, .int .i64 c.cp, .int .i64 c.z, .int .i64 c.s, .int .i64 c.mt, .int .i64 c.o, .int .i64 c.a, .int .i64 c.l] 23)).alloc (.cells ps 41)) := by
  have h := two_boxes (Below.refl ((w.alloc (.cells #[.int .i64 c.id, .int .i64 c.m, .int .i64 c.u, .int .i64 c.b, .int .i64 c.cp, .int .i64 c.z, .int .i64 c.s, .int .i64 c.mt, .int .i64 c.o, .int .i64 c.a, .int .i64 c.l] 23)).alloc (.cells ps 41)).heap.size ((w.alloc (.cells #[.int .i64 c.id, .int .i64 c.m, .int .i64 c.u, .int .i64 c.b, .int .i64 c.cp, .int .i64 c.z, .int .i64 c.s, .int .i64 c.mt, .int .i64 c.o, .int .i64 c.a, .int .i64 c.l] 23)).alloc (.cells ps 41)))
  exact ⟨h.1, h.2.1, h.2.2.1, h.2.2.2⟩
theorem AtS.later {c : Cf} {ps : Array Value} {w w' w2 : World} (h : AtS c ps w w') (hb : Below w'.heap.size w' w2) : AtS c ps w w2 := ⟨h.box.later hb, h.plc.later hb, h.bel.trans (hb.mono h.bel.size), Nat.le_trans h.sz hb.size⟩
theorem AtS.drew {c : Cf} {ps : Array Value} {w w' : World} (h : AtS c ps w w') : AtS c ps w w'.drew := h.later (Below.refl _ _).drew
theorem AtS.below {c : Cf} {ps : Array Value} {w w' w2 : World} (h : AtS c ps w w') (hb : Below (w.heap.size + 1) w' w2) : Box w2 w.heap.size 23 #[.int .i64 c.id, .int .i64 c.m, .int .i64 c.u, .int .i64 c.b, .int .i64 c.cp, .int .i64 c.z, .int .i64 c.s, .int .i64 c.mt, .int .i64 c.o, .int .i64 c.a, .int .i64 c.l] := h.box.under hb (by omega)
theorem AtS.put {c : Cf} {ps : Array Value} {w w' : World} (h : AtS c ps w w') {a0 a1 a2 a3 a4 b0 b1 b2 b3 b4 : Value} (hp : ps = #[b0, b1, b2, b3, b4]) : Box (((((w'.setCell ⟨w.heap.size + 1, 0, none⟩ a0).setCell ⟨w.heap.size + 1, 1, none⟩ a1).setCell ⟨w.heap.size + 1, 2, none⟩ a2).setCell ⟨w.heap.size + 1, 3, none⟩ a3).setCell ⟨w.heap.size + 1, 4, none⟩ a4) (w.heap.size + 1) 41 #[a0, a1, a2, a3, a4] ∧ Below w.heap.size w (((((w'.setCell ⟨w.heap.size + 1, 0, none⟩ a0).setCell ⟨w.heap.size + 1, 1, none⟩ a1).setCell ⟨w.heap.size + 1, 2, none⟩ a2).setCell ⟨w.heap.size + 1, 3, none⟩ a3).setCell ⟨w.heap.size + 1, 4, none⟩ a4) ∧ Below (w.heap.size + 1) w' (((((w'.setCell ⟨w.heap.size + 1, 0, none⟩ a0).setCell ⟨w.heap.size + 1, 1, none⟩ a1).setCell ⟨w.heap.size + 1, 2, none⟩ a2).setCell ⟨w.heap.size + 1, 3, none⟩ a3).setCell ⟨w.heap.size + 1, 4, none⟩ a4) := by
  subst hp
  refine ⟨?_, h.bel.trans ?_, ?_⟩
  · exact ((((h.plc.store 0 _).store 1 _).store 2 _).store 3 _).store 4 _
  · exact (by repeat (first | with_reducible exact Below.refl _ _ | with_reducible refine Below.drew ?_ | with_reducible refine Below.alloc ?_ (by first | (simp; done) | (simp; omega)) _ | with_reducible refine Below.setCell ?_ (by first | (simp; done) | (simp; omega)) _))
  · exact (by repeat (first | with_reducible exact Below.refl _ _ | with_reducible refine Below.drew ?_ | with_reducible refine Below.alloc ?_ (by first | (simp; done) | (simp; omega)) _ | with_reducible refine Below.setCell ?_ (by first | (simp; done) | (simp; omega)) _))
set_option maxRecDepth 100000 in
set_option maxHeartbeats 4000000 in
theorem parOf_any (c : Cf) (s R F X M : Int) (w : World) (hR : dataC c * c.u = R) (hs : hasS c s = true) (hF : s * c.u = F) (hX : s * R = X) (hM : s % c.m = M) : Calls Try.prog 39 #[(.agg #[.int .i64 c.id, .int .i64 c.m, .int .i64 c.u, .int .i64 c.b, .int .i64 c.cp, .int .i64 c.z, .int .i64 c.s, .int .i64 c.mt, .int .i64 c.o, .int .i64 c.a, .int .i64 c.l]), .int .i64 s] w (Says w (.agg #[.bool true, .int .i64 M, .int .i64 F, .int .i64 X, .int .i64 c.u])) := by
  have HR := Lib.hid hR
  obtain ⟨hc, s0, s1⟩ := hasS_iff.1 hs
  have HO := Lib.hid (ok_of hc)
  have HM : Hid (parityA c s = M) := by
    show parityA c s = M
    unfold parityA
    rw [if_pos hs, hM]
  have HT : Hid (IntKind.i64.wrap (s * c.u) = F ∧ IntKind.i64.wrap (s * R) = X) := by
    have o3 := HO.out.u1
    have o4 := HO.out.u2
    have o5 := HO.out.r1
    have o6 := HO.out.r2
    have o7 := HO.out.s2
    rw [hR] at o5 o6
    have h1 := mul_in (a := s) (b := c.u) (A := 4096) (B := 64) (by omega) (by omega) (by omega) (by omega)
    have h2 := mul_in (a := s) (b := R) (A := 4096) (B := 960) (by omega) (by omega) (by omega) (by omega)
    exact ⟨by rw [wrapk_in (by omega) (by omega), hF], by rw [wrapk_in (by omega) (by omega), hX]⟩
  clear hR hc s0 s1 hs HO hF hX hM
  go_enter Try.func39, Try.ntmps39
  go_wp2_with fail
  have HV0 := Lib.hid (AtS.new (ps := #[.bool false, .int .i64 0, .int .i64 0, .int .i64 0, .int .i64 0]) c w)
  generalize ((w.alloc (.cells #[.int .i64 c.id, .int .i64 c.m, .int .i64 c.u, .int .i64 c.b, .int .i64 c.cp, .int .i64 c.z, .int .i64 c.s, .int .i64 c.mt, .int .i64 c.o, .int .i64 c.a, .int .i64 c.l] 23)).alloc (.cells #[.bool false, .int .i64 0, .int .i64 0, .int .i64 0, .int .i64 0] 41)) = w0 at HV0 ⊢
  obtain ⟨y0, y1, y2, y3, y4, y5, y6, y7, y8, y9, y10⟩ := box11 HV0.out.box
  refine wpB_start (w.heap.size + 1) (by kernel_rfl) ?_
  have HV1 := Lib.hid HV0.out.drew
  generalize w0.drew = w1 at HV1 ⊢
  clear HV0 y0 y1 y2 y3 y4 y5 y6 y7 y8 y9 y10
  have q0 : ∀ w', Below (w.heap.size + 1) w1 w' → w'.cell? ⟨w.heap.size, 0, none⟩ = some (.int .i64 c.id) := fun w' h => (box11 (HV1.out.below h)).1
  have q1 : ∀ w', Below (w.heap.size + 1) w1 w' → w'.cell? ⟨w.heap.size, 1, none⟩ = some (.int .i64 c.m) := fun w' h => (box11 (HV1.out.below h)).2.1
  have q2 : ∀ w', Below (w.heap.size + 1) w1 w' → w'.cell? ⟨w.heap.size, 2, none⟩ = some (.int .i64 c.u) := fun w' h => (box11 (HV1.out.below h)).2.2.1
  have q3 : ∀ w', Below (w.heap.size + 1) w1 w' → w'.cell? ⟨w.heap.size, 3, none⟩ = some (.int .i64 c.b) := fun w' h => (box11 (HV1.out.below h)).2.2.2.1
  have q4 : ∀ w', Below (w.heap.size + 1) w1 w' → w'.cell? ⟨w.heap.size, 4, none⟩ = some (.int .i64 c.cp) := fun w' h => (box11 (HV1.out.below h)).2.2.2.2.1
  have q5 : ∀ w', Below (w.heap.size + 1) w1 w' → w'.cell? ⟨w.heap.size, 5, none⟩ = some (.int .i64 c.z) := fun w' h => (box11 (HV1.out.below h)).2.2.2.2.2.1
  have q6 : ∀ w', Below (w.heap.size + 1) w1 w' → w'.cell? ⟨w.heap.size, 6, none⟩ = some (.int .i64 c.s) := fun w' h => (box11 (HV1.out.below h)).2.2.2.2.2.2.1
  have q7 : ∀ w', Below (w.heap.size + 1) w1 w' → w'.cell? ⟨w.heap.size, 7, none⟩ = some (.int .i64 c.mt) := fun w' h => (box11 (HV1.out.below h)).2.2.2.2.2.2.2.1
  have q8 : ∀ w', Below (w.heap.size + 1) w1 w' → w'.cell? ⟨w.heap.size, 8, none⟩ = some (.int .i64 c.o) := fun w' h => (box11 (HV1.out.below h)).2.2.2.2.2.2.2.2.1
  have q9 : ∀ w', Below (w.heap.size + 1) w1 w' → w'.cell? ⟨w.heap.size, 9, none⟩ = some (.int .i64 c.a) := fun w' h => (box11 (HV1.out.below h)).2.2.2.2.2.2.2.2.2.1
  have q10 : ∀ w', Below (w.heap.size + 1) w1 w' → w'.cell? ⟨w.heap.size, 10, none⟩ = some (.int .i64 c.l) := fun w' h => (box11 (HV1.out.below h)).2.2.2.2.2.2.2.2.2.2
  refine wpB_take (i := 0) (d := 5) (v := ?v1x0) rfl rfl (by kernel_rfl) (by kernel_rfl) (by kernel_rfl) (fun _ _ _ h => h) (by rfl) ?y1x0 ?r1x0
  case y1x0 => (intro w' hSw; go_simp; try (with_reducible rfl))
  simp only [Act.put, List.setIfInBounds_toArray, List.set_cons_zero, List.set_cons_succ]
  refine wpB_take (i := 1) (d := 6) (v := ?v1x1) rfl rfl (by kernel_rfl) (by kernel_rfl) (by kernel_rfl) (fun _ _ _ h => h) (by rfl) ?y1x1 ?r1x1
  case y1x1 => (intro w' hSw; go_simp; try (with_reducible rfl))
  simp only [Act.put, List.setIfInBounds_toArray, List.set_cons_zero, List.set_cons_succ]
  refine wpB_take (i := 3) (d := 8) (v := ?v1x3) rfl rfl (by kernel_rfl) (by kernel_rfl) (by kernel_rfl) (fun _ _ _ h => h) (by rfl) ?y1x3 ?r1x3
  case y1x3 => (intro w' hSw; go_simp; try (with_reducible rfl))
  simp only [Act.put, List.setIfInBounds_toArray, List.set_cons_zero, List.set_cons_succ]
  refine wpB_take (i := 4) (d := 9) (v := ?v1x4) rfl rfl (by kernel_rfl) (by kernel_rfl) (by kernel_rfl) (fun _ _ _ h => h) (by rfl) ?y1x4 ?r1x4
  case y1x4 => (intro w' hSw; go_simp; try (with_reducible rfl))
  simp only [Act.put, List.setIfInBounds_toArray, List.set_cons_zero, List.set_cons_succ]
  refine wpB_take (i := 5) (d := 10) (v := ?v1x5) rfl rfl (by kernel_rfl) (by kernel_rfl) (by kernel_rfl) (fun _ _ _ h => h) (by rfl) ?y1x5 ?r1x5
  case y1x5 => (intro w' hSw; go_simp; try (with_reducible rfl))
  simp only [Act.put, List.setIfInBounds_toArray, List.set_cons_zero, List.set_cons_succ]
  refine wpB_take (i := 6) (d := 11) (v := ?v1x6) rfl rfl (by kernel_rfl) (by kernel_rfl) (by kernel_rfl) (fun _ _ _ h => h) (by rfl) ?y1x6 ?r1x6
  case y1x6 => (intro w' hSw; go_simp; try (with_reducible rfl))
  simp only [Act.put, List.setIfInBounds_toArray, List.set_cons_zero, List.set_cons_succ]
  rw [HT.out.1]
  refine wpB_take (i := 7) (d := 12) (v := ?v1x7) rfl rfl (by kernel_rfl) (by kernel_rfl) (by kernel_rfl) (fun _ _ _ h => h) (by rfl) ?y1x7 ?r1x7
  case y1x7 => (intro w' hSw; go_simp; try (with_reducible rfl))
  simp only [Act.put, List.setIfInBounds_toArray, List.set_cons_zero, List.set_cons_succ]
  refine wpB_take (i := 8) (d := 13) (v := ?v1x8) rfl rfl (by kernel_rfl) (by kernel_rfl) (by kernel_rfl) (fun _ _ _ h => h) (by rfl) ?y1x8 ?r1x8
  case y1x8 => (intro w' hSw; go_simp; try (with_reducible rfl))
  simp only [Act.put, List.setIfInBounds_toArray, List.set_cons_zero, List.set_cons_succ]
  refine wpB_take (i := 11) (d := 16) (v := ?v1x11) rfl rfl (by kernel_rfl) (by kernel_rfl) (by kernel_rfl) (fun _ _ _ h => h) (by rfl) ?y1x11 ?r1x11
  case y1x11 => (intro w' hSw; go_simp; try (with_reducible rfl))
  simp only [Act.put, List.setIfInBounds_toArray, List.set_cons_zero, List.set_cons_succ]
  refine wpB_take (i := 12) (d := 17) (v := ?v1x12) rfl rfl (by kernel_rfl) (by kernel_rfl) (by kernel_rfl) (fun _ _ _ h => h) (by rfl) ?y1x12 ?r1x12
  case y1x12 => (intro w' hSw; go_simp; try (with_reducible rfl))
  simp only [Act.put, List.setIfInBounds_toArray, List.set_cons_zero, List.set_cons_succ]
  refine wpB_do (i := 2) (by kernel_rfl) rfl (by rfl) (fun K hK => ?_)
  go_simp
  refine (parity_any c s w1).mono ?_
  rintro e w2 ⟨rfl, hb⟩
  have HV2 := Lib.hid (HV1.out.later hb)
  have hbk := hb.mono (show w.heap.size + 1 ≤ _ by have := HV1.out.sz; omega)
  go_simp
  refine hK.out (w.heap.size + 1) _ _ (Nat.le_refl _) hbk ?_
  clear hK hb hbk HV1 q0 q1 q2 q3 q4 q5 q6 q7 q8 q9 q10
  have q0 : ∀ w', Below (w.heap.size + 1) w2 w' → w'.cell? ⟨w.heap.size, 0, none⟩ = some (.int .i64 c.id) := fun w' h => (box11 (HV2.out.below h)).1
  have q1 : ∀ w', Below (w.heap.size + 1) w2 w' → w'.cell? ⟨w.heap.size, 1, none⟩ = some (.int .i64 c.m) := fun w' h => (box11 (HV2.out.below h)).2.1
  have q2 : ∀ w', Below (w.heap.size + 1) w2 w' → w'.cell? ⟨w.heap.size, 2, none⟩ = some (.int .i64 c.u) := fun w' h => (box11 (HV2.out.below h)).2.2.1
  have q3 : ∀ w', Below (w.heap.size + 1) w2 w' → w'.cell? ⟨w.heap.size, 3, none⟩ = some (.int .i64 c.b) := fun w' h => (box11 (HV2.out.below h)).2.2.2.1
  have q4 : ∀ w', Below (w.heap.size + 1) w2 w' → w'.cell? ⟨w.heap.size, 4, none⟩ = some (.int .i64 c.cp) := fun w' h => (box11 (HV2.out.below h)).2.2.2.2.1
  have q5 : ∀ w', Below (w.heap.size + 1) w2 w' → w'.cell? ⟨w.heap.size, 5, none⟩ = some (.int .i64 c.z) := fun w' h => (box11 (HV2.out.below h)).2.2.2.2.2.1
  have q6 : ∀ w', Below (w.heap.size + 1) w2 w' → w'.cell? ⟨w.heap.size, 6, none⟩ = some (.int .i64 c.s) := fun w' h => (box11 (HV2.out.below h)).2.2.2.2.2.2.1
  have q7 : ∀ w', Below (w.heap.size + 1) w2 w' → w'.cell? ⟨w.heap.size, 7, none⟩ = some (.int .i64 c.mt) := fun w' h => (box11 (HV2.out.below h)).2.2.2.2.2.2.2.1
  have q8 : ∀ w', Below (w.heap.size + 1) w2 w' → w'.cell? ⟨w.heap.size, 8, none⟩ = some (.int .i64 c.o) := fun w' h => (box11 (HV2.out.below h)).2.2.2.2.2.2.2.2.1
  have q9 : ∀ w', Below (w.heap.size + 1) w2 w' → w'.cell? ⟨w.heap.size, 9, none⟩ = some (.int .i64 c.a) := fun w' h => (box11 (HV2.out.below h)).2.2.2.2.2.2.2.2.2.1
  have q10 : ∀ w', Below (w.heap.size + 1) w2 w' → w'.cell? ⟨w.heap.size, 10, none⟩ = some (.int .i64 c.l) := fun w' h => (box11 (HV2.out.below h)).2.2.2.2.2.2.2.2.2.2
  rw [HM.out]
  refine wpB_do (i := 9) (by kernel_rfl) rfl (by rfl) (fun K hK => ?_)
  go_simp
  refine (row_to HR.out w2).mono ?_
  rintro e w3 ⟨rfl, hb⟩
  have HV3 := Lib.hid (HV2.out.later hb)
  have hbk := hb.mono (show w.heap.size + 1 ≤ _ by have := HV2.out.sz; omega)
  go_simp
  refine hK.out (w.heap.size + 1) _ _ (Nat.le_refl _) hbk ?_
  clear hK hb hbk HV2 q0 q1 q2 q3 q4 q5 q6 q7 q8 q9 q10
  have q0 : ∀ w', Below (w.heap.size + 1) w3 w' → w'.cell? ⟨w.heap.size, 0, none⟩ = some (.int .i64 c.id) := fun w' h => (box11 (HV3.out.below h)).1
  have q1 : ∀ w', Below (w.heap.size + 1) w3 w' → w'.cell? ⟨w.heap.size, 1, none⟩ = some (.int .i64 c.m) := fun w' h => (box11 (HV3.out.below h)).2.1
  have q2 : ∀ w', Below (w.heap.size + 1) w3 w' → w'.cell? ⟨w.heap.size, 2, none⟩ = some (.int .i64 c.u) := fun w' h => (box11 (HV3.out.below h)).2.2.1
  have q3 : ∀ w', Below (w.heap.size + 1) w3 w' → w'.cell? ⟨w.heap.size, 3, none⟩ = some (.int .i64 c.b) := fun w' h => (box11 (HV3.out.below h)).2.2.2.1
  have q4 : ∀ w', Below (w.heap.size + 1) w3 w' → w'.cell? ⟨w.heap.size, 4, none⟩ = some (.int .i64 c.cp) := fun w' h => (box11 (HV3.out.below h)).2.2.2.2.1
  have q5 : ∀ w', Below (w.heap.size + 1) w3 w' → w'.cell? ⟨w.heap.size, 5, none⟩ = some (.int .i64 c.z) := fun w' h => (box11 (HV3.out.below h)).2.2.2.2.2.1
  have q6 : ∀ w', Below (w.heap.size + 1) w3 w' → w'.cell? ⟨w.heap.size, 6, none⟩ = some (.int .i64 c.s) := fun w' h => (box11 (HV3.out.below h)).2.2.2.2.2.2.1
  have q7 : ∀ w', Below (w.heap.size + 1) w3 w' → w'.cell? ⟨w.heap.size, 7, none⟩ = some (.int .i64 c.mt) := fun w' h => (box11 (HV3.out.below h)).2.2.2.2.2.2.2.1
  have q8 : ∀ w', Below (w.heap.size + 1) w3 w' → w'.cell? ⟨w.heap.size, 8, none⟩ = some (.int .i64 c.o) := fun w' h => (box11 (HV3.out.below h)).2.2.2.2.2.2.2.2.1
  have q9 : ∀ w', Below (w.heap.size + 1) w3 w' → w'.cell? ⟨w.heap.size, 9, none⟩ = some (.int .i64 c.a) := fun w' h => (box11 (HV3.out.below h)).2.2.2.2.2.2.2.2.2.1
  have q10 : ∀ w', Below (w.heap.size + 1) w3 w' → w'.cell? ⟨w.heap.size, 10, none⟩ = some (.int .i64 c.l) := fun w' h => (box11 (HV3.out.below h)).2.2.2.2.2.2.2.2.2.2
  refine wpB_take (i := 10) (d := 15) (v := ?v1x10) rfl rfl (by kernel_rfl) (by kernel_rfl) (by kernel_rfl) (fun _ _ _ h => h) (by rfl) ?y1x10 ?r1x10
  case y1x10 => (intro w' hSw; go_simp; try (with_reducible rfl))
  simp only [Act.put, List.setIfInBounds_toArray, List.set_cons_zero, List.set_cons_succ]
  rw [HT.out.2]
  refine wpB_take (i := 13) (d := 18) (v := ?v1x13) rfl rfl (by kernel_rfl) (by kernel_rfl) (by kernel_rfl) (fun _ _ _ h => h) (by rfl) ?y1x13 ?r1x13
  case y1x13 => (intro w' hSw; go_simp; try (with_reducible rfl))
  simp only [Act.put, List.setIfInBounds_toArray, List.set_cons_zero, List.set_cons_succ]
  refine wpB_do (i := 14) (by kernel_rfl) rfl (by rfl) (fun K hK => ?_)
  go_simp
  obtain ⟨⟨z0, z1, z2, z3, z4⟩, f0, f1, f2, f3, f4⟩ := box5 HV3.out.plc
  go_simp
  have HX := Lib.hid (HV3.out.put (a0 := (.bool true)) (a1 := (.int .i64 M)) (a2 := (.int .i64 F)) (a3 := (.int .i64 X)) (a4 := (.int .i64 c.u)) rfl)
  generalize (((((w3.setCell ⟨w.heap.size + 1, 0, none⟩ (.bool true)).setCell ⟨w.heap.size + 1, 1, none⟩ (.int .i64 M)).setCell ⟨w.heap.size + 1, 2, none⟩ (.int .i64 F)).setCell ⟨w.heap.size + 1, 3, none⟩ (.int .i64 X)).setCell ⟨w.heap.size + 1, 4, none⟩ (.int .i64 c.u)) = w4 at HX ⊢
  refine hK.out (w.heap.size + 1) _ _ (Nat.le_refl _) HX.out.2.2 ?_
  clear hK z0 z1 z2 z3 z4 f0 f1 f2 f3 f4 HV3 q0 q1 q2 q3 q4 q5 q6 q7 q8 q9 q10
  refine wpB_done (by kernel_rfl) ?_
  obtain ⟨⟨z0, z1, z2, z3, z4⟩, f0, f1, f2, f3, f4⟩ := box5 HX.out.1
  go_wp2
  exact bodyPost_ret (v := .agg #[.bool true, .int .i64 M, .int .i64 F, .int .i64 X, .int .i64 c.u]) (by simp [results, Try.results39, go_sem, *]) rfl ⟨rfl, HX.out.2.1⟩
set_option maxHeartbeats 2000000 in
theorem blk_to (c : Cf) (m ph L : Int) (D : Bool) (w : World) (hL : (backA c m ph).1 = L) (hD : (backA c m ph).2 = D) : Calls Try.prog 46 #[(.agg #[.int .i64 c.id, .int .i64 c.m, .int .i64 c.u, .int .i64 c.b, .int .i64 c.cp, .int .i64 c.z, .int .i64 c.s, .int .i64 c.mt, .int .i64 c.o, .int .i64 c.a, .int .i64 c.l]), .int .i64 m, .int .i64 ph] w (Says w (.agg #[.bool !D, .int .i64 m, .int .i64 ph, .int .i64 L, .int .i64 1])) := by
  go_enter Try.func46, Try.ntmps46
  go_wp2_with fail
  have HV0 := Lib.hid (AtS.new (ps := #[.bool false, .int .i64 0, .int .i64 0, .int .i64 0, .int .i64 0]) c w)
  generalize ((w.alloc (.cells #[.int .i64 c.id, .int .i64 c.m, .int .i64 c.u, .int .i64 c.b, .int .i64 c.cp, .int .i64 c.z, .int .i64 c.s, .int .i64 c.mt, .int .i64 c.o, .int .i64 c.a, .int .i64 c.l] 23)).alloc (.cells #[.bool false, .int .i64 0, .int .i64 0, .int .i64 0, .int .i64 0] 41)) = w0 at HV0 ⊢
  obtain ⟨y0, y1, y2, y3, y4, y5, y6, y7, y8, y9, y10⟩ := box11 HV0.out.box
  refine (back_any c m ph w0).mono ?_
  rintro e w1 ⟨rfl, hb⟩
  rw [hL, hD]
  have HV1 := Lib.hid (HV0.out.later hb)
  clear hb HV0 y0 y1 y2 y3 y4 y5 y6 y7 y8 y9 y10
  obtain ⟨⟨z0, z1, z2, z3, z4⟩, f0, f1, f2, f3, f4⟩ := box5 HV1.out.plc
  go_wp2
  have HX := Lib.hid (HV1.out.put (a0 := (.bool !D)) (a1 := (.int .i64 m)) (a2 := (.int .i64 ph)) (a3 := (.int .i64 L)) (a4 := (.int .i64 1)) rfl)
  generalize (((((w1.setCell ⟨w.heap.size + 1, 0, none⟩ (.bool !D)).setCell ⟨w.heap.size + 1, 1, none⟩ (.int .i64 m)).setCell ⟨w.heap.size + 1, 2, none⟩ (.int .i64 ph)).setCell ⟨w.heap.size + 1, 3, none⟩ (.int .i64 L)).setCell ⟨w.heap.size + 1, 4, none⟩ (.int .i64 1)) = w2 at HX ⊢
  clear z0 z1 z2 z3 z4 f0 f1 f2 f3 f4 HV1
  obtain ⟨⟨z0, z1, z2, z3, z4⟩, f0, f1, f2, f3, f4⟩ := box5 HX.out.1
  exact bodyPost_ret (v := .agg #[.bool !D, .int .i64 m, .int .i64 ph, .int .i64 L, .int .i64 1]) (by simp [results, Try.results46, go_sem, *]) rfl ⟨rfl, HX.out.2.1⟩
end Go.Proofs.Yteglgopbagefcaa
