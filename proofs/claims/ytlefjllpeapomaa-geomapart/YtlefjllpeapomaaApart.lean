/- For all settings and numbers the law GeomApart returns true: the walk. -/
import Derived.Test.YtlefjllpeapomaaApart1
import Derived.Test.YtlefjllpeapomaaApart2
namespace Go.Proofs.Ytlefjllpeapomaa
set_option linter.unusedVariables false
set_option linter.unusedSimpArgs false
open Go.RowKit
open Go.RowKit (wrap64)

set_option maxHeartbeats 2000000 in
theorem apart_no1 (c : Cf) (a b : Int) (w : World) (h1 : ofB c a = false) : Calls Try.prog 5 #[(.agg #[.int .i64 c.id, .int .i64 c.m, .int .i64 c.u, .int .i64 c.b, .int .i64 c.cp, .int .i64 c.z, .int .i64 c.s, .int .i64 c.mt, .int .i64 c.o, .int .i64 c.a, .int .i64 c.l]), .int .i64 a, .int .i64 b] w (Says w (.bool true)) := by
  go_enter Try.func5, Try.ntmps5
  go_wp2_with fail
  have HV0 := Lib.hid (At.new c w)
  generalize (w.alloc (.cells #[.int .i64 c.id, .int .i64 c.m, .int .i64 c.u, .int .i64 c.b, .int .i64 c.cp, .int .i64 c.z, .int .i64 c.s, .int .i64 c.mt, .int .i64 c.o, .int .i64 c.a, .int .i64 c.l] 23)) = w0 at HV0 ⊢
  obtain ⟨y0, y1, y2, y3, y4, y5, y6, y7, y8, y9, y10⟩ := box11 HV0.out.1
  refine (of_any c a w0).mono ?_
  rintro e w1 ⟨rfl, hb⟩
  rw [h1]
  clear h1
  generalize ofA c a = P
  have HV1 := Lib.hid (HV0.out.later hb)
  clear hb HV0 y0 y1 y2 y3 y4 y5 y6 y7 y8 y9 y10
  obtain ⟨y0, y1, y2, y3, y4, y5, y6, y7, y8, y9, y10⟩ := box11 HV1.out.1
  go_upto_region 2 with fail
  have HV2 := Lib.hid (HV1.out.alloc (.cells #[.int .i64 P.s, .int .i64 P.u, .int .i64 P.i, .int .i64 P.m, .int .i64 P.p] 25))
  generalize (w1.alloc (.cells #[.int .i64 P.s, .int .i64 P.u, .int .i64 P.i, .int .i64 P.m, .int .i64 P.p] 25)) = w2 at HV2 ⊢
  clear HV1 y0 y1 y2 y3 y4 y5 y6 y7 y8 y9 y10
  obtain ⟨y0, y1, y2, y3, y4, y5, y6, y7, y8, y9, y10⟩ := box11 HV2.out.1
  go_wp2_with fail
  refine (of_any c b w2).mono ?_
  rintro e w3 ⟨rfl, hb⟩
  generalize ofB c b = okb
  generalize ofA c b = Q
  have HV3 := Lib.hid (HV2.out.later hb)
  clear hb HV2 y0 y1 y2 y3 y4 y5 y6 y7 y8 y9 y10
  go_upto_region 3 with fail
  have HV4 := Lib.hid (HV3.out.alloc (.cells #[.int .i64 Q.s, .int .i64 Q.u, .int .i64 Q.i, .int .i64 Q.m, .int .i64 Q.p] 25))
  generalize (w3.alloc (.cells #[.int .i64 Q.s, .int .i64 Q.u, .int .i64 Q.i, .int .i64 Q.m, .int .i64 Q.p] 25)) = w4 at HV4 ⊢
  clear HV3
  go_wp2_with fail
  refine (live_any w4).mono ?_
  rintro e w5 ⟨rfl, hb⟩
  have HV5 := Lib.hid (HV4.out.later hb)
  clear hb HV4
  go_wp2
  go_ret
  exact ⟨rfl, HV5.out.2.1⟩
set_option maxHeartbeats 2000000 in
theorem apart_no2 (c : Cf) (a b : Int) (w : World) (h1 : ofB c a = true) (h2 : ofB c b = false) : Calls Try.prog 5 #[(.agg #[.int .i64 c.id, .int .i64 c.m, .int .i64 c.u, .int .i64 c.b, .int .i64 c.cp, .int .i64 c.z, .int .i64 c.s, .int .i64 c.mt, .int .i64 c.o, .int .i64 c.a, .int .i64 c.l]), .int .i64 a, .int .i64 b] w (Says w (.bool true)) := by
  go_enter Try.func5, Try.ntmps5
  go_wp2_with fail
  have HV0 := Lib.hid (At.new c w)
  generalize (w.alloc (.cells #[.int .i64 c.id, .int .i64 c.m, .int .i64 c.u, .int .i64 c.b, .int .i64 c.cp, .int .i64 c.z, .int .i64 c.s, .int .i64 c.mt, .int .i64 c.o, .int .i64 c.a, .int .i64 c.l] 23)) = w0 at HV0 ⊢
  obtain ⟨y0, y1, y2, y3, y4, y5, y6, y7, y8, y9, y10⟩ := box11 HV0.out.1
  refine (of_any c a w0).mono ?_
  rintro e w1 ⟨rfl, hb⟩
  rw [h1]
  clear h1
  generalize ofA c a = P
  have HV1 := Lib.hid (HV0.out.later hb)
  clear hb HV0 y0 y1 y2 y3 y4 y5 y6 y7 y8 y9 y10
  obtain ⟨y0, y1, y2, y3, y4, y5, y6, y7, y8, y9, y10⟩ := box11 HV1.out.1
  go_upto_region 2 with fail
  have HV2 := Lib.hid (HV1.out.alloc (.cells #[.int .i64 P.s, .int .i64 P.u, .int .i64 P.i, .int .i64 P.m, .int .i64 P.p] 25))
  generalize (w1.alloc (.cells #[.int .i64 P.s, .int .i64 P.u, .int .i64 P.i, .int .i64 P.m, .int .i64 P.p] 25)) = w2 at HV2 ⊢
  clear HV1 y0 y1 y2 y3 y4 y5 y6 y7 y8 y9 y10
  obtain ⟨y0, y1, y2, y3, y4, y5, y6, y7, y8, y9, y10⟩ := box11 HV2.out.1
  go_wp2_with fail
  refine (of_any c b w2).mono ?_
  rintro e w3 ⟨rfl, hb⟩
  rw [h2]
  clear h2
  generalize ofA c b = Q
  have HV3 := Lib.hid (HV2.out.later hb)
  clear hb HV2 y0 y1 y2 y3 y4 y5 y6 y7 y8 y9 y10
  go_upto_region 3 with fail
  have HV4 := Lib.hid (HV3.out.alloc (.cells #[.int .i64 Q.s, .int .i64 Q.u, .int .i64 Q.i, .int .i64 Q.m, .int .i64 Q.p] 25))
  generalize (w3.alloc (.cells #[.int .i64 Q.s, .int .i64 Q.u, .int .i64 Q.i, .int .i64 Q.m, .int .i64 Q.p] 25)) = w4 at HV4 ⊢
  clear HV3
  go_wp2_with fail
  refine (live_any w4).mono ?_
  rintro e w5 ⟨rfl, hb⟩
  have HV5 := Lib.hid (HV4.out.later hb)
  clear hb HV4
  go_wp2
  go_ret
  exact ⟨rfl, HV5.out.2.1⟩
theorem geomApart_walk (c : Cf) (a b : Int) (w : World) : Calls Try.prog 5 #[(.agg #[.int .i64 c.id, .int .i64 c.m, .int .i64 c.u, .int .i64 c.b, .int .i64 c.cp, .int .i64 c.z, .int .i64 c.s, .int .i64 c.mt, .int .i64 c.o, .int .i64 c.a, .int .i64 c.l]), .int .i64 a, .int .i64 b] w (Says w (.bool true)) := by
  by_cases h1 : ofB c a = true
  · by_cases h2 : ofB c b = true
    · have ha := ofB_iff.1 h1
      have hb := ofB_iff.1 h2
      have la := lies_of h1
      have lb := lies_of h2
      have hbig := la.big ha.1
      have hX : 0 ≤ needA c (ofA c a).m (a + 1) ∧ needA c (ofA c a).m (a + 1) ≤ 61440000 := by
        have hn := la.next ha.1 ha.2.1 ha.2.2
        have hs := la.s0
        have hm := mul_in (a := (ofA c a).s + 1) (b := c.u) (A := 4097) (B := 64) (by omega) (by omega) (by have := (ok_of ha.1).u1; omega) (ok_of ha.1).u2
        by_cases hz : (a + 1) % (dataC c * c.u) = 0
        · rw [hn.1 hz]
          omega
        · rw [hn.2 hz]
          omega
      by_cases hab : a = b
      · exact apart_eq c a b _ _ _ w ha.1 rfl rfl h1 h2 la ha.2.1 ha.2.2 rfl hX.1 hX.2 hab
      · by_cases hm : (ofA c a).m = (ofA c b).m
        · rcases Int.lt_or_gt_of_ne hab with h | h
          · exact apart_lt c a b _ _ _ w ha.1 rfl rfl h1 h2 la ha.2.1 ha.2.2 rfl hX.1 hX.2 h hm (la.before lb ha.1 h hm)
          · exact apart_gt c a b _ _ _ w ha.1 rfl rfl h1 h2 la ha.2.1 ha.2.2 rfl hX.1 hX.2 h hm (lb.before la ha.1 h hm.symm)
        · exact apart_m c a b _ _ _ w ha.1 rfl rfl h1 h2 la ha.2.1 ha.2.2 rfl hX.1 hX.2 hab hm
    · exact apart_no2 c a b w h1 (by simpa using h2)
  · exact apart_no1 c a b w (by simpa using h1)
end Go.Proofs.Ytlefjllpeapomaa
