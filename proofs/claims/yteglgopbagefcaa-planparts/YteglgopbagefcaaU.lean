/- Contracts of the reference's Row, Size, Stripes, Parity, Member, Unit. -/
import Derived.Test.YteglgopbagefcaaT
namespace Go.Proofs.Yteglgopbagefcaa
set_option linter.unusedVariables false
set_option linter.unusedSimpArgs false
open Go.RowKit
open Go.RowKit (wrap64)

theorem index1 (a0 a1 a2 a3 a4 a5 a6 : Value) (w : World) : (Instr.index 42 (.agg #[a0, a1, a2, a3, a4, a5, a6]) (.int .i64 1)).run Try.prog w = .ok a1 w := by kernel_rfl
set_option maxHeartbeats 1000000 in
theorem rRow_any (c : Cf) (w : World) : Calls Try.prog 24 #[(.agg #[.int .i64 c.id, .int .i64 c.m, .int .i64 c.u, .int .i64 c.b, .int .i64 c.cp, .int .i64 c.z, .int .i64 c.s, .int .i64 c.mt, .int .i64 c.o, .int .i64 c.a, .int .i64 c.l])] w (Says w (.int .i64 (dataC c * c.u))) := by
  go_enter Try.func24, Try.ntmps24
  go_wp2_with fail
  have HV0 := Lib.hid (At.new c w)
  generalize (w.alloc (.cells #[.int .i64 c.id, .int .i64 c.m, .int .i64 c.u, .int .i64 c.b, .int .i64 c.cp, .int .i64 c.z, .int .i64 c.s, .int .i64 c.mt, .int .i64 c.o, .int .i64 c.a, .int .i64 c.l] 23)) = w0 at HV0 ⊢
  obtain ⟨y0, y1, y2, y3, y4, y5, y6, y7, y8, y9, y10⟩ := box11 HV0.out.1
  refine (nums_any c w0).mono ?_
  rintro e w1 ⟨rfl, hb⟩
  have HV1 := Lib.hid (HV0.out.later hb)
  clear hb HV0 y0 y1 y2 y3 y4 y5 y6 y7 y8 y9 y10
  obtain ⟨y0, y1, y2, y3, y4, y5, y6, y7, y8, y9, y10⟩ := box11 HV1.out.1
  have HQ := Lib.hid (rfl : dataC c * c.u = dataC c * c.u)
  generalize e0 : (Value.int IntKind.i64 (dataC c)) = x0
  generalize e1 : (Value.int IntKind.i64 (dataC c * c.u)) = x1
  generalize e2 : (Value.int IntKind.i64 (stripesC c)) = x2
  generalize e3 : (Value.int IntKind.i64 (stripesC c * (dataC c * c.u))) = x3
  generalize e4 : (Value.int IntKind.i64 (slotsC c)) = x4
  generalize e5 : (Value.int IntKind.i64 (allC c)) = x5
  generalize e6 : (Value.int IntKind.i64 (roomC c)) = x6
  have hix := index1 x0 x1 x2 x3 x4 x5 x6
  have HE := Lib.hid e1
  clear e0 e1 e2 e3 e4 e5 e6 HQ
  go_wp2
  go_ret
  exact ⟨by rw [HE.out]; rfl, HV1.out.2.1⟩
theorem index3 (a0 a1 a2 a3 a4 a5 a6 : Value) (w : World) : (Instr.index 42 (.agg #[a0, a1, a2, a3, a4, a5, a6]) (.int .i64 3)).run Try.prog w = .ok a3 w := by kernel_rfl
set_option maxHeartbeats 1000000 in
theorem rSize_any (c : Cf) (w : World) : Calls Try.prog 33 #[(.agg #[.int .i64 c.id, .int .i64 c.m, .int .i64 c.u, .int .i64 c.b, .int .i64 c.cp, .int .i64 c.z, .int .i64 c.s, .int .i64 c.mt, .int .i64 c.o, .int .i64 c.a, .int .i64 c.l])] w (Says w (.int .i64 (stripesC c * (dataC c * c.u)))) := by
  go_enter Try.func33, Try.ntmps33
  go_wp2_with fail
  have HV0 := Lib.hid (At.new c w)
  generalize (w.alloc (.cells #[.int .i64 c.id, .int .i64 c.m, .int .i64 c.u, .int .i64 c.b, .int .i64 c.cp, .int .i64 c.z, .int .i64 c.s, .int .i64 c.mt, .int .i64 c.o, .int .i64 c.a, .int .i64 c.l] 23)) = w0 at HV0 ⊢
  obtain ⟨y0, y1, y2, y3, y4, y5, y6, y7, y8, y9, y10⟩ := box11 HV0.out.1
  refine (nums_any c w0).mono ?_
  rintro e w1 ⟨rfl, hb⟩
  have HV1 := Lib.hid (HV0.out.later hb)
  clear hb HV0 y0 y1 y2 y3 y4 y5 y6 y7 y8 y9 y10
  obtain ⟨y0, y1, y2, y3, y4, y5, y6, y7, y8, y9, y10⟩ := box11 HV1.out.1
  have HQ := Lib.hid (rfl : stripesC c * (dataC c * c.u) = stripesC c * (dataC c * c.u))
  generalize e0 : (Value.int IntKind.i64 (dataC c)) = x0
  generalize e1 : (Value.int IntKind.i64 (dataC c * c.u)) = x1
  generalize e2 : (Value.int IntKind.i64 (stripesC c)) = x2
  generalize e3 : (Value.int IntKind.i64 (stripesC c * (dataC c * c.u))) = x3
  generalize e4 : (Value.int IntKind.i64 (slotsC c)) = x4
  generalize e5 : (Value.int IntKind.i64 (allC c)) = x5
  generalize e6 : (Value.int IntKind.i64 (roomC c)) = x6
  have hix := index3 x0 x1 x2 x3 x4 x5 x6
  have HE := Lib.hid e3
  clear e0 e1 e2 e3 e4 e5 e6 HQ
  go_wp2
  go_ret
  exact ⟨by rw [HE.out]; rfl, HV1.out.2.1⟩
theorem index2 (a0 a1 a2 a3 a4 a5 a6 : Value) (w : World) : (Instr.index 42 (.agg #[a0, a1, a2, a3, a4, a5, a6]) (.int .i64 2)).run Try.prog w = .ok a2 w := by kernel_rfl
set_option maxHeartbeats 1000000 in
theorem rStripes_any (c : Cf) (w : World) : Calls Try.prog 47 #[(.agg #[.int .i64 c.id, .int .i64 c.m, .int .i64 c.u, .int .i64 c.b, .int .i64 c.cp, .int .i64 c.z, .int .i64 c.s, .int .i64 c.mt, .int .i64 c.o, .int .i64 c.a, .int .i64 c.l])] w (Says w (.int .i64 (stripesC c))) := by
  go_enter Try.func47, Try.ntmps47
  go_wp2_with fail
  have HV0 := Lib.hid (At.new c w)
  generalize (w.alloc (.cells #[.int .i64 c.id, .int .i64 c.m, .int .i64 c.u, .int .i64 c.b, .int .i64 c.cp, .int .i64 c.z, .int .i64 c.s, .int .i64 c.mt, .int .i64 c.o, .int .i64 c.a, .int .i64 c.l] 23)) = w0 at HV0 ⊢
  obtain ⟨y0, y1, y2, y3, y4, y5, y6, y7, y8, y9, y10⟩ := box11 HV0.out.1
  refine (nums_any c w0).mono ?_
  rintro e w1 ⟨rfl, hb⟩
  have HV1 := Lib.hid (HV0.out.later hb)
  clear hb HV0 y0 y1 y2 y3 y4 y5 y6 y7 y8 y9 y10
  obtain ⟨y0, y1, y2, y3, y4, y5, y6, y7, y8, y9, y10⟩ := box11 HV1.out.1
  have HQ := Lib.hid (rfl : stripesC c = stripesC c)
  generalize e0 : (Value.int IntKind.i64 (dataC c)) = x0
  generalize e1 : (Value.int IntKind.i64 (dataC c * c.u)) = x1
  generalize e2 : (Value.int IntKind.i64 (stripesC c)) = x2
  generalize e3 : (Value.int IntKind.i64 (stripesC c * (dataC c * c.u))) = x3
  generalize e4 : (Value.int IntKind.i64 (slotsC c)) = x4
  generalize e5 : (Value.int IntKind.i64 (allC c)) = x5
  generalize e6 : (Value.int IntKind.i64 (roomC c)) = x6
  have hix := index2 x0 x1 x2 x3 x4 x5 x6
  have HE := Lib.hid e2
  clear e0 e1 e2 e3 e4 e5 e6 HQ
  go_wp2
  go_ret
  exact ⟨by rw [HE.out]; rfl, HV1.out.2.1⟩
set_option maxHeartbeats 2000000 in
theorem rMember_any (c : Cf) (s u : Int) (w : World) : Calls Try.prog 60 #[(.agg #[.int .i64 c.id, .int .i64 c.m, .int .i64 c.u, .int .i64 c.b, .int .i64 c.cp, .int .i64 c.z, .int .i64 c.s, .int .i64 c.mt, .int .i64 c.o, .int .i64 c.a, .int .i64 c.l]), .int .i64 s, .int .i64 u] w (Says w (.int .i64 (memberA c s u))) := by
  by_cases hc : checkC c = 0
  · have HO := Lib.hid (ok_of hc)
    have o1 := HO.out.m1
    have o2 := HO.out.m2
    have o3 := HO.out.s2
    have o4 := HO.out.d
    by_cases h1 : s < 0
    · have HA : Hid (memberA c s u = 0) := by
        show memberA c s u = 0
        unfold memberA; rw [if_neg (fun h => by have := hasS_iff.1 h.1; omega)]
      go_enter Try.func60, Try.ntmps60
      go_wp2_with fail
      have HV0 := Lib.hid (At.new c w)
      generalize (w.alloc (.cells #[.int .i64 c.id, .int .i64 c.m, .int .i64 c.u, .int .i64 c.b, .int .i64 c.cp, .int .i64 c.z, .int .i64 c.s, .int .i64 c.mt, .int .i64 c.o, .int .i64 c.a, .int .i64 c.l] 23)) = w0 at HV0 ⊢
      obtain ⟨y0, y1, y2, y3, y4, y5, y6, y7, y8, y9, y10⟩ := box11 HV0.out.1
      refine (refCheck_any c w0).mono ?_
      rintro e w1 ⟨rfl, hb⟩
      rw [hc]
      clear hc
      have HV1 := Lib.hid (HV0.out.later hb)
      clear hb HV0 y0 y1 y2 y3 y4 y5 y6 y7 y8 y9 y10
      obtain ⟨y0, y1, y2, y3, y4, y5, y6, y7, y8, y9, y10⟩ := box11 HV1.out.1
      go_wp2
      go_ret
      exact ⟨by rw [HA.out]; rfl, HV1.out.2.1⟩
    · by_cases h2 : stripesC c ≤ s
      · have HA : Hid (memberA c s u = 0) := by
          show memberA c s u = 0
          unfold memberA; rw [if_neg (fun h => by have := hasS_iff.1 h.1; omega)]
        go_enter Try.func60, Try.ntmps60
        go_wp2_with fail
        have HV0 := Lib.hid (At.new c w)
        generalize (w.alloc (.cells #[.int .i64 c.id, .int .i64 c.m, .int .i64 c.u, .int .i64 c.b, .int .i64 c.cp, .int .i64 c.z, .int .i64 c.s, .int .i64 c.mt, .int .i64 c.o, .int .i64 c.a, .int .i64 c.l] 23)) = w0 at HV0 ⊢
        obtain ⟨y0, y1, y2, y3, y4, y5, y6, y7, y8, y9, y10⟩ := box11 HV0.out.1
        refine (refCheck_any c w0).mono ?_
        rintro e w1 ⟨rfl, hb⟩
        rw [hc]
        clear hc
        have HV1 := Lib.hid (HV0.out.later hb)
        clear hb HV0 y0 y1 y2 y3 y4 y5 y6 y7 y8 y9 y10
        obtain ⟨y0, y1, y2, y3, y4, y5, y6, y7, y8, y9, y10⟩ := box11 HV1.out.1
        go_wp2_with fail
        refine (rStripes_any c w1).mono ?_
        rintro e w2 ⟨rfl, hb⟩
        have HV2 := Lib.hid (HV1.out.later hb)
        clear hb HV1 y0 y1 y2 y3 y4 y5 y6 y7 y8 y9 y10
        obtain ⟨y0, y1, y2, y3, y4, y5, y6, y7, y8, y9, y10⟩ := box11 HV2.out.1
        go_wp2
        go_ret
        exact ⟨by rw [HA.out]; rfl, HV2.out.2.1⟩
      · by_cases h3 : u < 0
        · have HA : Hid (memberA c s u = 0) := by
            show memberA c s u = 0
            unfold memberA; rw [if_neg (fun h => by have := belowC_iff.1 h.2; omega)]
          go_enter Try.func60, Try.ntmps60
          go_wp2_with fail
          have HV0 := Lib.hid (At.new c w)
          generalize (w.alloc (.cells #[.int .i64 c.id, .int .i64 c.m, .int .i64 c.u, .int .i64 c.b, .int .i64 c.cp, .int .i64 c.z, .int .i64 c.s, .int .i64 c.mt, .int .i64 c.o, .int .i64 c.a, .int .i64 c.l] 23)) = w0 at HV0 ⊢
          obtain ⟨y0, y1, y2, y3, y4, y5, y6, y7, y8, y9, y10⟩ := box11 HV0.out.1
          refine (refCheck_any c w0).mono ?_
          rintro e w1 ⟨rfl, hb⟩
          rw [hc]
          clear hc
          have HV1 := Lib.hid (HV0.out.later hb)
          clear hb HV0 y0 y1 y2 y3 y4 y5 y6 y7 y8 y9 y10
          obtain ⟨y0, y1, y2, y3, y4, y5, y6, y7, y8, y9, y10⟩ := box11 HV1.out.1
          go_wp2_with fail
          refine (rStripes_any c w1).mono ?_
          rintro e w2 ⟨rfl, hb⟩
          have HV2 := Lib.hid (HV1.out.later hb)
          clear hb HV1 y0 y1 y2 y3 y4 y5 y6 y7 y8 y9 y10
          obtain ⟨y0, y1, y2, y3, y4, y5, y6, y7, y8, y9, y10⟩ := box11 HV2.out.1
          go_wp2
          go_ret
          exact ⟨by rw [HA.out]; rfl, HV2.out.2.1⟩
        · by_cases h4 : c.m - 1 ≤ u
          · have HA : Hid (memberA c s u = 0) := by
              show memberA c s u = 0
              unfold memberA; rw [if_neg (fun h => by have := belowC_iff.1 h.2; omega)]
            go_enter Try.func60, Try.ntmps60
            go_wp2_with fail
            have HV0 := Lib.hid (At.new c w)
            generalize (w.alloc (.cells #[.int .i64 c.id, .int .i64 c.m, .int .i64 c.u, .int .i64 c.b, .int .i64 c.cp, .int .i64 c.z, .int .i64 c.s, .int .i64 c.mt, .int .i64 c.o, .int .i64 c.a, .int .i64 c.l] 23)) = w0 at HV0 ⊢
            obtain ⟨y0, y1, y2, y3, y4, y5, y6, y7, y8, y9, y10⟩ := box11 HV0.out.1
            refine (refCheck_any c w0).mono ?_
            rintro e w1 ⟨rfl, hb⟩
            rw [hc]
            clear hc
            have HV1 := Lib.hid (HV0.out.later hb)
            clear hb HV0 y0 y1 y2 y3 y4 y5 y6 y7 y8 y9 y10
            obtain ⟨y0, y1, y2, y3, y4, y5, y6, y7, y8, y9, y10⟩ := box11 HV1.out.1
            go_wp2_with fail
            refine (rStripes_any c w1).mono ?_
            rintro e w2 ⟨rfl, hb⟩
            have HV2 := Lib.hid (HV1.out.later hb)
            clear hb HV1 y0 y1 y2 y3 y4 y5 y6 y7 y8 y9 y10
            obtain ⟨y0, y1, y2, y3, y4, y5, y6, y7, y8, y9, y10⟩ := box11 HV2.out.1
            go_wp2
            go_ret
            exact ⟨by rw [HA.out]; rfl, HV2.out.2.1⟩
          · have hs : hasS c s = true := hasS_iff.2 ⟨hc, by omega, by omega⟩
            have HA : Hid (memberA c s u = (s + 1 + u) % c.m) := by
              show memberA c s u = _
              unfold memberA
              rw [if_pos ⟨hs, belowC_iff.2 ⟨by omega, by omega⟩⟩, Int.add_assoc, Int.emod_add_emod, ← Int.add_assoc]
            clear hs
            have m1 : 0 ≤ (s + 1 + u) % c.m := Int.emod_nonneg _ (by omega)
            have m2 : (s + 1 + u) % c.m < c.m := Int.emod_lt_of_pos _ (by omega)
            go_enter Try.func60, Try.ntmps60
            go_wp2_with fail
            have HV0 := Lib.hid (At.new c w)
            generalize (w.alloc (.cells #[.int .i64 c.id, .int .i64 c.m, .int .i64 c.u, .int .i64 c.b, .int .i64 c.cp, .int .i64 c.z, .int .i64 c.s, .int .i64 c.mt, .int .i64 c.o, .int .i64 c.a, .int .i64 c.l] 23)) = w0 at HV0 ⊢
            obtain ⟨y0, y1, y2, y3, y4, y5, y6, y7, y8, y9, y10⟩ := box11 HV0.out.1
            refine (refCheck_any c w0).mono ?_
            rintro e w1 ⟨rfl, hb⟩
            rw [hc]
            clear hc
            have HV1 := Lib.hid (HV0.out.later hb)
            clear hb HV0 y0 y1 y2 y3 y4 y5 y6 y7 y8 y9 y10
            obtain ⟨y0, y1, y2, y3, y4, y5, y6, y7, y8, y9, y10⟩ := box11 HV1.out.1
            go_wp2_with fail
            refine (rStripes_any c w1).mono ?_
            rintro e w2 ⟨rfl, hb⟩
            have HV2 := Lib.hid (HV1.out.later hb)
            clear hb HV1 y0 y1 y2 y3 y4 y5 y6 y7 y8 y9 y10
            obtain ⟨y0, y1, y2, y3, y4, y5, y6, y7, y8, y9, y10⟩ := box11 HV2.out.1
            go_wp2
            go_ret
            exact ⟨by rw [HA.out]; rfl, HV2.out.2.1⟩
  · have HA : Hid (memberA c s u = 0) := by
      show memberA c s u = 0
      unfold memberA; rw [if_neg (fun h => hc (hasS_iff.1 h.1).1)]
    go_enter Try.func60, Try.ntmps60
    go_wp2_with fail
    have HV0 := Lib.hid (At.new c w)
    generalize (w.alloc (.cells #[.int .i64 c.id, .int .i64 c.m, .int .i64 c.u, .int .i64 c.b, .int .i64 c.cp, .int .i64 c.z, .int .i64 c.s, .int .i64 c.mt, .int .i64 c.o, .int .i64 c.a, .int .i64 c.l] 23)) = w0 at HV0 ⊢
    obtain ⟨y0, y1, y2, y3, y4, y5, y6, y7, y8, y9, y10⟩ := box11 HV0.out.1
    refine (refCheck_any c w0).mono ?_
    rintro e w1 ⟨rfl, hb⟩
    generalize checkC c = x at hc ⊢
    have e1 : (x == 0) = false := by simpa using hc
    have HV1 := Lib.hid (HV0.out.later hb)
    clear hb HV0 y0 y1 y2 y3 y4 y5 y6 y7 y8 y9 y10
    obtain ⟨y0, y1, y2, y3, y4, y5, y6, y7, y8, y9, y10⟩ := box11 HV1.out.1
    go_wp2
    go_ret
    exact ⟨by rw [HA.out]; rfl, HV1.out.2.1⟩
theorem mod_two {a M : Int} (h0 : 0 ≤ a) (h1 : a < 2 * M) : (a < M ∧ a % M = a) ∨ (M ≤ a ∧ a % M = a - M) := by
  by_cases h : a < M
  · exact .inl ⟨h, Int.emod_eq_of_lt h0 h⟩
  · refine .inr ⟨by omega, ?_⟩
    have e : a = (a - M) + M * 1 := by omega
    rw [e, Int.add_mul_emod_self_left, Int.emod_eq_of_lt (by omega) (by omega)]
    omega
/-- The unit that a member has is the one whose member it is. -/
theorem uni_mem {c : Cf} {s m : Int} (hm : 3 ≤ c.m) (h1 : 0 ≤ m) (h2 : m < c.m) (h : uniC c s m ≠ -1) : (s % c.m + 1 + uniC c s m) % c.m = m := by
  have m1 : 0 ≤ s % c.m := Int.emod_nonneg _ (by omega)
  have m2 : s % c.m < c.m := Int.emod_lt_of_pos _ (by omega)
  have hi := uniC_in (s := s) hm h1 h2
  have ht := mod_two (a := s % c.m + 1 + uniC c s m) (M := c.m) (by omega) (by omega)
  rcases uniC_val (s := s) hm h1 h2 with h | h | h <;> omega
theorem mem_uni {c : Cf} {s k : Int} (hm : 3 ≤ c.m) (h1 : 0 ≤ k) (h2 : k < c.m - 1) : uniC c s ((s % c.m + 1 + k) % c.m) = k := by
  have m1 : 0 ≤ s % c.m := Int.emod_nonneg _ (by omega)
  have m2 : s % c.m < c.m := Int.emod_lt_of_pos _ (by omega)
  have ht := mod_two (a := s % c.m + 1 + k) (M := c.m) (by omega) (by omega)
  have h3 : 0 ≤ (s % c.m + 1 + k) % c.m := Int.emod_nonneg _ (by omega)
  have h4 : (s % c.m + 1 + k) % c.m < c.m := Int.emod_lt_of_pos _ (by omega)
  rcases uniC_val (s := s) hm h3 h4 with h | h | h <;> omega
set_option maxHeartbeats 4000000 in
theorem rUnit_any (c : Cf) (s m : Int) (w : World) : Calls Try.prog 48 #[(.agg #[.int .i64 c.id, .int .i64 c.m, .int .i64 c.u, .int .i64 c.b, .int .i64 c.cp, .int .i64 c.z, .int .i64 c.s, .int .i64 c.mt, .int .i64 c.o, .int .i64 c.a, .int .i64 c.l]), .int .i64 s, .int .i64 m] w (Says w (.int .i64 (unitA c s m))) := by
  by_cases hc : checkC c = 0
  · have HO := Lib.hid (ok_of hc)
    have o1 := HO.out.m1
    have o2 := HO.out.m2
    have o3 := HO.out.s2
    by_cases h1 : s < 0
    · have HA : Hid (unitA c s m = 0) := by
        show unitA c s m = 0
        unfold unitA; rw [if_neg (fun h => by have := hasS_iff.1 h.1; omega)]
      go_enter Try.func48, Try.ntmps48
      go_wp2_with fail
      have HV0 := Lib.hid (At.new c w)
      generalize (w.alloc (.cells #[.int .i64 c.id, .int .i64 c.m, .int .i64 c.u, .int .i64 c.b, .int .i64 c.cp, .int .i64 c.z, .int .i64 c.s, .int .i64 c.mt, .int .i64 c.o, .int .i64 c.a, .int .i64 c.l] 23)) = w0 at HV0 ⊢
      obtain ⟨y0, y1, y2, y3, y4, y5, y6, y7, y8, y9, y10⟩ := box11 HV0.out.1
      refine (refCheck_any c w0).mono ?_
      rintro e w1 ⟨rfl, hb⟩
      rw [hc]
      clear hc
      have HV1 := Lib.hid (HV0.out.later hb)
      clear hb HV0 y0 y1 y2 y3 y4 y5 y6 y7 y8 y9 y10
      obtain ⟨y0, y1, y2, y3, y4, y5, y6, y7, y8, y9, y10⟩ := box11 HV1.out.1
      go_wp2
      go_ret
      exact ⟨by rw [HA.out]; rfl, HV1.out.2.1⟩
    · by_cases h2 : stripesC c ≤ s
      · have HA : Hid (unitA c s m = 0) := by
          show unitA c s m = 0
          unfold unitA; rw [if_neg (fun h => by have := hasS_iff.1 h.1; omega)]
        go_enter Try.func48, Try.ntmps48
        go_wp2_with fail
        have HV0 := Lib.hid (At.new c w)
        generalize (w.alloc (.cells #[.int .i64 c.id, .int .i64 c.m, .int .i64 c.u, .int .i64 c.b, .int .i64 c.cp, .int .i64 c.z, .int .i64 c.s, .int .i64 c.mt, .int .i64 c.o, .int .i64 c.a, .int .i64 c.l] 23)) = w0 at HV0 ⊢
        obtain ⟨y0, y1, y2, y3, y4, y5, y6, y7, y8, y9, y10⟩ := box11 HV0.out.1
        refine (refCheck_any c w0).mono ?_
        rintro e w1 ⟨rfl, hb⟩
        rw [hc]
        clear hc
        have HV1 := Lib.hid (HV0.out.later hb)
        clear hb HV0 y0 y1 y2 y3 y4 y5 y6 y7 y8 y9 y10
        obtain ⟨y0, y1, y2, y3, y4, y5, y6, y7, y8, y9, y10⟩ := box11 HV1.out.1
        go_wp2_with fail
        refine (rStripes_any c w1).mono ?_
        rintro e w2 ⟨rfl, hb⟩
        have HV2 := Lib.hid (HV1.out.later hb)
        clear hb HV1 y0 y1 y2 y3 y4 y5 y6 y7 y8 y9 y10
        obtain ⟨y0, y1, y2, y3, y4, y5, y6, y7, y8, y9, y10⟩ := box11 HV2.out.1
        go_wp2
        go_ret
        exact ⟨by rw [HA.out]; rfl, HV2.out.2.1⟩
      · by_cases h3 : m < 0
        · have HA : Hid (unitA c s m = 0) := by
            show unitA c s m = 0
            unfold unitA; rw [if_neg (fun h => by have := belowC_iff.1 h.2; omega)]
          go_enter Try.func48, Try.ntmps48
          go_wp2_with fail
          have HV0 := Lib.hid (At.new c w)
          generalize (w.alloc (.cells #[.int .i64 c.id, .int .i64 c.m, .int .i64 c.u, .int .i64 c.b, .int .i64 c.cp, .int .i64 c.z, .int .i64 c.s, .int .i64 c.mt, .int .i64 c.o, .int .i64 c.a, .int .i64 c.l] 23)) = w0 at HV0 ⊢
          obtain ⟨y0, y1, y2, y3, y4, y5, y6, y7, y8, y9, y10⟩ := box11 HV0.out.1
          refine (refCheck_any c w0).mono ?_
          rintro e w1 ⟨rfl, hb⟩
          rw [hc]
          clear hc
          have HV1 := Lib.hid (HV0.out.later hb)
          clear hb HV0 y0 y1 y2 y3 y4 y5 y6 y7 y8 y9 y10
          obtain ⟨y0, y1, y2, y3, y4, y5, y6, y7, y8, y9, y10⟩ := box11 HV1.out.1
          go_wp2_with fail
          refine (rStripes_any c w1).mono ?_
          rintro e w2 ⟨rfl, hb⟩
          have HV2 := Lib.hid (HV1.out.later hb)
          clear hb HV1 y0 y1 y2 y3 y4 y5 y6 y7 y8 y9 y10
          obtain ⟨y0, y1, y2, y3, y4, y5, y6, y7, y8, y9, y10⟩ := box11 HV2.out.1
          go_wp2
          go_ret
          exact ⟨by rw [HA.out]; rfl, HV2.out.2.1⟩
        · by_cases h4 : c.m ≤ m
          · have HA : Hid (unitA c s m = 0) := by
              show unitA c s m = 0
              unfold unitA; rw [if_neg (fun h => by have := belowC_iff.1 h.2; omega)]
            go_enter Try.func48, Try.ntmps48
            go_wp2_with fail
            have HV0 := Lib.hid (At.new c w)
            generalize (w.alloc (.cells #[.int .i64 c.id, .int .i64 c.m, .int .i64 c.u, .int .i64 c.b, .int .i64 c.cp, .int .i64 c.z, .int .i64 c.s, .int .i64 c.mt, .int .i64 c.o, .int .i64 c.a, .int .i64 c.l] 23)) = w0 at HV0 ⊢
            obtain ⟨y0, y1, y2, y3, y4, y5, y6, y7, y8, y9, y10⟩ := box11 HV0.out.1
            refine (refCheck_any c w0).mono ?_
            rintro e w1 ⟨rfl, hb⟩
            rw [hc]
            clear hc
            have HV1 := Lib.hid (HV0.out.later hb)
            clear hb HV0 y0 y1 y2 y3 y4 y5 y6 y7 y8 y9 y10
            obtain ⟨y0, y1, y2, y3, y4, y5, y6, y7, y8, y9, y10⟩ := box11 HV1.out.1
            go_wp2_with fail
            refine (rStripes_any c w1).mono ?_
            rintro e w2 ⟨rfl, hb⟩
            have HV2 := Lib.hid (HV1.out.later hb)
            clear hb HV1 y0 y1 y2 y3 y4 y5 y6 y7 y8 y9 y10
            obtain ⟨y0, y1, y2, y3, y4, y5, y6, y7, y8, y9, y10⟩ := box11 HV2.out.1
            go_wp2
            go_ret
            exact ⟨by rw [HA.out]; rfl, HV2.out.2.1⟩
          · have hs : hasS c s = true := hasS_iff.2 ⟨hc, by omega, by omega⟩
            have HA : Hid (unitA c s m = uniC c s m) := by
              show unitA c s m = _
              unfold unitA
              rw [if_pos ⟨hs, belowC_iff.2 ⟨by omega, by omega⟩⟩]
            have HM : Hid (∀ k : Nat, (k : Int) < c.m - 1 → memberA c s k = (s % c.m + 1 + k) % c.m) := by
              show ∀ k : Nat, (k : Int) < c.m - 1 → memberA c s k = (s % c.m + 1 + k) % c.m
              intro k hk
              have := HO.out.d
              unfold memberA
              rw [if_pos ⟨hs, belowC_iff.2 ⟨by omega, by omega⟩⟩]
            clear hs
            go_enter Try.func48, Try.ntmps48
            go_wp2_with fail
            have HV0 := Lib.hid (At.new c w)
            generalize (w.alloc (.cells #[.int .i64 c.id, .int .i64 c.m, .int .i64 c.u, .int .i64 c.b, .int .i64 c.cp, .int .i64 c.z, .int .i64 c.s, .int .i64 c.mt, .int .i64 c.o, .int .i64 c.a, .int .i64 c.l] 23)) = w0 at HV0 ⊢
            obtain ⟨y0, y1, y2, y3, y4, y5, y6, y7, y8, y9, y10⟩ := box11 HV0.out.1
            refine (refCheck_any c w0).mono ?_
            rintro e w1 ⟨rfl, hb⟩
            rw [hc]
            clear hc
            have HV1 := Lib.hid (HV0.out.later hb)
            clear hb HV0 y0 y1 y2 y3 y4 y5 y6 y7 y8 y9 y10
            obtain ⟨y0, y1, y2, y3, y4, y5, y6, y7, y8, y9, y10⟩ := box11 HV1.out.1
            go_wp2_with fail
            refine (rStripes_any c w1).mono ?_
            rintro e w2 ⟨rfl, hb⟩
            have HV2 := Lib.hid (HV1.out.later hb)
            clear hb HV1 y0 y1 y2 y3 y4 y5 y6 y7 y8 y9 y10
            obtain ⟨y0, y1, y2, y3, y4, y5, y6, y7, y8, y9, y10⟩ := box11 HV2.out.1
            go_wp2
            have S0 := Lib.hid HV2.out
            clear HV2 y0 y1 y2 y3 y4 y5 y6 y7 y8 y9 y10
            go_loopw [7] (fun i wr => ∃ k : Nat, (k : Int) ≤ c.m - 1 ∧ i = .int .i64 k ∧ (∀ j : Nat, j < k → (s % c.m + 1 + j) % c.m ≠ m) ∧ At c w wr) (fun i _ => c.m.toNat - (intOf i).toNat)
            case atStart => exact ⟨0, by omega, rfl, fun j hj => by omega, S0.out⟩
            case round =>
              clear S0
              obtain ⟨k, hk, rfl, hne, hat⟩ := hrel
              have HV3 := Lib.hid hat
              have HN := Lib.hid hne
              clear hat hne
              obtain ⟨y0, y1, y2, y3, y4, y5, y6, y7, y8, y9, y10⟩ := box11 HV3.out.1
              by_cases hlt : (k : Int) < c.m - 1
              · go_wp2_with fail
                refine (rMember_any c s k wr).mono ?_
                rintro e w4 ⟨rfl, hb⟩
                rw [HM.out k hlt]
                have HV4 := Lib.hid (HV3.out.later hb)
                clear hb HV3 y0 y1 y2 y3 y4 y5 y6 y7 y8 y9 y10
                by_cases he : (s % c.m + 1 + k) % c.m = m
                · have HE : Hid (uniC c s m = k) := by
                    show uniC c s m = k
                    rw [← he]
                    exact mem_uni o1 (by omega) hlt
                  have e1 : ((s % c.m + 1 + k) % c.m == m) = true := by simpa using he
                  clear he
                  go_wp2
                  go_ret
                  exact ⟨by rw [HA.out, HE.out]; rfl, HV4.out.2.1⟩
                · have e1 : ((s % c.m + 1 + k) % c.m == m) = false := by simpa using he
                  have HE := Lib.hid he
                  clear he
                  go_wp2
                  go_roundw
                  case rel =>
                    refine ⟨k + 1, by omega, by go_num, fun j hj => ?_, HV4.out⟩
                    rcases Nat.lt_succ_iff_lt_or_eq.1 hj with h | rfl
                    · exact HN.out j h
                    · exact HE.out
                  case measure => simp [intOf]; omega
              · have HE : Hid (uniC c s m = -1) := by
                  show uniC c s m = -1
                  rcases uniC_in (s := s) o1 (show 0 ≤ m by omega) (show m < c.m by omega) with h | h
                  · exact h
                  · exfalso
                    have h5 := uni_mem o1 (show 0 ≤ m by omega) (show m < c.m by omega) (s := s) (by omega)
                    have h6 := HN.out (uniC c s m).toNat (by omega)
                    rw [show (((uniC c s m).toNat : Nat) : Int) = uniC c s m by omega] at h6
                    exact h6 h5
                go_wp2
                go_ret
                exact ⟨by rw [HA.out, HE.out]; rfl, HV3.out.2.1⟩
  · have HA : Hid (unitA c s m = 0) := by
      show unitA c s m = 0
      unfold unitA; rw [if_neg (fun h => hc (hasS_iff.1 h.1).1)]
    go_enter Try.func48, Try.ntmps48
    go_wp2_with fail
    have HV0 := Lib.hid (At.new c w)
    generalize (w.alloc (.cells #[.int .i64 c.id, .int .i64 c.m, .int .i64 c.u, .int .i64 c.b, .int .i64 c.cp, .int .i64 c.z, .int .i64 c.s, .int .i64 c.mt, .int .i64 c.o, .int .i64 c.a, .int .i64 c.l] 23)) = w0 at HV0 ⊢
    obtain ⟨y0, y1, y2, y3, y4, y5, y6, y7, y8, y9, y10⟩ := box11 HV0.out.1
    refine (refCheck_any c w0).mono ?_
    rintro e w1 ⟨rfl, hb⟩
    generalize checkC c = x at hc ⊢
    have e1 : (x == 0) = false := by simpa using hc
    have HV1 := Lib.hid (HV0.out.later hb)
    clear hb HV0 y0 y1 y2 y3 y4 y5 y6 y7 y8 y9 y10
    obtain ⟨y0, y1, y2, y3, y4, y5, y6, y7, y8, y9, y10⟩ := box11 HV1.out.1
    go_wp2
    go_ret
    exact ⟨by rw [HA.out]; rfl, HV1.out.2.1⟩
end Go.Proofs.Yteglgopbagefcaa
