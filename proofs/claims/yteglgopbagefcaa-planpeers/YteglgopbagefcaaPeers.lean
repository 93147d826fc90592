/- The walk of PlanPeers. -/
import Derived.Test.YteglgopbagefcaaQd
import Derived.Test.YteglgopbagefcaaPh
namespace Go.Proofs.Yteglgopbagefcaa
set_option linter.unusedVariables false
set_option linter.unusedSimpArgs false
open Go.RowKit Go.Shelf
open Go.RowKit (wrap64)

set_option maxRecDepth 100000 in
set_option maxHeartbeats 2000000 in
theorem planPeers_walk (c : Cf) (lb n : Int) (w : World) (hn : n ≤ 9223372036854775807) : Calls Try.prog 4 #[(.agg #[.int .i64 c.id, .int .i64 c.m, .int .i64 c.u, .int .i64 c.b, .int .i64 c.cp, .int .i64 c.z, .int .i64 c.s, .int .i64 c.mt, .int .i64 c.o, .int .i64 c.a, .int .i64 c.l]), .int .i64 lb, .int .i64 n] w (Says w (.bool true)) := by
  by_cases hc : checkC c = 0
  · by_cases hs : smallC c = true
    · have HS := Lib.hid hs
      clear hs
      go_enter Try.func4, Try.ntmps4
      go_wp2_with fail
      have HV0 := Lib.hid (At.new c w)
      generalize (w.alloc (.cells #[.int .i64 c.id, .int .i64 c.m, .int .i64 c.u, .int .i64 c.b, .int .i64 c.cp, .int .i64 c.z, .int .i64 c.s, .int .i64 c.mt, .int .i64 c.o, .int .i64 c.a, .int .i64 c.l] 23)) = w0 at HV0 ⊢
      obtain ⟨y0, y1, y2, y3, y4, y5, y6, y7, y8, y9, y10⟩ := box11 HV0.out.1
      refine (refCheck_any c w0).mono ?_
      rintro e w1 ⟨rfl, hb⟩
      rw [hc]
      clear hc
      have HV1 := Lib.hid (HV0.out.later hb)
      clear hb HV0 y0 y1 y2 y3 y4 y5 y6 y7 y8 y9 y10
      obtain ⟨y0, y1, y2, y3, y4, y5, y6, y7, y8, y9, y10⟩ := box11 HV1.out.1
      go_wp2_with fail
      refine (small_any c w1).mono ?_
      rintro e w2 ⟨rfl, hb⟩
      rw [HS.out]
      have HV2 := Lib.hid (HV1.out.later hb)
      clear hb HV1 y0 y1 y2 y3 y4 y5 y6 y7 y8 y9 y10
      obtain ⟨y0, y1, y2, y3, y4, y5, y6, y7, y8, y9, y10⟩ := box11 HV2.out.1
      go_wp2_with fail
      refine (peers_any c lb n w2 hn).mono ?_
      rintro e w3 ⟨v1, rfl, hrw, hb⟩
      have HV3 := Lib.hid (HV2.out.later hb)
      have HR1 := Lib.hid hrw
      clear hrw hb HV2 y0 y1 y2 y3 y4 y5 y6 y7 y8 y9 y10
      obtain ⟨y0, y1, y2, y3, y4, y5, y6, y7, y8, y9, y10⟩ := box11 HV3.out.1
      go_wp2_with fail
      refine (rPeers_any c lb n w3 hn).mono ?_
      rintro e w4 ⟨v2, rfl, hrw, hb⟩
      have HV4 := Lib.hid (HV3.out.later hb)
      have HR1b := Lib.hid (HR1.out.later hb)
      obtain ⟨A, ca, rfl, hca, hsA⟩ := HR1b.out.seen Pl.len
      obtain ⟨D, cb, rfl, hcb, hsB⟩ := hrw.seen Pl.len
      have HSA := Lib.hid hsA
      have HSB := Lib.hid hsB
      clear hrw hb HV3 HR1 HR1b hsA hsB y0 y1 y2 y3 y4 y5 y6 y7 y8 y9 y10
      have hl := peersA_len c lb n
      generalize peersA c lb n = l at *
      generalize wholeA c lb n = bw at *
      obtain ⟨N, hN⟩ : ∃ N, l.length = N := ⟨_, rfl⟩
      have HN := Lib.hid hN
      rw [hN] at hl hca hcb ⊢
      clear hN
      go_wp2
      go_loopw [11] (fun i wr => ∃ k : Nat, k ≤ N ∧ i = .int .i64 k ∧ At c w wr ∧ Below w4.heap.size w4 wr) (fun i _ => N - (intOf i).toNat)
      case atStart => exact ⟨0, by omega, rfl, HV4.out, Below.refl _ _⟩
      case round =>
        obtain ⟨k, hk, rfl, hat, hbe⟩ := hrel
        have HE := Lib.hid hbe
        have HT := Lib.hid hat
        clear hbe hat
        by_cases hlt : k < N
        · obtain ⟨ga, rfl, a0, a1, a2, a3, a4⟩ := (HSA.out.later Pl.len HE.out).place (i := k) (by rw [HN.out]; exact hlt)
          obtain ⟨gb, rfl, b0, b1, b2, b3, b4⟩ := (HSB.out.later Pl.len HE.out).place (i := k) (by rw [HN.out]; exact hlt)
          generalize l[k]'(by rw [HN.out]; exact hlt) = x at a0 a1 a2 a3 a4 b0 b1 b2 b3 b4
          go_upto_region 10 with fail
          go_region
          all_goals go_wp2
          all_goals go_roundw
          case rel => exact ⟨k + 1, by omega, by go_num, HT.out.drew, HE.out.drew⟩
          case measure => simp [intOf]; omega
        · obtain rfl : k = N := by omega
          go_wp2_with fail
          refine (live_any wr).mono ?_
          rintro e w9 ⟨rfl, hb⟩
          have HV9 := Lib.hid (HT.out.later hb)
          clear hb
          go_wp2
          go_ret
          exact ⟨rfl, HV9.out.2.1⟩
    · have hf : smallC c = false := by simpa using hs
      have HS := Lib.hid hf
      clear hs hf
      go_enter Try.func4, Try.ntmps4
      go_wp2_with fail
      have HV0 := Lib.hid (At.new c w)
      generalize (w.alloc (.cells #[.int .i64 c.id, .int .i64 c.m, .int .i64 c.u, .int .i64 c.b, .int .i64 c.cp, .int .i64 c.z, .int .i64 c.s, .int .i64 c.mt, .int .i64 c.o, .int .i64 c.a, .int .i64 c.l] 23)) = w0 at HV0 ⊢
      obtain ⟨y0, y1, y2, y3, y4, y5, y6, y7, y8, y9, y10⟩ := box11 HV0.out.1
      refine (refCheck_any c w0).mono ?_
      rintro e w1 ⟨rfl, hb⟩
      rw [hc]
      clear hc
      have HV1 := Lib.hid (HV0.out.later hb)
      clear hb HV0 y0 y1 y2 y3 y4 y5 y6 y7 y8 y9 y10
      obtain ⟨y0, y1, y2, y3, y4, y5, y6, y7, y8, y9, y10⟩ := box11 HV1.out.1
      go_wp2_with fail
      refine (small_any c w1).mono ?_
      rintro e w2 ⟨rfl, hb⟩
      rw [HS.out]
      have HV2 := Lib.hid (HV1.out.later hb)
      clear hb HV1 y0 y1 y2 y3 y4 y5 y6 y7 y8 y9 y10
      obtain ⟨y0, y1, y2, y3, y4, y5, y6, y7, y8, y9, y10⟩ := box11 HV2.out.1
      go_wp2_with fail
      refine (live_any w2).mono ?_
      rintro e w3 ⟨rfl, hb⟩
      have HV3 := Lib.hid (HV2.out.later hb)
      clear hb HV2 y0 y1 y2 y3 y4 y5 y6 y7 y8 y9 y10
      obtain ⟨y0, y1, y2, y3, y4, y5, y6, y7, y8, y9, y10⟩ := box11 HV3.out.1
      go_wp2
      go_ret
      exact ⟨rfl, HV3.out.2.1⟩
  · skip
    go_enter Try.func4, Try.ntmps4
    go_wp2_with fail
    have HV0 := Lib.hid (At.new c w)
    generalize (w.alloc (.cells #[.int .i64 c.id, .int .i64 c.m, .int .i64 c.u, .int .i64 c.b, .int .i64 c.cp, .int .i64 c.z, .int .i64 c.s, .int .i64 c.mt, .int .i64 c.o, .int .i64 c.a, .int .i64 c.l] 23)) = w0 at HV0 ⊢
    obtain ⟨y0, y1, y2, y3, y4, y5, y6, y7, y8, y9, y10⟩ := box11 HV0.out.1
    refine (refCheck_any c w0).mono ?_
    rintro e w1 ⟨rfl, hb⟩
    generalize checkC c = x at hc ⊢
    have e1 : (x == 0) = false := by simpa using hc
    have HV1 := Lib.hid (HV0.out.later hb)
    clear hb HV0 y0 y1 y2 y3 y4 y5 y6 y7 y8 y9 y10
    obtain ⟨y0, y1, y2, y3, y4, y5, y6, y7, y8, y9, y10⟩ := box11 HV1.out.1
    go_wp2_with fail
    refine (peers_any c lb n w1 hn).mono ?_
    rintro e w2 ⟨v1, rfl, hrw, hb⟩
    have HV2 := Lib.hid (HV1.out.later hb)
    have HR1 := Lib.hid hrw
    clear hrw hb HV1 y0 y1 y2 y3 y4 y5 y6 y7 y8 y9 y10
    obtain ⟨y0, y1, y2, y3, y4, y5, y6, y7, y8, y9, y10⟩ := box11 HV2.out.1
    go_wp2_with fail
    refine (rPeers_any c lb n w2 hn).mono ?_
    rintro e w3 ⟨v2, rfl, hrw, hb⟩
    have HV3 := Lib.hid (HV2.out.later hb)
    have HR1b := Lib.hid (HR1.out.later hb)
    obtain ⟨A, ca, rfl, hca, hsA⟩ := HR1b.out.seen Pl.len
    obtain ⟨D, cb, rfl, hcb, hsB⟩ := hrw.seen Pl.len
    have HSA := Lib.hid hsA
    have HSB := Lib.hid hsB
    clear hrw hb HV2 HR1 HR1b hsA hsB y0 y1 y2 y3 y4 y5 y6 y7 y8 y9 y10
    have hl := peersA_len c lb n
    generalize peersA c lb n = l at *
    generalize wholeA c lb n = bw at *
    obtain ⟨N, hN⟩ : ∃ N, l.length = N := ⟨_, rfl⟩
    have HN := Lib.hid hN
    rw [hN] at hl hca hcb ⊢
    clear hN
    go_wp2
    go_loopw [11] (fun i wr => ∃ k : Nat, k ≤ N ∧ i = .int .i64 k ∧ At c w wr ∧ Below w3.heap.size w3 wr) (fun i _ => N - (intOf i).toNat)
    case atStart => exact ⟨0, by omega, rfl, HV3.out, Below.refl _ _⟩
    case round =>
      obtain ⟨k, hk, rfl, hat, hbe⟩ := hrel
      have HE := Lib.hid hbe
      have HT := Lib.hid hat
      clear hbe hat
      by_cases hlt : k < N
      · obtain ⟨ga, rfl, a0, a1, a2, a3, a4⟩ := (HSA.out.later Pl.len HE.out).place (i := k) (by rw [HN.out]; exact hlt)
        obtain ⟨gb, rfl, b0, b1, b2, b3, b4⟩ := (HSB.out.later Pl.len HE.out).place (i := k) (by rw [HN.out]; exact hlt)
        generalize l[k]'(by rw [HN.out]; exact hlt) = x at a0 a1 a2 a3 a4 b0 b1 b2 b3 b4
        go_upto_region 10 with fail
        go_region
        all_goals go_wp2
        all_goals go_roundw
        case rel => exact ⟨k + 1, by omega, by go_num, HT.out.drew, HE.out.drew⟩
        case measure => simp [intOf]; omega
      · obtain rfl : k = N := by omega
        go_wp2_with fail
        refine (live_any wr).mono ?_
        rintro e w9 ⟨rfl, hb⟩
        have HV9 := Lib.hid (HT.out.later hb)
        clear hb
        go_wp2
        go_ret
        exact ⟨rfl, HV9.out.2.1⟩
end Go.Proofs.Yteglgopbagefcaa
