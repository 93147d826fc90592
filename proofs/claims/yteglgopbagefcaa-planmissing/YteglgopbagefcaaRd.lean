/- The contract of the reference's Missing. -/
import Derived.Test.YteglgopbagefcaaRc
namespace Go.Proofs.Yteglgopbagefcaa
set_option linter.unusedVariables false
set_option linter.unusedSimpArgs false
open Go.RowKit Go.Shelf
open Go.RowKit (wrap64)

set_option maxRecDepth 100000 in
set_option maxHeartbeats 4000000 in
theorem rMissing_yes (c : Cf) (fr : Nat → Int) (f : Int → Int) (A : Option Addr) (cap M C : Nat) (n : Int) (w : World) (hr : rightC c 0 n = true) (hn : n ≤ 9223372036854775807) (hl : c.m = (M : Int)) (hC : c.cp = (C : Int)) (hf : (fun m => nedC c m (wriC c n)) = f) (hi : Ints w w.heap.size A fr M) :
    Calls Try.prog 17 #[(.agg #[.int .i64 c.id, .int .i64 c.m, .int .i64 c.u, .int .i64 c.b, .int .i64 c.cp, .int .i64 c.z, .int .i64 c.s, .int .i64 c.mt, .int .i64 c.o, .int .i64 c.a, .int .i64 c.l]), .slice A M cap, .int .i64 n] w (GaveS w (missL c fr f M C)) := by
  have HR := Lib.hid hr
  have hc := (rightC_iff.1 hr).1
  have o1 := (ok_of hc).m2
  have o2 := (ok_of hc).cp
  have HI := Lib.hid hi
  have HC := Lib.hid hc
  have hM : M ≤ 16 := by omega
  have hC2 : C ≤ 4096 := by omega
  have HM := Lib.hid hl
  have HP := Lib.hid hC
  have HD : Hid (∀ m : Nat, m < M → needA c m n = f m) := fun m hm => by
    rw [← hf]
    unfold needA
    rw [if_pos (hasM_iff.2 ⟨hc, by omega, by omega⟩)]
  clear hr hc o1 o2 hi hl hC hf
  go_enter Try.func17, Try.ntmps17
  go_wp2_with fail
  have HV0 := Lib.hid (At.new c w)
  generalize (w.alloc (.cells #[.int .i64 c.id, .int .i64 c.m, .int .i64 c.u, .int .i64 c.b, .int .i64 c.cp, .int .i64 c.z, .int .i64 c.s, .int .i64 c.mt, .int .i64 c.o, .int .i64 c.a, .int .i64 c.l] 23)) = w0 at HV0 ⊢
  obtain ⟨y0, y1, y2, y3, y4, y5, y6, y7, y8, y9, y10⟩ := box11 HV0.out.1
  refine (right_any c 0 n w0 hn (by omega)).mono ?_
  rintro e w1 ⟨rfl, hb⟩
  rw [HR.out]
  have HV1 := Lib.hid (HV0.out.later hb)
  clear hb HV0 y0 y1 y2 y3 y4 y5 y6 y7 y8 y9 y10
  obtain ⟨y0, y1, y2, y3, y4, y5, y6, y7, y8, y9, y10⟩ := box11 HV1.out.1
  have t1 : ((M : Int) != c.m) = false := by rw [HM.out]; simp
  go_wp2
  clear y0 y1 y2 y3 y4 y5 y6 y7 y8 y9 y10 t1
  go_loopw [7, 8] (fun v i wr => ∃ k : Nat, k ≤ C ∧ i = .int .i64 k ∧ Rw St.cs 41 wr (w.heap.size + 1) v (missL c fr f M k) ∧ At c w wr) (fun _ i _ => C - (intOf i).toNat)
  case atStart => exact ⟨0, by omega, rfl, by rw [missL_zero]; exact Rw.nil _ _ _, HV1.out⟩
  case round =>
    clear HV1
    obtain ⟨k, hk, rfl, hrw, hat⟩ := hrel
    have HV1 := Lib.hid hat
    have HW1 := Lib.hid hrw
    clear hat hrw
    obtain ⟨y0, y1, y2, y3, y4, y5, y6, y7, y8, y9, y10⟩ := box11 HV1.out.1
    by_cases hlt : k < C
    · have g1 : (k : Int) < c.cp := by rw [HP.out]; omega
      go_wp2
      clear g1
      go_loopw [7, 9] (fun v i wr => ∃ j : Nat, j ≤ M ∧ i = .int .i64 j ∧ Rw St.cs 41 wr (w.heap.size + 1) v (missL c fr f M k ++ missP c fr f k j) ∧ At c w wr) (fun _ i _ => M - (intOf i).toNat)
      case atStart => exact ⟨0, by omega, rfl, by rw [missP_zero, List.append_nil]; exact HW1.out, HV1.out⟩
      case round =>
        clear HV1 HW1 y0 y1 y2 y3 y4 y5 y6 y7 y8 y9 y10
        obtain ⟨j, hj, rfl, hrw, hat⟩ := hrel
        have HV1 := Lib.hid hat
        have HW1 := Lib.hid hrw
        clear hat hrw
        obtain ⟨y0, y1, y2, y3, y4, y5, y6, y7, y8, y9, y10⟩ := box11 HV1.out.1
        by_cases hjt : j < M
        · have HLN : Hid ((missL c fr f M k ++ missP c fr f k j).length ≤ 65536) := by
            have h1 := missL_len (c := c) (fr := fr) (f := f) (M := M) (K := k)
            have h2 := missP_len (c := c) (fr := fr) (f := f) (ph := k) (k := j)
            have h3 : (k + 1) * M ≤ 4096 * 16 := Nat.mul_le_mul (by omega) hM
            rw [Nat.succ_mul] at h3
            show _ ≤ _
            rw [List.length_append]
            omega
          have HND := Lib.hid (HD.out j hjt)
          have HN1 : Hid ((k : Int) < fr j ∨ f j ≤ k → missP c fr f k (j + 1) = missP c fr f k j) := missP_no
          have HN2 : Hid (¬ (k : Int) < fr j → ¬ f j ≤ k → missP c fr f k (j + 1) = missP c fr f k j ++ [missAt c j k]) := missP_yes
          have HXD : Hid (∃ X D, (backA c j k).1 = X ∧ (backA c j k).2 = D ∧ missAt c j k = ⟨!D, j, k, X, 1⟩) := ⟨_, _, rfl, rfl, rfl⟩
          obtain ⟨X, D, hX, hD, hS⟩ := HXD.out
          have HS := Lib.hid hS
          clear hS HXD
          have g2 : (j : Int) < c.m := by rw [HM.out]; omega
          go_wp2_with fail
          refine (rBack_any c j k _).mono ?_
          rintro e w2 ⟨rfl, hb⟩
          rw [hX, hD]
          clear hX hD
          have HV2 := Lib.hid (HV1.out.later hb)
          have HW2 := Lib.hid (HW1.out.later hb)
          clear hb HV1 HW1 y0 y1 y2 y3 y4 y5 y6 y7 y8 y9 y10 g2
          obtain ⟨y0, y1, y2, y3, y4, y5, y6, y7, y8, y9, y10⟩ := box11 HV2.out.1
          obtain ⟨bA, oA, hA, hbA, cI⟩ := HI.out.below HV2.out.2.1 j hjt
          subst hA
          by_cases h1 : fr j ≤ k
          · go_wp2_with fail
            refine (rNeed_any c j n w2).mono ?_
            rintro e w3 ⟨rfl, hb⟩
            rw [HND.out]
            have HV3 := Lib.hid (HV2.out.later hb)
            have HW3 := Lib.hid (HW2.out.later hb)
            clear hb HV2 HW2 y0 y1 y2 y3 y4 y5 y6 y7 y8 y9 y10 cI
            obtain ⟨y0, y1, y2, y3, y4, y5, y6, y7, y8, y9, y10⟩ := box11 HV3.out.1
            by_cases h2 : (k : Int) < f j
            · have HQ := Lib.hid (HN2.out (by omega) (by omega))
              rw [HS.out] at HQ
              go_wp2_with (at_builtin; go_loud (refine wpList_appSt _ rfl (.tmp 56) (.tmp 63) rfl (w.heap.size + 1) u7 (missL c fr f M k ++ missP c fr f k j) ⟨!D, j, k, X, 1⟩ ⟨w3.heap.size, 0, none⟩ rfl rfl (HW3.out.later ((Below.refl _ _).alloc (Nat.le_refl _) _)) (cells_five_new _ _ _ _ _ _ _) (by have := HLN.out; omega) (by have := HV3.out.2.2; simp; omega) ?_; intro v1 w4 hrw hg; have ha := HW3.out.later ((Below.refl _ _).alloc (Nat.le_refl _) (.cells #[.bool !D, .int .i64 j, .int .i64 k, .int .i64 X, .int .i64 1] 41)); have HV4 := Lib.hid ((HV3.out.alloc (.cells #[.bool !D, .int .i64 j, .int .i64 k, .int .i64 X, .int .i64 1] 41)).kept (ha.below hg (by have := HV3.out.2.2; simp; omega))); have HW4 := Lib.hid hrw; clear hrw hg ha y0 y1 y2 y3 y4 y5 y6 y7 y8 y9 y10 HV3 HW3))
              rw [List.append_assoc, ← HQ.out] at HW4
              go_roundw
              case rel => exact ⟨j + 1, by omega, by go_num, HW4.out, HV4.out⟩
              case measure => simp [intOf]; omega
            · have HQ := Lib.hid (HN1.out (.inr (by omega)))
              go_wp2
              go_roundw
              case rel => exact ⟨j + 1, by omega, by go_num, by rw [HQ.out]; exact HW3.out, HV3.out⟩
              case measure => simp [intOf]; omega
          · have HQ := Lib.hid (HN1.out (.inl (by omega)))
            go_wp2
            go_roundw
            case rel => exact ⟨j + 1, by omega, by go_num, by rw [HQ.out]; exact HW2.out, HV2.out⟩
            case measure => simp [intOf]; omega
        · obtain rfl : j = M := by omega
          have HQ := HW1
          rw [← missL_succ] at HQ
          have g2 : ¬ (j : Int) < c.m := by rw [HM.out]; omega
          go_wp2
          go_roundw
          case rel => exact ⟨k + 1, by omega, by go_num, HQ.out, HV1.out⟩
          case measure => simp [intOf]; omega
    · obtain rfl : k = C := by omega
      have g1 : ¬ (k : Int) < c.cp := by rw [HP.out]; omega
      go_wp2
      go_ret
      exact ⟨_, rfl, HW1.out.mono (by omega), HV1.out.2.1⟩
theorem rMissing_any (c : Cf) (fr : Nat → Int) (A : Option Addr) (cap len : Nat) (n : Int) (w : World) (hn : n ≤ 9223372036854775807) (hi : Ints w w.heap.size A fr len) : Calls Try.prog 17 #[(.agg #[.int .i64 c.id, .int .i64 c.m, .int .i64 c.u, .int .i64 c.b, .int .i64 c.cp, .int .i64 c.z, .int .i64 c.s, .int .i64 c.mt, .int .i64 c.o, .int .i64 c.a, .int .i64 c.l]), .slice A len cap, .int .i64 n] w (GaveS w (missA c fr len n)) := by
  by_cases hr : rightC c 0 n = true
  · by_cases hl : (len : Int) = c.m
    · have HA : Hid (missA c fr len n = missL c fr (fun m => nedC c m (wriC c n)) len c.cp.toNat) := by
        show missA c fr len n = _
        unfold missA
        rw [if_pos ⟨hr, hl⟩]
      rw [HA.out]
      have ho := ok_of (rightC_iff.1 hr).1
      have h1 := ho.s
      have h2 := Int.mul_nonneg (show 0 ≤ stripesC c by have := ho.s1; omega) (show 0 ≤ c.u by have := ho.u1; omega)
      exact rMissing_yes c fr _ A cap len c.cp.toNat n w hr hn hl.symm (by omega) rfl hi
    · have HA : Hid (missA c fr len n = []) := by
        show missA c fr len n = _
        unfold missA
        rw [if_neg (fun h => hl h.2)]
      rw [HA.out]
      have HR := Lib.hid hr
      have t1 : ((len : Int) == c.m) = false := by simpa using hl
      clear hr hi HA
      go_enter Try.func17, Try.ntmps17
      go_wp2_with fail
      have HV0 := Lib.hid (At.new c w)
      generalize (w.alloc (.cells #[.int .i64 c.id, .int .i64 c.m, .int .i64 c.u, .int .i64 c.b, .int .i64 c.cp, .int .i64 c.z, .int .i64 c.s, .int .i64 c.mt, .int .i64 c.o, .int .i64 c.a, .int .i64 c.l] 23)) = w0 at HV0 ⊢
      obtain ⟨y0, y1, y2, y3, y4, y5, y6, y7, y8, y9, y10⟩ := box11 HV0.out.1
      refine (right_any c 0 n w0 hn (by omega)).mono ?_
      rintro e w1 ⟨rfl, hb⟩
      rw [HR.out]
      have HV1 := Lib.hid (HV0.out.later hb)
      clear hb HV0 y0 y1 y2 y3 y4 y5 y6 y7 y8 y9 y10
      obtain ⟨y0, y1, y2, y3, y4, y5, y6, y7, y8, y9, y10⟩ := box11 HV1.out.1
      go_wp2
      go_ret
      exact gaveS_nil HV1.out.2.1
  · have hf : rightC c 0 n = false := by simpa using hr
    have HA : Hid (missA c fr len n = []) := by
      show missA c fr len n = _
      unfold missA
      rw [if_neg (fun h => hr h.1)]
    rw [HA.out]
    have HR := Lib.hid hf
    clear hr hf hi HA
    go_enter Try.func17, Try.ntmps17
    go_wp2_with fail
    have HV0 := Lib.hid (At.new c w)
    generalize (w.alloc (.cells #[.int .i64 c.id, .int .i64 c.m, .int .i64 c.u, .int .i64 c.b, .int .i64 c.cp, .int .i64 c.z, .int .i64 c.s, .int .i64 c.mt, .int .i64 c.o, .int .i64 c.a, .int .i64 c.l] 23)) = w0 at HV0 ⊢
    obtain ⟨y0, y1, y2, y3, y4, y5, y6, y7, y8, y9, y10⟩ := box11 HV0.out.1
    refine (right_any c 0 n w0 hn (by omega)).mono ?_
    rintro e w1 ⟨rfl, hb⟩
    rw [HR.out]
    have HV1 := Lib.hid (HV0.out.later hb)
    clear hb HV0 y0 y1 y2 y3 y4 y5 y6 y7 y8 y9 y10
    obtain ⟨y0, y1, y2, y3, y4, y5, y6, y7, y8, y9, y10⟩ := box11 HV1.out.1
    go_wp2
    go_ret
    exact gaveS_nil HV1.out.2.1
end Go.Proofs.Yteglgopbagefcaa
