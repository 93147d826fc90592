/- Contracts of Peers and of the reference's, of any numbers. -/
import Derived.Test.YteglgopbagefcaaQb
import Derived.Test.YteglgopbagefcaaQc
namespace Go.Proofs.Yteglgopbagefcaa
set_option linter.unusedVariables false
set_option linter.unusedSimpArgs false
open Go.RowKit Go.Shelf
open Go.RowKit (wrap64)

set_option maxHeartbeats 1000000 in
theorem peers_any (c : Cf) (lb n : Int) (w : World) (hn : n ≤ 9223372036854775807) : Calls Try.prog 14 #[(.agg #[.int .i64 c.id, .int .i64 c.m, .int .i64 c.u, .int .i64 c.b, .int .i64 c.cp, .int .i64 c.z, .int .i64 c.s, .int .i64 c.mt, .int .i64 c.o, .int .i64 c.a, .int .i64 c.l]), .int .i64 lb, .int .i64 n] w (GaveP w (peersA c lb n) (wholeA c lb n)) := by
  by_cases hg : pgoodC c lb n = true
  · have ho := ok_of (rightC_iff.1 (pgoodC_iff.1 hg).1).1
    have o1 := ho.r1
    have o2 := ho.d
    have o3 := ho.m1
    have o4 := ho.u1
    unfold peersA wholeA
    rw [if_pos hg, if_pos hg]
    have h := peers_core c lb n (dataC c * c.u) (lb / (dataC c * c.u) * (dataC c * c.u)) (ofIn c lb) (dataC c).toNat w hg rfl rfl rfl (by omega)
    exact h
  · have HA : Hid (peersA c lb n = [] ∧ wholeA c lb n = false) := by
      unfold peersA wholeA
      exact ⟨if_neg hg, if_neg hg⟩
    rw [HA.out.1, HA.out.2]
    clear HA
    by_cases hr : rightC c 0 n = true
    · have HR := Lib.hid hr
      by_cases h0 : 0 ≤ lb
      · have h1 : n ≤ lb := by
          rcases Int.lt_or_le lb n with h | h
          · exact absurd (pgoodC_iff.2 ⟨hr, h0, h⟩) hg
          · exact h
        clear hr hg
        go_enter Try.func14, Try.ntmps14
        go_wp2_with fail
        have HV0 := Lib.hid (At.new c w)
        generalize (w.alloc (.cells #[.int .i64 c.id, .int .i64 c.m, .int .i64 c.u, .int .i64 c.b, .int .i64 c.cp, .int .i64 c.z, .int .i64 c.s, .int .i64 c.mt, .int .i64 c.o, .int .i64 c.a, .int .i64 c.l] 23)) = w0 at HV0 ⊢
        obtain ⟨y0, y1, y2, y3, y4, y5, y6, y7, y8, y9, y10⟩ := box11 HV0.out.1
        refine (pwithin_any c 0 n w0 hn (by omega)).mono ?_
        rintro e w1 ⟨rfl, hb⟩
        rw [HR.out]
        have HV1 := Lib.hid (HV0.out.later hb)
        clear hb HV0 y0 y1 y2 y3 y4 y5 y6 y7 y8 y9 y10
        obtain ⟨y0, y1, y2, y3, y4, y5, y6, y7, y8, y9, y10⟩ := box11 HV1.out.1
        go_wp2
        exact bodyPost_ret (v := .tuple #[.slice none 0 0, .bool false]) (by simp [results, Try.results14, go_sem]) rfl ⟨_, rfl, Rw.nil _ _ _, HV1.out.2.1⟩
      · clear hr hg
        go_enter Try.func14, Try.ntmps14
        go_wp2_with fail
        have HV0 := Lib.hid (At.new c w)
        generalize (w.alloc (.cells #[.int .i64 c.id, .int .i64 c.m, .int .i64 c.u, .int .i64 c.b, .int .i64 c.cp, .int .i64 c.z, .int .i64 c.s, .int .i64 c.mt, .int .i64 c.o, .int .i64 c.a, .int .i64 c.l] 23)) = w0 at HV0 ⊢
        obtain ⟨y0, y1, y2, y3, y4, y5, y6, y7, y8, y9, y10⟩ := box11 HV0.out.1
        refine (pwithin_any c 0 n w0 hn (by omega)).mono ?_
        rintro e w1 ⟨rfl, hb⟩
        rw [HR.out]
        have HV1 := Lib.hid (HV0.out.later hb)
        clear hb HV0 y0 y1 y2 y3 y4 y5 y6 y7 y8 y9 y10
        obtain ⟨y0, y1, y2, y3, y4, y5, y6, y7, y8, y9, y10⟩ := box11 HV1.out.1
        go_wp2
        exact bodyPost_ret (v := .tuple #[.slice none 0 0, .bool false]) (by simp [results, Try.results14, go_sem]) rfl ⟨_, rfl, Rw.nil _ _ _, HV1.out.2.1⟩
    · have hf : rightC c 0 n = false := by simpa using hr
      have HR := Lib.hid hf
      clear hr hf hg
      go_enter Try.func14, Try.ntmps14
      go_wp2_with fail
      have HV0 := Lib.hid (At.new c w)
      generalize (w.alloc (.cells #[.int .i64 c.id, .int .i64 c.m, .int .i64 c.u, .int .i64 c.b, .int .i64 c.cp, .int .i64 c.z, .int .i64 c.s, .int .i64 c.mt, .int .i64 c.o, .int .i64 c.a, .int .i64 c.l] 23)) = w0 at HV0 ⊢
      obtain ⟨y0, y1, y2, y3, y4, y5, y6, y7, y8, y9, y10⟩ := box11 HV0.out.1
      refine (pwithin_any c 0 n w0 hn (by omega)).mono ?_
      rintro e w1 ⟨rfl, hb⟩
      rw [HR.out]
      have HV1 := Lib.hid (HV0.out.later hb)
      clear hb HV0 y0 y1 y2 y3 y4 y5 y6 y7 y8 y9 y10
      obtain ⟨y0, y1, y2, y3, y4, y5, y6, y7, y8, y9, y10⟩ := box11 HV1.out.1
      go_wp2
      exact bodyPost_ret (v := .tuple #[.slice none 0 0, .bool false]) (by simp [results, Try.results14, go_sem]) rfl ⟨_, rfl, Rw.nil _ _ _, HV1.out.2.1⟩
set_option maxHeartbeats 1000000 in
theorem rPeers_any (c : Cf) (lb n : Int) (w : World) (hn : n ≤ 9223372036854775807) : Calls Try.prog 15 #[(.agg #[.int .i64 c.id, .int .i64 c.m, .int .i64 c.u, .int .i64 c.b, .int .i64 c.cp, .int .i64 c.z, .int .i64 c.s, .int .i64 c.mt, .int .i64 c.o, .int .i64 c.a, .int .i64 c.l]), .int .i64 lb, .int .i64 n] w (GaveP w (peersA c lb n) (wholeA c lb n)) := by
  by_cases hg : pgoodC c lb n = true
  · have ho := ok_of (rightC_iff.1 (pgoodC_iff.1 hg).1).1
    have o1 := ho.r1
    have o2 := ho.d
    have o3 := ho.m1
    have o4 := ho.u1
    unfold peersA wholeA
    rw [if_pos hg, if_pos hg]
    have h := rPeers_core c lb n (dataC c * c.u) (lb / (dataC c * c.u) * (dataC c * c.u)) (ofIn c lb) (dataC c * c.u).toNat w hg rfl rfl rfl (by omega)
    rw [peers_eq (rightC_iff.1 (pgoodC_iff.1 hg).1).1 (ofIn c lb) (lb / (dataC c * c.u)) _ n rfl (Int.emod_nonneg _ (by omega)) (Int.emod_lt_of_pos _ (by omega))] at h
    exact h
  · have HA : Hid (peersA c lb n = [] ∧ wholeA c lb n = false) := by
      unfold peersA wholeA
      exact ⟨if_neg hg, if_neg hg⟩
    rw [HA.out.1, HA.out.2]
    clear HA
    by_cases hr : rightC c 0 n = true
    · have HR := Lib.hid hr
      by_cases h0 : 0 ≤ lb
      · have h1 : n ≤ lb := by
          rcases Int.lt_or_le lb n with h | h
          · exact absurd (pgoodC_iff.2 ⟨hr, h0, h⟩) hg
          · exact h
        clear hr hg
        go_enter Try.func15, Try.ntmps15
        go_wp2_with fail
        have HV0 := Lib.hid (At.new c w)
        generalize (w.alloc (.cells #[.int .i64 c.id, .int .i64 c.m, .int .i64 c.u, .int .i64 c.b, .int .i64 c.cp, .int .i64 c.z, .int .i64 c.s, .int .i64 c.mt, .int .i64 c.o, .int .i64 c.a, .int .i64 c.l] 23)) = w0 at HV0 ⊢
        obtain ⟨y0, y1, y2, y3, y4, y5, y6, y7, y8, y9, y10⟩ := box11 HV0.out.1
        refine (right_any c 0 n w0 hn (by omega)).mono ?_
        rintro e w1 ⟨rfl, hb⟩
        rw [HR.out]
        have HV1 := Lib.hid (HV0.out.later hb)
        clear hb HV0 y0 y1 y2 y3 y4 y5 y6 y7 y8 y9 y10
        obtain ⟨y0, y1, y2, y3, y4, y5, y6, y7, y8, y9, y10⟩ := box11 HV1.out.1
        go_wp2
        exact bodyPost_ret (v := .tuple #[.slice none 0 0, .bool false]) (by simp [results, Try.results15, go_sem]) rfl ⟨_, rfl, Rw.nil _ _ _, HV1.out.2.1⟩
      · clear hr hg
        go_enter Try.func15, Try.ntmps15
        go_wp2_with fail
        have HV0 := Lib.hid (At.new c w)
        generalize (w.alloc (.cells #[.int .i64 c.id, .int .i64 c.m, .int .i64 c.u, .int .i64 c.b, .int .i64 c.cp, .int .i64 c.z, .int .i64 c.s, .int .i64 c.mt, .int .i64 c.o, .int .i64 c.a, .int .i64 c.l] 23)) = w0 at HV0 ⊢
        obtain ⟨y0, y1, y2, y3, y4, y5, y6, y7, y8, y9, y10⟩ := box11 HV0.out.1
        refine (right_any c 0 n w0 hn (by omega)).mono ?_
        rintro e w1 ⟨rfl, hb⟩
        rw [HR.out]
        have HV1 := Lib.hid (HV0.out.later hb)
        clear hb HV0 y0 y1 y2 y3 y4 y5 y6 y7 y8 y9 y10
        obtain ⟨y0, y1, y2, y3, y4, y5, y6, y7, y8, y9, y10⟩ := box11 HV1.out.1
        go_wp2
        exact bodyPost_ret (v := .tuple #[.slice none 0 0, .bool false]) (by simp [results, Try.results15, go_sem]) rfl ⟨_, rfl, Rw.nil _ _ _, HV1.out.2.1⟩
    · have hf : rightC c 0 n = false := by simpa using hr
      have HR := Lib.hid hf
      clear hr hf hg
      go_enter Try.func15, Try.ntmps15
      go_wp2_with fail
      have HV0 := Lib.hid (At.new c w)
      generalize (w.alloc (.cells #[.int .i64 c.id, .int .i64 c.m, .int .i64 c.u, .int .i64 c.b, .int .i64 c.cp, .int .i64 c.z, .int .i64 c.s, .int .i64 c.mt, .int .i64 c.o, .int .i64 c.a, .int .i64 c.l] 23)) = w0 at HV0 ⊢
      obtain ⟨y0, y1, y2, y3, y4, y5, y6, y7, y8, y9, y10⟩ := box11 HV0.out.1
      refine (right_any c 0 n w0 hn (by omega)).mono ?_
      rintro e w1 ⟨rfl, hb⟩
      rw [HR.out]
      have HV1 := Lib.hid (HV0.out.later hb)
      clear hb HV0 y0 y1 y2 y3 y4 y5 y6 y7 y8 y9 y10
      obtain ⟨y0, y1, y2, y3, y4, y5, y6, y7, y8, y9, y10⟩ := box11 HV1.out.1
      go_wp2
      exact bodyPost_ret (v := .tuple #[.slice none 0 0, .bool false]) (by simp [results, Try.results15, go_sem]) rfl ⟨_, rfl, Rw.nil _ _ _, HV1.out.2.1⟩
theorem peersA_len (c : Cf) (lb n : Int) : (peersA c lb n).length ≤ 16 := by
  unfold peersA
  split
  · rename_i h
    have ho := ok_of (rightC_iff.1 (pgoodC_iff.1 h).1).1
    have := peersU_len c (ofIn c lb) (lb / (dataC c * c.u) * (dataC c * c.u)) n (dataC c).toNat
    have := ho.d
    have := ho.m2
    omega
  · simp
end Go.Proofs.Yteglgopbagefcaa
