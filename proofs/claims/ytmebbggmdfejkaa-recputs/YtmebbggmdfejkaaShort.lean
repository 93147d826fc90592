/- For any record of which blocks are wanting the law RecShort returns true: the walk. -/
import Derived.Test.YtmebbggmdfejkaaRg
import Derived.Test.YtmebbggmdfejkaaRk
import Derived.Deep.DeepCutAuto
namespace Go.Proofs.Ytmebbggmdfejkaa
set_option linter.unusedVariables false
set_option linter.unusedSimpArgs false
open Go.RowKit
open Go.RowKit (wrap64)

theorem getG_none {w : World} {b : List UInt8} {bl er : Int} (he : getE b bl = er) (h0 : ¬ er = 0) {e : Ending} {w' : World} (h : GetG w (getN b bl) (getD b bl) (getK b bl) (getE b bl) e w') : GetG w (fun _ => 0) [] 0 er e w' := by
  have h1 : ¬ getE b bl = 0 := by rw [he]; exact h0
  unfold getN getD getK at h
  rw [if_neg h1, if_neg h1, if_neg h1, he] at h
  exact h
/-- A record with nothing in it, and an error. -/
def GetZ (w : World) (er : Int) (e : Ending) (w' : World) : Prop := ∃ D cd, e = .returned (.tuple #[.agg #[.int .i64 0, .int .i64 0, .int .i64 0, .int .i64 0, .int .i64 0, .int .i64 0, .int .i64 0, .int .i64 0, .int .i64 0, .slice D 0 cd], .int .i64 0, .int .i64 er]) ∧ Below w.heap.size w w'
theorem get_short (A : Option Addr) (c k : Nat) (b : List UInt8) (bl : Int) (w : World) (hn : b.length = k) (hr : Rd w w.heap.size A b) (hc : b.length ≤ c) (hl : b.length ≤ 10000000) (he : getE b bl = 14) : Calls Try.prog 14 #[.slice A k c, .int .i64 bl] w (GetZ w 14) := by
  subst hn
  exact (get_any A c b bl w hr hc hl).mono fun e w' h => by
    obtain ⟨D, cd, h1, _, h2⟩ := getG_none he (by decide) h
    exact ⟨D, cd, h1, h2⟩
theorem rsame_zero (D : Option Addr) (cd : Nat) (w : World) : Calls Try.prog 16 #[.agg #[.int .i64 0, .int .i64 0, .int .i64 0, .int .i64 0, .int .i64 0, .int .i64 0, .int .i64 0, .int .i64 0, .int .i64 0, .slice D 0 cd], .agg #[.int .i64 0, .int .i64 0, .int .i64 0, .int .i64 0, .int .i64 0, .int .i64 0, .int .i64 0, .int .i64 0, .int .i64 0, .slice none 0 0]] w (Says w (.bool true)) := by
  have h := rsame_any (fun _ => 0) (fun _ => 0) D none cd 0 [] [] w Rd.nil Rd.nil
  rw [sameB_refl [] (fun i _ => rfl)] at h
  exact h
/-- A cut 'b[:hi]', as a run equation. -/
theorem slice_pre (A : Option Addr) (len c hi : Nat) (hj : Int) (h2 : hi ≤ c) (e2 : hj = (hi : Int)) :
    ∀ w, (Instr.slice 22 (.slice A len c) none (some (.int .i64 hj)) none).run Try.prog w = .ok (.slice A hi c) w := fun w => by
  subst e2
  have he : Try.prog.elem 22 = 5 := by kernel_rfl
  rw [run_slice_h w 22 A len c (by rw [he]; exact Try.underlying22) .i64 (hi : Int) (by omega) (by omega)]
  rw [he]
  have ht5 : Try.t5.size = 1 := by kernel_rfl
  simp [sizeOf, ht5, sliced, go_sem]
theorem put_some {n : Nat → Int} {l : List UInt8} {bl : Int} (h : ¬ putL n l bl = []) : rightB n l.length = true ∧ mayB bl = true := by
  unfold putL at h
  split at h
  · rename_i h2
    rw [Bool.and_eq_true] at h2
    exact h2
  · exact absurd rfl h
set_option maxRecDepth 100000 in
set_option maxHeartbeats 4000000 in
theorem recShort_walk (n : Nat → Int) (A : Option Addr) (c : Nat) (l : List UInt8) (bk ct : Nat) (hbk : bk < 256) (hct : ct < 256) (w : World) (hl : Rd w w.heap.size A l) (hl1 : l.length ≤ 140737488351232) :
    Calls Try.prog 5 #[.agg #[.int .i64 (n 0), .int .i64 (n 1), .int .i64 (n 2), .int .i64 (n 3), .int .i64 (n 4), .int .i64 (n 5), .int .i64 (n 6), .int .i64 (n 7), .int .i64 (n 8), .slice A l.length c], .int .u8 (bk : Int), .int .u8 (ct : Int)] w (Says w (.bool true)) := by
  have HA : Hid (∀ w', Below w.heap.size w w' → Calls Try.prog 12 #[.agg #[.int .i64 (n 0), .int .i64 (n 1), .int .i64 (n 2), .int .i64 (n 3), .int .i64 (n 4), .int .i64 (n 5), .int .i64 (n 6), .int .i64 (n 7), .int .i64 (n 8), .slice A l.length c], .int .i64 ((bk : Int) + 1)] w' (GaveB w' (putL n l ((bk : Int) + 1)))) := fun w' h => rput_any n A c l _ w' ((hl.below h).more h.size) (by unfold maxLen; omega)
  clear hl
  obtain ⟨L, hL⟩ : ∃ L, putL n l ((bk : Int) + 1) = L := ⟨_, rfl⟩
  rw [hL] at HA
  have HLE := Lib.hid hL
  clear hL
  go_enter Try.func5, Try.ntmps5
  go_upto_region 2 with fail
  have HV0 : Hid (RecAt (w.alloc (.cells #[.int .i64 (n 0), .int .i64 (n 1), .int .i64 (n 2), .int .i64 (n 3), .int .i64 (n 4), .int .i64 (n 5), .int .i64 (n 6), .int .i64 (n 7), .int .i64 (n 8), .slice A l.length c] 24)) w.heap.size n (.slice A l.length c) ∧ Below w.heap.size w (w.alloc (.cells #[.int .i64 (n 0), .int .i64 (n 1), .int .i64 (n 2), .int .i64 (n 3), .int .i64 (n 4), .int .i64 (n 5), .int .i64 (n 6), .int .i64 (n 7), .int .i64 (n 8), .slice A l.length c] 24))) := ⟨Box.fresh w 24 _, (Below.refl _ _).alloc (Nat.le_refl _) _⟩
  generalize (w.alloc (.cells #[.int .i64 (n 0), .int .i64 (n 1), .int .i64 (n 2), .int .i64 (n 3), .int .i64 (n 4), .int .i64 (n 5), .int .i64 (n 6), .int .i64 (n 7), .int .i64 (n 8), .slice A l.length c] 24)) = w0 at HV0 ⊢
  obtain ⟨y0, y1, y2, y3, y4, y5, y6, y7, y8, y9⟩ := box10 HV0.out.1
  go_wp2_with fail
  with_reducible refine (HA.out w0 HV0.out.2).mono ?_
  rintro e w1 ⟨B, cb, rfl, hB, hcb, hb⟩
  have HV1 : Hid (RecAt w1 w.heap.size n (.slice A l.length c) ∧ Below w.heap.size w w1) := ⟨HV0.out.1.later hb, HV0.out.2.trans (hb.mono HV0.out.2.size)⟩
  have HB1 := Lib.hid hB
  clear hb hB HV0 y0 y1 y2 y3 y4 y5 y6 y7 y8 y9
  have y9 := HV1.out.1.body
  by_cases h5 : 500 < l.length
  · clear HLE HB1
    go_wp2_with fail
    refine (live_any w1).mono ?_
    rintro e w2 ⟨rfl, hb⟩
    have HB := Lib.hid (HV1.out.2.trans (hb.mono HV1.out.2.size))
    clear hb HV1
    go_wp2
    go_ret
    exact ⟨rfl, HB.out⟩
  · by_cases h0 : L = []
    · have hz : L.length = 0 := by rw [h0]; rfl
      have hz2 : ((L.length : Int) == 0) = true := by rw [hz]; rfl
      clear h0 HLE HB1 hcb hz
      generalize L.length = Ln at hz2 ⊢
      go_wp2_with fail
      refine (live_any w1).mono ?_
      rintro e w2 ⟨rfl, hb⟩
      have HB := Lib.hid (HV1.out.2.trans (hb.mono HV1.out.2.size))
      clear hb HV1
      go_wp2
      go_ret
      exact ⟨rfl, HB.out⟩
    · have hz2 : ((L.length : Int) == 0) = false := by
        have : L.length ≠ 0 := fun h => h0 (List.eq_nil_of_length_eq_zero h)
        simp; omega
      have HRM := Lib.hid (put_some (by rw [HLE.out]; exact h0))
      obtain ⟨K, hK⟩ : ∃ K, spanN (80 + l.length) (bk + 1) = K := ⟨_, rfl⟩
      have hLL : L.length = K * (bk + 1) := by
        have h := putL_length HRM.out.1 HRM.out.2
        rw [HLE.out, show ((bk : Int) + 1).toNat = bk + 1 by omega, hK] at h
        exact h
      have hg := span_ge (80 + l.length) (bk + 1) (by omega)
      have hg2 : spanN (80 + l.length) (bk + 1) * (bk + 1) ≤ 16 + (80 + l.length) + (bk + 1) - 1 := Nat.div_mul_le_self _ _
      rw [hK] at hg hg2
      have hK0 : 0 < K := by
        rcases Nat.eq_zero_or_pos K with h | h
        · rw [h] at hg
          omega
        · exact h
      have hLb : L.length ≤ 1000 := by rw [hLL]; omega
      obtain ⟨k, hk⟩ : ∃ k, ct % K = k := ⟨_, rfl⟩
      have hkK : k < K := by rw [← hk]; exact Nat.mod_lt _ hK0
      obtain ⟨Q, hQ⟩ : ∃ Q, k * (bk + 1) = Q := ⟨_, rfl⟩
      have hQL : Q < L.length := by
        rw [hLL, ← hQ]
        exact Nat.mul_lt_mul_of_pos_right hkK (by omega)
      have hdiv : (L.length : Int) / ((bk : Int) + 1) = (K : Int) := by
        rw [hLL, show ((bk : Int) + 1) = ((bk + 1 : Nat) : Int) by omega, ← Int.natCast_ediv, Nat.mul_div_cancel _ (by omega)]
      have hmod : (ct : Int) % (K : Int) = (k : Int) := by rw [← hk]; simp
      have hmul : wrap64 ((k : Int) * ((bk : Int) + 1)) = (Q : Int) := by
        have e : (k : Int) * ((bk : Int) + 1) = (Q : Int) := by
          rw [← hQ, Int.natCast_mul]
          rfl
        rw [e]
        clear e hdiv hmod hk hQ hLL hg hg2 hkK hK0
        unfold wrap64
        omega
      have HGE : Hid (getE (L.take Q) ((bk : Int) + 1) = 14) := by
        have h := put_short HRM.out.1 HRM.out.2 Q (by rw [HLE.out]; exact hQL)
        rw [HLE.out] at h
        exact h
      have HTL : Hid ((L.take Q).length = Q) := by
        show _ = _
        rw [List.length_take]
        exact Nat.min_eq_left (Nat.le_of_lt hQL)
      have hd0 : ¬ (L.length : Int) / ((bk : Int) + 1) = 0 := by rw [hdiv]; omega
      have hd1 : ((L.length : Int) / ((bk : Int) + 1) == 0) = false := by rw [hdiv]; simp; omega
      have hs0 : ¬ (bk : Int) + 1 = 0 := by omega
      have hs1 : ((bk : Int) + 1 == 0) = false := by simp; omega
      have hdp : 0 ≤ (L.length : Int) / ((bk : Int) + 1) := by rw [hdiv]; omega
      have hdu : (L.length : Int) / ((bk : Int) + 1) ≤ 1000 := by
        rw [hdiv]
        have h1 : K * 1 ≤ K * (bk + 1) := Nat.mul_le_mul_left K (by omega)
        omega
      have HDM : Hid ((ct : Int) % ((L.length : Int) / ((bk : Int) + 1)) = (k : Int)) := by
        show _ = _
        rw [hdiv, hmod]
      have HB2 : Hid (Rd w1 w1.heap.size B (L.take Q)) := HB1.out.take _
      have hkc : Q ≤ cb := Nat.le_trans (Nat.le_of_lt hQL) hcb
      have HMU := Lib.hid hmul
      have hb1 : (bk : Int) + 1 ≤ 256 := by omega
      have HQ1000 : Hid (Q ≤ 1000) := Nat.le_trans (Nat.le_of_lt hQL) hLb
      clear hdiv hmod h0 hLL hg hg2 hK HLE HRM hmul hk hkK hQ hQL HB1
      go_upto_region 6 with fail
      rw [HDM.out]
      have hsl := slice_pre B L.length cb Q _ hkc HMU.out
      clear HDM HMU hd0 hd1 hdp hdu
      go_wp2_with fail
      refine (get_short B cb Q (L.take Q) ((bk : Int) + 1) w1 HTL.out HB2.out (by rw [HTL.out]; exact hkc) (by rw [HTL.out]; exact Nat.le_trans HQ1000.out (by omega)) HGE.out).mono ?_
      rintro e w2 ⟨D, cd, rfl, hb⟩
      have HV2 := Lib.hid (HV1.out.2.trans (hb.mono HV1.out.2.size))
      clear hb HV1 y9 hsl hkc HB2 HTL HGE HQ1000 HA
      go_upto_region 7 with fail
      have HV3 : Hid (RecAt (w2.alloc (.cells #[.int .i64 0, .int .i64 0, .int .i64 0, .int .i64 0, .int .i64 0, .int .i64 0, .int .i64 0, .int .i64 0, .int .i64 0, .slice D 0 cd] 24)) w2.heap.size (fun _ => 0) (.slice D 0 cd) ∧ Below w.heap.size w (w2.alloc (.cells #[.int .i64 0, .int .i64 0, .int .i64 0, .int .i64 0, .int .i64 0, .int .i64 0, .int .i64 0, .int .i64 0, .int .i64 0, .slice D 0 cd] 24))) := ⟨Box.fresh w2 24 _, HV2.out.alloc HV2.out.size _⟩
      generalize (w2.alloc (.cells #[.int .i64 0, .int .i64 0, .int .i64 0, .int .i64 0, .int .i64 0, .int .i64 0, .int .i64 0, .int .i64 0, .int .i64 0, .slice D 0 cd] 24)) = w3 at HV3 ⊢
      generalize w2.heap.size = g at HV3 ⊢
      clear HV2
      obtain ⟨z0, z1, z2, z3, z4, z5, z6, z7, z8, z9⟩ := box10 HV3.out.1
      go_wp2_with fail
      refine (code_any 14 w3).mono ?_
      rintro e w' ⟨rfl, rfl⟩
      go_wp2_with fail
      refine (rsame_zero D cd w3).mono ?_
      rintro e w4 ⟨rfl, hb⟩
      have HV4 := Lib.hid (HV3.out.2.trans (hb.mono HV3.out.2.size))
      clear hb HV3 z0 z1 z2 z3 z4 z5 z6 z7 z8 z9
      go_wp2_with fail
      refine (live_any w4).mono ?_
      rintro e w5 ⟨rfl, hb⟩
      have HB := Lib.hid (HV4.out.trans (hb.mono HV4.out.size))
      clear hb HV4
      go_wp2
      go_ret
      exact ⟨rfl, HB.out⟩
end Go.Proofs.Ytmebbggmdfejkaa
