/- What Steps is, as plain data; the iterator writes hands back, writes, Steps. -/
import Derived.Test.YteglgopbagefcaaPc
namespace Go.Proofs.Yteglgopbagefcaa
set_option linter.unusedVariables false
set_option linter.unusedSimpArgs false
open Go.RowKit Go.Shelf
open Go.RowKit (wrap64)
attribute [local go_sem] Oper.semAt_some

/-- P9.1: the step of a logical block; of a stripe's parity; what a block becomes; what a range becomes. -/
def blkS (c : Cf) (lb : Int) : St := ⟨false, (ofIn c lb).m, (ofIn c lb).p, lb, 1⟩
def parS (c : Cf) (s : Int) : St := ⟨true, s % c.m, s * c.u, s * (dataC c * c.u), c.u⟩
def stepsOf (c : Cf) (lb : Int) : List St := blkS c lb :: if (lb + 1) % (dataC c * c.u) = 0 then [parS c (lb / (dataC c * c.u))] else []
def stepsL (c : Cf) (a : Int) (k : Nat) : List St := (List.range k).flatMap fun (i : Nat) => stepsOf c (a + (i : Int))
theorem stepsL_zero (c : Cf) (a : Int) : stepsL c a 0 = [] := by simp [stepsL]
theorem stepsL_succ (c : Cf) (a : Int) (k : Nat) : stepsL c a (k + 1) = stepsL c a k ++ stepsOf c (a + k) := by simp [stepsL, List.range_succ]
theorem stepsL_add (c : Cf) (a : Int) (k j : Nat) : stepsL c a (k + j) = stepsL c a k ++ stepsL c (a + k) j := by
  induction j with
  | zero => simp [stepsL_zero]
  | succ j ih => rw [← Nat.add_assoc, stepsL_succ, ih, stepsL_succ, List.append_assoc]; congr 3; push_cast; omega
theorem stepsL_len (c : Cf) (a : Int) (k : Nat) : (stepsL c a k).length ≤ 2 * k := by
  induction k with
  | zero => simp [stepsL_zero]
  | succ k ih =>
    rw [stepsL_succ, List.length_append]
    have : (stepsOf c (a + k)).length ≤ 2 := by unfold stepsOf; split <;> simp
    omega
theorem stepsL_pre (c : Cf) (a : Int) {k n : Nat} (h : k ≤ n) : stepsL c a k <+: stepsL c a n := by
  obtain ⟨j, rfl⟩ := Nat.exists_eq_add_of_le h
  rw [stepsL_add]
  exact List.prefix_append _ _
theorem stepsL_pre1 (c : Cf) (a : Int) {k n : Nat} (h : k < n) : stepsL c a k ++ [blkS c (a + k)] <+: stepsL c a n := by
  refine List.IsPrefix.trans ?_ (stepsL_pre c a (show k + 1 ≤ n from h))
  rw [stepsL_succ]
  unfold stepsOf
  exact ⟨_, by rw [List.append_assoc]; rfl⟩
theorem stepsL_lt (c : Cf) (a : Int) {k n : Nat} (h : k < n) : (stepsL c a k).length < (stepsL c a n).length := by
  have := (stepsL_pre1 c a h).length_le
  simp at this
  omega
/-- What the iterator has at hand. -/
structure AtW (c : Cf) (a n : Int) (Ba Bn Bc : Nat) (w : World) : Prop where
  ba : Boxed w Ba 3 (.int .i64 a)
  bn : Boxed w Bn 3 (.int .i64 n)
  bc : Box w Bc 23 #[.int .i64 c.id, .int .i64 c.m, .int .i64 c.u, .int .i64 c.b, .int .i64 c.cp, .int .i64 c.z, .int .i64 c.s, .int .i64 c.mt, .int .i64 c.o, .int .i64 c.a, .int .i64 c.l]
theorem AtW.under {c : Cf} {a n : Int} {Ba Bn Bc B : Nat} {w w' : World} (h : AtW c a n Ba Bn Bc w) (hb : Below B w w') (h1 : Ba < B) (h2 : Bn < B) (h3 : Bc < B) : AtW c a n Ba Bn Bc w' :=
  ⟨(hb.block Ba h1).trans h.ba, (hb.block Bn h2).trans h.bn, h.bc.under hb h3⟩
theorem grown_of_below {w w' : World} (h : Below w.heap.size w w') : w.grownBy w' none := ⟨h.os, h.tape, h.output, h.size, fun k hk _ => h.block k hk⟩

set_option maxRecDepth 100000 in
set_option maxHeartbeats 2000000 in
theorem writes1_in (c : Cf) (a : Int) (n l Ba Bn Bc B : Nat) (hr : rightC c a n = true) (J Jx : List St → World → Prop) (W : World) (hJ : AbidesFrom W.heap.size J)
    (hY : ∀ pre x W1, J pre W1 → pre.length < (stepsL c a n).length → YieldAt Fence.wide 1 Try.prog l #[(.agg #[.bool x.p, .int .i64 x.m, .int .i64 x.f, .int .i64 x.b, .int .i64 x.n])] W1 fun e W' => (e = .returned (.bool true) ∧ J (pre ++ [x]) W' ∧ Kept B W1 W') ∨ (e = .returned (.bool false) ∧ Jx (pre ++ [x]) W'))
    (hW : AtW c a n Ba Bn Bc W) (h1 : Ba < B) (h2 : Bn < B) (h3 : Bc < B) (h4 : B ≤ W.heap.size) (h0 : J [] W) :
    CallsIn Fence.wide 2 Try.prog 37 #[.func (.yield l) #[] #[], .pointer (some ⟨Ba, 0, none⟩), .pointer (some ⟨Bn, 0, none⟩), .pointer (some ⟨Bc, 0, none⟩)] W fun e W' => (∃ v, e = .returned v) ∧
      ((∃ ys, ys = stepsL c a n ∧ J ys W') ∨ (∃ pre, pre <+: stepsL c a n ∧ Jx pre W')) := by
  have HR := Lib.hid (rightC_iff.1 hr)
  have HO := Lib.hid (ok_of HR.out.1)
  have b1 : 0 ≤ a := HR.out.2.1
  have b2 : a + n ≤ 61440 := by have := HR.out.2.2.2; have := HO.out.z2; omega
  have HW := Lib.hid hW
  have HJ := Lib.hid hJ
  have HY := Lib.hid hY
  clear hr hJ hY hW
  have cA := HW.out.ba.cell
  refine callsIn_of_wp Try.func37 rfl trivial ?_ rfl
  simp only [Try.ntmps37, List.size_toArray, List.length_cons, List.length_nil, Nat.reduceAdd, Nat.reduceSub, Array.replicate_succ, Array.replicate_zero, List.push_toArray, List.append_toArray, List.nil_append, List.cons_append]
  gi_wp2
  clear cA
  gi_loopw [5] (fun i wr => ∃ k : Nat, k ≤ n ∧ i = .int .i64 (a + k) ∧ J (stepsL c a k) wr ∧ Below B W wr) (fun i _ => n - (intOf i - a).toNat)
  case atStart => exact ⟨0, by omega, by simp, by rw [stepsL_zero]; exact h0, Below.refl _ _⟩
  case round =>
    obtain ⟨k, hk, rfl, hJs, hbe⟩ := hrel
    have HE := Lib.hid hbe
    have HK := Lib.hid hJs
    have HV0 := Lib.hid (HW.out.under hbe h1 h2 h3)
    clear hbe hJs
    have cA := HV0.out.ba.cell
    have cN := HV0.out.bn.cell
    obtain ⟨y0, y1, y2, y3, y4, y5, y6, y7, y8, y9, y10⟩ := box11 HV0.out.bc
    by_cases hlt : k < n
    · have g1 : a + k < a + n := by omega
      have HB : Hid (ofB c (a + k) = true) := ofB_iff.2 ⟨HR.out.1, by omega, by have := HR.out.2.2.2; omega⟩
      have HP : Hid (ofA c (a + k) = ofIn c (a + k)) := by
        show ofA c (a + k) = _
        unfold ofA
        rw [if_pos HB.out]
      have HI : Hid (∃ P, ofIn c (a + k) = P ∧ blkS c (a + k) = ⟨false, P.m, P.p, a + k, 1⟩ ∧ P.s = (a + k) / (dataC c * c.u)) := ⟨_, rfl, rfl, rfl⟩
      obtain ⟨P, hP, hx, hs⟩ := HI.out
      have HX := Lib.hid hx
      have HS := Lib.hid hs
      have HQ := Lib.hid hP
      clear hP hx hs HI
      gi_wp2_with fail
      refine ⟨trivial, (callsIn_wide.2 (of_any c (a + k) wr)).mono ?_⟩
      rintro e w1 ⟨rfl, hb⟩
      rw [HP.out, HB.out, HQ.out]
      clear HP HB HQ
      have HV1 := Lib.hid (HV0.out.under hb (Nat.lt_of_lt_of_le h1 (Nat.le_trans h4 HE.out.size)) (Nat.lt_of_lt_of_le h2 (Nat.le_trans h4 HE.out.size)) (Nat.lt_of_lt_of_le h3 (Nat.le_trans h4 HE.out.size)))
      have HB1 := Lib.hid (hb.alloc hb.size (.cells #[.int .i64 P.s, .int .i64 P.u, .int .i64 P.i, .int .i64 P.m, .int .i64 P.p] 36))
      have HZ1 := Lib.hid (Nat.le_trans (Nat.le_trans h4 HE.out.size) hb.size)
      have HJ1 := Lib.hid (HJ.out _ _ _ none HK.out (grown_of_below HB1.out) (fun r e => by cases e))
      clear hb y0 y1 y2 y3 y4 y5 y6 y7 y8 y9 y10 cA cN HV0 HK
      obtain ⟨fn, tmps, assign, body, hy, hRo⟩ := HY.out _ ⟨false, P.m, P.p, a + k, 1⟩ _ HJ1.out (stepsL_lt c a hlt)
      dsimp only at hy
      have HRo := Lib.hid hRo
      clear hRo
      gi_wp2
      refine HRo.out.mono ?_
      rintro e W3 (⟨rfl, hJ3, hk3⟩ | ⟨rfl, hJx3⟩)
      · have HJ3 := Lib.hid hJ3
        have HB3 := Lib.hid hk3.1
        have HF3 := Lib.hid (hk3.2 _ _ (Box.fresh w1 36 #[.int .i64 P.s, .int .i64 P.u, .int .i64 P.i, .int .i64 P.m, .int .i64 P.p]))
        have HV2 : Hid (AtW c a n Ba Bn Bc (w1.alloc (.cells #[.int .i64 P.s, .int .i64 P.u, .int .i64 P.i, .int .i64 P.m, .int .i64 P.p] 36))) := HV1.out.under ((Below.refl _ _).alloc (Nat.le_refl _) _) (Nat.lt_of_lt_of_le h1 HZ1.out) (Nat.lt_of_lt_of_le h2 HZ1.out) (Nat.lt_of_lt_of_le h3 HZ1.out)
        have HV3 := Lib.hid (HV2.out.under hk3.1 h1 h2 h3)
        clear hy HRo hJ3 hk3 HV1
        obtain ⟨y0, y1, y2, y3, y4, y5, y6, y7, y8, y9, y10⟩ := box11 HV3.out.bc
        obtain ⟨⟨p0, p1, p2, p3, p4⟩, _⟩ := box5 HF3.out
        gi_wp2_with fail
        refine ⟨trivial, (callsIn_wide.2 (ends_to c (a + k) (dataC c * c.u) W3 rfl HR.out.1 (by omega) (by omega))).mono ?_⟩
        rintro e W4 ⟨rfl, hb⟩
        have HJ4 := Lib.hid (HJ.out _ _ _ none HJ3.out (grown_of_below hb) (fun r e => by cases e))
        have HF4 := Lib.hid (HF3.out.later hb)
        have HZ3 : Hid (B ≤ W3.heap.size) := by have := HZ1.out; have := HB3.out.size; simp at this; show B ≤ _; omega
        have HV4 := Lib.hid (HV3.out.under hb (Nat.lt_of_lt_of_le h1 HZ3.out) (Nat.lt_of_lt_of_le h2 HZ3.out) (Nat.lt_of_lt_of_le h3 HZ3.out))
        have HE4 : Hid (Below B W W4) := HE.out.trans ((HB1.out.mono (by have := HE.out.size; omega)).trans (HB3.out.trans (hb.mono HZ3.out)))
        clear hb y0 y1 y2 y3 y4 y5 y6 y7 y8 y9 y10 p0 p1 p2 p3 p4 HJ3 HF3 HV3 HV2 HJ1 HB1 HB3 HE
        obtain ⟨y0, y1, y2, y3, y4, y5, y6, y7, y8, y9, y10⟩ := box11 HV4.out.bc
        obtain ⟨⟨p0, p1, p2, p3, p4⟩, _⟩ := box5 HF4.out
        by_cases he : (a + k + 1) % (dataC c * c.u) = 0
        · have e1 : ((a + k + 1) % (dataC c * c.u) == 0) = true := by simpa using he
          have HN : Hid (stepsOf c (a + k) = [⟨false, P.m, P.p, a + k, 1⟩, parS c P.s]) := by
            show stepsOf c (a + k) = _
            unfold stepsOf
            rw [if_pos he, HX.out, HS.out]
          rw [e1]
          clear he e1
          have HHS : Hid (hasS c P.s = true) := by
            refine hasS_iff.2 ⟨HR.out.1, ?_, ?_⟩
            · rw [HS.out]; exact Int.ediv_nonneg (by omega) (by have := HO.out.r1; omega)
            · rw [HS.out]; exact Int.ediv_lt_of_lt_mul (by have := HO.out.r1; omega) (by have := HR.out.2.2.2; omega)
          gi_wp2_with fail
          refine ⟨trivial, (callsIn_wide.2 (parOf_any c P.s (dataC c * c.u) (P.s * c.u) (P.s * (dataC c * c.u)) (P.s % c.m) W4 rfl HHS.out rfl rfl rfl)).mono ?_⟩
          rintro e W5 ⟨rfl, hb⟩
          have HJ5 := Lib.hid (HJ.out _ _ _ none HJ4.out (grown_of_below hb) (fun r e => by cases e))
          have HE5 : Hid (Below B W W5) := HE4.out.trans (hb.mono (by have := HE4.out.size; omega))
          clear hb y0 y1 y2 y3 y4 y5 y6 y7 y8 y9 y10 p0 p1 p2 p3 p4 HJ4 HF4 HE4
          obtain ⟨fn, tmps, assign, body, hy, hRo⟩ := HY.out _ (parS c P.s) _ HJ5.out (by
            have := (stepsL_pre c a (show k + 1 ≤ n from hlt)).length_le
            rw [stepsL_succ, HN.out] at this
            simp at this
            simp
            omega)
          have HPS : Hid (parS c P.s = ⟨true, P.s % c.m, P.s * c.u, P.s * (dataC c * c.u), c.u⟩) := rfl
          rw [HPS.out] at hy
          dsimp only at hy
          have HRo := Lib.hid hRo
          clear hRo
          generalize P.s * (dataC c * c.u) = X at hy HPS ⊢
          generalize P.s * c.u = F at hy HPS ⊢
          generalize P.s % c.m = M at hy HPS ⊢
          gi_wp2
          refine HRo.out.mono ?_
          have HA6 : Hid (stepsL c a k ++ [⟨false, P.m, P.p, a + k, 1⟩] ++ [parS c P.s] = stepsL c a (k + 1)) := by
            show _ = _
            rw [stepsL_succ, HN.out, List.append_assoc]
            rfl
          rintro e W6 (⟨rfl, hJ6, hk6⟩ | ⟨rfl, hJx6⟩)
          · have HJ6 : Hid (J (stepsL c a (k + 1)) W6) := by rw [← HA6.out]; exact hJ6
            have HE6 : Hid (Below B W W6) := HE5.out.trans hk6.1
            clear hJ6 hk6 hy HRo
            gi_wp2
            go_roundw
            case rel => exact ⟨k + 1, by omega, by go_num, HJ6.out, HE6.out⟩
            case measure => simp [intOf]; omega
          · clear hy HRo
            gi_wp2
            refine bodyPost_ret (results_none rfl _ _ _) rfl ?_
            refine ⟨⟨_, rfl⟩, .inr ⟨_, stepsL_pre c a (show k + 1 ≤ n from hlt), ?_⟩⟩
            rw [← HA6.out]
            exact hJx6
        · have e1 : ((a + k + 1) % (dataC c * c.u) == 0) = false := by simpa using he
          have HN : Hid (stepsL c a (k + 1) = stepsL c a k ++ [⟨false, P.m, P.p, a + k, 1⟩]) := by
            show stepsL c a (k + 1) = _
            rw [stepsL_succ]
            unfold stepsOf
            rw [if_neg he, HX.out]
          rw [e1]
          clear he e1
          gi_wp2
          refine ⟨trivial, ?_⟩
          gi_wp2
          refine ⟨fun _ h => (by cases h), ?_⟩
          gi_wp2
          go_roundw
          case rel => exact ⟨k + 1, by omega, by go_num, by rw [HN.out]; exact HJ4.out, HE4.out⟩
          case measure => simp [intOf]; omega
      · gi_wp2
        refine bodyPost_ret (results_none rfl _ _ _) rfl ?_
        refine ⟨⟨_, rfl⟩, .inr ⟨_, stepsL_pre1 c a hlt, ?_⟩⟩
        rw [HX.out]
        exact hJx3
    · obtain rfl : k = n := by omega
      gi_wp2
      go_end0
      exact ⟨⟨_, rfl⟩, .inl ⟨_, rfl, HK.out⟩⟩
theorem enters37 : ∀ args w, (callFunc 37 args).run Try.prog w = .ok (.enter 37 args) w := enters_of Try.func37 (by kernel_rfl) rfl
theorem hands_writes (c : Cf) (a : Int) (n Ba Bn Bc : Nat) (w : World) (hr : rightC c a n = true) (hw : AtW c a n Ba Bn Bc w) : Hands 37 #[.pointer (some ⟨Ba, 0, none⟩), .pointer (some ⟨Bn, 0, none⟩), .pointer (some ⟨Bc, 0, none⟩)] (stepsL c a n) w := fun l J Jx W hW hJ hJx hY h0 =>
  writes1_in c a n l Ba Bn Bc w.heap.size hr J Jx W hJ hY (hw.under hW hw.ba.lt hw.bn.lt hw.bc.lt) hw.ba.lt hw.bn.lt hw.bc.lt hW.size h0

end Go.Proofs.Yteglgopbagefcaa
