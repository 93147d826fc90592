/- The iterator that lacks hands back. -/
import Derived.Test.YteglgopbagefcaaRa
namespace Go.Proofs.Yteglgopbagefcaa
set_option linter.unusedVariables false
set_option linter.unusedSimpArgs false
open Go.RowKit Go.Shelf
open Go.RowKit (wrap64)
attribute [local go_sem] Oper.semAt_some

/-- What the iterator has at hand: the needs, the numbers that came in, the settings. -/
structure AtL (c : Cf) (fr : Nat → Int) (f : Int → Int) (A : Option Addr) (cap M g Bd Bf Bc B : Nat) (w : World) : Prop where
  bd : Boxed w Bd 37 (.slice (some ⟨g, 0, none⟩) M M)
  bf : Boxed w Bf 37 (.slice A M cap)
  bc : Box w Bc 23 #[.int .i64 c.id, .int .i64 c.m, .int .i64 c.u, .int .i64 c.b, .int .i64 c.cp, .int .i64 c.z, .int .i64 c.s, .int .i64 c.mt, .int .i64 c.o, .int .i64 c.a, .int .i64 c.l]
  bg : Box w g 3 (rowN f M M).toArray
  it : Ints w B A fr M
  l1 : Bd < B
  l2 : Bf < B
  l3 : Bc < B
  l4 : g < B
theorem AtL.under {c : Cf} {fr : Nat → Int} {f : Int → Int} {A : Option Addr} {cap M g Bd Bf Bc B : Nat} {w w' : World} (h : AtL c fr f A cap M g Bd Bf Bc B w) (hb : Below B w w') : AtL c fr f A cap M g Bd Bf Bc B w' :=
  ⟨(hb.block Bd h.l1).trans h.bd, (hb.block Bf h.l2).trans h.bf, h.bc.under hb h.l3, h.bg.under hb h.l4, h.it.below hb, h.l1, h.l2, h.l3, h.l4⟩

set_option maxRecDepth 100000 in
set_option maxHeartbeats 4000000 in
theorem lacks1_in (c : Cf) (fr : Nat → Int) (f : Int → Int) (A : Option Addr) (cap N M K g l Bd Bf Bc B : Nat) (hN : M = N + 1) (hM : M ≤ 16) (hK : mxN f N = (K : Int)) (hK2 : K ≤ 262208) (J Jx : List St → World → Prop) (W : World) (hJ : AbidesFrom W.heap.size J)
    (hY : ∀ pre x W1, J pre W1 → pre.length < (missL c fr f M K).length → YieldAt Fence.wide 1 Try.prog l #[(.agg #[.bool x.p, .int .i64 x.m, .int .i64 x.f, .int .i64 x.b, .int .i64 x.n])] W1 fun e W' => (e = .returned (.bool true) ∧ J (pre ++ [x]) W' ∧ Kept B W1 W') ∨ (e = .returned (.bool false) ∧ Jx (pre ++ [x]) W'))
    (hW : AtL c fr f A cap M g Bd Bf Bc B W) (h4 : B ≤ W.heap.size) (h0 : J [] W) :
    CallsIn Fence.wide 2 Try.prog 44 #[.func (.yield l) #[] #[], .pointer (some ⟨Bd, 0, none⟩), .pointer (some ⟨Bf, 0, none⟩), .pointer (some ⟨Bc, 0, none⟩)] W fun e W' => (∃ v, e = .returned v) ∧
      ((∃ ys, ys = missL c fr f M K ∧ J ys W') ∨ (∃ pre, pre <+: missL c fr f M K ∧ Jx pre W')) := by
  have HW := Lib.hid hW
  have HJ := Lib.hid hJ
  have HY := Lib.hid hY
  have HM : Hid (Calls Try.prog 45 #[.slice (some ⟨g, 0, none⟩) M M] W (Says W (.int .i64 (K : Int)))) := by
    subst hN
    have := max_any f N g W hM hW.bg
    rw [hK] at this
    exact this
  clear hJ hY hW hK hN
  have cD := HW.out.bd.cell
  refine callsIn_of_wp Try.func44 rfl trivial ?_ rfl
  simp only [Try.ntmps44, List.size_toArray, List.length_cons, List.length_nil, Nat.reduceAdd, Nat.reduceSub, Array.replicate_succ, Array.replicate_zero, List.push_toArray, List.append_toArray, List.nil_append, List.cons_append]
  gi_wp2_with fail
  refine ⟨trivial, (callsIn_wide.2 HM.out).mono ?_⟩
  rintro e w0 ⟨rfl, hb⟩
  have HJ0 := Lib.hid (HJ.out _ _ _ none h0 (grown_of_below hb) (fun r e => by cases e))
  have HE0 := Lib.hid (hb.mono h4)
  have hz0 : W.heap.size ≤ w0.heap.size := hb.size
  clear hb cD HM
  gi_wp2
  gi_loopw [10] (fun i wr => ∃ k : Nat, k ≤ K ∧ i = .int .i64 k ∧ J (missL c fr f M k) wr ∧ Below B W wr) (fun i _ => K - (intOf i).toNat)
  case atStart => exact ⟨0, by omega, rfl, by rw [missL_zero]; exact HJ0.out, HE0.out⟩
  case round =>
    obtain ⟨k, hk, rfl, hJs, hbe⟩ := hrel
    have HE := Lib.hid hbe
    have HK := Lib.hid hJs
    clear hbe hJs HJ0 HE0
    by_cases hlt : k < K
    · have cD := (HW.out.under HE.out).bd.cell
      gi_wp2
      gi_loopw [15] (fun i wr => ∃ j : Nat, j ≤ M ∧ i = .int .i64 j ∧ J (missL c fr f M k ++ missP c fr f k j) wr ∧ Below B W wr) (fun i _ => M - (intOf i).toNat)
      case atStart => exact ⟨0, by omega, rfl, by rw [missP_zero, List.append_nil]; exact HK.out, HE.out⟩
      case round =>
        clear cD HK HE
        obtain ⟨j, hj, rfl, hJs, hbe⟩ := hrel
        have HE := Lib.hid hbe
        have HK := Lib.hid hJs
        have HV := Lib.hid (HW.out.under hbe)
        clear hbe hJs
        by_cases hjt : j < M
        · have cD := HV.out.bd.cell
          have cF := HV.out.bf.cell
          obtain ⟨y0, y1, y2, y3, y4, y5, y6, y7, y8, y9, y10⟩ := box11 HV.out.bc
          obtain ⟨bA, oA, hA, hbA, cI⟩ := HV.out.it j hjt
          have cG : ∀ x : World, Hid (AtL c fr f A cap M g Bd Bf Bc B x) → x.cell? ⟨g, j, none⟩ = some (.int .i64 (f j)) := fun x hx => by rw [hx.out.bg.cell, List.getElem?_toArray, rowN_at hjt, if_pos hjt]
          have cG0 := cG _ HV
          rw [hA] at cF
          clear cG
          by_cases h1 : (k : Int) < fr j
          · have HN : Hid (missP c fr f k (j + 1) = missP c fr f k j) := missP_no (.inl h1)
            gi_wp2
            go_roundw
            case rel => exact ⟨j + 1, by omega, by go_num, by rw [HN.out]; exact HK.out, HE.out⟩
            case measure => simp [intOf]; omega
          · by_cases h2 : f j ≤ k
            · have HN : Hid (missP c fr f k (j + 1) = missP c fr f k j) := missP_no (.inr h2)
              gi_wp2
              go_roundw
              case rel => exact ⟨j + 1, by omega, by go_num, by rw [HN.out]; exact HK.out, HE.out⟩
              case measure => simp [intOf]; omega
            · have HN : Hid (missP c fr f k (j + 1) = missP c fr f k j ++ [missAt c j k]) := missP_yes h1 h2
              have HL : Hid ((missL c fr f M k ++ missP c fr f k j).length < (missL c fr f M K).length) := miss_lt hlt hjt h1 h2
              have HI : Hid (∃ X D, (backA c j k).1 = X ∧ (backA c j k).2 = D ∧ missAt c j k = ⟨!D, j, k, X, 1⟩) := ⟨_, _, rfl, rfl, rfl⟩
              obtain ⟨X, D, hX, hD, hS⟩ := HI.out
              have HX := Lib.hid hX
              have HD := Lib.hid hD
              have HS := Lib.hid hS
              clear hX hD hS HI
              gi_wp2_with fail
              refine ⟨trivial, (callsIn_wide.2 (blk_to c j k X D _ HX.out HD.out)).mono ?_⟩
              rintro e w1 ⟨rfl, hb⟩
              have HJ1 := Lib.hid (HJ.out _ _ _ none HK.out (grown_of_below hb) (fun r e => by cases e))
              have HE1 : Hid (Below B W w1) := HE.out.trans (hb.mono (Nat.le_trans h4 HE.out.size))
              clear hb cD cF y0 y1 y2 y3 y4 y5 y6 y7 y8 y9 y10 cI cG0 HV HE HK
              obtain ⟨fn, tmps, assign, body, hy, hRo⟩ := HY.out _ (missAt c j k) _ HJ1.out HL.out
              rw [HS.out] at hy
              dsimp only at hy
              have HRo := Lib.hid hRo
              clear hRo
              gi_wp2
              refine HRo.out.mono ?_
              rintro e W6 (⟨rfl, hJ6, hk6⟩ | ⟨rfl, hJx6⟩)
              · have HJ6 : Hid (J (missL c fr f M k ++ missP c fr f k (j + 1)) W6) := by rw [HN.out, ← List.append_assoc]; exact hJ6
                have HE6 : Hid (Below B W W6) := HE1.out.trans hk6.1
                clear hJ6 hk6 hy HRo
                gi_wp2
                go_roundw
                case rel => exact ⟨j + 1, by omega, by go_num, HJ6.out, HE6.out⟩
                case measure => simp [intOf]; omega
              · clear hy HRo
                gi_wp2
                refine bodyPost_ret (results_none rfl _ _ _) rfl ?_
                refine ⟨⟨_, rfl⟩, .inr ⟨_, miss_pre hlt (show j + 1 ≤ M from hjt), ?_⟩⟩
                rw [HN.out, ← List.append_assoc]
                exact hJx6
        · obtain rfl : j = M := by omega
          have HN : Hid (J (missL c fr f j (k + 1)) wr) := by rw [missL_succ]; exact HK.out
          gi_wp2
          go_roundw
          case rel => exact ⟨k + 1, by omega, by go_num, HN.out, HE.out⟩
          case measure => simp [intOf]; omega
    · obtain rfl : k = K := by omega
      gi_wp2
      go_end0
      exact ⟨⟨_, rfl⟩, .inl ⟨_, rfl, HK.out⟩⟩
theorem enters44 : ∀ args w, (callFunc 44 args).run Try.prog w = .ok (.enter 44 args) w := enters_of Try.func44 (by kernel_rfl) rfl
theorem hands_lacks (c : Cf) (fr : Nat → Int) (f : Int → Int) (A : Option Addr) (cap N M K g Bd Bf Bc : Nat) (w : World) (hN : M = N + 1) (hM : M ≤ 16) (hK : mxN f N = (K : Int)) (hK2 : K ≤ 262208) (hw : AtL c fr f A cap M g Bd Bf Bc w.heap.size w) : Hands 44 #[.pointer (some ⟨Bd, 0, none⟩), .pointer (some ⟨Bf, 0, none⟩), .pointer (some ⟨Bc, 0, none⟩)] (missL c fr f M K) w := fun l J Jx W hW hJ hJx hY h0 =>
  lacks1_in c fr f A cap N M K g l Bd Bf Bc w.heap.size hN hM hK hK2 J Jx W hJ hY (hw.under hW) hW.size h0
end Go.Proofs.Yteglgopbagefcaa
