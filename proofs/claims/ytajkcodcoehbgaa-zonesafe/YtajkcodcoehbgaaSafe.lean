/- For every block, list of acts and keep the law ZoneSafe returns true, and the acts read behind the call as they read before: the walk. -/
import Derived.Test.YtajkcodcoehbgaaQ
import Derived.Deep.CutBlock
import Derived.Deep.LoopGhost
namespace Go.Proofs.Ytajkcodcoehbgaa.zoneSafe
set_option linter.unusedVariables false
set_option linter.unusedSimpArgs false
open Go.RowKit
open Go.RowKit (wrap64)

theorem conv_any (A : Option Addr) (c : Nat) (l : List UInt8) (w : World) (hr : Mem 5 w A (cBs l)) : (convert 25 9 (.slice A l.length c)).run Try.prog w = .ok (.string ⟨l.toArray⟩) w :=
  run_conv w 25 9 5 Try.underlying25 Try.underlying5 Try.underlying9 A c _ l hr.rd
/-- 'string(s[:n])': a beginning. -/
theorem conv_pre (A : Option Addr) (c : Nat) (l p r : List UInt8) (w : World) (hl : p ++ r = l) (hr : Mem 5 w A (cBs l)) : (convert 25 9 (.slice A p.length c)).run Try.prog w = .ok (.string ⟨p.toArray⟩) w := by
  refine conv_any A c p w ?_
  have h := hr.take p.length
  rw [← cBs_take, ← hl, List.take_left] at h
  exact h

theorem field0 (x y z : Value) (w : World) : (Instr.field 45 (.agg #[x, y, z]) 0).run Try.prog w = .ok x w := by kernel_rfl
theorem field1 (x y z : Value) (w : World) : (Instr.field 45 (.agg #[x, y, z]) 1).run Try.prog w = .ok y w := by kernel_rfl

/-- What is known to be safe. -/
def Zn.kept (z : Zn) : List UInt8 := (z.ls.take z.safe).flatten
theorem take_pre {α : Type} (ls : List (List α)) {i k : Nat} (h : i ≤ k) : ∃ R, (ls.take i).flatten ++ R = (ls.take k).flatten := by
  refine ⟨((ls.take k).drop i).flatten, ?_⟩
  rw [← List.flatten_append]
  congr 1
  have e : ls.take i = (ls.take k).take i := by rw [List.take_take, Nat.min_eq_left h]
  rw [e, List.take_append_drop]
/-- What is safe stays, whatever comes but a reset. -/
theorem kept_after {z : Zn} (hz : z.Ok) (d : Int) (b : List UInt8) (n : Int) (hd : d ≠ 2) : ∃ R, Zn.kept z ++ R = Zn.kept (z.after d b n) := by
  unfold Zn.kept Zn.after
  split
  · split
    · refine ⟨[], ?_⟩
      simp only [List.append_nil]
      rw [List.take_append_of_le_length hz.hs]
    · exact ⟨[], by simp⟩
  · split
    · exact take_pre _ hz.hs
    · split
      · exact take_pre _ hz.hs
      · split
        · have h := Zn.left_le hz n
          obtain ⟨R, hR⟩ := take_pre z.ls h.2
          refine ⟨R, ?_⟩
          simp only [List.take_take, Nat.min_self]
          exact hR
        · exact ⟨[], by simp⟩

/-- The zone, in its block, holds z. -/
structure One (w wr : World) (g7 : Nat) (z : Zn) (nf : Nat) (A : Option Addr) (c : Nat) : Prop where
  ok : z.Ok
  hnf : z.ls.flatten.length = nf
  b7 : Box wr g7 27 #[.int .i64 (z.cap : Int), .int .i64 (z.blk : Int), .slice A nf c, .int .i64 (z.safe : Int), .bool z.done]
  m5 : Mem 5 wr A (cBs z.ls.flatten)
  l5 : nf ≤ c
  bel : Below w.heap.size w wr
theorem One.later {w wr w' : World} {g7 : Nat} {z : Zn} {nf : Nat} {A : Option Addr} {c : Nat} (h : One w wr g7 z nf A c) (hb : Below wr.heap.size wr w') : One w w' g7 z nf A c :=
  ⟨h.ok, h.hnf, h.b7.later hb, h.m5.later hb, h.l5, h.bel.trans (hb.mono h.bel.size)⟩

theorem does_at {z : Zn} {nf : Nat} (hz : z.Ok) (hnf : z.ls.flatten.length = nf) (A B : Option Addr) (c cb : Nat) (b : List UInt8) (d n : Int) (w : World) (hA : Mem 5 w A (cBs z.ls.flatten)) (hc : nf ≤ c) (hm : b.length ≤ maxLen) (hb : Rd w w.heap.size B b) :
    Calls Try.prog 10 #[.agg #[.int .i64 (z.cap : Int), .int .i64 (z.blk : Int), .slice A nf c, .int .i64 (z.safe : Int), .bool z.done], .agg #[.int .i64 d, .slice B b.length cb, .int .i64 n]] w fun e w' => ∃ z1 nf1 A1 c1, z1 = z.after d b n ∧ z1.ls.flatten.length = nf1 ∧ e = .returned (.tuple #[.agg #[.int .i64 (z1.cap : Int), .int .i64 (z1.blk : Int), .slice A1 nf1 c1, .int .i64 (z1.safe : Int), .bool z1.done], .int .i64 (z.err d b : Nat)]) ∧ Mem 5 w' A1 (cBs z1.ls.flatten) ∧ nf1 ≤ c1 ∧ Below w.heap.size w w' := by
  subst hnf
  refine (does_any hz B cb b d n w ⟨A, c, rfl, hA, hc⟩ hm hb).mono ?_
  rintro e w' ⟨v, rfl, ⟨A1, c1, rfl, h1, h2⟩, h3⟩
  exact ⟨_, _, A1, c1, rfl, rfl, rfl, h1, h2, h3⟩
theorem look_at {z : Zn} {nf : Nat} (hz : z.Ok) (hnf : z.ls.flatten.length = nf) (A : Option Addr) (c : Nat) (w : World) (hc : nf ≤ c) :
    Calls Try.prog 14 #[.agg #[.int .i64 (z.cap : Int), .int .i64 (z.blk : Int), .slice A nf c, .int .i64 (z.safe : Int), .bool z.done]] w fun e w' => e = .returned (.agg #[.int .i64 (z.ls.length : Int), .int .i64 (z.safe : Int), .bool z.done]) ∧ Below w.heap.size w w' := by
  subst hnf
  exact look_any A z.done w (hz.zok hc)
theorem crash_at {z : Zn} {nf : Nat} (hz : z.Ok) (hnf : z.ls.flatten.length = nf) (A : Option Addr) (c : Nat) (n : Int) (w : World) (hA : Mem 5 w A (cBs z.ls.flatten)) (hc : nf ≤ c) :
    Calls Try.prog 20 #[.agg #[.int .i64 (z.cap : Int), .int .i64 (z.blk : Int), .slice A nf c, .int .i64 (z.safe : Int), .bool z.done], .int .i64 n] w fun e w' => ∃ z1 nf1 A1 c1, z1 = z.after 4 [] n ∧ z1.ls.flatten.length = nf1 ∧ e = .returned (.agg #[.int .i64 (z1.cap : Int), .int .i64 (z1.blk : Int), .slice A1 nf1 c1, .int .i64 (z1.safe : Int), .bool z1.done]) ∧ Mem 5 w' A1 (cBs z1.ls.flatten) ∧ nf1 ≤ c1 ∧ Below w.heap.size w w' := by
  subst hnf
  refine (crash_any A z.ls.flatten z.done n w (hz.zok hc) hA).mono ?_
  rintro e w' h
  have e2 : z.after 4 [] n = { z with ls := z.ls.take (z.left n), safe := z.left n } := by simp [Zn.after]
  have h' : GaveZ z.cap z.blk (z.left n) z.done (z.ls.flatten.take (z.left n * z.blk)) w e w' := h
  rw [flat_take _ hz.hl] at h'
  obtain ⟨A1, c1, h1, h2, h3, h4⟩ := h'
  exact ⟨{ z with ls := z.ls.take (z.left n), safe := z.left n }, _, A1, c1, e2.symm, rfl, h1, h2, h3, h4⟩
/-- What Read hands back with no error, and its room. -/
def GaveF (w : World) (l : List UInt8) (e : Ending) (w' : World) : Prop := ∃ A c, e = .returned (.tuple #[.slice A l.length c, .int .i64 0]) ∧ Mem 5 w' A (cBs l) ∧ l.length ≤ c ∧ Below w.heap.size w w'
set_option maxHeartbeats 1000000 in
theorem read_full {cap blk k safe c : Nat} (A : Option Addr) (D : List UInt8) (done : Bool) (i m : Nat) (w : World) (z : Zok cap blk k safe D.length c) (hr : Mem 5 w A (cBs D)) (hf : i + m ≤ k) :
    Calls Try.prog 12 #[.agg #[.int .i64 (cap : Int), .int .i64 (blk : Int), .slice A D.length c, .int .i64 (safe : Int), .bool done], .int .i64 (i : Int), .int .i64 (m : Int)] w (GaveF w ((D.drop (i * blk)).take (m * blk))) := by
  have HZ := Lib.hid z
  have HR := Lib.hid hr
  have hk12 : k ≤ 4096 := Nat.le_trans z.hc z.c2
  have hn := z.hn
  have hcn := z.hcn
  have h1 : (i + m) * blk ≤ D.length := by rw [z.hk]; exact Nat.mul_le_mul_right _ hf
  have h2 : i * blk ≤ (i + m) * blk := Nat.mul_le_mul_right _ (by omega)
  have h3 : (i + m) * blk - i * blk = m * blk := by rw [Nat.add_mul]; omega
  have e1 : (i : Int) * (blk : Int) = ((i * blk : Nat) : Int) := by simp
  have e2 : ((i : Int) + (m : Int)) * (blk : Int) = (((i + m) * blk : Nat) : Int) := by simp
  have hgt : ¬ ((k : Int) - (i : Int) < (m : Int)) := by omega
  generalize i * blk = lo at h2 h3 e1 ⊢
  generalize (i + m) * blk = hi at h1 h2 h3 e2
  generalize m * blk = len at h3 ⊢
  have hlen : ((D.drop lo).take len).length = len := by simp; omega
  have HS : Hid (sumLen [(D.drop lo).take len] ≤ 100000000) := by
    show sumLen [(D.drop lo).take len] ≤ 100000000
    simp [sumLen]; omega
  have HLen := Lib.hid hlen
  have HC := Lib.hid (fun (w' : World) (h : Below w.heap.size w w') => ((hr.later h).rd.cut (n := lo) (cap := c) (by omega) hcn).take len)
  clear z hr hlen
  generalize hT : (D.drop lo).take len = T at HLen HS HC ⊢
  clear hT
  by_cases hcl : c = lo
  · rw [if_pos hcl] at HC
    subst hcl
    go_enter Try.func12, Try.ntmps12
    go_wp2_with fail
    refine (sound_any A done _ HZ.out).mono ?_
    rintro e w1 ⟨rfl, hb1⟩
    obtain ⟨b1, hbw⟩ := one_box hb1 (by simp)
    obtain ⟨⟨q0, q1, q2, q3, q4⟩, f0, f1, f2, f3, f4⟩ := box5 b1
    obtain ⟨s0, s1, s2, s3, s4⟩ := self5 b1
    have HB := Lib.hid hbw
    have HB1 := Lib.hid b1
    clear hb1 hbw b1
    go_wp2_with fail
    refine (pointer_any (cap : Int) (safe : Int) blk k D.length A c done _ HZ.out.h1 HZ.out.h2 HZ.out.hk HZ.out.hn).mono ?_
    rintro e w3 ⟨rfl, hb3⟩
    have HB3 := Lib.hid (HB.out.trans (hb3.mono HB.out.size))
    have C1 := HB1.out.later hb3
    clear HB hb3 q0 q1 q2 q3 q4 f0 f1 f2 f3 f4 s0 s1 s2 s3 s4
    obtain ⟨⟨q0, q1, q2, q3, q4⟩, f0, f1, f2, f3, f4⟩ := box5 C1
    clear C1 HB1
    go_wp2_with fail
    refine (concat_any _ _ [T] _ (Pts.one (by simp) HLen.out (HC.out _ HB3.out)) (by simp) HS.out).mono ?_
    rintro e w4 ⟨A4, c4, rfl, hr4, hc4, hb4⟩
    simp only [List.flatten_cons, List.flatten_nil, List.append_nil] at hr4 hc4 ⊢
    have HX := Lib.hid (And.intro hr4 (And.intro hc4 (HB3.out.trans (Below.mono (below_of_alloc hb4 (by simp)) HB3.out.size))))
    clear HB3 hr4 hc4 hb4 q0 q1 q2 q3 q4 f0 f1 f2 f3 f4
    go_wp2
    refine bodyPost_ret (v := .tuple #[.slice A4 T.length c4, .int .i64 0]) (by simp [results, Try.results12, go_sem, *]) rfl ⟨A4, c4, rfl, HX.out.1, HX.out.2.1, HX.out.2.2⟩
  · rw [if_neg hcl] at HC
    go_enter Try.func12, Try.ntmps12
    go_wp2_with fail
    refine (sound_any A done _ HZ.out).mono ?_
    rintro e w1 ⟨rfl, hb1⟩
    obtain ⟨b1, hbw⟩ := one_box hb1 (by simp)
    obtain ⟨⟨q0, q1, q2, q3, q4⟩, f0, f1, f2, f3, f4⟩ := box5 b1
    obtain ⟨s0, s1, s2, s3, s4⟩ := self5 b1
    have HB := Lib.hid hbw
    have HB1 := Lib.hid b1
    clear hb1 hbw b1
    go_wp2_with fail
    refine (pointer_any (cap : Int) (safe : Int) blk k D.length A c done _ HZ.out.h1 HZ.out.h2 HZ.out.hk HZ.out.hn).mono ?_
    rintro e w3 ⟨rfl, hb3⟩
    have HB3 := Lib.hid (HB.out.trans (hb3.mono HB.out.size))
    have C1 := HB1.out.later hb3
    clear HB hb3 q0 q1 q2 q3 q4 f0 f1 f2 f3 f4 s0 s1 s2 s3 s4
    obtain ⟨⟨q0, q1, q2, q3, q4⟩, f0, f1, f2, f3, f4⟩ := box5 C1
    clear C1 HB1
    go_wp2_with fail
    refine (concat_any _ _ [T] _ (Pts.one (by simp) HLen.out (HC.out _ HB3.out)) (by simp) HS.out).mono ?_
    rintro e w4 ⟨A4, c4, rfl, hr4, hc4, hb4⟩
    simp only [List.flatten_cons, List.flatten_nil, List.append_nil] at hr4 hc4 ⊢
    have HX := Lib.hid (And.intro hr4 (And.intro hc4 (HB3.out.trans (Below.mono (below_of_alloc hb4 (by simp)) HB3.out.size))))
    clear HB3 hr4 hc4 hb4 q0 q1 q2 q3 q4 f0 f1 f2 f3 f4
    go_wp2
    refine bodyPost_ret (v := .tuple #[.slice A4 T.length c4, .int .i64 0]) (by simp [results, Try.results12, go_sem, *]) rfl ⟨A4, c4, rfl, HX.out.1, HX.out.2.1, HX.out.2.2⟩

theorem read_first {z : Zn} {nf : Nat} (hz : z.Ok) (hnf : z.ls.flatten.length = nf) (A : Option Addr) (c m : Nat) (w : World) (hA : Mem 5 w A (cBs z.ls.flatten)) (hc : nf ≤ c) (hm : m ≤ z.ls.length) :
    Calls Try.prog 12 #[.agg #[.int .i64 (z.cap : Int), .int .i64 (z.blk : Int), .slice A nf c, .int .i64 (z.safe : Int), .bool z.done], .int .i64 0, .int .i64 (m : Int)] w fun e w' => ∃ T A1 c1, T = (z.ls.take m).flatten ∧ e = .returned (.tuple #[.slice A1 T.length c1, .int .i64 0]) ∧ Mem 5 w' A1 (cBs T) ∧ T.length ≤ c1 ∧ T.length ≤ 16777216 ∧ Below w.heap.size w w' := by
  subst hnf
  refine (read_full (k := z.ls.length) A z.ls.flatten z.done 0 m w (hz.zok hc) hA (by omega)).mono ?_
  rintro e w' ⟨A1, c1, rfl, h1, h3, h2⟩
  have e1 : (z.ls.flatten.drop (0 * z.blk)).take (m * z.blk) = (z.ls.take m).flatten := by rw [Nat.zero_mul, List.drop_zero, flat_take m hz.hl]
  have hs := hz.small
  rw [e1] at h1 h3 ⊢
  refine ⟨_, A1, c1, rfl, rfl, h1, h3, ?_, h2⟩
  obtain ⟨R, hR⟩ := take_pre z.ls hm
  rw [List.take_length] at hR
  rw [← hR, List.length_append] at hs
  omega

set_option maxRecDepth 100000 in
set_option maxHeartbeats 8000000 in
theorem walk (bk : Nat) (hbk : bk < 256) (AL : Option Addr) (cl : Nat) (acs : List Ac) (keep : Int) (w : World) (hA : Acts w w.heap.size AL acs) (hlen : acs.length ≤ maxLen) :
    Calls Try.prog 5 #[.int .u8 (bk : Int), .slice AL acs.length cl, .int .i64 keep] w fun e w' => e = .returned (.bool true) ∧ Below w.heap.size w w' := by
  have HM := Lib.hid (much_any AL cl _ acs w hA hlen)
  have HA := Lib.hid hA
  unfold maxLen at hlen
  clear hA
  obtain ⟨blk, hblk, bk1, bk2⟩ : ∃ n : Nat, fit (bk : Int) = (n : Int) ∧ 1 ≤ n ∧ n ≤ 4096 := ⟨(fit (bk : Int)).toNat, by have := fit_ok (bk : Int); omega, by have := fit_ok (bk : Int); omega, by have := fit_ok (bk : Int); omega⟩
  have HF : Hid (fit 50 = 50 ∧ fit (bk : Int) = (blk : Int)) := ⟨by decide, hblk⟩
  have HZ : Hid (Zn.Ok ⟨50, blk, [], 0, false⟩) := ⟨by simp, by simp, bk1, bk2, Nat.zero_le _, (fun l hl => by cases hl), Nat.le_refl _⟩
  clear hblk
  go_enter Try.func5, Try.ntmps5
  go_wp2_with fail
  refine HM.out.mono ?_
  rintro e w' ⟨⟨big, rfl⟩, rfl⟩
  clear HM
  cases big
  · go_wp2_with fail
    refine (new_any 50 (bk : Int) w).mono ?_
    rintro e w1 ⟨rfl, hb1⟩
    rw [HF.out.1, HF.out.2]
    have HI : Hid (One w (w1.alloc (.cells #[.int .i64 50, .int .i64 (blk : Int), .slice none 0 0, .int .i64 0, .bool false] 27)) w1.heap.size ⟨50, blk, [], 0, false⟩ 0 none 0) :=
      ⟨HZ.out, rfl, Box.fresh _ _ _, Mem.nil, Nat.le_refl _, hb1.alloc hb1.size _⟩
    have HN : Hid (w.heap.size ≤ w1.heap.size) := hb1.size
    clear hb1 HF HZ
    go_wp2
    go_loopw [8, 9] (fun s i wr => ∃ j : Nat, j ≤ acs.length ∧ i = .int .i64 (j : Int) ∧ ∃ z nf A c S, S = Zn.kept z ∧ s = .string ⟨S.toArray⟩ ∧ S.length ≤ 16777216 ∧ One w wr w1.heap.size z nf A c) (fun _ i _ => acs.length - (intOf i).toNat)
    case atStart => exact ⟨0, by omega, rfl, _, _, _, _, [], rfl, rfl, by simp, HI.out⟩
    case round =>
      clear HI
      obtain ⟨j, hj, rfl, z, nf, A, c, S, hS, rfl, hSl, hB⟩ := hrel
      have HS := Lib.hid hS
      have HO := Lib.hid hB
      clear hS hB
      by_cases hlt : j < acs.length
      · obtain ⟨g, off, rfl, hg, hc⟩ := HA.out (by omega)
        obtain ⟨X, cx, e0, e1, e2, e3, e4, e5⟩ := hc j hlt
        have HX := Lib.hid (And.intro e0 (And.intro e1 (And.intro e2 (And.intro e3 (And.intro e4 e5)))))
        have hji : (j : Int) < (acs.length : Int) := by omega
        clear hc e0 e1 e2 e3 e4 e5
        generalize acs[j] = ac at HX
        obtain ⟨d, b, n⟩ := ac
        simp only at HX
        have c0 : wr.cell? ⟨g, off + j * 3, none⟩ = some (.int .i64 d) := (HO.out.bel.cell (by exact hg)).trans HX.out.1
        by_cases hd2 : d = 2
        · have hdd : (d == 2) = true := by simp; omega
          clear hd2
          go_wp2
          go_roundw
          case rel => exact ⟨j + 1, by omega, by go_num, z, nf, A, c, S, HS.out, rfl, hSl, HO.out⟩
          case measure => simp [intOf]; omega
        · have hdd : (d == 2) = false := by simp; omega
          have HD2 := Lib.hid hd2
          clear hd2
          go_wp2_with fail
          refine wpB_start w.heap.size (by kernel_rfl) ?_
          have HD : Hid (One w wr.drew w1.heap.size z nf A c) := HO.out.later (Below.refl _ _).drew
          clear c0 hdd HO
          generalize wr.drew = w0 at HD ⊢
          have a0 : ∀ w', Below w.heap.size w0 w' → w'.cell? ⟨g, off + j * 3, none⟩ = some (.int .i64 d) := fun w' h => ((HD.out.bel.trans h).cell (by exact hg)).trans HX.out.1
          have a1 : ∀ w', Below w.heap.size w0 w' → w'.cell? ⟨g, off + j * 3 + 1, none⟩ = some (.slice X b.length cx) := fun w' h => ((HD.out.bel.trans h).cell (by exact hg)).trans HX.out.2.1
          have a2 : ∀ w', Below w.heap.size w0 w' → w'.cell? ⟨g, off + j * 3 + 2, none⟩ = some (.int .i64 n) := fun w' h => ((HD.out.bel.trans h).cell (by exact hg)).trans HX.out.2.2.1
          refine wpB_take (i := 1) (d := 38) (v := ?v9x1) rfl rfl (by kernel_rfl) (by kernel_rfl) (by kernel_rfl) (fun _ _ _ h => h) (by rfl) ?y9x1 ?r9x1
          case y9x1 => (intro w' hSw; go_simp; try (with_reducible rfl))
          simp only [Act.put, List.setIfInBounds_toArray, List.set_cons_zero, List.set_cons_succ]
          refine wpB_take (i := 2) (d := 39) (v := ?v9x2) rfl rfl (by kernel_rfl) (by kernel_rfl) (by kernel_rfl) (fun _ _ _ h => h) (by rfl) ?y9x2 ?r9x2
          case y9x2 => (intro w' hSw; go_simp; try (with_reducible rfl))
          simp only [Act.put, List.setIfInBounds_toArray, List.set_cons_zero, List.set_cons_succ]
          refine wpB_take (i := 3) (d := 40) (v := ?v9x3) rfl rfl (by kernel_rfl) (by kernel_rfl) (by kernel_rfl) (fun _ _ _ h => h) (by rfl) ?y9x3 ?r9x3
          case y9x3 => (intro w' hSw; go_simp; try (with_reducible rfl))
          simp only [Act.put, List.setIfInBounds_toArray, List.set_cons_zero, List.set_cons_succ]
          refine wpB_take (i := 4) (d := 41) (v := ?v9x4) rfl rfl (by kernel_rfl) (by kernel_rfl) (by kernel_rfl) (fun _ _ _ h => h) (by rfl) ?y9x4 ?r9x4
          case y9x4 => (intro w' hSw; go_simp; try (with_reducible rfl))
          simp only [Act.put, List.setIfInBounds_toArray, List.set_cons_zero, List.set_cons_succ]
          clear a0 a1 a2
          obtain ⟨⟨q0, q1, q2, q3, q4⟩, f0, f1, f2, f3, f4⟩ := box5 HD.out.b7
          refine wpB_do (i := 0) (by kernel_rfl) rfl (by rfl) (fun K hK => ?_)
          go_simp
          refine hK.out _ _ _ (Nat.le_refl _) (Below.refl _ _) ?_
          clear hK K q0 q1 q2 q3 q4 f0 f1 f2 f3 f4
          refine wpB_do (i := 5) (by kernel_rfl) rfl (by rfl) (fun K hK => ?_)
          go_simp
          refine (does_at HD.out.ok HD.out.hnf A X c cx b d n w0 HD.out.m5 HD.out.l5 (by have := HX.out.2.2.2.2.2; unfold maxLen; omega) ((HX.out.2.2.2.1.below HD.out.bel).more HD.out.bel.size)).mono ?_
          rintro e w3 ⟨z1, nf1, A1, c1, hz1, hn1, rfl, hm1, hl1, hb3⟩
          have HE := Lib.hid (And.intro hz1 (And.intro hn1 (And.intro hm1 (And.intro hl1 (And.intro (HD.out.b7.later hb3) (And.intro (HD.out.bel.trans (hb3.mono HD.out.bel.size)) HD.out.ok))))))
          obtain ⟨⟨p0, p1, p2, p3, p4⟩, g0, g1, g2, g3, g4⟩ := box5 (HD.out.b7.later hb3)
          have hN := HN.out
          refine hK.out _ _ _ (Nat.le_refl _) (hb3.mono HD.out.bel.size) ?_
          clear hK K hb3 hm1 hl1 hz1 hn1 HD
          refine wpB_take (i := 6) (d := 36) (v := ?v9x6) rfl rfl (by kernel_rfl) (by kernel_rfl) (by kernel_rfl) (fun _ _ _ h => h) (by rfl) ?y9x6 ?r9x6
          case y9x6 => (intro w' hSw; go_simp; try (with_reducible rfl))
          simp only [Act.put, List.setIfInBounds_toArray, List.set_cons_zero, List.set_cons_succ]
          refine wpB_take (i := 7) (d := 43) (v := ?v9x7) rfl rfl (by kernel_rfl) (by kernel_rfl) (by kernel_rfl) (fun _ _ _ h => h) (by rfl) ?y9x7 ?r9x7
          case y9x7 => (intro w' hSw; go_simp; try (with_reducible rfl))
          simp only [Act.put, List.setIfInBounds_toArray, List.set_cons_zero, List.set_cons_succ]
          refine wpB_take (i := 8) (d := 44) (v := ?v9x8) rfl rfl (by kernel_rfl) (by kernel_rfl) (by kernel_rfl) (fun _ _ _ h => h) (by rfl) ?y9x8 ?r9x8
          case y9x8 => (intro w' hSw; go_simp; try (with_reducible rfl))
          simp only [Act.put, List.setIfInBounds_toArray, List.set_cons_zero, List.set_cons_succ]
          refine wpB_do (i := 9) (by kernel_rfl) rfl (by rfl) (fun K hK => ?_)
          go_simp
          refine hK.out _ _ _ (Nat.le_refl _) (by repeat (first | with_reducible exact Below.refl _ _ | with_reducible refine Below.drew ?_ | with_reducible refine Below.alloc ?_ (by first | (simp; done) | (simp; omega)) _ | with_reducible refine Below.setCell ?_ (by first | (simp; done) | (simp; omega)) _)) ?_
          clear hK K p0 p1 p2 p3 p4 g0 g1 g2 g3 g4
          refine wpB_done (by kernel_rfl) ?_
          have hp := put5 HE.out.2.2.2.2.1 (.int .i64 (z1.cap : Int)) (.int .i64 (z1.blk : Int)) (.slice A1 nf1 c1) (.int .i64 (z1.safe : Int)) (.bool z1.done)
          generalize (((((w3.setCell ⟨w1.heap.size, 0, none⟩ (.int .i64 (z1.cap : Int))).setCell ⟨w1.heap.size, 1, none⟩ (.int .i64 (z1.blk : Int))).setCell ⟨w1.heap.size, 2, none⟩ (.slice A1 nf1 c1)).setCell ⟨w1.heap.size, 3, none⟩ (.int .i64 (z1.safe : Int))).setCell ⟨w1.heap.size, 4, none⟩ (.bool z1.done)) = wX at hp ⊢
          have H1 : Hid (One w wX w1.heap.size z1 nf1 A1 c1) := ⟨by rw [HE.out.1]; exact HE.out.2.2.2.2.2.2.after d b n, HE.out.2.1, hp.1, HE.out.2.2.1.turn hp.2 (fun x hx => by
            obtain rfl : x = w1.heap.size := by simpa using hx
            exact HE.out.2.2.2.2.1.else_ (by decide)), HE.out.2.2.2.1, HE.out.2.2.2.2.2.1.trans (hp.2.below (by simpa using hN) HE.out.2.2.2.2.2.1.size)⟩
          have HK : Hid (∃ R, S ++ R = Zn.kept z1) := by
            show ∃ R, S ++ R = Zn.kept z1
            rw [HS.out, HE.out.1]
            exact kept_after HE.out.2.2.2.2.2.2 d b n HD2.out
          clear HE hp HS HD2 hN
          obtain ⟨⟨q0, q1, q2, q3, q4⟩, f0, f1, f2, f3, f4⟩ := box5 H1.out.b7
          go_wp2_with fail
          refine (look_at H1.out.ok H1.out.hnf A1 c1 wX H1.out.l5).mono ?_
          rintro e w4 ⟨rfl, hb4⟩
          have H2 := Lib.hid (H1.out.later hb4)
          clear H1 hb4 q0 q1 q2 q3 q4 f0 f1 f2 f3 f4
          obtain ⟨⟨q0, q1, q2, q3, q4⟩, f0, f1, f2, f3, f4⟩ := box5 H2.out.b7
          have hf1 := field1 (.int .i64 (z1.ls.length : Int)) (.int .i64 (z1.safe : Int)) (.bool z1.done)
          go_wp2_with fail
          refine (read_first H2.out.ok H2.out.hnf A1 c1 z1.safe w4 H2.out.m5 H2.out.l5 H2.out.ok.hs).mono ?_
          rintro e w5 ⟨T, A5, c5, hT, rfl, hm5, hl5, ht5, hb5⟩
          obtain ⟨R, hR⟩ := HK.out
          have hcp := conv_pre A5 c5 T S R w5 (by rw [hR, hT]; rfl) hm5
          have hcv := conv_any A5 c5 T w5 hm5
          have hle : S.length ≤ T.length := by
            rw [show T = S ++ R by rw [hR, hT]; rfl]
            simp
          have H3 := Lib.hid (And.intro (show T = Zn.kept z1 from hT) (H2.out.later hb5))
          clear H2 hb5 hT hR HK hm5 hf1 q0 q1 q2 q3 q4 f0 f1 f2 f3 f4
          go_wp2_with fail
          refine (code_any 0 _).mono ?_
          rintro e w6 ⟨rfl, rfl⟩
          go_wp2
          go_roundw
          case rel => exact ⟨j + 1, by omega, by go_num, z1, nf1, A1, c1, T, H3.out.1, rfl, ht5, H3.out.2⟩
          case measure => simp [intOf]; omega
      · obtain rfl : j = acs.length := by omega
        clear hj hlt
        have hf0 := field0 (.int .i64 (z.ls.length : Int)) (.int .i64 (z.safe : Int)) (.bool z.done)
        go_wp2_with fail
        refine wpB_start wr.heap.size (by kernel_rfl) ?_
        have HD : Hid (One w wr.drew w1.heap.size z nf A c) := HO.out.later (Below.refl _ _).drew
        rw [show wr.heap.size = wr.drew.heap.size from rfl]
        clear HO
        generalize wr.drew = w0 at HD ⊢
        have q0 : ∀ w', Below w0.heap.size w0 w' → w'.cell? ⟨w1.heap.size, 0, none⟩ = some (.int .i64 (z.cap : Int)) := fun w' h => (box5 (HD.out.b7.later h)).1.1
        have q1 : ∀ w', Below w0.heap.size w0 w' → w'.cell? ⟨w1.heap.size, 1, none⟩ = some (.int .i64 (z.blk : Int)) := fun w' h => (box5 (HD.out.b7.later h)).1.2.1
        have q2 : ∀ w', Below w0.heap.size w0 w' → w'.cell? ⟨w1.heap.size, 2, none⟩ = some (.slice A nf c) := fun w' h => (box5 (HD.out.b7.later h)).1.2.2.1
        have q3 : ∀ w', Below w0.heap.size w0 w' → w'.cell? ⟨w1.heap.size, 3, none⟩ = some (.int .i64 (z.safe : Int)) := fun w' h => (box5 (HD.out.b7.later h)).1.2.2.2.1
        have q4 : ∀ w', Below w0.heap.size w0 w' → w'.cell? ⟨w1.heap.size, 4, none⟩ = some (.bool z.done) := fun w' h => (box5 (HD.out.b7.later h)).1.2.2.2.2
        refine wpB_take (i := 0) (d := 76) (v := ?v15x0) rfl rfl (by kernel_rfl) (by kernel_rfl) (by kernel_rfl) (fun _ _ _ h => h) (by rfl) ?y15x0 ?r15x0
        case y15x0 => (intro w' hSw; go_simp; try (with_reducible rfl))
        simp only [Act.put, List.setIfInBounds_toArray, List.set_cons_zero, List.set_cons_succ]
        refine wpB_take (i := 1) (d := 77) (v := ?v15x1) rfl rfl (by kernel_rfl) (by kernel_rfl) (by kernel_rfl) (fun _ _ _ h => h) (by rfl) ?y15x1 ?r15x1
        case y15x1 => (intro w' hSw; go_simp; try (with_reducible rfl))
        simp only [Act.put, List.setIfInBounds_toArray, List.set_cons_zero, List.set_cons_succ]
        refine wpB_do (i := 2) (by kernel_rfl) rfl (by rfl) (fun K hK => ?_)
        go_simp
        refine (look_at HD.out.ok HD.out.hnf A c w0 HD.out.l5).mono ?_
        rintro e w3 ⟨rfl, hb3⟩
        have H3 := Lib.hid (HD.out.later hb3)
        refine hK.out _ _ _ hb3.size hb3 ?_
        clear hK K hb3 HD q0 q1 q2 q3 q4
        refine wpB_take (i := 3) (d := 79) (v := ?v15x3) rfl rfl (by kernel_rfl) (by kernel_rfl) (by kernel_rfl) (fun _ _ _ h => h) (by rfl) ?y15x3 ?r15x3
        case y15x3 => (intro w' hSw; go_simp; try (with_reducible rfl))
        simp only [Act.put, List.setIfInBounds_toArray, List.set_cons_zero, List.set_cons_succ]
        refine wpB_do (i := 4) (by kernel_rfl) rfl (by rfl) (fun K hK => ?_)
        go_simp
        refine (read_first H3.out.ok H3.out.hnf A c z.ls.length w3 H3.out.m5 H3.out.l5 (Nat.le_refl _)).mono ?_
        rintro e w4 ⟨D, A4, c4, hD, rfl, hm4, hl4, ht4, hb4⟩
        rw [List.take_length] at hD
        have H4 := Lib.hid (And.intro hD (And.intro hm4 (And.intro hl4 (And.intro ht4 (H3.out.later hb4)))))
        refine hK.out _ _ _ hb4.size hb4 ?_
        clear hK K hb4 H3 hD hm4 hl4 ht4
        refine wpB_take (i := 5) (d := 75) (v := ?v15x5) rfl rfl (by kernel_rfl) (by kernel_rfl) (by kernel_rfl) (fun _ _ _ h => h) (by rfl) ?y15x5 ?r15x5
        case y15x5 => (intro w' hSw; go_simp; try (with_reducible rfl))
        simp only [Act.put, List.setIfInBounds_toArray, List.set_cons_zero, List.set_cons_succ]
        refine wpB_take (i := 6) (d := 81) (v := ?v15x6) rfl rfl (by kernel_rfl) (by kernel_rfl) (by kernel_rfl) (fun _ _ _ h => h) (by rfl) ?y15x6 ?r15x6
        case y15x6 => (intro w' hSw; go_simp; try (with_reducible rfl))
        simp only [Act.put, List.setIfInBounds_toArray, List.set_cons_zero, List.set_cons_succ]
        refine wpB_take (i := 7) (d := 82) (v := ?v15x7) rfl rfl (by kernel_rfl) (by kernel_rfl) (by kernel_rfl) (fun _ _ _ h => h) (by rfl) ?y15x7 ?r15x7
        case y15x7 => (intro w' hSw; go_simp; try (with_reducible rfl))
        simp only [Act.put, List.setIfInBounds_toArray, List.set_cons_zero, List.set_cons_succ]
        refine wpB_take (i := 8) (d := 13) (v := ?v15x8) rfl rfl (by kernel_rfl) (by kernel_rfl) (by kernel_rfl) (fun _ _ _ h => h) (by rfl) ?y15x8 ?r15x8
        case y15x8 => (intro w' hSw; go_simp; try (with_reducible rfl))
        simp only [Act.put, List.setIfInBounds_toArray, List.set_cons_zero, List.set_cons_succ]
        refine wpB_take (i := 9) (d := 14) (v := ?v15x9) rfl rfl (by kernel_rfl) (by kernel_rfl) (by kernel_rfl) (fun _ _ _ h => h) (by rfl) ?y15x9 ?r15x9
        case y15x9 => (intro w' hSw; go_simp; try (with_reducible rfl))
        simp only [Act.put, List.setIfInBounds_toArray, List.set_cons_zero, List.set_cons_succ]
        refine wpB_done (by kernel_rfl) ?_
        clear hf0
        obtain ⟨⟨q0, q1, q2, q3, q4⟩, f0, f1, f2, f3, f4⟩ := box5 H4.out.2.2.2.2.b7
        go_wp2_with fail
        refine (crash_at H4.out.2.2.2.2.ok H4.out.2.2.2.2.hnf A c keep w4 H4.out.2.2.2.2.m5 H4.out.2.2.2.2.l5).mono ?_
        rintro e w5 ⟨z2, nf2, A2, c2, hz2, hn2, rfl, hm2, hl2, hb5⟩
        have hok := H4.out.2.2.2.2.ok
        have hlf := Zn.left_le hok keep
        have hz3 : z.after 4 [] keep = { z with ls := z.ls.take (z.left keep), safe := z.left keep } := by simp [Zn.after]
        have HP1 : Hid (∃ R, z2.ls.flatten ++ R = D) := by
          show ∃ R, z2.ls.flatten ++ R = D
          obtain ⟨R, hR⟩ := take_pre z.ls hlf.1
          rw [List.take_length] at hR
          exact ⟨R, by rw [H4.out.1, ← hR, hz2, hz3]⟩
        have HP2 : Hid (∃ R, S ++ R = z2.ls.flatten) := by
          show ∃ R, S ++ R = z2.ls.flatten
          obtain ⟨R, hR⟩ := take_pre z.ls hlf.2
          exact ⟨R, by rw [HS.out, hz2, hz3]; exact hR⟩
        have HP3 : Hid (z2.safe = z2.ls.length) := by
          show z2.safe = z2.ls.length
          rw [hz2, hz3]
          have := hlf.1
          simp; omega
        have H5 : Hid (One w (w5.alloc (.cells #[.int .i64 (z2.cap : Int), .int .i64 (z2.blk : Int), .slice A2 nf2 c2, .int .i64 (z2.safe : Int), .bool z2.done] 27)) w5.heap.size z2 nf2 A2 c2 ∧ Mem 5 (w5.alloc (.cells #[.int .i64 (z2.cap : Int), .int .i64 (z2.blk : Int), .slice A2 nf2 c2, .int .i64 (z2.safe : Int), .bool z2.done] 27)) A4 (cBs D) ∧ D.length ≤ c4 ∧ D.length ≤ 16777216) :=
          ⟨⟨by rw [hz2]; exact hok.after _ _ _, hn2, Box.fresh _ _ _, hm2.later ((Below.refl _ _).alloc (Nat.le_refl _) _), hl2, (H4.out.2.2.2.2.bel.trans (hb5.mono H4.out.2.2.2.2.bel.size)).alloc (Nat.le_trans H4.out.2.2.2.2.bel.size hb5.size) _⟩, (H4.out.2.1.later hb5).later ((Below.refl _ _).alloc (Nat.le_refl _) _), H4.out.2.2.1, H4.out.2.2.2.1⟩
        clear H4 HS hok hlf hz3 hz2 hn2 hm2 hl2 hb5 q0 q1 q2 q3 q4 f0 f1 f2 f3 f4
        have hf0 := field0 (.int .i64 (z2.ls.length : Int)) (.int .i64 (z2.safe : Int)) (.bool z2.done)
        go_wp2_with fail
        refine wpB_start (w5.alloc (.cells #[.int .i64 (z2.cap : Int), .int .i64 (z2.blk : Int), .slice A2 nf2 c2, .int .i64 (z2.safe : Int), .bool z2.done] 27)).heap.size (by kernel_rfl) ?_
        have HD : Hid (One w (w5.alloc (.cells #[.int .i64 (z2.cap : Int), .int .i64 (z2.blk : Int), .slice A2 nf2 c2, .int .i64 (z2.safe : Int), .bool z2.done] 27)).drew w5.heap.size z2 nf2 A2 c2 ∧ Mem 5 (w5.alloc (.cells #[.int .i64 (z2.cap : Int), .int .i64 (z2.blk : Int), .slice A2 nf2 c2, .int .i64 (z2.safe : Int), .bool z2.done] 27)).drew A4 (cBs D) ∧ D.length ≤ c4 ∧ D.length ≤ 16777216) := ⟨H5.out.1.later (Below.refl _ _).drew, H5.out.2.1.later (Below.refl _ _).drew, H5.out.2.2⟩
        rw [show (w5.alloc (.cells #[.int .i64 (z2.cap : Int), .int .i64 (z2.blk : Int), .slice A2 nf2 c2, .int .i64 (z2.safe : Int), .bool z2.done] 27)).heap.size = (w5.alloc (.cells #[.int .i64 (z2.cap : Int), .int .i64 (z2.blk : Int), .slice A2 nf2 c2, .int .i64 (z2.safe : Int), .bool z2.done] 27)).drew.heap.size from rfl]
        clear H5
        generalize (w5.alloc (.cells #[.int .i64 (z2.cap : Int), .int .i64 (z2.blk : Int), .slice A2 nf2 c2, .int .i64 (z2.safe : Int), .bool z2.done] 27)).drew = w0 at HD ⊢
        generalize w5.heap.size = gy at HD ⊢
        have q0 : ∀ w', Below w0.heap.size w0 w' → w'.cell? ⟨gy, 0, none⟩ = some (.int .i64 (z2.cap : Int)) := fun w' h => (box5 (HD.out.1.b7.later h)).1.1
        have q1 : ∀ w', Below w0.heap.size w0 w' → w'.cell? ⟨gy, 1, none⟩ = some (.int .i64 (z2.blk : Int)) := fun w' h => (box5 (HD.out.1.b7.later h)).1.2.1
        have q2 : ∀ w', Below w0.heap.size w0 w' → w'.cell? ⟨gy, 2, none⟩ = some (.slice A2 nf2 c2) := fun w' h => (box5 (HD.out.1.b7.later h)).1.2.2.1
        have q3 : ∀ w', Below w0.heap.size w0 w' → w'.cell? ⟨gy, 3, none⟩ = some (.int .i64 (z2.safe : Int)) := fun w' h => (box5 (HD.out.1.b7.later h)).1.2.2.2.1
        have q4 : ∀ w', Below w0.heap.size w0 w' → w'.cell? ⟨gy, 4, none⟩ = some (.bool z2.done) := fun w' h => (box5 (HD.out.1.b7.later h)).1.2.2.2.2
        refine wpB_take (i := 0) (d := 87) (v := ?v17x0) rfl rfl (by kernel_rfl) (by kernel_rfl) (by kernel_rfl) (fun _ _ _ h => h) (by rfl) ?y17x0 ?r17x0
        case y17x0 => (intro w' hSw; go_simp; try (with_reducible rfl))
        simp only [Act.put, List.setIfInBounds_toArray, List.set_cons_zero, List.set_cons_succ]
        refine wpB_take (i := 1) (d := 88) (v := ?v17x1) rfl rfl (by kernel_rfl) (by kernel_rfl) (by kernel_rfl) (fun _ _ _ h => h) (by rfl) ?y17x1 ?r17x1
        case y17x1 => (intro w' hSw; go_simp; try (with_reducible rfl))
        simp only [Act.put, List.setIfInBounds_toArray, List.set_cons_zero, List.set_cons_succ]
        refine wpB_do (i := 2) (by kernel_rfl) rfl (by rfl) (fun K hK => ?_)
        go_simp
        refine (look_at HD.out.1.ok HD.out.1.hnf A2 c2 w0 HD.out.1.l5).mono ?_
        rintro e w6 ⟨rfl, hb6⟩
        have H6 := Lib.hid (And.intro (HD.out.1.later hb6) (And.intro (HD.out.2.1.later hb6) HD.out.2.2))
        refine hK.out _ _ _ hb6.size hb6 ?_
        clear hK K hb6 HD q0 q1 q2 q3 q4
        refine wpB_take (i := 3) (d := 90) (v := ?v17x3) rfl rfl (by kernel_rfl) (by kernel_rfl) (by kernel_rfl) (fun _ _ _ h => h) (by rfl) ?y17x3 ?r17x3
        case y17x3 => (intro w' hSw; go_simp; try (with_reducible rfl))
        simp only [Act.put, List.setIfInBounds_toArray, List.set_cons_zero, List.set_cons_succ]
        refine wpB_do (i := 4) (by kernel_rfl) rfl (by rfl) (fun K hK => ?_)
        go_simp
        refine (read_first H6.out.1.ok H6.out.1.hnf A2 c2 z2.ls.length w6 H6.out.1.m5 H6.out.1.l5 (Nat.le_refl _)).mono ?_
        rintro e w7 ⟨N, A7, c7, hN7, rfl, hm7, hl7, ht7, hb7⟩
        rw [List.take_length] at hN7
        have H7 := Lib.hid (And.intro hN7 (And.intro hm7 (And.intro ht7 (And.intro (H6.out.1.later hb7) (And.intro (H6.out.2.1.later hb7) H6.out.2.2)))))
        refine hK.out _ _ _ hb7.size hb7 ?_
        clear hK K hb7 H6 hN7 hm7 hl7 ht7
        refine wpB_take (i := 5) (d := 86) (v := ?v17x5) rfl rfl (by kernel_rfl) (by kernel_rfl) (by kernel_rfl) (fun _ _ _ h => h) (by rfl) ?y17x5 ?r17x5
        case y17x5 => (intro w' hSw; go_simp; try (with_reducible rfl))
        simp only [Act.put, List.setIfInBounds_toArray, List.set_cons_zero, List.set_cons_succ]
        refine wpB_take (i := 6) (d := 92) (v := ?v17x6) rfl rfl (by kernel_rfl) (by kernel_rfl) (by kernel_rfl) (fun _ _ _ h => h) (by rfl) ?y17x6 ?r17x6
        case y17x6 => (intro w' hSw; go_simp; try (with_reducible rfl))
        simp only [Act.put, List.setIfInBounds_toArray, List.set_cons_zero, List.set_cons_succ]
        refine wpB_take (i := 7) (d := 93) (v := ?v17x7) rfl rfl (by kernel_rfl) (by kernel_rfl) (by kernel_rfl) (fun _ _ _ h => h) (by rfl) ?y17x7 ?r17x7
        case y17x7 => (intro w' hSw; go_simp; try (with_reducible rfl))
        simp only [Act.put, List.setIfInBounds_toArray, List.set_cons_zero, List.set_cons_succ]
        refine wpB_take (i := 8) (d := 16) (v := ?v17x8) rfl rfl (by kernel_rfl) (by kernel_rfl) (by kernel_rfl) (fun _ _ _ h => h) (by rfl) ?y17x8 ?r17x8
        case y17x8 => (intro w' hSw; go_simp; try (with_reducible rfl))
        simp only [Act.put, List.setIfInBounds_toArray, List.set_cons_zero, List.set_cons_succ]
        refine wpB_take (i := 9) (d := 17) (v := ?v17x9) rfl rfl (by kernel_rfl) (by kernel_rfl) (by kernel_rfl) (fun _ _ _ h => h) (by rfl) ?y17x9 ?r17x9
        case y17x9 => (intro w' hSw; go_simp; try (with_reducible rfl))
        simp only [Act.put, List.setIfInBounds_toArray, List.set_cons_zero, List.set_cons_succ]
        refine wpB_done (by kernel_rfl) ?_
        obtain ⟨R1, hR1⟩ := HP1.out
        obtain ⟨R2, hR2⟩ := HP2.out
        rw [← H7.out.1] at hR1 hR2
        have hND : N.length ≤ D.length := by rw [← hR1]; simp
        have hSN : S.length ≤ N.length := by rw [← hR2]; simp
        have HR1 := Lib.hid hR1
        have ht7 := H7.out.2.2.1
        have hl4 := H7.out.2.2.2.2.2.1
        have ht4 := H7.out.2.2.2.2.2.2
        clear hR1 hR2 HP1 HP2
        go_wp2_with fail
        refine wpB_start w7.heap.size (by kernel_rfl) ?_
        have HD : Hid (One w w7.drew gy z2 nf2 A2 c2 ∧ Mem 5 w7.drew A4 (cBs D) ∧ Mem 5 w7.drew A7 (cBs N)) := ⟨H7.out.2.2.2.1.later (Below.refl _ _).drew, H7.out.2.2.2.2.1.later (Below.refl _ _).drew, H7.out.2.1.later (Below.refl _ _).drew⟩
        rw [show w7.heap.size = w7.drew.heap.size from rfl]
        clear H7
        generalize w7.drew = w8 at HD ⊢
        have hcv : ∀ w', Below w8.heap.size w8 w' → (convert 25 9 (.slice A7 N.length c7)).run Try.prog w' = .ok (.string ⟨N.toArray⟩) w' := fun w' h => conv_any A7 c7 N w' (HD.out.2.2.later h)
        have hcp : ∀ w', Below w8.heap.size w8 w' → (convert 25 9 (.slice A4 N.length c4)).run Try.prog w' = .ok (.string ⟨N.toArray⟩) w' := fun w' h => conv_pre A4 c4 D N R1 w' HR1.out (HD.out.2.1.later h)
        have hf1 := field1 (.int .i64 (z2.ls.length : Int)) (.int .i64 (z2.safe : Int)) (.bool z2.done)
        have i1 : (N.length : Int) ≤ (D.length : Int) := by omega
        have i2 : (S.length : Int) ≤ (N.length : Int) := by omega
        have i3 : N.length ≤ c4 := by omega
        have q0 : ∀ w', Below w8.heap.size w8 w' → w'.cell? ⟨gy, 0, none⟩ = some (.int .i64 (z2.cap : Int)) := fun w' h => (box5 (HD.out.1.b7.later h)).1.1
        have q1 : ∀ w', Below w8.heap.size w8 w' → w'.cell? ⟨gy, 1, none⟩ = some (.int .i64 (z2.blk : Int)) := fun w' h => (box5 (HD.out.1.b7.later h)).1.2.1
        have q2 : ∀ w', Below w8.heap.size w8 w' → w'.cell? ⟨gy, 2, none⟩ = some (.slice A2 nf2 c2) := fun w' h => (box5 (HD.out.1.b7.later h)).1.2.2.1
        have q3 : ∀ w', Below w8.heap.size w8 w' → w'.cell? ⟨gy, 3, none⟩ = some (.int .i64 (z2.safe : Int)) := fun w' h => (box5 (HD.out.1.b7.later h)).1.2.2.2.1
        have q4 : ∀ w', Below w8.heap.size w8 w' → w'.cell? ⟨gy, 4, none⟩ = some (.bool z2.done) := fun w' h => (box5 (HD.out.1.b7.later h)).1.2.2.2.2
        refine wpB_take (i := 0) (d := 94) (v := ?v18x0) rfl rfl (by kernel_rfl) (by kernel_rfl) (by kernel_rfl) (fun _ _ _ h => h) (by rfl) ?y18x0 ?r18x0
        case y18x0 => (intro w' hSw; go_simp; try (with_reducible rfl))
        simp only [Act.put, List.setIfInBounds_toArray, List.set_cons_zero, List.set_cons_succ]
        refine wpB_take (i := 2) (d := 96) (v := ?v18x2) rfl rfl (by kernel_rfl) (by kernel_rfl) (by kernel_rfl) (fun _ _ _ h => h) (by rfl) ?y18x2 ?r18x2
        case y18x2 => (intro w' hSw; go_simp; try (with_reducible rfl))
        simp only [Act.put, List.setIfInBounds_toArray, List.set_cons_zero, List.set_cons_succ]
        refine wpB_do (i := 1) (by kernel_rfl) rfl (by rfl) (fun K hK => ?_)
        go_simp
        refine (code_any 0 w8).mono ?_
        rintro e w9 ⟨rfl, rfl⟩
        refine hK.out _ _ _ (Nat.le_refl _) (Below.refl _ _) ?_
        clear hK K
        refine wpB_do (i := 3) (by kernel_rfl) rfl (by rfl) (fun K hK => ?_)
        go_simp
        refine (code_any 0 w8).mono ?_
        rintro e w9 ⟨rfl, rfl⟩
        refine hK.out _ _ _ (Nat.le_refl _) (Below.refl _ _) ?_
        clear hK K
        refine wpB_take (i := 4) (d := 98) (v := ?v18x4) rfl rfl (by kernel_rfl) (by kernel_rfl) (by kernel_rfl) (fun _ _ _ h => h) (by rfl) ?y18x4 ?r18x4
        case y18x4 => (intro w' hSw; go_simp; try (with_reducible rfl))
        simp only [Act.put, List.setIfInBounds_toArray, List.set_cons_zero, List.set_cons_succ]
        refine wpB_take (i := 5) (d := 99) (v := ?v18x5) rfl rfl (by kernel_rfl) (by kernel_rfl) (by kernel_rfl) (fun _ _ _ h => h) (by rfl) ?y18x5 ?r18x5
        case y18x5 => (intro w' hSw; go_simp; try (with_reducible rfl))
        simp only [Act.put, List.setIfInBounds_toArray, List.set_cons_zero, List.set_cons_succ]
        refine wpB_take (i := 6) (d := 100) (v := ?v18x6) rfl rfl (by kernel_rfl) (by kernel_rfl) (by kernel_rfl) (fun _ _ _ h => h) (by rfl) ?y18x6 ?r18x6
        case y18x6 => (intro w' hSw; go_simp; try (with_reducible rfl))
        simp only [Act.put, List.setIfInBounds_toArray, List.set_cons_zero, List.set_cons_succ]
        refine wpB_take (i := 7) (d := 101) (v := ?v18x7) rfl rfl (by kernel_rfl) (by kernel_rfl) (by kernel_rfl) (fun _ _ _ h => h) (by rfl) ?y18x7 ?r18x7
        case y18x7 => (intro w' hSw; go_simp; try (with_reducible rfl))
        simp only [Act.put, List.setIfInBounds_toArray, List.set_cons_zero, List.set_cons_succ]
        refine wpB_take (i := 8) (d := 102) (v := ?v18x8) rfl rfl (by kernel_rfl) (by kernel_rfl) (by kernel_rfl) (fun _ _ _ h => h) (by rfl) ?y18x8 ?r18x8
        case y18x8 => (intro w' hSw; go_simp; try (with_reducible rfl))
        simp only [Act.put, List.setIfInBounds_toArray, List.set_cons_zero, List.set_cons_succ]
        refine wpB_take (i := 9) (d := 103) (v := ?v18x9) rfl rfl (by kernel_rfl) (by kernel_rfl) (by kernel_rfl) (fun _ _ _ h => h) (by rfl) ?y18x9 ?r18x9
        case y18x9 => (intro w' hSw; go_simp; try (with_reducible rfl))
        simp only [Act.put, List.setIfInBounds_toArray, List.set_cons_zero, List.set_cons_succ]
        refine wpB_take (i := 10) (d := 104) (v := ?v18x10) rfl rfl (by kernel_rfl) (by kernel_rfl) (by kernel_rfl) (fun _ _ _ h => h) (by rfl) ?y18x10 ?r18x10
        case y18x10 => (intro w' hSw; go_simp; try (with_reducible rfl))
        simp only [Act.put, List.setIfInBounds_toArray, List.set_cons_zero, List.set_cons_succ]
        refine wpB_take (i := 11) (d := 105) (v := ?v18x11) rfl rfl (by kernel_rfl) (by kernel_rfl) (by kernel_rfl) (fun _ _ _ h => h) (by rfl) ?y18x11 ?r18x11
        case y18x11 => (intro w' hSw; go_simp; try (with_reducible rfl))
        simp only [Act.put, List.setIfInBounds_toArray, List.set_cons_zero, List.set_cons_succ]
        refine wpB_take (i := 12) (d := 106) (v := ?v18x12) rfl rfl (by kernel_rfl) (by kernel_rfl) (by kernel_rfl) (fun _ _ _ h => h) (by rfl) ?y18x12 ?r18x12
        case y18x12 => (intro w' hSw; go_simp; try (with_reducible rfl))
        simp only [Act.put, List.setIfInBounds_toArray, List.set_cons_zero, List.set_cons_succ]
        refine wpB_take (i := 13) (d := 107) (v := ?v18x13) rfl rfl (by kernel_rfl) (by kernel_rfl) (by kernel_rfl) (fun _ _ _ h => h) (by rfl) ?y18x13 ?r18x13
        case y18x13 => (intro w' hSw; go_simp; try (with_reducible rfl))
        simp only [Act.put, List.setIfInBounds_toArray, List.set_cons_zero, List.set_cons_succ]
        refine wpB_take (i := 14) (d := 108) (v := ?v18x14) rfl rfl (by kernel_rfl) (by kernel_rfl) (by kernel_rfl) (fun _ _ _ h => h) (by rfl) ?y18x14 ?r18x14
        case y18x14 => (intro w' hSw; go_simp; try (with_reducible rfl))
        simp only [Act.put, List.setIfInBounds_toArray, List.set_cons_zero, List.set_cons_succ]
        refine wpB_take (i := 15) (d := 109) (v := ?v18x15) rfl rfl (by kernel_rfl) (by kernel_rfl) (by kernel_rfl) (fun _ _ _ h => h) (by rfl) ?y18x15 ?r18x15
        case y18x15 => (intro w' hSw; go_simp; try (with_reducible rfl))
        simp only [Act.put, List.setIfInBounds_toArray, List.set_cons_zero, List.set_cons_succ]
        refine wpB_take (i := 16) (d := 110) (v := ?v18x16) rfl rfl (by kernel_rfl) (by kernel_rfl) (by kernel_rfl) (fun _ _ _ h => h) (by rfl) ?y18x16 ?r18x16
        case y18x16 => (intro w' hSw; go_simp; try (with_reducible rfl))
        simp only [Act.put, List.setIfInBounds_toArray, List.set_cons_zero, List.set_cons_succ]
        refine wpB_take (i := 17) (d := 111) (v := ?v18x17) rfl rfl (by kernel_rfl) (by kernel_rfl) (by kernel_rfl) (fun _ _ _ h => h) (by rfl) ?y18x17 ?r18x17
        case y18x17 => (intro w' hSw; go_simp; try (with_reducible rfl))
        simp only [Act.put, List.setIfInBounds_toArray, List.set_cons_zero, List.set_cons_succ]
        refine wpB_take (i := 18) (d := 112) (v := ?v18x18) rfl rfl (by kernel_rfl) (by kernel_rfl) (by kernel_rfl) (fun _ _ _ h => h) (by rfl) ?y18x18 ?r18x18
        case y18x18 => (intro w' hSw; go_simp; try (with_reducible rfl))
        simp only [Act.put, List.setIfInBounds_toArray, List.set_cons_zero, List.set_cons_succ]
        refine wpB_take (i := 19) (d := 113) (v := ?v18x19) rfl rfl (by kernel_rfl) (by kernel_rfl) (by kernel_rfl) (fun _ _ _ h => h) (by rfl) ?y18x19 ?r18x19
        case y18x19 => (intro w' hSw; go_simp; try (with_reducible rfl))
        simp only [Act.put, List.setIfInBounds_toArray, List.set_cons_zero, List.set_cons_succ]
        refine wpB_take (i := 20) (d := 114) (v := ?v18x20) rfl rfl (by kernel_rfl) (by kernel_rfl) (by kernel_rfl) (fun _ _ _ h => h) (by rfl) ?y18x20 ?r18x20
        case y18x20 => (intro w' hSw; go_simp; try (with_reducible rfl))
        simp only [Act.put, List.setIfInBounds_toArray, List.set_cons_zero, List.set_cons_succ]
        refine wpB_take (i := 21) (d := 115) (v := ?v18x21) rfl rfl (by kernel_rfl) (by kernel_rfl) (by kernel_rfl) (fun _ _ _ h => h) (by rfl) ?y18x21 ?r18x21
        case y18x21 => (intro w' hSw; go_simp; try (with_reducible rfl))
        simp only [Act.put, List.setIfInBounds_toArray, List.set_cons_zero, List.set_cons_succ]
        refine wpB_take (i := 22) (d := 116) (v := ?v18x22) rfl rfl (by kernel_rfl) (by kernel_rfl) (by kernel_rfl) (fun _ _ _ h => h) (by rfl) ?y18x22 ?r18x22
        case y18x22 => (intro w' hSw; go_simp; try (with_reducible rfl))
        simp only [Act.put, List.setIfInBounds_toArray, List.set_cons_zero, List.set_cons_succ]
        refine wpB_take (i := 23) (d := 117) (v := ?v18x23) rfl rfl (by kernel_rfl) (by kernel_rfl) (by kernel_rfl) (fun _ _ _ h => h) (by rfl) ?y18x23 ?r18x23
        case y18x23 => (intro w' hSw; go_simp; try (with_reducible rfl))
        simp only [Act.put, List.setIfInBounds_toArray, List.set_cons_zero, List.set_cons_succ]
        refine wpB_take (i := 24) (d := 118) (v := ?v18x24) rfl rfl (by kernel_rfl) (by kernel_rfl) (by kernel_rfl) (fun _ _ _ h => h) (by rfl) ?y18x24 ?r18x24
        case y18x24 => (intro w' hSw; go_simp; try (with_reducible rfl))
        simp only [Act.put, List.setIfInBounds_toArray, List.set_cons_zero, List.set_cons_succ]
        refine wpB_take (i := 25) (d := 119) (v := ?v18x25) rfl rfl (by kernel_rfl) (by kernel_rfl) (by kernel_rfl) (fun _ _ _ h => h) (by rfl) ?y18x25 ?r18x25
        case y18x25 => (intro w' hSw; go_simp; try (with_reducible rfl))
        simp only [Act.put, List.setIfInBounds_toArray, List.set_cons_zero, List.set_cons_succ]
        refine wpB_take (i := 26) (d := 120) (v := ?v18x26) rfl rfl (by kernel_rfl) (by kernel_rfl) (by kernel_rfl) (fun _ _ _ h => h) (by rfl) ?y18x26 ?r18x26
        case y18x26 => (intro w' hSw; go_simp; try (with_reducible rfl))
        simp only [Act.put, List.setIfInBounds_toArray, List.set_cons_zero, List.set_cons_succ]
        refine wpB_take (i := 27) (d := 121) (v := ?v18x27) rfl rfl (by kernel_rfl) (by kernel_rfl) (by kernel_rfl) (fun _ _ _ h => h) (by rfl) ?y18x27 ?r18x27
        case y18x27 => (intro w' hSw; go_simp; try (with_reducible rfl))
        simp only [Act.put, List.setIfInBounds_toArray, List.set_cons_zero, List.set_cons_succ]
        refine wpB_take (i := 28) (d := 122) (v := ?v18x28) rfl rfl (by kernel_rfl) (by kernel_rfl) (by kernel_rfl) (fun _ _ _ h => h) (by rfl) ?y18x28 ?r18x28
        case y18x28 => (intro w' hSw; go_simp; try (with_reducible rfl))
        simp only [Act.put, List.setIfInBounds_toArray, List.set_cons_zero, List.set_cons_succ]
        refine wpB_take (i := 29) (d := 123) (v := ?v18x29) rfl rfl (by kernel_rfl) (by kernel_rfl) (by kernel_rfl) (fun _ _ _ h => h) (by rfl) ?y18x29 ?r18x29
        case y18x29 => (intro w' hSw; go_simp; try (with_reducible rfl))
        simp only [Act.put, List.setIfInBounds_toArray, List.set_cons_zero, List.set_cons_succ]
        refine wpB_take (i := 30) (d := 124) (v := ?v18x30) rfl rfl (by kernel_rfl) (by kernel_rfl) (by kernel_rfl) (fun _ _ _ h => h) (by rfl) ?y18x30 ?r18x30
        case y18x30 => (intro w' hSw; go_simp; try (with_reducible rfl))
        simp only [Act.put, List.setIfInBounds_toArray, List.set_cons_zero, List.set_cons_succ]
        refine wpB_take (i := 31) (d := 125) (v := ?v18x31) rfl rfl (by kernel_rfl) (by kernel_rfl) (by kernel_rfl) (fun _ _ _ h => h) (by rfl) ?y18x31 ?r18x31
        case y18x31 => (intro w' hSw; go_simp; try (with_reducible rfl))
        simp only [Act.put, List.setIfInBounds_toArray, List.set_cons_zero, List.set_cons_succ]
        refine wpB_take (i := 34) (d := 128) (v := ?v18x34) rfl rfl (by kernel_rfl) (by kernel_rfl) (by kernel_rfl) (fun _ _ _ h => h) (by rfl) ?y18x34 ?r18x34
        case y18x34 => (intro w' hSw; go_simp; try (with_reducible rfl))
        simp only [Act.put, List.setIfInBounds_toArray, List.set_cons_zero, List.set_cons_succ]
        refine wpB_do (i := 32) (by kernel_rfl) rfl (by rfl) (fun K hK => ?_)
        go_simp
        refine (look_at HD.out.1.ok HD.out.1.hnf A2 c2 w8 HD.out.1.l5).mono ?_
        rintro e w9 ⟨rfl, hb9⟩
        have H9 := Lib.hid (HD.out.1.later hb9)
        refine hK.out _ _ _ hb9.size hb9 ?_
        clear hK K hb9 HD q0 q1 q2 q3 q4 hcv hcp
        refine wpB_take (i := 33) (d := 127) (v := ?v18x33) rfl rfl (by kernel_rfl) (by kernel_rfl) (by kernel_rfl) (fun _ _ _ h => h) (by rfl) ?y18x33 ?r18x33
        case y18x33 => (intro w' hSw; go_simp; try (with_reducible rfl))
        simp only [Act.put, List.setIfInBounds_toArray, List.set_cons_zero, List.set_cons_succ]
        refine wpB_do (i := 35) (by kernel_rfl) rfl (by rfl) (fun K hK => ?_)
        go_simp
        refine (look_at H9.out.ok H9.out.hnf A2 c2 w9 H9.out.l5).mono ?_
        rintro e w10 ⟨rfl, hb10⟩
        have H10 := Lib.hid (H9.out.later hb10)
        refine hK.out _ _ _ hb10.size hb10 ?_
        clear hK K hb10 H9
        refine wpB_take (i := 36) (d := 130) (v := ?v18x36) rfl rfl (by kernel_rfl) (by kernel_rfl) (by kernel_rfl) (fun _ _ _ h => h) (by rfl) ?y18x36 ?r18x36
        case y18x36 => (intro w' hSw; go_simp; try (with_reducible rfl))
        simp only [Act.put, List.setIfInBounds_toArray, List.set_cons_zero, List.set_cons_succ]
        have hs2 := HP3.out
        refine wpB_take (i := 37) (d := 131) (v := ?v18x37) rfl rfl (by kernel_rfl) (by kernel_rfl) (by kernel_rfl) (fun _ _ _ h => h) (by rfl) ?y18x37 ?r18x37
        case y18x37 => (intro w' hSw; go_simp; try (with_reducible rfl))
        simp only [Act.put, List.setIfInBounds_toArray, List.set_cons_zero, List.set_cons_succ]
        clear hs2
        refine wpB_take (i := 38) (d := 132) (v := ?v18x38) rfl rfl (by kernel_rfl) (by kernel_rfl) (by kernel_rfl) (fun _ _ _ h => h) (by rfl) ?y18x38 ?r18x38
        case y18x38 => (intro w' hSw; go_simp; try (with_reducible rfl))
        simp only [Act.put, List.setIfInBounds_toArray, List.set_cons_zero, List.set_cons_succ]
        refine wpB_take (i := 39) (d := 133) (v := ?v18x39) rfl rfl (by kernel_rfl) (by kernel_rfl) (by kernel_rfl) (fun _ _ _ h => h) (by rfl) ?y18x39 ?r18x39
        case y18x39 => (intro w' hSw; go_simp; try (with_reducible rfl))
        simp only [Act.put, List.setIfInBounds_toArray, List.set_cons_zero, List.set_cons_succ]
        refine wpB_do (i := 40) (by kernel_rfl) rfl (by rfl) (fun K hK => ?_)
        go_simp
        refine (live_any w10).mono ?_
        rintro e w11 ⟨rfl, hb11⟩
        have H11 := Lib.hid (H10.out.bel.trans (hb11.mono H10.out.bel.size))
        refine hK.out _ _ _ hb11.size hb11 ?_
        clear hK K hb11 H10
        refine wpB_take (i := 41) (d := 135) (v := ?v18x41) rfl rfl (by kernel_rfl) (by kernel_rfl) (by kernel_rfl) (fun _ _ _ h => h) (by rfl) ?y18x41 ?r18x41
        case y18x41 => (intro w' hSw; go_simp; try (with_reducible rfl))
        simp only [Act.put, List.setIfInBounds_toArray, List.set_cons_zero, List.set_cons_succ]
        refine wpB_take (i := 42) (d := 6) (v := ?v18x42) rfl rfl (by kernel_rfl) (by kernel_rfl) (by kernel_rfl) (fun _ _ _ h => h) (by rfl) ?y18x42 ?r18x42
        case y18x42 => (intro w' hSw; go_simp; try (with_reducible rfl))
        simp only [Act.put, List.setIfInBounds_toArray, List.set_cons_zero, List.set_cons_succ]
        refine wpB_done (by kernel_rfl) ?_
        go_wp2
        go_ret
        exact ⟨rfl, H11.out⟩
  · go_wp2_with fail
    refine (live_any _).mono ?_
    rintro e w1 ⟨rfl, hb1⟩
    have HE := Lib.hid hb1
    clear hb1
    go_wp2
    go_ret
    exact ⟨rfl, HE.out⟩
end Go.Proofs.Ytajkcodcoehbgaa.zoneSafe
