/- Contracts of zone.Append, Read. -/
import Derived.Test.YtbaolfncolfipaaG
namespace Go.Proofs.Ytbaolfncolfipaa
set_option linter.unusedVariables false
set_option linter.unusedSimpArgs false
open Go.RowKit
open Go.RowKit (wrap64)

set_option maxHeartbeats 1000000 in
theorem append_err {cap blk k safe c : Nat} (A B : Option Addr) (cb : Nat) (D b : List UInt8) (done : Bool) (w : World) (z : Zok cap blk k safe D.length c) (hm : b.length ≤ maxLen) (hE : appE cap blk k b.length done ≠ 0) :
    Calls Try.prog 49 #[.agg #[.int .i64 (cap : Int), .int .i64 (blk : Int), .slice A D.length c, .int .i64 (safe : Int), .bool done], .slice B b.length cb] w fun e w' => e = .returned (.tuple #[.agg #[.int .i64 0, .int .i64 0, .slice none 0 0, .int .i64 0, .bool false], .int .i64 (appE cap blk k b.length done : Nat)]) ∧ Below w.heap.size w w' := by
  have HZ := Lib.hid z
  have HM := Lib.hid hm
  generalize hG : appE cap blk k b.length done = E at hE ⊢
  have HG := Lib.hid hG
  have hne : ((E : Int) != 0) = true := by simp; exact hE
  clear z hm hE hG
  go_enter Try.func49, Try.ntmps49
  go_wp2_with fail
  refine (sound_any A done _ HZ.out).mono ?_
  rintro e w1 ⟨rfl, hb1⟩
  obtain ⟨b1, b2, hbw⟩ := two_boxes hb1 (by simp)
  obtain ⟨⟨q0, q1, q2, q3, q4⟩, f0, f1, f2, f3, f4⟩ := box5 b1
  obtain ⟨s0, s1, s2, s3, s4⟩ := self5 b1
  have HB1 := Lib.hid b1
  have HB2 := Lib.hid b2
  have HB := Lib.hid hbw
  clear hb1 hbw b1 b2
  go_wp2_with fail
  refine (may_any cap blk k D.length (safe : Int) A B c b.length cb done w1 HZ.out.c2 HZ.out.h1 HZ.out.h2 HZ.out.hk HZ.out.hc HZ.out.hn HM.out).mono ?_
  rintro e w2 ⟨rfl, hb2⟩
  have C1 := HB1.out.later hb2
  have C2 := HB2.out.later hb2
  have CB := Lib.hid (HB.out.trans (hb2.mono HB.out.size))
  clear q0 q1 q2 q3 q4 f0 f1 f2 f3 f4 s0 s1 s2 s3 s4 HB1 HB2 HB hb2
  rw [HG.out]
  obtain ⟨⟨q0, q1, q2, q3, q4⟩, f0, f1, f2, f3, f4⟩ := box5 C1
  obtain ⟨⟨p0, p1, p2, p3, p4⟩, g0, g1, g2, g3, g4⟩ := box5 C2
  have HC2 := Lib.hid C2
  have hsz := C2.lt
  clear C1 C2
  go_wp2
  refine bodyPost_ret (v := .tuple #[.agg #[.int .i64 0, .int .i64 0, .slice none 0 0, .int .i64 0, .bool false], .int .i64 (E : Int)]) (by simp [results, Try.results49, go_sem, *]) rfl ⟨rfl, CB.out.trans (by repeat (first | with_reducible exact Below.refl _ _ | with_reducible refine Below.drew ?_ | with_reducible refine Below.alloc ?_ (by first | (simp; done) | (simp; omega)) _ | with_reducible refine Below.setCell ?_ (by first | (simp; done) | (simp; omega)) _))⟩

/-- Bytes that may be appended are few. -/
theorem app_fits {cap blk k n m : Nat} {done : Bool} (h1 : 1 ≤ blk) (hk : n = k * blk) (hE : appE cap blk k m done = 0) : n + m ≤ cap * blk ∧ done = false ∧ n + m = (k + m / blk) * blk ∧ k + m / blk ≤ cap ∧ m % blk = 0 ∧ 0 < m := by
  unfold appE at hE
  by_cases h : m = 0 ∨ m % blk ≠ 0
  · rw [if_pos h] at hE; cases hE
  · rw [if_neg h] at hE
    by_cases h2 : done = true ∨ cap < k + m / blk
    · rw [if_pos h2] at hE; cases hE
    · simp only [not_or, Decidable.not_not] at h h2
      have h3 : m = m / blk * blk := by have := Nat.div_add_mod m blk; rw [h.2, Nat.mul_comm] at this; omega
      have h4 : n + m = (k + m / blk) * blk := by rw [Nat.add_mul, ← hk, ← h3]
      exact ⟨by rw [h4]; exact Nat.mul_le_mul_right _ (by omega), by simpa using h2.1, h4, by omega, h.2, by omega⟩
theorem mul_fits {cap blk : Nat} (h1 : cap ≤ 4096) (h2 : blk ≤ 4096) : cap * blk ≤ 16777216 := Nat.le_trans (Nat.mul_le_mul h1 h2) (by decide)

set_option maxHeartbeats 1000000 in
theorem append_ok {cap blk k safe c : Nat} (A B : Option Addr) (cb : Nat) (D b : List UInt8) (done : Bool) (w : World) (z : Zok cap blk k safe D.length c) (hm : b.length ≤ maxLen) (hr : Mem 5 w A (cBs D)) (hb : Rd w w.heap.size B b) (hE : appE cap blk k b.length done = 0) :
    Calls Try.prog 49 #[.agg #[.int .i64 (cap : Int), .int .i64 (blk : Int), .slice A D.length c, .int .i64 (safe : Int), .bool done], .slice B b.length cb] w fun e w' => ∃ A' c', e = .returned (.tuple #[.agg #[.int .i64 (cap : Int), .int .i64 (blk : Int), .slice A' (D ++ b).length c', .int .i64 (safe : Int), .bool done], .int .i64 0]) ∧ Mem 5 w' A' (cBs (D ++ b)) ∧ (D ++ b).length ≤ c' ∧ Below w.heap.size w w' := by
  have HZ := Lib.hid z
  have HM := Lib.hid hm
  have HR := Lib.hid hr
  have HRB := Lib.hid hb
  have HS : Hid (sumLen [D, b] ≤ 100000000) := by
    show sumLen [D, b] ≤ 100000000
    have h1 := (app_fits z.h1 z.hk hE).1
    have h2 := mul_fits z.c2 z.h2
    simp [sumLen]; omega
  have HE := Lib.hid hE
  generalize hL : D ++ b = L
  have HL := Lib.hid hL
  clear z hm hr hb hE hL
  go_enter Try.func49, Try.ntmps49
  go_wp2_with fail
  refine (sound_any A done _ HZ.out).mono ?_
  rintro e w1 ⟨rfl, hb1⟩
  obtain ⟨b1, b2, hbw⟩ := two_boxes hb1 (by simp)
  obtain ⟨⟨q0, q1, q2, q3, q4⟩, f0, f1, f2, f3, f4⟩ := box5 b1
  obtain ⟨s0, s1, s2, s3, s4⟩ := self5 b1
  have HB1 := Lib.hid b1
  have HB2 := Lib.hid b2
  have HB := Lib.hid hbw
  clear hb1 hbw b1 b2
  go_wp2_with fail
  refine (may_any cap blk k D.length (safe : Int) A B c b.length cb done w1 HZ.out.c2 HZ.out.h1 HZ.out.h2 HZ.out.hk HZ.out.hc HZ.out.hn HM.out).mono ?_
  rintro e w2 ⟨rfl, hb2⟩
  have C1 := HB1.out.later hb2
  have C2 := HB2.out.later hb2
  have CB := Lib.hid (HB.out.trans (hb2.mono HB.out.size))
  clear q0 q1 q2 q3 q4 f0 f1 f2 f3 f4 s0 s1 s2 s3 s4 HB1 HB2 HB hb2
  rw [HE.out]
  obtain ⟨⟨q0, q1, q2, q3, q4⟩, f0, f1, f2, f3, f4⟩ := box5 C1
  obtain ⟨⟨p0, p1, p2, p3, p4⟩, g0, g1, g2, g3, g4⟩ := box5 C2
  have HC1 := Lib.hid C1
  have HC2 := Lib.hid C2
  have hsz := C2.lt
  clear C1 C2
  go_wp2_with fail
  refine (concat_any _ _ [D, b] _ (Pts.two (by simp) rfl rfl (HR.out.later CB.out).rd (HRB.out.later CB.out)) (by simp) HS.out).mono ?_
  rintro e w3 ⟨A1, c1, rfl, hr1, hc1, hb1⟩
  simp only [List.flatten_cons, List.flatten_nil, List.append_nil] at hr1 hc1 ⊢
  rw [HL.out] at hr1 hc1 ⊢
  have hb3 := below_of_alloc hb1 (by simp)
  have D1 := HC1.out.later hb3
  have D2 := HC2.out.later hb3
  have HX := Lib.hid (And.intro hr1 (And.intro hc1 (And.intro (CB.out.trans (hb3.mono CB.out.size)) (And.intro D1 D2))))
  have hsz3 := D2.lt
  clear q0 q1 q2 q3 q4 f0 f1 f2 f3 f4 p0 p1 p2 p3 p4 g0 g1 g2 g3 g4 HC1 HC2 CB hb1 hb3 hr1 hc1
  obtain ⟨⟨q0, q1, q2, q3, q4⟩, f0, f1, f2, f3, f4⟩ := box5 D1
  obtain ⟨⟨p0, p1, p2, p3, p4⟩, g0, g1, g2, g3, g4⟩ := box5 D2
  clear D1 D2
  go_wp2
  refine bodyPost_ret (v := .tuple #[.agg #[.int .i64 (cap : Int), .int .i64 (blk : Int), .slice A1 L.length c1, .int .i64 (safe : Int), .bool done], .int .i64 0]) (by simp [results, Try.results49, go_sem, *]) rfl ?_
  refine ⟨A1, c1, rfl, HX.out.1.turn (gs := [w.heap.size, w.heap.size + 1]) ?_ ?_, HX.out.2.1, HX.out.2.2.1.trans (by repeat (first | with_reducible exact Below.refl _ _ | with_reducible refine Below.drew ?_ | with_reducible refine Below.alloc ?_ (by first | (simp; done) | (simp; omega)) _ | with_reducible refine Below.setCell ?_ (by first | (simp; done) | (simp; omega)) _))⟩
  · repeat (first | with_reducible exact Turn.refl _ _ | with_reducible refine Turn.put ?_ (by simp) _ | with_reducible refine Turn.alloc ?_ _ | with_reducible refine Turn.drew ?_)
  · simp only [List.mem_cons, List.not_mem_nil, or_false]
    rintro g (rfl | rfl)
    · exact HX.out.2.2.2.1.else_ (by decide)
    · exact HX.out.2.2.2.2.else_ (by decide)

/-- What Read hands back with no error. -/
def GaveR (w : World) (l : List UInt8) (e : Ending) (w' : World) : Prop := ∃ A c, e = .returned (.tuple #[.slice A l.length c, .int .i64 0]) ∧ Mem 5 w' A (cBs l) ∧ Below w.heap.size w w'
set_option maxHeartbeats 1000000 in
theorem read_neg {cap blk k safe n c : Nat} (A : Option Addr) (done : Bool) (i m : Int) (w : World) (z : Zok cap blk k safe n c) (hi : i < 0 ∨ m < 0) :
    Calls Try.prog 57 #[.agg #[.int .i64 (cap : Int), .int .i64 (blk : Int), .slice A n c, .int .i64 (safe : Int), .bool done], .int .i64 i, .int .i64 m] w fun e w' => e = .returned (.tuple #[.slice none 0 0, .int .i64 4]) ∧ Below w.heap.size w w' := by
  have HZ := Lib.hid z
  clear z
  by_cases h0 : i < 0
  · clear hi
    go_enter Try.func57, Try.ntmps57
    go_wp2_with fail
    refine (sound_any A done _ HZ.out).mono ?_
    rintro e w1 ⟨rfl, hb1⟩
    obtain ⟨b1, hbw⟩ := one_box hb1 (by simp)
    obtain ⟨⟨q0, q1, q2, q3, q4⟩, f0, f1, f2, f3, f4⟩ := box5 b1
    obtain ⟨s0, s1, s2, s3, s4⟩ := self5 b1
    have HB := Lib.hid hbw
    clear hb1 hbw b1
    go_wp2
    refine bodyPost_ret (v := .tuple #[.slice none 0 0, .int .i64 4]) (by simp [results, Try.results57, go_sem, *]) rfl ⟨rfl, HB.out⟩
  · have h2 : m < 0 := by omega
    clear hi
    go_enter Try.func57, Try.ntmps57
    go_wp2_with fail
    refine (sound_any A done _ HZ.out).mono ?_
    rintro e w1 ⟨rfl, hb1⟩
    obtain ⟨b1, hbw⟩ := one_box hb1 (by simp)
    obtain ⟨⟨q0, q1, q2, q3, q4⟩, f0, f1, f2, f3, f4⟩ := box5 b1
    obtain ⟨s0, s1, s2, s3, s4⟩ := self5 b1
    have HB := Lib.hid hbw
    clear hb1 hbw b1
    go_wp2
    refine bodyPost_ret (v := .tuple #[.slice none 0 0, .int .i64 4]) (by simp [results, Try.results57, go_sem, *]) rfl ⟨rfl, HB.out⟩
set_option maxHeartbeats 1000000 in
theorem read_far {cap blk k safe n c : Nat} (A : Option Addr) (done : Bool) (i m : Nat) (w : World) (z : Zok cap blk k safe n c) (hi : i ≤ 9223372036854775807) (hm : m ≤ 9223372036854775807) (hf : k < i + m) :
    Calls Try.prog 57 #[.agg #[.int .i64 (cap : Int), .int .i64 (blk : Int), .slice A n c, .int .i64 (safe : Int), .bool done], .int .i64 (i : Int), .int .i64 (m : Int)] w fun e w' => e = .returned (.tuple #[.slice none 0 0, .int .i64 4]) ∧ Below w.heap.size w w' := by
  have HZ := Lib.hid z
  have hk12 : k ≤ 4096 := Nat.le_trans z.hc z.c2
  have hgt : (k : Int) - (i : Int) < (m : Int) := by omega
  clear z
  go_enter Try.func57, Try.ntmps57
  go_wp2_with fail
  refine (sound_any A done _ HZ.out).mono ?_
  rintro e w1 ⟨rfl, hb1⟩
  obtain ⟨b1, hbw⟩ := one_box hb1 (by simp)
  obtain ⟨⟨q0, q1, q2, q3, q4⟩, f0, f1, f2, f3, f4⟩ := box5 b1
  obtain ⟨s0, s1, s2, s3, s4⟩ := self5 b1
  have HB := Lib.hid hbw
  clear hb1 hbw b1
  go_wp2_with fail
  refine (pointer_any (cap : Int) (safe : Int) blk k n A c done _ HZ.out.h1 HZ.out.h2 HZ.out.hk HZ.out.hn).mono ?_
  rintro e w3 ⟨rfl, hb3⟩
  have HB3 := Lib.hid (HB.out.trans (hb3.mono HB.out.size))
  clear HB hb3 q0 q1 q2 q3 q4 f0 f1 f2 f3 f4 s0 s1 s2 s3 s4
  go_wp2
  refine bodyPost_ret (v := .tuple #[.slice none 0 0, .int .i64 4]) (by simp [results, Try.results57, go_sem, *]) rfl ⟨rfl, HB3.out⟩
set_option maxHeartbeats 1000000 in
theorem read_ok {cap blk k safe c : Nat} (A : Option Addr) (D : List UInt8) (done : Bool) (i m : Nat) (w : World) (z : Zok cap blk k safe D.length c) (hr : Mem 5 w A (cBs D)) (hf : i + m ≤ k) :
    Calls Try.prog 57 #[.agg #[.int .i64 (cap : Int), .int .i64 (blk : Int), .slice A D.length c, .int .i64 (safe : Int), .bool done], .int .i64 (i : Int), .int .i64 (m : Int)] w (GaveR w ((D.drop (i * blk)).take (m * blk))) := by
  have HZ := Lib.hid z
  have HR := Lib.hid hr
  have hk12 : k ≤ 4096 := Nat.le_trans z.hc z.c2
  have hn := z.hn
  have hcn := z.hcn
  have h1 : (i + m) * blk ≤ D.length := by rw [z.hk]; exact Nat.mul_le_mul_right _ hf
  have h2 : i * blk ≤ (i + m) * blk := Nat.mul_le_mul_right _ (by omega)
  have h3 : (i + m) * blk - i * blk = m * blk := by rw [Nat.add_mul]; omega
  have e1 : (i : Int) * (blk : Int) = ((i * blk : Nat) : Int) := by simp
  have e2 : ((i : Int) + (m : Int)) * (blk : Int) = (((i + m) * blk : Nat) : Int) := by simp
  have hgt : ¬ ((k : Int) - (i : Int) < (m : Int)) := by omega
  generalize i * blk = lo at h2 h3 e1 ⊢
  generalize (i + m) * blk = hi at h1 h2 h3 e2
  generalize m * blk = len at h3 ⊢
  have hlen : ((D.drop lo).take len).length = len := by simp; omega
  have HS : Hid (sumLen [(D.drop lo).take len] ≤ 100000000) := by
    show sumLen [(D.drop lo).take len] ≤ 100000000
    simp [sumLen]; omega
  have HLen := Lib.hid hlen
  have HC := Lib.hid (fun (w' : World) (h : Below w.heap.size w w') => ((hr.later h).rd.cut (n := lo) (cap := c) (by omega) hcn).take len)
  clear z hr hlen
  generalize hT : (D.drop lo).take len = T at HLen HS HC ⊢
  clear hT
  by_cases hcl : c = lo
  · rw [if_pos hcl] at HC
    subst hcl
    go_enter Try.func57, Try.ntmps57
    go_wp2_with fail
    refine (sound_any A done _ HZ.out).mono ?_
    rintro e w1 ⟨rfl, hb1⟩
    obtain ⟨b1, hbw⟩ := one_box hb1 (by simp)
    obtain ⟨⟨q0, q1, q2, q3, q4⟩, f0, f1, f2, f3, f4⟩ := box5 b1
    obtain ⟨s0, s1, s2, s3, s4⟩ := self5 b1
    have HB := Lib.hid hbw
    have HB1 := Lib.hid b1
    clear hb1 hbw b1
    go_wp2_with fail
    refine (pointer_any (cap : Int) (safe : Int) blk k D.length A c done _ HZ.out.h1 HZ.out.h2 HZ.out.hk HZ.out.hn).mono ?_
    rintro e w3 ⟨rfl, hb3⟩
    have HB3 := Lib.hid (HB.out.trans (hb3.mono HB.out.size))
    have C1 := HB1.out.later hb3
    clear HB hb3 q0 q1 q2 q3 q4 f0 f1 f2 f3 f4 s0 s1 s2 s3 s4
    obtain ⟨⟨q0, q1, q2, q3, q4⟩, f0, f1, f2, f3, f4⟩ := box5 C1
    clear C1 HB1
    go_wp2_with fail
    refine (concat_any _ _ [T] _ (Pts.one (by simp) HLen.out (HC.out _ HB3.out)) (by simp) HS.out).mono ?_
    rintro e w4 ⟨A4, c4, rfl, hr4, hc4, hb4⟩
    simp only [List.flatten_cons, List.flatten_nil, List.append_nil] at hr4 hc4 ⊢
    have HX := Lib.hid (And.intro hr4 (HB3.out.trans (Below.mono (below_of_alloc hb4 (by simp)) HB3.out.size)))
    clear HB3 hr4 hc4 hb4 q0 q1 q2 q3 q4 f0 f1 f2 f3 f4
    go_wp2
    refine bodyPost_ret (v := .tuple #[.slice A4 T.length c4, .int .i64 0]) (by simp [results, Try.results57, go_sem, *]) rfl ⟨A4, c4, rfl, HX.out.1, HX.out.2⟩
  · rw [if_neg hcl] at HC
    go_enter Try.func57, Try.ntmps57
    go_wp2_with fail
    refine (sound_any A done _ HZ.out).mono ?_
    rintro e w1 ⟨rfl, hb1⟩
    obtain ⟨b1, hbw⟩ := one_box hb1 (by simp)
    obtain ⟨⟨q0, q1, q2, q3, q4⟩, f0, f1, f2, f3, f4⟩ := box5 b1
    obtain ⟨s0, s1, s2, s3, s4⟩ := self5 b1
    have HB := Lib.hid hbw
    have HB1 := Lib.hid b1
    clear hb1 hbw b1
    go_wp2_with fail
    refine (pointer_any (cap : Int) (safe : Int) blk k D.length A c done _ HZ.out.h1 HZ.out.h2 HZ.out.hk HZ.out.hn).mono ?_
    rintro e w3 ⟨rfl, hb3⟩
    have HB3 := Lib.hid (HB.out.trans (hb3.mono HB.out.size))
    have C1 := HB1.out.later hb3
    clear HB hb3 q0 q1 q2 q3 q4 f0 f1 f2 f3 f4 s0 s1 s2 s3 s4
    obtain ⟨⟨q0, q1, q2, q3, q4⟩, f0, f1, f2, f3, f4⟩ := box5 C1
    clear C1 HB1
    go_wp2_with fail
    refine (concat_any _ _ [T] _ (Pts.one (by simp) HLen.out (HC.out _ HB3.out)) (by simp) HS.out).mono ?_
    rintro e w4 ⟨A4, c4, rfl, hr4, hc4, hb4⟩
    simp only [List.flatten_cons, List.flatten_nil, List.append_nil] at hr4 hc4 ⊢
    have HX := Lib.hid (And.intro hr4 (HB3.out.trans (Below.mono (below_of_alloc hb4 (by simp)) HB3.out.size)))
    clear HB3 hr4 hc4 hb4 q0 q1 q2 q3 q4 f0 f1 f2 f3 f4
    go_wp2
    refine bodyPost_ret (v := .tuple #[.slice A4 T.length c4, .int .i64 0]) (by simp [results, Try.results57, go_sem, *]) rfl ⟨A4, c4, rfl, HX.out.1, HX.out.2⟩
end Go.Proofs.Ytbaolfncolfipaa
