/- For every block, b, at and n the law ZoneReads returns true, and b reads behind the call as it read before: the walk. -/
import Derived.Test.YtajkcodcoehbgaaQ
namespace Go.Proofs.Ytajkcodcoehbgaa.zoneReads
set_option linter.unusedVariables false
set_option linter.unusedSimpArgs false
open Go.RowKit
open Go.RowKit (wrap64)

theorem conv_any (A : Option Addr) (c : Nat) (l : List UInt8) (w : World) (hr : Mem 5 w A (cBs l)) : (convert 25 9 (.slice A l.length c)).run Try.prog w = .ok (.string ⟨l.toArray⟩) w :=
  run_conv w 25 9 5 Try.underlying25 Try.underlying5 Try.underlying9 A c _ l hr.rd
theorem part_cuts {blk : Nat} {b : List UInt8} {i m : Nat} (h0 : b.length % blk = 0) : part (cuts blk b (b.length / blk)) i m = (b.drop (i * blk)).take (m * blk) := by
  have hl : ∀ l ∈ cuts blk b (b.length / blk), l.length = blk := cuts_mem (Nat.div_mul_le_self _ _)
  have e := cuts_all h0
  unfold part
  rw [← flat_take m (fun l hl' => hl l (List.mem_of_mem_drop hl')), ← flat_drop i hl, e]
theorem rread_at (cap blk safe : Int) (k c : Nat) (A : Option Addr) (ls : List (List UInt8)) (done : Bool) (i m : Nat) (w : World) (hkl : ls.length = k) (hk : k ≤ 4096) (hfl : ls.flatten.length ≤ 16777216) (hf : i + m ≤ k) (hr : Mem 9 w A (ls.map cS)) :
    Calls Try.prog 13 #[.agg #[.int .i64 cap, .int .i64 blk, .slice A k c, .int .i64 safe, .bool done], .int .i64 (i : Int), .int .i64 (m : Int)] w fun e w' => e = .returned (.tuple #[.string ⟨(part ls i m).toArray⟩, .int .i64 0]) ∧ Below w.heap.size w w' := by
  subst hkl
  exact rread_ok cap blk safe c A ls done i m w hk hfl hf hr
theorem app_zok {blk c : Nat} {b : List UInt8} (h1 : 1 ≤ blk) (h2 : blk ≤ 4096) (hb : b.length ≤ 500) (hc : b.length ≤ c) (hE : appE 600 blk 0 b.length false = 0) : Zok 600 blk (b.length / blk) 0 b.length c := by
  obtain ⟨_, _, h3, h4, h5, h6⟩ := app_fits (n := 0) h1 (by omega) hE
  exact ⟨by omega, by omega, h1, h2, by simpa using h3, by simpa using h4, by omega, hc, Nat.zero_le _⟩

set_option maxHeartbeats 400000 in
theorem big (bk at_ n : Int) (B : Option Addr) (cb : Nat) (b : List UInt8) (w : World) (hm : b.length ≤ maxLen) (hbig : 500 < b.length) :
    Calls Try.prog 4 #[.int .u8 bk, .slice B b.length cb, .int .i64 at_, .int .i64 n] w fun e w' => e = .returned (.bool true) ∧ Below w.heap.size w w' := by
  unfold maxLen at hm
  have hgt : (500 : Int) < (b.length : Int) := by omega
  go_enter Try.func4, Try.ntmps4
  go_wp2_with fail
  refine (live_any _).mono ?_
  rintro e w1 ⟨rfl, hb1⟩
  have HB := Lib.hid hb1
  clear hb1
  go_wp2
  go_ret
  exact ⟨rfl, HB.out⟩

set_option maxHeartbeats 2000000 in
theorem bad (bk : Nat) (at_ n : Int) (hbk : bk < 256) (B : Option Addr) (cb blk : Nat) (b : List UInt8) (w : World) (hsm : b.length ≤ 500) (hcb : b.length ≤ cb) (hb : Rd w w.heap.size B b) (hblk : fit (bk : Int) = (blk : Int)) (h1 : 1 ≤ blk) (h2 : blk ≤ 4096) (hE : appE 600 blk 0 b.length false ≠ 0) :
    Calls Try.prog 4 #[.int .u8 (bk : Int), .slice B b.length cb, .int .i64 at_, .int .i64 n] w fun e w' => e = .returned (.bool true) ∧ Below w.heap.size w w' := by
  have hgt : ¬ (500 : Int) < (b.length : Int) := by omega
  have HF : Hid (fit 600 = 600 ∧ fit (bk : Int) = (blk : Int)) := ⟨by decide, hblk⟩
  have HRB := Lib.hid hb
  clear hblk hb
  have HE := Lib.hid hE
  clear hE
  go_enter Try.func4, Try.ntmps4
  go_wp2_with fail
  refine (new_any 600 (bk : Int) w).mono ?_
  rintro e w1 ⟨rfl, hb1⟩
  rw [HF.out.1, HF.out.2]
  have HB1 := Lib.hid hb1
  clear hb1
  go_wp2_with fail
  refine (append_err (cap := 600) (blk := blk) (k := 0) (safe := 0) (c := 0) none B cb [] b false w1 ⟨by omega, by omega, h1, h2, by simp, by omega, by simp, by simp, by omega⟩ (by unfold maxLen; omega) HE.out).mono ?_
  rintro e w2 ⟨rfl, hb2⟩
  have HB2 := Lib.hid (HB1.out.trans (hb2.mono HB1.out.size))
  clear HB1 hb2
  go_wp2_with fail
  refine (rnew_any 600 (bk : Int) _).mono ?_
  rintro e w3 ⟨rfl, hb3⟩
  rw [HF.out.1, HF.out.2]
  obtain ⟨bx, hbx⟩ := one_box hb3 (by simp)
  have HB3 := Lib.hid (And.intro bx (And.intro hbx (HB2.out.trans (hbx.mono HB2.out.size))))
  clear hb3 bx hbx
  go_wp2_with fail
  refine (rappend_err 600 blk 0 0 b.length cb 0 none B false w3 h1 h2 (by omega) (by omega) (by omega) HE.out).mono ?_
  rintro e w4 ⟨rfl, hb4⟩
  have HB4 := Lib.hid (And.intro (HB3.out.1.later hb4) (HB3.out.2.2.trans (hb4.mono HB3.out.2.2.size)))
  clear HB3 hb4
  generalize appE 600 blk 0 b.length false = E at HE ⊢
  have hne : ((E : Int) != 0) = true := by have := HE.out; simp; exact this
  have hne2 : ((E : Int) != (E : Int)) = false := by simp
  obtain ⟨⟨q0, q1, q2, q3, q4⟩, f0, f1, f2, f3, f4⟩ := box5 HB4.out.1
  have hlt := HB4.out.1.lt
  go_wp2_with fail
  refine (code_any (E : Int) _).mono ?_
  rintro e w5 ⟨rfl, rfl⟩
  go_wp2_with fail
  refine (live_any _).mono ?_
  rintro e w6 ⟨rfl, hb6⟩
  have HB6 := Lib.hid (HB4.out.2.trans ((below_of_alloc hb6 (by simp)).mono HB4.out.2.size))
  clear hb6 HB4 q0 q1 q2 q3 q4 f0 f1 f2 f3 f4 hlt
  go_wp2
  go_ret
  exact ⟨rfl, HB6.out⟩

set_option maxHeartbeats 2000000 in
theorem neg (bk : Nat) (hbk : bk < 256) (B : Option Addr) (cb blk : Nat) (b : List UInt8) (w : World) (hsm : b.length ≤ 500) (hcb : b.length ≤ cb) (hb : Rd w w.heap.size B b) (hblk : fit (bk : Int) = (blk : Int)) (h1 : 1 ≤ blk) (h2 : blk ≤ 4096) (hE : appE 600 blk 0 b.length false = 0) (at_ n : Int) (hneg : at_ < 0 ∨ n < 0) :
    Calls Try.prog 4 #[.int .u8 (bk : Int), .slice B b.length cb, .int .i64 at_, .int .i64 n] w fun e w' => e = .returned (.bool true) ∧ Below w.heap.size w w' := by
  have hgt : ¬ (500 : Int) < (b.length : Int) := by omega
  have HF : Hid (fit 600 = 600 ∧ fit (bk : Int) = (blk : Int)) := ⟨by decide, hblk⟩
  have HRB := Lib.hid hb
  clear hblk hb
  have HE := Lib.hid hE
  clear hE
  go_enter Try.func4, Try.ntmps4
  go_wp2_with fail
  refine (new_any 600 (bk : Int) w).mono ?_
  rintro e w1 ⟨rfl, hb1⟩
  rw [HF.out.1, HF.out.2]
  have HB1 := Lib.hid hb1
  clear hb1
  go_wp2_with fail
  refine (append_ok (cap := 600) (blk := blk) (k := 0) (safe := 0) (c := 0) none B cb [] b false w1 ⟨by omega, by omega, h1, h2, by simp, by omega, by simp, by simp, by omega⟩ (by unfold maxLen; omega) Mem.nil (HRB.out.later HB1.out) HE.out).mono ?_
  rintro e w2 ⟨A2, c2, rfl, hr2, hc2, hb2⟩
  simp only [List.nil_append] at hr2 hc2 ⊢
  have HB2 := Lib.hid (And.intro hr2 (And.intro hc2 (HB1.out.trans (hb2.mono HB1.out.size))))
  clear HB1 hr2 hc2 hb2
  go_wp2_with fail
  refine (rnew_any 600 (bk : Int) _).mono ?_
  rintro e w3 ⟨rfl, hb3⟩
  rw [HF.out.1, HF.out.2]
  obtain ⟨bx, hbx⟩ := one_box hb3 (by simp)
  have HB3 := Lib.hid (And.intro bx (And.intro hbx (HB2.out.2.2.trans (hbx.mono HB2.out.2.2.size))))
  clear hb3 bx hbx
  go_wp2_with fail
  refine (rappend_ok 600 blk 0 0 cb 0 none B [] b w3 h1 h2 (by omega) (by omega) rfl (by omega) hcb (by have := (app_fits (n := 0) h1 (by omega) HE.out).2.2.2.2.2; omega) (app_fits (n := 0) h1 (by omega) HE.out).2.2.2.2.1 (app_fits (n := 0) h1 (by omega) HE.out).2.2.2.1 Mem.nil (fun u hu => by cases hu) (HRB.out.later HB3.out.2.2)).mono ?_
  rintro e w4 ⟨A4, c4, rfl, hr4, hc4, hb4⟩
  rw [Nat.zero_add] at hc4 ⊢
  rw [List.nil_append] at hr4
  have HB4 := Lib.hid (And.intro hr4 (And.intro hc4 (And.intro (HB3.out.1.later hb4) (And.intro (HB2.out.1.later (HB3.out.2.1.trans (hb4.mono HB3.out.2.1.size))) (HB3.out.2.2.trans (hb4.mono HB3.out.2.2.size))))))
  clear HB3 hr4 hc4 hb4
  have HZ := Lib.hid (app_zok (c := c2) h1 h2 hsm HB2.out.2.1 HE.out)
  have HM0 := Lib.hid (app_fits (n := 0) h1 (by omega) HE.out).2.2.2.2.1
  have HQ5 : Hid (b.length / blk ≤ 600) := by have := (app_fits (n := 0) h1 (by omega) HE.out).2.2.2.1; show b.length / blk ≤ 600; omega
  obtain ⟨⟨q0, q1, q2, q3, q4⟩, f0, f1, f2, f3, f4⟩ := box5 HB4.out.2.2.1
  have hlt := HB4.out.2.2.1.lt
  clear HB2
  generalize hq : b.length / blk = q at HB4 HZ HQ5 ⊢
  have HQ := Lib.hid hq
  clear hq
  go_wp2_with fail
  refine (code_any 0 _).mono ?_
  rintro e w5 ⟨rfl, rfl⟩
  go_wp2_with fail
  refine (read_neg (cap := 600) (blk := blk) (k := q) (safe := 0) (n := b.length) (c := c2) A2 false at_ n _ HZ.out hneg).mono ?_
  rintro e w6 ⟨rfl, hb6⟩
  have HB6 := Lib.hid (And.intro (HB4.out.1.later ((Below.refl _ _).alloc (Nat.le_refl _) (.cells #[.int .i64 600, .int .i64 (blk : Int), .slice A4 q c4, .int .i64 0, .bool false] 31))) (And.intro HB4.out.2.1 (HB4.out.2.2.2.2.trans (Below.mono (below_of_alloc hb6 (by simp)) HB4.out.2.2.2.2.size))))
  obtain ⟨by1, _⟩ := one_box hb6 (by simp)
  have HB7 := Lib.hid (And.intro (HB6.out.1.later hb6) by1)
  clear hb6 HB4 by1 q0 q1 q2 q3 q4 f0 f1 f2 f3 f4 hlt
  obtain ⟨⟨q0, q1, q2, q3, q4⟩, f0, f1, f2, f3, f4⟩ := box5 HB7.out.2
  have hlt := HB7.out.2.lt
  go_wp2_with fail
  refine (rread_neg 600 blk 0 q c4 A4 false at_ n _ hneg).mono ?_
  rintro e w8 ⟨rfl, hb8⟩
  have HB8 := Lib.hid (HB6.out.2.2.trans (hb8.mono HB6.out.2.2.size))
  have hcv : ∀ w', (convert 25 9 (.slice none 0 0)).run Try.prog w' = .ok (.string ⟨#[]⟩) w' := fun w' => conv_any none 0 [] w' Mem.nil
  clear hb8 HB6 HB7 q0 q1 q2 q3 q4 f0 f1 f2 f3 f4 hlt
  go_wp2_with fail
  refine (code_any 4 _).mono ?_
  rintro e w9 ⟨rfl, rfl⟩
  go_wp2_with fail
  refine (live_any _).mono ?_
  rintro e w10 ⟨rfl, hb10⟩
  have HB10 := Lib.hid (HB8.out.trans (hb10.mono HB8.out.size))
  clear hb10 HB8
  go_wp2
  go_ret
  exact ⟨rfl, HB10.out⟩

set_option maxHeartbeats 2000000 in
theorem far (bk : Nat) (hbk : bk < 256) (B : Option Addr) (cb blk : Nat) (b : List UInt8) (w : World) (hsm : b.length ≤ 500) (hcb : b.length ≤ cb) (hb : Rd w w.heap.size B b) (hblk : fit (bk : Int) = (blk : Int)) (h1 : 1 ≤ blk) (h2 : blk ≤ 4096) (hE : appE 600 blk 0 b.length false = 0) (at_ n : Nat) (hat : at_ ≤ 9223372036854775807) (hn : n ≤ 9223372036854775807) (hfar : b.length / blk < at_ + n) :
    Calls Try.prog 4 #[.int .u8 (bk : Int), .slice B b.length cb, .int .i64 (at_ : Int), .int .i64 (n : Int)] w fun e w' => e = .returned (.bool true) ∧ Below w.heap.size w w' := by
  have hgt : ¬ (500 : Int) < (b.length : Int) := by omega
  have HF : Hid (fit 600 = 600 ∧ fit (bk : Int) = (blk : Int)) := ⟨by decide, hblk⟩
  have HRB := Lib.hid hb
  clear hblk hb
  have HE := Lib.hid hE
  clear hE
  go_enter Try.func4, Try.ntmps4
  go_wp2_with fail
  refine (new_any 600 (bk : Int) w).mono ?_
  rintro e w1 ⟨rfl, hb1⟩
  rw [HF.out.1, HF.out.2]
  have HB1 := Lib.hid hb1
  clear hb1
  go_wp2_with fail
  refine (append_ok (cap := 600) (blk := blk) (k := 0) (safe := 0) (c := 0) none B cb [] b false w1 ⟨by omega, by omega, h1, h2, by simp, by omega, by simp, by simp, by omega⟩ (by unfold maxLen; omega) Mem.nil (HRB.out.later HB1.out) HE.out).mono ?_
  rintro e w2 ⟨A2, c2, rfl, hr2, hc2, hb2⟩
  simp only [List.nil_append] at hr2 hc2 ⊢
  have HB2 := Lib.hid (And.intro hr2 (And.intro hc2 (HB1.out.trans (hb2.mono HB1.out.size))))
  clear HB1 hr2 hc2 hb2
  go_wp2_with fail
  refine (rnew_any 600 (bk : Int) _).mono ?_
  rintro e w3 ⟨rfl, hb3⟩
  rw [HF.out.1, HF.out.2]
  obtain ⟨bx, hbx⟩ := one_box hb3 (by simp)
  have HB3 := Lib.hid (And.intro bx (And.intro hbx (HB2.out.2.2.trans (hbx.mono HB2.out.2.2.size))))
  clear hb3 bx hbx
  go_wp2_with fail
  refine (rappend_ok 600 blk 0 0 cb 0 none B [] b w3 h1 h2 (by omega) (by omega) rfl (by omega) hcb (by have := (app_fits (n := 0) h1 (by omega) HE.out).2.2.2.2.2; omega) (app_fits (n := 0) h1 (by omega) HE.out).2.2.2.2.1 (app_fits (n := 0) h1 (by omega) HE.out).2.2.2.1 Mem.nil (fun u hu => by cases hu) (HRB.out.later HB3.out.2.2)).mono ?_
  rintro e w4 ⟨A4, c4, rfl, hr4, hc4, hb4⟩
  rw [Nat.zero_add] at hc4 ⊢
  rw [List.nil_append] at hr4
  have HB4 := Lib.hid (And.intro hr4 (And.intro hc4 (And.intro (HB3.out.1.later hb4) (And.intro (HB2.out.1.later (HB3.out.2.1.trans (hb4.mono HB3.out.2.1.size))) (HB3.out.2.2.trans (hb4.mono HB3.out.2.2.size))))))
  clear HB3 hr4 hc4 hb4
  have HZ := Lib.hid (app_zok (c := c2) h1 h2 hsm HB2.out.2.1 HE.out)
  have HM0 := Lib.hid (app_fits (n := 0) h1 (by omega) HE.out).2.2.2.2.1
  have HQ5 : Hid (b.length / blk ≤ 600) := by have := (app_fits (n := 0) h1 (by omega) HE.out).2.2.2.1; show b.length / blk ≤ 600; omega
  obtain ⟨⟨q0, q1, q2, q3, q4⟩, f0, f1, f2, f3, f4⟩ := box5 HB4.out.2.2.1
  have hlt := HB4.out.2.2.1.lt
  clear HB2
  generalize hq : b.length / blk = q at HB4 HZ HQ5 ⊢
  have HQ := Lib.hid hq
  clear hq
  go_wp2_with fail
  refine (code_any 0 _).mono ?_
  rintro e w5 ⟨rfl, rfl⟩
  go_wp2_with fail
  refine (read_far (cap := 600) (blk := blk) (k := q) (safe := 0) (n := b.length) (c := c2) A2 false at_ n _ HZ.out hat hn (by rw [← HQ.out]; exact hfar)).mono ?_
  rintro e w6 ⟨rfl, hb6⟩
  have HB6 := Lib.hid (And.intro (HB4.out.1.later ((Below.refl _ _).alloc (Nat.le_refl _) (.cells #[.int .i64 600, .int .i64 (blk : Int), .slice A4 q c4, .int .i64 0, .bool false] 31))) (And.intro HB4.out.2.1 (HB4.out.2.2.2.2.trans (Below.mono (below_of_alloc hb6 (by simp)) HB4.out.2.2.2.2.size))))
  obtain ⟨by1, _⟩ := one_box hb6 (by simp)
  have HB7 := Lib.hid (And.intro (HB6.out.1.later hb6) by1)
  clear hb6 HB4 by1 q0 q1 q2 q3 q4 f0 f1 f2 f3 f4 hlt
  obtain ⟨⟨q0, q1, q2, q3, q4⟩, f0, f1, f2, f3, f4⟩ := box5 HB7.out.2
  have hlt := HB7.out.2.lt
  go_wp2_with fail
  refine (rread_far 600 blk 0 q c4 A4 false at_ n _ (by have := HQ5.out; omega) hat hn (by rw [← HQ.out]; exact hfar)).mono ?_
  rintro e w8 ⟨rfl, hb8⟩
  have HB8 := Lib.hid (HB6.out.2.2.trans (hb8.mono HB6.out.2.2.size))
  have hcv : ∀ w', (convert 25 9 (.slice none 0 0)).run Try.prog w' = .ok (.string ⟨#[]⟩) w' := fun w' => conv_any none 0 [] w' Mem.nil
  clear hb8 HB6 HB7 q0 q1 q2 q3 q4 f0 f1 f2 f3 f4 hlt
  go_wp2_with fail
  refine (code_any 4 _).mono ?_
  rintro e w9 ⟨rfl, rfl⟩
  go_wp2_with fail
  refine (live_any _).mono ?_
  rintro e w10 ⟨rfl, hb10⟩
  have HB10 := Lib.hid (HB8.out.trans (hb10.mono HB8.out.size))
  clear hb10 HB8
  go_wp2
  go_ret
  exact ⟨rfl, HB10.out⟩

set_option maxHeartbeats 2000000 in
theorem good (bk : Nat) (hbk : bk < 256) (B : Option Addr) (cb blk : Nat) (b : List UInt8) (w : World) (hsm : b.length ≤ 500) (hcb : b.length ≤ cb) (hb : Rd w w.heap.size B b) (hblk : fit (bk : Int) = (blk : Int)) (h1 : 1 ≤ blk) (h2 : blk ≤ 4096) (hE : appE 600 blk 0 b.length false = 0) (at_ n : Nat) (hin : at_ + n ≤ b.length / blk) :
    Calls Try.prog 4 #[.int .u8 (bk : Int), .slice B b.length cb, .int .i64 (at_ : Int), .int .i64 (n : Int)] w fun e w' => e = .returned (.bool true) ∧ Below w.heap.size w w' := by
  have hgt : ¬ (500 : Int) < (b.length : Int) := by omega
  have HF : Hid (fit 600 = 600 ∧ fit (bk : Int) = (blk : Int)) := ⟨by decide, hblk⟩
  have HRB := Lib.hid hb
  clear hblk hb
  have HE := Lib.hid hE
  clear hE
  go_enter Try.func4, Try.ntmps4
  go_wp2_with fail
  refine (new_any 600 (bk : Int) w).mono ?_
  rintro e w1 ⟨rfl, hb1⟩
  rw [HF.out.1, HF.out.2]
  have HB1 := Lib.hid hb1
  clear hb1
  go_wp2_with fail
  refine (append_ok (cap := 600) (blk := blk) (k := 0) (safe := 0) (c := 0) none B cb [] b false w1 ⟨by omega, by omega, h1, h2, by simp, by omega, by simp, by simp, by omega⟩ (by unfold maxLen; omega) Mem.nil (HRB.out.later HB1.out) HE.out).mono ?_
  rintro e w2 ⟨A2, c2, rfl, hr2, hc2, hb2⟩
  simp only [List.nil_append] at hr2 hc2 ⊢
  have HB2 := Lib.hid (And.intro hr2 (And.intro hc2 (HB1.out.trans (hb2.mono HB1.out.size))))
  clear HB1 hr2 hc2 hb2
  go_wp2_with fail
  refine (rnew_any 600 (bk : Int) _).mono ?_
  rintro e w3 ⟨rfl, hb3⟩
  rw [HF.out.1, HF.out.2]
  obtain ⟨bx, hbx⟩ := one_box hb3 (by simp)
  have HB3 := Lib.hid (And.intro bx (And.intro hbx (HB2.out.2.2.trans (hbx.mono HB2.out.2.2.size))))
  clear hb3 bx hbx
  go_wp2_with fail
  refine (rappend_ok 600 blk 0 0 cb 0 none B [] b w3 h1 h2 (by omega) (by omega) rfl (by omega) hcb (by have := (app_fits (n := 0) h1 (by omega) HE.out).2.2.2.2.2; omega) (app_fits (n := 0) h1 (by omega) HE.out).2.2.2.2.1 (app_fits (n := 0) h1 (by omega) HE.out).2.2.2.1 Mem.nil (fun u hu => by cases hu) (HRB.out.later HB3.out.2.2)).mono ?_
  rintro e w4 ⟨A4, c4, rfl, hr4, hc4, hb4⟩
  rw [Nat.zero_add] at hc4 ⊢
  rw [List.nil_append] at hr4
  have HB4 := Lib.hid (And.intro hr4 (And.intro hc4 (And.intro (HB3.out.1.later hb4) (And.intro (HB2.out.1.later (HB3.out.2.1.trans (hb4.mono HB3.out.2.1.size))) (HB3.out.2.2.trans (hb4.mono HB3.out.2.2.size))))))
  clear HB3 hr4 hc4 hb4
  have HZ := Lib.hid (app_zok (c := c2) h1 h2 hsm HB2.out.2.1 HE.out)
  have HM0 := Lib.hid (app_fits (n := 0) h1 (by omega) HE.out).2.2.2.2.1
  have HQ5 : Hid (b.length / blk ≤ 600) := by have := (app_fits (n := 0) h1 (by omega) HE.out).2.2.2.1; show b.length / blk ≤ 600; omega
  obtain ⟨⟨q0, q1, q2, q3, q4⟩, f0, f1, f2, f3, f4⟩ := box5 HB4.out.2.2.1
  have hlt := HB4.out.2.2.1.lt
  clear HB2
  generalize hq : b.length / blk = q at HB4 HZ HQ5 ⊢
  have HQ := Lib.hid hq
  clear hq
  go_wp2_with fail
  refine (code_any 0 _).mono ?_
  rintro e w5 ⟨rfl, rfl⟩
  go_wp2_with fail
  refine (read_ok (cap := 600) (blk := blk) (k := q) (safe := 0) (c := c2) A2 b false at_ n _ HZ.out (HB4.out.2.2.2.1.later ((Below.refl _ _).alloc (Nat.le_refl _) _)) (by rw [← HQ.out]; exact hin)).mono ?_
  rintro e w6 ⟨A6, c6, rfl, hr6, hb6⟩
  generalize hT : (b.drop (at_ * blk)).take (n * blk) = T at hr6 ⊢
  have HT := Lib.hid hT
  have HR6 := Lib.hid hr6
  clear hT hr6
  have HB6 := Lib.hid (And.intro (HB4.out.1.later ((Below.refl _ _).alloc (Nat.le_refl _) (.cells #[.int .i64 600, .int .i64 (blk : Int), .slice A4 q c4, .int .i64 0, .bool false] 31))) (And.intro HB4.out.2.1 (HB4.out.2.2.2.2.trans (Below.mono (below_of_alloc hb6 (by simp)) HB4.out.2.2.2.2.size))))
  obtain ⟨by1, _⟩ := one_box hb6 (by simp)
  have HB7 := Lib.hid (And.intro (HB6.out.1.later hb6) by1)
  clear hb6 HB4 by1 q0 q1 q2 q3 q4 f0 f1 f2 f3 f4 hlt
  obtain ⟨⟨q0, q1, q2, q3, q4⟩, f0, f1, f2, f3, f4⟩ := box5 HB7.out.2
  have hlt := HB7.out.2.lt
  go_wp2_with fail
  refine (rread_at 600 blk 0 q c4 A4 (cuts blk b q) false at_ n _ (cuts_length _ _ _) (by have := HQ5.out; omega) (by rw [cuts_flat]; simp; omega) (by rw [← HQ.out]; exact hin) HB7.out.1).mono ?_
  rintro e w8 ⟨rfl, hb8⟩
  rw [show part (cuts blk b q) at_ n = T by rw [← HQ.out, ← HT.out]; exact part_cuts HM0.out]
  have HB8 := Lib.hid (HB6.out.2.2.trans (hb8.mono HB6.out.2.2.size))
  have hcv := conv_any A6 c6 _ _ (HR6.out.later hb8)
  clear HR6 HT
  clear hb8 HB6 HB7 q0 q1 q2 q3 q4 f0 f1 f2 f3 f4 hlt
  go_wp2_with fail
  refine (code_any 0 _).mono ?_
  rintro e w9 ⟨rfl, rfl⟩
  go_wp2_with fail
  refine (live_any _).mono ?_
  rintro e w10 ⟨rfl, hb10⟩
  have HB10 := Lib.hid (HB8.out.trans (hb10.mono HB8.out.size))
  clear hb10 HB8
  go_wp2
  go_ret
  exact ⟨rfl, HB10.out⟩

theorem walk (bk : Nat) (hbk : bk < 256) (B : Option Addr) (cb : Nat) (b : List UInt8) (at_ n : Int) (w : World) (hm : b.length ≤ maxLen) (hcb : b.length ≤ cb) (hb : Rd w w.heap.size B b) (ha : at_ ≤ 9223372036854775807) (hn : n ≤ 9223372036854775807) :
    Calls Try.prog 4 #[.int .u8 (bk : Int), .slice B b.length cb, .int .i64 at_, .int .i64 n] w fun e w' => e = .returned (.bool true) ∧ Below w.heap.size w w' := by
  by_cases hbig : 500 < b.length
  · exact big bk at_ n B cb b w hm hbig
  · obtain ⟨blk, hblk, h1, h2⟩ : ∃ blk : Nat, fit (bk : Int) = (blk : Int) ∧ 1 ≤ blk ∧ blk ≤ 4096 := ⟨(fit (bk : Int)).toNat, by have := fit_ok (bk : Int); omega, by have := fit_ok (bk : Int); omega, by have := fit_ok (bk : Int); omega⟩
    by_cases hE : appE 600 blk 0 b.length false = 0
    · by_cases hneg : at_ < 0 ∨ n < 0
      · exact neg bk hbk B cb blk b w (by omega) hcb hb hblk h1 h2 hE at_ n hneg
      · obtain ⟨i, rfl⟩ : ∃ i : Nat, at_ = (i : Int) := ⟨at_.toNat, by omega⟩
        obtain ⟨m, rfl⟩ : ∃ m : Nat, n = (m : Int) := ⟨n.toNat, by omega⟩
        by_cases hfar : b.length / blk < i + m
        · exact far bk hbk B cb blk b w (by omega) hcb hb hblk h1 h2 hE i m (by omega) (by omega) hfar
        · exact good bk hbk B cb blk b w (by omega) hcb hb hblk h1 h2 hE i m (by omega)
    · exact bad bk at_ n hbk B cb blk b w (by omega) hcb hb hblk h1 h2 hE
end Go.Proofs.Ytajkcodcoehbgaa.zoneReads
