/- Contract of the law's 'should'. -/
import Derived.Test.YtajkcodcoehbgaaM
namespace Go.Proofs.Ytajkcodcoehbgaa
set_option linter.unusedVariables false
set_option linter.unusedSimpArgs false
open Go.RowKit
open Go.RowKit (wrap64)

theorem rappend_err (cap blk k c m cb : Nat) (safe : Int) (A B : Option Addr) (done : Bool) (w : World) (h1 : 1 ≤ blk) (h2 : blk ≤ 4096) (hc : cap ≤ 4096) (hk : k ≤ 4096) (hm : m ≤ 140737488351232) (hE : appE cap blk k m done ≠ 0) :
    Calls Try.prog 19 #[.agg #[.int .i64 (cap : Int), .int .i64 (blk : Int), .slice A k c, .int .i64 safe, .bool done], .slice B m cb] w fun e w' => e = .returned (.tuple #[.agg #[.int .i64 (cap : Int), .int .i64 (blk : Int), .slice A k c, .int .i64 safe, .bool done], .int .i64 (appE cap blk k m done : Nat)]) ∧ Below w.heap.size w w' := by
  by_cases h : m = 0 ∨ m % blk ≠ 0
  · have e : appE cap blk k m done = 3 := by simp [appE, h]
    rw [e]
    exact rappend_align cap blk k c m cb safe A B done w h1 h2 (by unfold maxLen; omega) h
  · by_cases hf : done = true ∨ cap < k + m / blk
    · have e : appE cap blk k m done = 6 := by simp [appE, h, hf]
      rw [e]
      simp only [not_or, Decidable.not_not] at h
      exact rappend_full cap blk k c m cb safe A B done w h1 h2 hc hk hm h.1 h.2 hf
    · exact absurd (by simp [appE, h, hf]) hE

/-- The reference's zone and an error are handed back. -/
def GaveS (cap blk safe : Nat) (done : Bool) (k : Nat) (ss : List Value) (E : Nat) (w : World) (e : Ending) (w' : World) : Prop :=
  ∃ A c, e = .returned (.tuple #[.agg #[.int .i64 (cap : Int), .int .i64 (blk : Int), .slice A k c, .int .i64 (safe : Int), .bool done], .int .i64 (E : Int)]) ∧ Mem 9 w' A ss ∧ k ≤ c ∧ Below w.heap.size w w'

set_option maxHeartbeats 1000000 in
theorem should_flush (cap blk k safe c : Nat) (A B : Option Addr) (cb : Nat) (ss : List Value) (b : List UInt8) (done : Bool) (d n : Int) (w : World) (c2 : cap ≤ 4096) (h1 : 1 ≤ blk) (h2 : blk ≤ 4096) (hk : k ≤ cap) (hs : safe ≤ k) (hkc : k ≤ c) (hr : Mem 9 w A ss) (hd : d = 1) :
    Calls Try.prog 11 #[.agg #[.int .i64 (cap : Int), .int .i64 (blk : Int), .slice A k c, .int .i64 (safe : Int), .bool done], .agg #[.int .i64 d, .slice B b.length cb, .int .i64 n]] w (GaveS cap blk k done k ss 0 w) := by
  have HR := Lib.hid hr
  have hk12 : k ≤ 4096 := by omega
  have d0 : (d == 0) = false := by simp; omega
  have d1 : (d == 1) = true := by simp; omega
  clear hr hd
  go_enter Try.func11, Try.ntmps11
  go_wp2_with fail
  refine (rflush_any cap blk safe k c A done _).mono ?_
  rintro e w1 ⟨rfl, hb1⟩

  obtain ⟨b1, b2, b3, hbw⟩ := three_boxes hb1 (by simp)
  obtain ⟨⟨q0, q1, q2, q3, q4⟩, f0, f1, f2, f3, f4⟩ := box5 b3
  have HX := Lib.hid (And.intro b3 hbw)
  have hsz := b3.lt
  clear b1 b2 b3 hbw hb1
  go_wp2
  refine bodyPost_ret (v := .tuple #[.agg #[.int .i64 (cap : Int), .int .i64 (blk : Int), .slice A k c, .int .i64 (k : Nat), .bool done], .int .i64 0]) (by simp [results, Try.results11, go_sem, *]) rfl ?_
  refine ⟨A, c, rfl, Mem.turn (gs := [w.heap.size + 1 + 1]) (HR.out.later HX.out.2) ?_ ?_, hkc, HX.out.2.trans (by repeat (first | with_reducible exact Below.refl _ _ | with_reducible refine Below.drew ?_ | with_reducible refine Below.alloc ?_ (by first | (simp; done) | (simp; omega)) _ | with_reducible refine Below.setCell ?_ (by first | (simp; done) | (simp; omega)) _))⟩
  · repeat (first | with_reducible exact Turn.refl _ _ | with_reducible refine Turn.put ?_ (by simp) _ | with_reducible refine Turn.alloc ?_ _ | with_reducible refine Turn.drew ?_)
  · intro g hg
    obtain rfl : g = w.heap.size + 1 + 1 := by simpa using hg
    exact HX.out.1.else_ (by decide)

set_option maxHeartbeats 1000000 in
theorem should_reset (cap blk k safe c : Nat) (A B : Option Addr) (cb : Nat) (ss : List Value) (b : List UInt8) (done : Bool) (d n : Int) (w : World) (c2 : cap ≤ 4096) (h1 : 1 ≤ blk) (h2 : blk ≤ 4096) (hk : k ≤ cap) (hs : safe ≤ k) (hkc : k ≤ c) (hr : Mem 9 w A ss) (hd : d = 2) :
    Calls Try.prog 11 #[.agg #[.int .i64 (cap : Int), .int .i64 (blk : Int), .slice A k c, .int .i64 (safe : Int), .bool done], .agg #[.int .i64 d, .slice B b.length cb, .int .i64 n]] w (GaveS cap blk 0 false 0 [] 0 w) := by
  have HR := Lib.hid hr
  have hk12 : k ≤ 4096 := by omega
  have d0 : (d == 0) = false := by simp; omega
  have d1 : (d == 1) = false := by simp; omega
  have d2 : (d == 2) = true := by simp; omega
  clear hr hd
  go_enter Try.func11, Try.ntmps11
  go_wp2_with fail
  refine (rreset_any cap blk safe k c A done _).mono ?_
  rintro e w1 ⟨rfl, hb1⟩

  obtain ⟨b1, b2, b3, hbw⟩ := three_boxes hb1 (by simp)
  obtain ⟨⟨q0, q1, q2, q3, q4⟩, f0, f1, f2, f3, f4⟩ := box5 b3
  have HX := Lib.hid (And.intro b3 hbw)
  have hsz := b3.lt
  clear b1 b2 b3 hbw hb1
  go_wp2
  refine bodyPost_ret (v := .tuple #[.agg #[.int .i64 (cap : Int), .int .i64 (blk : Int), .slice none 0 0, .int .i64 0, .bool false], .int .i64 0]) (by simp [results, Try.results11, go_sem, *]) rfl ?_
  refine ⟨none, 0, rfl, Mem.turn (gs := [w.heap.size + 1 + 1]) (Mem.nil (w := w1)) ?_ ?_, (Nat.le_refl _), HX.out.2.trans (by repeat (first | with_reducible exact Below.refl _ _ | with_reducible refine Below.drew ?_ | with_reducible refine Below.alloc ?_ (by first | (simp; done) | (simp; omega)) _ | with_reducible refine Below.setCell ?_ (by first | (simp; done) | (simp; omega)) _))⟩
  · repeat (first | with_reducible exact Turn.refl _ _ | with_reducible refine Turn.put ?_ (by simp) _ | with_reducible refine Turn.alloc ?_ _ | with_reducible refine Turn.drew ?_)
  · intro g hg
    obtain rfl : g = w.heap.size + 1 + 1 := by simpa using hg
    exact HX.out.1.else_ (by decide)

set_option maxHeartbeats 1000000 in
theorem should_finish (cap blk k safe c : Nat) (A B : Option Addr) (cb : Nat) (ss : List Value) (b : List UInt8) (done : Bool) (d n : Int) (w : World) (c2 : cap ≤ 4096) (h1 : 1 ≤ blk) (h2 : blk ≤ 4096) (hk : k ≤ cap) (hs : safe ≤ k) (hkc : k ≤ c) (hr : Mem 9 w A ss) (hd : d = 3) :
    Calls Try.prog 11 #[.agg #[.int .i64 (cap : Int), .int .i64 (blk : Int), .slice A k c, .int .i64 (safe : Int), .bool done], .agg #[.int .i64 d, .slice B b.length cb, .int .i64 n]] w (GaveS cap blk k true k ss 0 w) := by
  have HR := Lib.hid hr
  have hk12 : k ≤ 4096 := by omega
  have d0 : (d == 0) = false := by simp; omega
  have d1 : (d == 1) = false := by simp; omega
  have d2 : (d == 2) = false := by simp; omega
  have d3 : (d == 3) = true := by simp; omega
  clear hr hd
  go_enter Try.func11, Try.ntmps11
  go_wp2_with fail
  refine (rfinish_any cap blk safe k c A done _).mono ?_
  rintro e w1 ⟨rfl, hb1⟩

  obtain ⟨b1, b2, b3, hbw⟩ := three_boxes hb1 (by simp)
  obtain ⟨⟨q0, q1, q2, q3, q4⟩, f0, f1, f2, f3, f4⟩ := box5 b3
  have HX := Lib.hid (And.intro b3 hbw)
  have hsz := b3.lt
  clear b1 b2 b3 hbw hb1
  go_wp2
  refine bodyPost_ret (v := .tuple #[.agg #[.int .i64 (cap : Int), .int .i64 (blk : Int), .slice A k c, .int .i64 (k : Nat), .bool true], .int .i64 0]) (by simp [results, Try.results11, go_sem, *]) rfl ?_
  refine ⟨A, c, rfl, Mem.turn (gs := [w.heap.size + 1 + 1]) (HR.out.later HX.out.2) ?_ ?_, hkc, HX.out.2.trans (by repeat (first | with_reducible exact Below.refl _ _ | with_reducible refine Below.drew ?_ | with_reducible refine Below.alloc ?_ (by first | (simp; done) | (simp; omega)) _ | with_reducible refine Below.setCell ?_ (by first | (simp; done) | (simp; omega)) _))⟩
  · repeat (first | with_reducible exact Turn.refl _ _ | with_reducible refine Turn.put ?_ (by simp) _ | with_reducible refine Turn.alloc ?_ _ | with_reducible refine Turn.drew ?_)
  · intro g hg
    obtain rfl : g = w.heap.size + 1 + 1 := by simpa using hg
    exact HX.out.1.else_ (by decide)

set_option maxHeartbeats 1000000 in
theorem should_crash (cap blk k safe c : Nat) (A B : Option Addr) (cb : Nat) (ss : List Value) (b : List UInt8) (done : Bool) (d n : Int) (w : World) (c2 : cap ≤ 4096) (h1 : 1 ≤ blk) (h2 : blk ≤ 4096) (hk : k ≤ cap) (hs : safe ≤ k) (hkc : k ≤ c) (hr : Mem 9 w A ss) (hd : d = 4) :
    Calls Try.prog 11 #[.agg #[.int .i64 (cap : Int), .int .i64 (blk : Int), .slice A k c, .int .i64 (safe : Int), .bool done], .agg #[.int .i64 d, .slice B b.length cb, .int .i64 n]] w (GaveS cap blk (safe + n.toNat % (k - safe + 1)) done (safe + n.toNat % (k - safe + 1)) (ss.take (safe + n.toNat % (k - safe + 1))) 0 w) := by
  have HR := Lib.hid hr
  have hk12 : k ≤ 4096 := by omega
  have d0 : (d == 0) = false := by simp; omega
  have d1 : (d == 1) = false := by simp; omega
  have d2 : (d == 2) = false := by simp; omega
  have d3 : (d == 3) = false := by simp; omega
  have d4 : (d == 4) = true := by simp; omega
  clear hr hd
  have HJC : Hid ((safe + n.toNat % (k - safe + 1)) ≤ c) := by
    show (safe + n.toNat % (k - safe + 1)) ≤ c
    have := Nat.mod_lt n.toNat (show 0 < k - safe + 1 by omega)
    omega
  generalize hJ : (safe + n.toNat % (k - safe + 1)) = j at HJC ⊢
  have HJ := Lib.hid hJ
  clear hJ
  go_enter Try.func11, Try.ntmps11
  go_wp2_with fail
  refine (rcrash_any cap blk k safe c A done n _ hk12 hs hkc).mono ?_
  rintro e w1 ⟨rfl, hb1⟩
  rw [HJ.out]
  obtain ⟨b1, b2, b3, hbw⟩ := three_boxes hb1 (by simp)
  obtain ⟨⟨q0, q1, q2, q3, q4⟩, f0, f1, f2, f3, f4⟩ := box5 b3
  have HX := Lib.hid (And.intro b3 hbw)
  have hsz := b3.lt
  clear b1 b2 b3 hbw hb1
  go_wp2
  refine bodyPost_ret (v := .tuple #[.agg #[.int .i64 (cap : Int), .int .i64 (blk : Int), .slice A j c, .int .i64 (j : Int), .bool done], .int .i64 0]) (by simp [results, Try.results11, go_sem, *]) rfl ?_
  refine ⟨A, c, rfl, Mem.turn (gs := [w.heap.size + 1 + 1]) ((HR.out.later HX.out.2).take _) ?_ ?_, HJC.out, HX.out.2.trans (by repeat (first | with_reducible exact Below.refl _ _ | with_reducible refine Below.drew ?_ | with_reducible refine Below.alloc ?_ (by first | (simp; done) | (simp; omega)) _ | with_reducible refine Below.setCell ?_ (by first | (simp; done) | (simp; omega)) _))⟩
  · repeat (first | with_reducible exact Turn.refl _ _ | with_reducible refine Turn.put ?_ (by simp) _ | with_reducible refine Turn.alloc ?_ _ | with_reducible refine Turn.drew ?_)
  · intro g hg
    obtain rfl : g = w.heap.size + 1 + 1 := by simpa using hg
    exact HX.out.1.else_ (by decide)

set_option maxHeartbeats 1000000 in
theorem should_none (cap blk k safe c : Nat) (A B : Option Addr) (cb : Nat) (ss : List Value) (b : List UInt8) (done : Bool) (d n : Int) (w : World) (c2 : cap ≤ 4096) (h1 : 1 ≤ blk) (h2 : blk ≤ 4096) (hk : k ≤ cap) (hs : safe ≤ k) (hkc : k ≤ c) (hr : Mem 9 w A ss) (hd : d ≠ 0 ∧ d ≠ 1 ∧ d ≠ 2 ∧ d ≠ 3 ∧ d ≠ 4) :
    Calls Try.prog 11 #[.agg #[.int .i64 (cap : Int), .int .i64 (blk : Int), .slice A k c, .int .i64 (safe : Int), .bool done], .agg #[.int .i64 d, .slice B b.length cb, .int .i64 n]] w (GaveS cap blk safe done k ss 0 w) := by
  have HR := Lib.hid hr
  have d0 : (d == 0) = false := by simp; omega
  have d1 : (d == 1) = false := by simp; omega
  have d2 : (d == 2) = false := by simp; omega
  have d3 : (d == 3) = false := by simp; omega
  have d4 : (d == 4) = false := by simp; omega
  clear hr hd
  go_enter Try.func11, Try.ntmps11
  go_wp2
  refine bodyPost_ret (v := .tuple #[.agg #[.int .i64 (cap : Int), .int .i64 (blk : Int), .slice A k c, .int .i64 (safe : Int), .bool done], .int .i64 0]) (by simp [results, Try.results11, go_sem, *]) rfl ?_
  exact ⟨A, c, rfl, HR.out.later (by repeat (first | with_reducible exact Below.refl _ _ | with_reducible refine Below.drew ?_ | with_reducible refine Below.alloc ?_ (by first | (simp; done) | (simp; omega)) _ | with_reducible refine Below.setCell ?_ (by first | (simp; done) | (simp; omega)) _)), hkc, (by repeat (first | with_reducible exact Below.refl _ _ | with_reducible refine Below.drew ?_ | with_reducible refine Below.alloc ?_ (by first | (simp; done) | (simp; omega)) _ | with_reducible refine Below.setCell ?_ (by first | (simp; done) | (simp; omega)) _))⟩

set_option maxHeartbeats 1000000 in
theorem should_app (cap blk k safe c : Nat) (A B : Option Addr) (cb : Nat) (ss : List Value) (b : List UInt8) (done : Bool) (d n : Int) (w : World) (c2 : cap ≤ 4096) (h1 : 1 ≤ blk) (h2 : blk ≤ 4096) (hk : k ≤ cap) (hs : safe ≤ k) (hkc : k ≤ c) (hr : Mem 9 w A ss) (hd : d = 0) (hm : b.length ≤ 140737488351232) (hcb : b.length ≤ cb) (hb : Rd w w.heap.size B b) (hkl : ss.length = k) (hs1 : ∀ u ∈ ss, u.oneCell' = true) (hE : appE cap blk k b.length done = 0) :
    Calls Try.prog 11 #[.agg #[.int .i64 (cap : Int), .int .i64 (blk : Int), .slice A k c, .int .i64 (safe : Int), .bool done], .agg #[.int .i64 d, .slice B b.length cb, .int .i64 n]] w (GaveS cap blk safe done (k + b.length / blk) (ss ++ (cuts blk b (b.length / blk)).map cS) 0 w) := by
  obtain ⟨_, hdn, _, hcap, hr0, hpos⟩ := app_fits (n := k * blk) h1 rfl hE
  subst hdn
  have HR := Lib.hid hr
  have HB := Lib.hid hb
  have HS := Lib.hid hs1
  have HP : Hid (b.length ≠ 0 ∧ b.length % blk = 0 ∧ k + b.length / blk ≤ cap) := ⟨by omega, hr0, hcap⟩
  have d0 : (d == 0) = true := by simp; omega
  clear hr hd hb hE hs1 hr0 hpos hcap
  generalize hQ : b.length / blk = q at HP ⊢
  have HQ := Lib.hid hQ
  clear hQ
  go_enter Try.func11, Try.ntmps11
  go_wp2_with fail
  refine (rappend_ok cap blk k c cb safe A B ss b _ h1 h2 c2 (by omega) hkl hm hcb HP.out.1 HP.out.2.1 (by rw [HQ.out]; exact HP.out.2.2) (HR.out.up3 _ _ _) HS.out (HB.out.up3 _ _ _)).mono ?_
  rintro e w1 ⟨A1, c1, rfl, hr1, hc1, hb1⟩
  rw [HQ.out] at hr1 hc1 ⊢
  obtain ⟨b1, b2, b3, hbw⟩ := three_boxes hb1 (by simp)
  obtain ⟨⟨q0, q1, q2, q3, q4⟩, f0, f1, f2, f3, f4⟩ := box5 b3
  have HX := Lib.hid (And.intro b3 hbw)
  have hsz := b3.lt
  have HM := Lib.hid (And.intro hr1 hc1)
  clear b1 b2 b3 hbw hb1 hr1 hc1
  go_wp2
  refine bodyPost_ret (v := .tuple #[.agg #[.int .i64 (cap : Int), .int .i64 (blk : Int), .slice A1 (k + q) c1, .int .i64 (safe : Int), .bool false], .int .i64 0]) (by simp [results, Try.results11, go_sem, *]) rfl ?_
  refine ⟨A1, c1, rfl, Mem.turn (gs := [w.heap.size + 1 + 1]) HM.out.1 ?_ ?_, HM.out.2, HX.out.2.trans (by repeat (first | with_reducible exact Below.refl _ _ | with_reducible refine Below.drew ?_ | with_reducible refine Below.alloc ?_ (by first | (simp; done) | (simp; omega)) _ | with_reducible refine Below.setCell ?_ (by first | (simp; done) | (simp; omega)) _))⟩
  · repeat (first | with_reducible exact Turn.refl _ _ | with_reducible refine Turn.put ?_ (by simp) _ | with_reducible refine Turn.alloc ?_ _ | with_reducible refine Turn.drew ?_)
  · intro g hg
    obtain rfl : g = w.heap.size + 1 + 1 := by simpa using hg
    exact HX.out.1.else_ (by decide)

set_option maxHeartbeats 1000000 in
theorem should_err (cap blk k safe c : Nat) (A B : Option Addr) (cb : Nat) (ss : List Value) (b : List UInt8) (done : Bool) (d n : Int) (w : World) (c2 : cap ≤ 4096) (h1 : 1 ≤ blk) (h2 : blk ≤ 4096) (hk : k ≤ cap) (hs : safe ≤ k) (hkc : k ≤ c) (hr : Mem 9 w A ss) (hd : d = 0) (hm : b.length ≤ 140737488351232) (hE : appE cap blk k b.length done ≠ 0) :
    Calls Try.prog 11 #[.agg #[.int .i64 (cap : Int), .int .i64 (blk : Int), .slice A k c, .int .i64 (safe : Int), .bool done], .agg #[.int .i64 d, .slice B b.length cb, .int .i64 n]] w (GaveS cap blk safe done k ss (appE cap blk k b.length done) w) := by
  have HR := Lib.hid hr
  have d0 : (d == 0) = true := by simp; omega
  generalize hG : appE cap blk k b.length done = E at hE ⊢
  have HG := Lib.hid hG
  have HN := Lib.hid hE
  clear hr hd hE hG
  go_enter Try.func11, Try.ntmps11
  go_wp2_with fail
  refine (rappend_err cap blk k c b.length cb safe A B done _ h1 h2 c2 (by omega) hm (by rw [HG.out]; exact HN.out)).mono ?_
  rintro e w1 ⟨rfl, hb1⟩
  rw [HG.out]
  obtain ⟨b1, b2, b3, hbw⟩ := three_boxes hb1 (by simp)
  obtain ⟨⟨q0, q1, q2, q3, q4⟩, f0, f1, f2, f3, f4⟩ := box5 b3
  have HX := Lib.hid (And.intro b3 hbw)
  have hsz := b3.lt
  clear b1 b2 b3 hbw hb1
  go_wp2
  refine bodyPost_ret (v := .tuple #[.agg #[.int .i64 (cap : Int), .int .i64 (blk : Int), .slice A k c, .int .i64 (safe : Int), .bool done], .int .i64 (E : Int)]) (by simp [results, Try.results11, go_sem, *]) rfl ?_
  refine ⟨A, c, rfl, Mem.turn (gs := [w.heap.size + 1 + 1]) (HR.out.later HX.out.2) ?_ ?_, hkc, HX.out.2.trans (by repeat (first | with_reducible exact Below.refl _ _ | with_reducible refine Below.drew ?_ | with_reducible refine Below.alloc ?_ (by first | (simp; done) | (simp; omega)) _ | with_reducible refine Below.setCell ?_ (by first | (simp; done) | (simp; omega)) _))⟩
  · repeat (first | with_reducible exact Turn.refl _ _ | with_reducible refine Turn.put ?_ (by simp) _ | with_reducible refine Turn.alloc ?_ _ | with_reducible refine Turn.drew ?_)
  · intro g hg
    obtain rfl : g = w.heap.size + 1 + 1 := by simpa using hg
    exact HX.out.1.else_ (by decide)
end Go.Proofs.Ytajkcodcoehbgaa
