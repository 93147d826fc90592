/- Contract of the law's 'does'. -/
import Derived.Test.YtajkcodcoehbgaaL
namespace Go.Proofs.Ytajkcodcoehbgaa
set_option linter.unusedVariables false
set_option linter.unusedSimpArgs false
open Go.RowKit
open Go.RowKit (wrap64)

/-- Three blocks of the call's own, and what came behind them. -/
theorem three_boxes {w w1 : World} {a b c : Array Value} {t u v : TypeId} {B : Nat} (hb : Below B (((w.alloc (.cells a t)).alloc (.cells b u)).alloc (.cells c v)) w1) (hB : w.heap.size + 1 + 1 + 1 ≤ B) :
    Box w1 w.heap.size t a ∧ Box w1 (w.heap.size + 1) u b ∧ Box w1 (w.heap.size + 1 + 1) v c ∧ Below w.heap.size w w1 := by
  have hb2 : Below (w.heap.size + 1 + 1) ((w.alloc (.cells a t)).alloc (.cells b u)) w1 := ((Below.refl _ _).alloc (by simp) _).trans (hb.mono (by omega))
  obtain ⟨h1, h2, h3⟩ := two_boxes hb2 (Nat.le_refl _)
  refine ⟨h1, h2, ?_, h3⟩
  refine Box.under ?_ hb (by omega)
  have := Box.fresh ((w.alloc (.cells a t)).alloc (.cells b u)) v c
  simpa using this
theorem Mem.up3 {T : TypeId} {w : World} {A : Option Addr} {us : List Value} (h : Mem T w A us) (a b c : Obj) : Mem T (((w.alloc a).alloc b).alloc c) A us :=
  h.later ((((Below.refl _ _).alloc (Nat.le_refl _) _).alloc (by simp) _).alloc (by simp; omega) _)
theorem Rd.up3 {w : World} {A : Option Addr} {l : List UInt8} (h : Rd w w.heap.size A l) (a b c : Obj) : Rd (((w.alloc a).alloc b).alloc c) (((w.alloc a).alloc b).alloc c).heap.size A l :=
  h.later ((((Below.refl _ _).alloc (Nat.le_refl _) _).alloc (by simp) _).alloc (by simp; omega) _)

/-- A zone and an error are handed back. -/
def GaveE (cap blk safe : Nat) (done : Bool) (D : List UInt8) (E : Nat) (w : World) (e : Ending) (w' : World) : Prop :=
  ∃ A c, e = .returned (.tuple #[.agg #[.int .i64 (cap : Int), .int .i64 (blk : Int), .slice A D.length c, .int .i64 (safe : Int), .bool done], .int .i64 (E : Int)]) ∧ Mem 5 w' A (cBs D) ∧ D.length ≤ c ∧ Below w.heap.size w w'

set_option maxHeartbeats 1000000 in
theorem does_flush {cap blk k safe c : Nat} (A B : Option Addr) (cb : Nat) (D b : List UInt8) (done : Bool) (d n : Int) (w : World) (z : Zok cap blk k safe D.length c) (hr : Mem 5 w A (cBs D)) (hd : d = 1) :
    Calls Try.prog 10 #[.agg #[.int .i64 (cap : Int), .int .i64 (blk : Int), .slice A D.length c, .int .i64 (safe : Int), .bool done], .agg #[.int .i64 d, .slice B b.length cb, .int .i64 n]] w (GaveE cap blk k done D 0 w) := by
  have HZ := Lib.hid z
  have HR := Lib.hid hr
  have d0 : (d == 0) = false := by simp; omega
  have d1 : (d == 1) = true := by simp; omega
  clear z hr hd
  go_enter Try.func10, Try.ntmps10
  go_wp2_with fail
  refine (flush_any A D done _ HZ.out (HR.out.up3 _ _ _)).mono ?_
  rintro e w1 ⟨A1, c1, rfl, hr1, hc1, hb1⟩
  obtain ⟨b1, b2, b3, hbw⟩ := three_boxes hb1 (by simp)
  obtain ⟨⟨q0, q1, q2, q3, q4⟩, f0, f1, f2, f3, f4⟩ := box5 b3
  have HX := Lib.hid (And.intro b3 hbw)
  have hsz := b3.lt
  have HM := Lib.hid (And.intro hr1 hc1)
  clear b1 b2 b3 hbw hb1 hr1 hc1
  go_wp2
  refine bodyPost_ret (v := .tuple #[.agg #[.int .i64 (cap : Int), .int .i64 (blk : Int), .slice A1 D.length c1, .int .i64 (k : Nat), .bool done], .int .i64 0]) (by simp [results, Try.results10, go_sem, *]) rfl ?_
  refine ⟨A1, c1, rfl, HM.out.1.turn (gs := [w.heap.size + 1 + 1]) ?_ ?_, HM.out.2, HX.out.2.trans (by repeat (first | with_reducible exact Below.refl _ _ | with_reducible refine Below.drew ?_ | with_reducible refine Below.alloc ?_ (by first | (simp; done) | (simp; omega)) _ | with_reducible refine Below.setCell ?_ (by first | (simp; done) | (simp; omega)) _))⟩
  · repeat (first | with_reducible exact Turn.refl _ _ | with_reducible refine Turn.put ?_ (by simp) _ | with_reducible refine Turn.alloc ?_ _ | with_reducible refine Turn.drew ?_)
  · intro g hg
    obtain rfl : g = w.heap.size + 1 + 1 := by simpa using hg
    exact HX.out.1.else_ (by decide)

set_option maxHeartbeats 1000000 in
theorem does_reset {cap blk k safe c : Nat} (A B : Option Addr) (cb : Nat) (D b : List UInt8) (done : Bool) (d n : Int) (w : World) (z : Zok cap blk k safe D.length c) (hr : Mem 5 w A (cBs D)) (hd : d = 2) :
    Calls Try.prog 10 #[.agg #[.int .i64 (cap : Int), .int .i64 (blk : Int), .slice A D.length c, .int .i64 (safe : Int), .bool done], .agg #[.int .i64 d, .slice B b.length cb, .int .i64 n]] w (GaveE cap blk 0 false [] 0 w) := by
  have HZ := Lib.hid z
  have HR := Lib.hid hr
  have d0 : (d == 0) = false := by simp; omega
  have d1 : (d == 1) = false := by simp; omega
  have d2 : (d == 2) = true := by simp; omega
  clear z hr hd
  go_enter Try.func10, Try.ntmps10
  go_wp2_with fail
  refine (reset_any A done _ HZ.out).mono ?_
  rintro e w1 ⟨A1, c1, rfl, hr1, hc1, hb1⟩
  obtain ⟨b1, b2, b3, hbw⟩ := three_boxes hb1 (by simp)
  obtain ⟨⟨q0, q1, q2, q3, q4⟩, f0, f1, f2, f3, f4⟩ := box5 b3
  have HX := Lib.hid (And.intro b3 hbw)
  have hsz := b3.lt
  have HM := Lib.hid (And.intro hr1 hc1)
  clear b1 b2 b3 hbw hb1 hr1 hc1
  go_wp2
  refine bodyPost_ret (v := .tuple #[.agg #[.int .i64 (cap : Int), .int .i64 (blk : Int), .slice A1 0 c1, .int .i64 0, .bool false], .int .i64 0]) (by simp [results, Try.results10, go_sem, *]) rfl ?_
  refine ⟨A1, c1, rfl, HM.out.1.turn (gs := [w.heap.size + 1 + 1]) ?_ ?_, HM.out.2, HX.out.2.trans (by repeat (first | with_reducible exact Below.refl _ _ | with_reducible refine Below.drew ?_ | with_reducible refine Below.alloc ?_ (by first | (simp; done) | (simp; omega)) _ | with_reducible refine Below.setCell ?_ (by first | (simp; done) | (simp; omega)) _))⟩
  · repeat (first | with_reducible exact Turn.refl _ _ | with_reducible refine Turn.put ?_ (by simp) _ | with_reducible refine Turn.alloc ?_ _ | with_reducible refine Turn.drew ?_)
  · intro g hg
    obtain rfl : g = w.heap.size + 1 + 1 := by simpa using hg
    exact HX.out.1.else_ (by decide)

set_option maxHeartbeats 1000000 in
theorem does_finish {cap blk k safe c : Nat} (A B : Option Addr) (cb : Nat) (D b : List UInt8) (done : Bool) (d n : Int) (w : World) (z : Zok cap blk k safe D.length c) (hr : Mem 5 w A (cBs D)) (hd : d = 3) :
    Calls Try.prog 10 #[.agg #[.int .i64 (cap : Int), .int .i64 (blk : Int), .slice A D.length c, .int .i64 (safe : Int), .bool done], .agg #[.int .i64 d, .slice B b.length cb, .int .i64 n]] w (GaveE cap blk k true D 0 w) := by
  have HZ := Lib.hid z
  have HR := Lib.hid hr
  have d0 : (d == 0) = false := by simp; omega
  have d1 : (d == 1) = false := by simp; omega
  have d2 : (d == 2) = false := by simp; omega
  have d3 : (d == 3) = true := by simp; omega
  clear z hr hd
  go_enter Try.func10, Try.ntmps10
  go_wp2_with fail
  refine (finish_any A D done _ HZ.out (HR.out.up3 _ _ _)).mono ?_
  rintro e w1 ⟨A1, c1, rfl, hr1, hc1, hb1⟩
  obtain ⟨b1, b2, b3, hbw⟩ := three_boxes hb1 (by simp)
  obtain ⟨⟨q0, q1, q2, q3, q4⟩, f0, f1, f2, f3, f4⟩ := box5 b3
  have HX := Lib.hid (And.intro b3 hbw)
  have hsz := b3.lt
  have HM := Lib.hid (And.intro hr1 hc1)
  clear b1 b2 b3 hbw hb1 hr1 hc1
  go_wp2
  refine bodyPost_ret (v := .tuple #[.agg #[.int .i64 (cap : Int), .int .i64 (blk : Int), .slice A1 D.length c1, .int .i64 (k : Nat), .bool true], .int .i64 0]) (by simp [results, Try.results10, go_sem, *]) rfl ?_
  refine ⟨A1, c1, rfl, HM.out.1.turn (gs := [w.heap.size + 1 + 1]) ?_ ?_, HM.out.2, HX.out.2.trans (by repeat (first | with_reducible exact Below.refl _ _ | with_reducible refine Below.drew ?_ | with_reducible refine Below.alloc ?_ (by first | (simp; done) | (simp; omega)) _ | with_reducible refine Below.setCell ?_ (by first | (simp; done) | (simp; omega)) _))⟩
  · repeat (first | with_reducible exact Turn.refl _ _ | with_reducible refine Turn.put ?_ (by simp) _ | with_reducible refine Turn.alloc ?_ _ | with_reducible refine Turn.drew ?_)
  · intro g hg
    obtain rfl : g = w.heap.size + 1 + 1 := by simpa using hg
    exact HX.out.1.else_ (by decide)

set_option maxHeartbeats 1000000 in
theorem does_crash {cap blk k safe c : Nat} (A B : Option Addr) (cb : Nat) (D b : List UInt8) (done : Bool) (d n : Int) (w : World) (z : Zok cap blk k safe D.length c) (hr : Mem 5 w A (cBs D)) (hd : d = 4) :
    Calls Try.prog 10 #[.agg #[.int .i64 (cap : Int), .int .i64 (blk : Int), .slice A D.length c, .int .i64 (safe : Int), .bool done], .agg #[.int .i64 d, .slice B b.length cb, .int .i64 n]] w (GaveE cap blk (safe + n.toNat % (k - safe + 1)) done (D.take ((safe + n.toNat % (k - safe + 1)) * blk)) 0 w) := by
  have HZ := Lib.hid z
  have HR := Lib.hid hr
  have d0 : (d == 0) = false := by simp; omega
  have d1 : (d == 1) = false := by simp; omega
  have d2 : (d == 2) = false := by simp; omega
  have d3 : (d == 3) = false := by simp; omega
  have d4 : (d == 4) = true := by simp; omega
  clear z hr hd
  generalize hL : (D.take ((safe + n.toNat % (k - safe + 1)) * blk)) = L
  have HL := Lib.hid hL
  clear hL
  go_enter Try.func10, Try.ntmps10
  go_wp2_with fail
  refine (crash_any A D done n _ HZ.out (HR.out.up3 _ _ _)).mono ?_
  rintro e w1 ⟨A1, c1, rfl, hr1, hc1, hb1⟩
  rw [HL.out] at hr1 hc1 ⊢
  obtain ⟨b1, b2, b3, hbw⟩ := three_boxes hb1 (by simp)
  obtain ⟨⟨q0, q1, q2, q3, q4⟩, f0, f1, f2, f3, f4⟩ := box5 b3
  have HX := Lib.hid (And.intro b3 hbw)
  have hsz := b3.lt
  have HM := Lib.hid (And.intro hr1 hc1)
  clear b1 b2 b3 hbw hb1 hr1 hc1
  go_wp2
  refine bodyPost_ret (v := .tuple #[.agg #[.int .i64 (cap : Int), .int .i64 (blk : Int), .slice A1 L.length c1, .int .i64 ((safe + n.toNat % (k - safe + 1)) : Nat), .bool done], .int .i64 0]) (by simp [results, Try.results10, go_sem, *]) rfl ?_
  refine ⟨A1, c1, rfl, HM.out.1.turn (gs := [w.heap.size + 1 + 1]) ?_ ?_, HM.out.2, HX.out.2.trans (by repeat (first | with_reducible exact Below.refl _ _ | with_reducible refine Below.drew ?_ | with_reducible refine Below.alloc ?_ (by first | (simp; done) | (simp; omega)) _ | with_reducible refine Below.setCell ?_ (by first | (simp; done) | (simp; omega)) _))⟩
  · repeat (first | with_reducible exact Turn.refl _ _ | with_reducible refine Turn.put ?_ (by simp) _ | with_reducible refine Turn.alloc ?_ _ | with_reducible refine Turn.drew ?_)
  · intro g hg
    obtain rfl : g = w.heap.size + 1 + 1 := by simpa using hg
    exact HX.out.1.else_ (by decide)

set_option maxHeartbeats 1000000 in
theorem does_none {cap blk k safe c : Nat} (A B : Option Addr) (cb : Nat) (D b : List UInt8) (done : Bool) (d n : Int) (w : World) (z : Zok cap blk k safe D.length c) (hr : Mem 5 w A (cBs D)) (hd : d ≠ 0 ∧ d ≠ 1 ∧ d ≠ 2 ∧ d ≠ 3 ∧ d ≠ 4) :
    Calls Try.prog 10 #[.agg #[.int .i64 (cap : Int), .int .i64 (blk : Int), .slice A D.length c, .int .i64 (safe : Int), .bool done], .agg #[.int .i64 d, .slice B b.length cb, .int .i64 n]] w (GaveE cap blk safe done D 0 w) := by
  have HZ := Lib.hid z
  have HR := Lib.hid hr
  have d0 : (d == 0) = false := by simp; omega
  have d1 : (d == 1) = false := by simp; omega
  have d2 : (d == 2) = false := by simp; omega
  have d3 : (d == 3) = false := by simp; omega
  have d4 : (d == 4) = false := by simp; omega
  clear z hr hd
  go_enter Try.func10, Try.ntmps10
  go_wp2
  refine bodyPost_ret (v := .tuple #[.agg #[.int .i64 (cap : Int), .int .i64 (blk : Int), .slice A D.length c, .int .i64 (safe : Int), .bool done], .int .i64 0]) (by simp [results, Try.results10, go_sem, *]) rfl ?_
  exact ⟨A, c, rfl, HR.out.later (by repeat (first | with_reducible exact Below.refl _ _ | with_reducible refine Below.drew ?_ | with_reducible refine Below.alloc ?_ (by first | (simp; done) | (simp; omega)) _ | with_reducible refine Below.setCell ?_ (by first | (simp; done) | (simp; omega)) _)), HZ.out.hcn, (by repeat (first | with_reducible exact Below.refl _ _ | with_reducible refine Below.drew ?_ | with_reducible refine Below.alloc ?_ (by first | (simp; done) | (simp; omega)) _ | with_reducible refine Below.setCell ?_ (by first | (simp; done) | (simp; omega)) _))⟩

set_option maxHeartbeats 1000000 in
theorem does_app {cap blk k safe c : Nat} (A B : Option Addr) (cb : Nat) (D b : List UInt8) (done : Bool) (d n : Int) (w : World) (z : Zok cap blk k safe D.length c) (hr : Mem 5 w A (cBs D)) (hd : d = 0) (hm : b.length ≤ maxLen) (hb : Rd w w.heap.size B b) (hE : appE cap blk k b.length done = 0) :
    Calls Try.prog 10 #[.agg #[.int .i64 (cap : Int), .int .i64 (blk : Int), .slice A D.length c, .int .i64 (safe : Int), .bool done], .agg #[.int .i64 d, .slice B b.length cb, .int .i64 n]] w (GaveE cap blk safe done (D ++ b) 0 w) := by
  have HZ := Lib.hid z
  have HR := Lib.hid hr
  have HB := Lib.hid hb
  have HE := Lib.hid hE
  have HL := Lib.hid hm
  have d0 : (d == 0) = true := by simp; omega
  clear z hr hd hb hE hm
  generalize hG : D ++ b = L
  have HG := Lib.hid hG
  clear hG
  go_enter Try.func10, Try.ntmps10
  go_wp2_with fail
  refine (append_ok A B cb D b done _ HZ.out HL.out (HR.out.up3 _ _ _) (HB.out.up3 _ _ _) HE.out).mono ?_
  rintro e w1 ⟨A1, c1, rfl, hr1, hc1, hb1⟩
  rw [HG.out] at hr1 hc1 ⊢
  obtain ⟨b1, b2, b3, hbw⟩ := three_boxes hb1 (by simp)
  obtain ⟨⟨q0, q1, q2, q3, q4⟩, f0, f1, f2, f3, f4⟩ := box5 b3
  have HX := Lib.hid (And.intro b3 hbw)
  have hsz := b3.lt
  have HM := Lib.hid (And.intro hr1 hc1)
  clear b1 b2 b3 hbw hb1 hr1 hc1
  go_wp2_with fail
  refine (code_any 0 _).mono ?_
  rintro e w2 ⟨rfl, rfl⟩
  go_wp2
  refine bodyPost_ret (v := .tuple #[.agg #[.int .i64 (cap : Int), .int .i64 (blk : Int), .slice A1 L.length c1, .int .i64 (safe : Int), .bool done], .int .i64 0]) (by simp [results, Try.results10, go_sem, *]) rfl ?_
  refine ⟨A1, c1, rfl, HM.out.1.turn (gs := [w.heap.size + 1 + 1]) ?_ ?_, HM.out.2, HX.out.2.trans (by repeat (first | with_reducible exact Below.refl _ _ | with_reducible refine Below.drew ?_ | with_reducible refine Below.alloc ?_ (by first | (simp; done) | (simp; omega)) _ | with_reducible refine Below.setCell ?_ (by first | (simp; done) | (simp; omega)) _))⟩
  · repeat (first | with_reducible exact Turn.refl _ _ | with_reducible refine Turn.put ?_ (by simp) _ | with_reducible refine Turn.alloc ?_ _ | with_reducible refine Turn.drew ?_)
  · intro g hg
    obtain rfl : g = w.heap.size + 1 + 1 := by simpa using hg
    exact HX.out.1.else_ (by decide)

set_option maxHeartbeats 1000000 in
theorem does_err {cap blk k safe c : Nat} (A B : Option Addr) (cb : Nat) (D b : List UInt8) (done : Bool) (d n : Int) (w : World) (z : Zok cap blk k safe D.length c) (hr : Mem 5 w A (cBs D)) (hd : d = 0) (hm : b.length ≤ maxLen) (hE : appE cap blk k b.length done ≠ 0) :
    Calls Try.prog 10 #[.agg #[.int .i64 (cap : Int), .int .i64 (blk : Int), .slice A D.length c, .int .i64 (safe : Int), .bool done], .agg #[.int .i64 d, .slice B b.length cb, .int .i64 n]] w (GaveE cap blk safe done D (appE cap blk k b.length done) w) := by
  have HZ := Lib.hid z
  have HR := Lib.hid hr
  have HL := Lib.hid hm
  have d0 : (d == 0) = true := by simp; omega
  generalize hG : appE cap blk k b.length done = E at hE ⊢
  have HG := Lib.hid hG
  have HN := Lib.hid hE
  have hne : ((E : Int) != 0) = true := by simp; exact hE
  clear z hr hd hE hm hG
  go_enter Try.func10, Try.ntmps10
  go_wp2_with fail
  refine (append_err A B cb D b done _ HZ.out HL.out (by rw [HG.out]; exact HN.out)).mono ?_
  rintro e w1 ⟨rfl, hb1⟩
  rw [HG.out]
  obtain ⟨b1, b2, b3, hbw⟩ := three_boxes hb1 (by simp)
  obtain ⟨⟨q0, q1, q2, q3, q4⟩, f0, f1, f2, f3, f4⟩ := box5 b1
  have HX := Lib.hid (And.intro b3 (And.intro hbw b1))
  have hsz := b3.lt
  clear b1 b2 b3 hbw hb1
  go_wp2_with fail
  refine (code_any E _).mono ?_
  rintro e w2 ⟨rfl, rfl⟩
  go_wp2_with fail
  refine wpB_start (w.heap.size + 1 + 1) (by kernel_rfl) ?_
  have B1 : Box (w1.alloc (.cells #[.int .i64 0, .int .i64 0, .slice none 0 0, .int .i64 0, .bool false] 27)).drew w.heap.size 27 _ := HX.out.2.2.later ((Below.refl _ _).alloc (Nat.le_refl _) _).drew
  have B3 : Hid (Box (w1.alloc (.cells #[.int .i64 0, .int .i64 0, .slice none 0 0, .int .i64 0, .bool false] 27)).drew (w.heap.size + 1 + 1) 27 _) := HX.out.1.later ((Below.refl _ _).alloc (Nat.le_refl _) _).drew
  have BB : Hid (Below w.heap.size w (w1.alloc (.cells #[.int .i64 0, .int .i64 0, .slice none 0 0, .int .i64 0, .bool false] 27)).drew) := (HX.out.2.1.alloc HX.out.2.1.size _).drew
  clear HX q0 q1 q2 q3 q4 f0 f1 f2 f3 f4 hsz
  generalize (w1.alloc (.cells #[.int .i64 0, .int .i64 0, .slice none 0 0, .int .i64 0, .bool false] 27)).drew = w0 at B1 B3 BB ⊢
  have q0 : ∀ w', Below (w.heap.size + 1 + 1) w0 w' → w'.cell? ⟨w.heap.size, 0, none⟩ = some (.int .i64 (cap : Int)) := fun w' h => (box5 (B1.under h (by omega))).1.1
  have q1 : ∀ w', Below (w.heap.size + 1 + 1) w0 w' → w'.cell? ⟨w.heap.size, 1, none⟩ = some (.int .i64 (blk : Int)) := fun w' h => (box5 (B1.under h (by omega))).1.2.1
  have q2 : ∀ w', Below (w.heap.size + 1 + 1) w0 w' → w'.cell? ⟨w.heap.size, 2, none⟩ = some (.slice A D.length c) := fun w' h => (box5 (B1.under h (by omega))).1.2.2.1
  have q3 : ∀ w', Below (w.heap.size + 1 + 1) w0 w' → w'.cell? ⟨w.heap.size, 3, none⟩ = some (.int .i64 (safe : Int)) := fun w' h => (box5 (B1.under h (by omega))).1.2.2.2.1
  have q4 : ∀ w', Below (w.heap.size + 1 + 1) w0 w' → w'.cell? ⟨w.heap.size, 4, none⟩ = some (.bool done) := fun w' h => (box5 (B1.under h (by omega))).1.2.2.2.2
  clear B1
  obtain ⟨⟨p0, p1, p2, p3, p4⟩, g0, g1, g2, g3, g4⟩ := box5 B3.out
  refine wpB_take (i := 0) (d := 22) (v := ?v5x0) rfl rfl (by kernel_rfl) (by kernel_rfl) (by kernel_rfl) (fun _ _ _ h => h) (by rfl) ?y5x0 ?r5x0
  case y5x0 => (intro w' hSw; go_simp; try (with_reducible rfl))
  simp only [Act.put, List.setIfInBounds_toArray, List.set_cons_zero, List.set_cons_succ]
  refine wpB_take (i := 1) (d := 23) (v := ?v5x1) rfl rfl (by kernel_rfl) (by kernel_rfl) (by kernel_rfl) (fun _ _ _ h => h) (by rfl) ?y5x1 ?r5x1
  case y5x1 => (intro w' hSw; go_simp; try (with_reducible rfl))
  simp only [Act.put, List.setIfInBounds_toArray, List.set_cons_zero, List.set_cons_succ]
  refine wpB_do (i := 2) (by kernel_rfl) rfl (by rfl) (fun K hK => ?_)
  go_simp
  refine (code_any E w0).mono ?_
  rintro e w2 ⟨rfl, rfl⟩
  refine hK.out _ _ _ (Nat.le_refl _) (Below.refl _ _) ?_
  clear hK K
  refine wpB_do (i := 3) (by kernel_rfl) rfl (by rfl) (fun K hK => ?_)
  go_simp
  refine hK.out _ _ _ (Nat.le_refl _) (by repeat (first | with_reducible exact Below.refl _ _ | with_reducible refine Below.drew ?_ | with_reducible refine Below.alloc ?_ (by first | (simp; done) | (simp; omega)) _ | with_reducible refine Below.setCell ?_ (by first | (simp; done) | (simp; omega)) _)) ?_
  clear hK K q0 q1 q2 q3 q4
  refine wpB_take (i := 4) (d := 5) (v := ?v5x4) rfl rfl (by kernel_rfl) (by kernel_rfl) (by kernel_rfl) (fun _ _ _ h => h) (by rfl) ?y5x4 ?r5x4
  case y5x4 => (intro w' hSw; go_simp; try (with_reducible rfl))
  simp only [Act.put, List.setIfInBounds_toArray, List.set_cons_zero, List.set_cons_succ]
  refine wpB_done (by kernel_rfl) ?_
  go_wp2
  refine bodyPost_ret (v := .tuple #[.agg #[.int .i64 (cap : Int), .int .i64 (blk : Int), .slice A D.length c, .int .i64 (safe : Int), .bool done], .int .i64 (E : Int)]) (by simp [results, Try.results10, go_sem, *]) rfl ?_
  refine ⟨A, c, rfl, (HR.out.later BB.out).turn (gs := [w.heap.size + 1 + 1]) ?_ ?_, HZ.out.hcn, BB.out.trans (by repeat (first | with_reducible exact Below.refl _ _ | with_reducible refine Below.drew ?_ | with_reducible refine Below.alloc ?_ (by first | (simp; done) | (simp; omega)) _ | with_reducible refine Below.setCell ?_ (by first | (simp; done) | (simp; omega)) _))⟩
  · repeat (first | with_reducible exact Turn.refl _ _ | with_reducible refine Turn.put ?_ (by simp) _ | with_reducible refine Turn.alloc ?_ _ | with_reducible refine Turn.drew ?_)
  · intro g hg
    obtain rfl : g = w.heap.size + 1 + 1 := by simpa using hg
    exact B3.out.else_ (by decide)
end Go.Proofs.Ytajkcodcoehbgaa
