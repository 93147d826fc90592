/- The contract of a member's Append. -/
import Derived.Test.YtbaolfncolfipaaN
namespace Go.Proofs.Ytbaolfncolfipaa
set_option linter.unusedVariables false
set_option linter.unusedSimpArgs false
open Go.RowKit
open Go.RowKit (wrap64)

theorem box1 {w : World} {g : Nat} {t : TypeId} {a : Value} (h : Box w g t #[a]) : w.cell? ⟨g, 0, none⟩ = some a ∧ w.frozen? ⟨g, 0, none⟩ = false := ⟨h.cell 0, h.frozen 0⟩
theorem Turn.mono {gs hs : List Nat} {a w : World} (h : Turn gs a w) (hg : ∀ g ∈ gs, g ∈ hs) : Turn hs a w := ⟨h.os, h.tape, h.output, h.size, fun k hk hn => h.block k hk (fun hm => hn (hg k hm))⟩
theorem DevAt.lt {w : World} {p zb cap blk : Nat} {limit : Int} {bad : Nat} {zs : List Zs} (h : DevAt w p zb cap blk limit bad zs) : p < w.heap.size ∧ zb < w.heap.size := ⟨Box.lt h.bp, h.bz.lt⟩
/-- What is left to do behind a panic hangs on the result's variable alone. -/
theorem leaves_put {P : Program} {fn : Func} {R : Ending → World → Prop} {t t' : Array Value} (h : results fn t = results fn t') : ∀ (ds : List Deferred) (u : FrameMode) (w : World), Leaves P fn t R ds u w → Leaves P fn t' R ds u w
  | [], .returning, w, hl => by
    obtain ⟨v, h1, h2⟩ := hl
    exact ⟨v, by rw [← h]; exact h1, h2⟩
  | [], .panicking _, _, hl => hl
  | [], .run, _, hl => hl
  | d :: ds, u, w, hl => by
    obtain ⟨h1, fv, cap, f, args, h2, h3, h4⟩ := hl
    refine ⟨h1, fv, cap, f, args, h2, h3, h4.mono fun e u' w' hx => ?_⟩
    cases e with
    | returned v => exact leaves_put h ds _ _ hx
    | panicked c => exact leaves_put h ds _ _ hx
    | outgrown => exact hx
theorem panic_put {P : Program} {fn : Func} {R : Ending → World → Prop} {s d : Nat} {t : TypeId} {v : Value} (hr : fn.results = #[.cell s t]) (hd : d ≠ s) (c : List PanicEntry) (a : Act) (w : World)
    (h : bodyPostD P fn R (.panic c) (a.put (some d) v) w) : bodyPostD P fn R (.panic c) a w := by
  have e : results fn (a.tmps.setIfInBounds d v) = results fn a.tmps := by
    unfold results
    rw [hr]
    simp [Array.getElem?_setIfInBounds, hd]
  exact leaves_put e _ _ _ h
/-- What a member's call with an error leaves: one call more is counted. -/
def ErrD (p zb cap blk : Nat) (limit : Int) (bad : Nat) (zs : List Zs) (x : Int) (w : World) (e : Ending) (w' : World) : Prop := e = .returned (.int .i64 x) ∧ DevAt w' p zb cap blk limit (bad + 1) zs ∧ Turn [p, zb] w w'
theorem counted_turn {w W : World} {p zb cap blk : Nat} {limit : Int} {bad : Nat} {zs : List Zs} (h : DevAt w p zb cap blk limit bad zs) (hb : Below w.heap.size w W) :
    DevAt (W.setCell ⟨p, 2, none⟩ (.int .i64 ((bad + 1 : Nat) : Int))) p zb cap blk limit (bad + 1) zs ∧ Turn [p, zb] w (W.setCell ⟨p, 2, none⟩ (.int .i64 ((bad + 1 : Nat) : Int))) :=
  ⟨(h.later hb).count, (Turn.of_below hb (Nat.le_refl _)).put (by simp) _⟩

set_option maxHeartbeats 1000000 in
theorem append_range {p zb cap blk : Nat} {limit : Int} {bad : Nat} {zs : List Zs} (z : Int) (B : Value) (w : World) (h : DevAt w p zb cap blk limit bad zs) (hbad : bad ≤ 1000000) (hz : z < 0 ∨ (zs.length : Int) ≤ z) :
    Calls Try.prog 28 #[.pointer (some ⟨p, 0, none⟩), .int .i64 z, B] w (ErrD p zb cap blk limit bad zs 2 w) := by
  have HE : Hid (reachE false zs.length z = 2) := by
    show reachE false zs.length z = 2
    simp [reachE, hz]
  clear hz
  have hmf : ∀ (fn : Fn) (first cap : Array Value) (w : World), (Instr.makeFunc fn first cap).run Try.prog w = .ok (.func fn first cap) w := fun _ _ _ _ => rfl
  have H := Lib.hid h
  have hp := h.lt.1
  have hzl := h.lt.2
  have hne := h.ne
  have hp1 : ¬ p = w.heap.size + 1 := by omega
  have hp2 : ¬ p = w.heap.size := by omega
  have hp3 : ¬ w.heap.size + 1 = p := by omega
  have hp4 : ¬ w.heap.size = p := by omega
  clear h
  go_enter_defers Try.func28, Try.ntmps28
  go_wp2_with fail
  refine (reach_dev (lost := false) z _ (H.out.later (((Below.refl _ _).alloc (Nat.le_refl _) _).alloc (by simp) _)).bp).mono ?_
  rintro e w1 ⟨rfl, hw⟩
  rw [show reachE false zs.length z = 2 from HE.out]
  have HS : Hid (Box w1 w.heap.size 55 #[.pointer (some ⟨p, 0, none⟩)] ∧ Box w1 (w.heap.size + 1) 26 #[.int .i64 0] ∧ Below w.heap.size w w1) := by
    have h2 := two_boxes (w := w) (t := 55) (u := 26) (Below.refl (w.heap.size + 1 + 1) ((w.alloc (.cells #[.pointer (some ⟨p, 0, none⟩)] 55)).alloc (.cells #[.int .i64 0] 26))) (Nat.le_refl _)
    rw [hw] at h2
    exact h2
  clear hw
  have hs1 := HS.out.2.1.lt
  obtain ⟨g0, fg0⟩ := box1 HS.out.1
  obtain ⟨e0, fe0⟩ := box1 HS.out.2.1
  go_wp2
  refine leaves_cons (f := 46) (args := #[.pointer (some ⟨w.heap.size, 0, none⟩), .pointer (some ⟨w.heap.size + 1, 0, none⟩)]) (by simp) (by simp [go_sem]) ?_
  refine (d22_some w.heap.size (w.heap.size + 1) 2 .returning _ (by simp [go_sem, *]) (by simp [go_sem, *]) (H.out.later (HS.out.2.2.trans (by repeat (first | with_reducible exact Below.refl _ _ | with_reducible refine Below.drew ?_ | with_reducible refine Below.alloc ?_ (by first | (simp; done) | (simp; omega)) _ | with_reducible refine Below.setCell ?_ (by first | (simp; done) | (simp; omega)) _)))).bp hbad (by decide)).mono ?_
  rintro e u' w' ⟨rfl, rfl, rfl⟩
  simp only [settle]
  refine ⟨.int .i64 2, by simp [results, Try.results28, go_sem, *], rfl, counted_turn H.out (HS.out.2.2.trans (by repeat (first | with_reducible exact Below.refl _ _ | with_reducible refine Below.drew ?_ | with_reducible refine Below.alloc ?_ (by first | (simp; done) | (simp; omega)) _ | with_reducible refine Below.setCell ?_ (by first | (simp; done) | (simp; omega)) _)))⟩

set_option maxHeartbeats 1000000 in
theorem append_zone {p zb cap blk : Nat} {limit : Int} {bad : Nat} {zs : List Zs} (i : Nat) (hi : i < zs.length) (B : Option Addr) (cb : Nat) (b : List UInt8) (w : World) (h : DevAt w p zb cap blk limit bad zs) (hbad : bad ≤ 1000000) (hm : b.length ≤ maxLen) (hE : appE cap blk zs[i].k b.length zs[i].done ≠ 0) :
    Calls Try.prog 28 #[.pointer (some ⟨p, 0, none⟩), .int .i64 (i : Int), .slice B b.length cb] w (ErrD p zb cap blk limit bad zs (appE cap blk zs[i].k b.length zs[i].done : Nat) w) := by
  have HE : Hid (reachE false zs.length (i : Int) = 0) := by
    show reachE false zs.length (i : Int) = 0
    simp [reachE]; omega
  have HO := Lib.hid (h.ok zs[i] (List.getElem_mem hi))
  have HM := Lib.hid hm
  clear hm
  have HC : Hid (counted (appE cap blk zs[i].k b.length zs[i].done : Nat) = true) := by
    show counted (appE cap blk zs[i].k b.length zs[i].done : Nat) = true
    unfold appE at hE ⊢
    split
    · rfl
    · split
      · rfl
      · rename_i h1 h2
        rw [if_neg h1, if_neg h2] at hE
        exact absurd rfl hE
  have HE3 := Lib.hid (fun w1 => append_err zs[i].A B cb zs[i].D b zs[i].done w1 HO.out HM.out hE)
  generalize hG : appE cap blk zs[i].k b.length zs[i].done = E at HE3 HC hE ⊢
  have hEne : ((E : Int) != 0) = true := by simp; exact hE
  clear hG hE
  have hmf : ∀ (fn : Fn) (first cap : Array Value) (w : World), (Instr.makeFunc fn first cap).run Try.prog w = .ok (.func fn first cap) w := fun _ _ _ _ => rfl
  have H := Lib.hid h
  have hp := h.lt.1
  have hzl := h.lt.2
  have hne := h.ne
  have hp1 : ¬ p = w.heap.size + 1 := by omega
  have hp2 : ¬ p = w.heap.size := by omega
  have hp3 : ¬ w.heap.size + 1 = p := by omega
  have hp4 : ¬ w.heap.size = p := by omega
  clear h
  go_enter_defers Try.func28, Try.ntmps28
  go_wp2_with fail
  refine (reach_dev (lost := false) (i : Int) _ (H.out.later (((Below.refl _ _).alloc (Nat.le_refl _) _).alloc (by simp) _)).bp).mono ?_
  rintro e w1 ⟨rfl, hw⟩
  rw [show reachE false zs.length (i : Int) = 0 from HE.out]
  have HS : Hid (Box w1 w.heap.size 55 #[.pointer (some ⟨p, 0, none⟩)] ∧ Box w1 (w.heap.size + 1) 26 #[.int .i64 0] ∧ Below w.heap.size w w1) := by
    have h2 := two_boxes (w := w) (t := 55) (u := 26) (Below.refl (w.heap.size + 1 + 1) ((w.alloc (.cells #[.pointer (some ⟨p, 0, none⟩)] 55)).alloc (.cells #[.int .i64 0] 26))) (Nat.le_refl _)
    rw [hw] at h2
    exact h2
  clear hw
  have hs1 := HS.out.2.1.lt
  obtain ⟨g0, fg0⟩ := box1 HS.out.1
  obtain ⟨e0, fe0⟩ := box1 HS.out.2.1
  have s0 := setCell_self HS.out.2.1 (i := 0) (u := .int .i64 0) rfl
  have HD1 := Lib.hid (H.out.later HS.out.2.2)
  obtain ⟨⟨q0, q1, q2, q3⟩, f0, f1, f2, f3⟩ := box4 HD1.out.bp
  obtain ⟨⟨z0, z1, z2, z3, z4⟩, y0, y1, y2, y3, y4⟩ := HD1.out.zone hi

  go_wp2_with fail
  refine (HE3.out w1).mono ?_
  rintro e w2 ⟨rfl, hb2⟩
  have HT := Lib.hid (And.intro (HS.out.1.later hb2) (And.intro (HS.out.2.1.later hb2) (HS.out.2.2.trans (hb2.mono HS.out.2.2.size))))
  clear s0 HD1 q0 q1 q2 q3 f0 f1 f2 f3 z0 z1 z2 z3 z4 y0 y1 y2 y3 y4 g0 fg0 e0 fe0 hb2 HE3 hs1 HS
  have hs2 := HT.out.2.1.lt
  have hs3 := HT.out.1.lt
  obtain ⟨g0, fg0⟩ := box1 HT.out.1
  obtain ⟨e0, fe0⟩ := box1 HT.out.2.1
  go_wp2
  refine leaves_cons (f := 46) (args := #[.pointer (some ⟨w.heap.size, 0, none⟩), .pointer (some ⟨w.heap.size + 1, 0, none⟩)]) (by simp) (by simp [go_sem]) ?_
  refine (d22_some w.heap.size (w.heap.size + 1) (E : Int) .returning _ (by simp [go_sem, *]) (by simp [go_sem, *]) (H.out.later (HT.out.2.2.trans (by repeat (first | with_reducible exact Below.refl _ _ | with_reducible refine Below.drew ?_ | with_reducible refine Below.alloc ?_ (by first | (simp; done) | (simp; omega)) _ | with_reducible refine Below.setCell ?_ (by first | (simp; done) | (simp; omega)) _)))).bp hbad HC.out).mono ?_
  rintro e u' w' ⟨rfl, rfl, rfl⟩
  simp only [settle]
  refine ⟨.int .i64 (E : Int), by simp [results, Try.results28, go_sem, *], rfl, counted_turn H.out (HT.out.2.2.trans (by repeat (first | with_reducible exact Below.refl _ _ | with_reducible refine Below.drew ?_ | with_reducible refine Below.alloc ?_ (by first | (simp; done) | (simp; omega)) _ | with_reducible refine Below.setCell ?_ (by first | (simp; done) | (simp; omega)) _)))⟩

/-- What a member's call without an error leaves: its i-th zone is another one. -/
def PutD (p zb cap blk : Nat) (limit : Int) (bad : Nat) (zs : List Zs) (i k safe : Nat) (done : Bool) (D : List UInt8) (w : World) (e : Ending) (w' : World) : Prop :=
  ∃ A c, e = .returned (.int .i64 0) ∧ DevAt w' p zb cap blk limit bad (zs.set i ⟨k, safe, done, D, A, c⟩) ∧ Turn [p, zb] w w'
theorem app_ok {cap blk k safe n c m l c2 : Nat} {done : Bool} (z : Zok cap blk k safe n c) (hE : appE cap blk k m done = 0) (hl : n + m = l) (hc : l ≤ c2) : Zok cap blk (k + m / blk) safe l c2 := by
  have h := app_fits z.h1 z.hk hE
  have h2 := mul_fits z.c2 z.h2
  subst hl
  exact ⟨z.c1, z.c2, z.h1, z.h2, h.2.2.1, h.2.2.2.1, by omega, hc, Nat.le_trans z.hs (Nat.le_add_right _ _)⟩

set_option maxHeartbeats 1000000 in
theorem append_many {p zb cap blk : Nat} {limit : Int} {bad : Nat} {zs : List Zs} (i : Nat) (hi : i < zs.length) (B : Option Addr) (cb : Nat) (b : List UInt8) (w : World) (h : DevAt w p zb cap blk limit bad zs) (hbad : bad ≤ 1000000) (hm : b.length ≤ maxLen) (hr : Rd w w.heap.size B b) (hE : appE cap blk zs[i].k b.length zs[i].done = 0) (ht : tooB cap limit zs (zs[i].k + b.length / blk) zs[i].done zs[i] = true) :
    Calls Try.prog 28 #[.pointer (some ⟨p, 0, none⟩), .int .i64 (i : Int), .slice B b.length cb] w (ErrD p zb cap blk limit bad zs 8 w) := by
  have HE : Hid (reachE false zs.length (i : Int) = 0) := by
    show reachE false zs.length (i : Int) = 0
    simp [reachE]; omega
  have HO := Lib.hid (h.ok zs[i] (List.getElem_mem hi))
  have HM := Lib.hid hm
  clear hm
  have HE3 := Lib.hid (fun (w1 : World) (hr : Mem 5 w1 zs[i].A (cBs zs[i].D)) (hb : Rd w1 w1.heap.size B b) => append_ok zs[i].A B cb zs[i].D b zs[i].done w1 HO.out HM.out hr hb hE)
  have HR := Lib.hid hr
  have HME := Lib.hid (h.mem zs[i] (List.getElem_mem hi))
  have HN := Lib.hid (fun l c2 => app_ok (l := l) (c2 := c2) HO.out hE)
  generalize hL : zs[i].D ++ b = L at HE3 ⊢
  have HLL : Hid (zs[i].D.length + b.length = L.length) := by
    show zs[i].D.length + b.length = L.length
    rw [← hL, List.length_append]
  have HT0 := Lib.hid ht
  generalize hK : zs[i].k + b.length / blk = nk at HN HT0 ⊢
  clear hE hr ht hL hK
  have hmf : ∀ (fn : Fn) (first cap : Array Value) (w : World), (Instr.makeFunc fn first cap).run Try.prog w = .ok (.func fn first cap) w := fun _ _ _ _ => rfl
  have H := Lib.hid h
  have hp := h.lt.1
  have hzl := h.lt.2
  have hne := h.ne
  have hp1 : ¬ p = w.heap.size + 1 := by omega
  have hp2 : ¬ p = w.heap.size := by omega
  have hp3 : ¬ w.heap.size + 1 = p := by omega
  have hp4 : ¬ w.heap.size = p := by omega
  clear h
  go_enter_defers Try.func28, Try.ntmps28
  go_wp2_with fail
  refine (reach_dev (lost := false) (i : Int) _ (H.out.later (((Below.refl _ _).alloc (Nat.le_refl _) _).alloc (by simp) _)).bp).mono ?_
  rintro e w1 ⟨rfl, hw⟩
  rw [show reachE false zs.length (i : Int) = 0 from HE.out]
  have HS : Hid (Box w1 w.heap.size 55 #[.pointer (some ⟨p, 0, none⟩)] ∧ Box w1 (w.heap.size + 1) 26 #[.int .i64 0] ∧ Below w.heap.size w w1) := by
    have h2 := two_boxes (w := w) (t := 55) (u := 26) (Below.refl (w.heap.size + 1 + 1) ((w.alloc (.cells #[.pointer (some ⟨p, 0, none⟩)] 55)).alloc (.cells #[.int .i64 0] 26))) (Nat.le_refl _)
    rw [hw] at h2
    exact h2
  clear hw
  have hs1 := HS.out.2.1.lt
  obtain ⟨g0, fg0⟩ := box1 HS.out.1
  obtain ⟨e0, fe0⟩ := box1 HS.out.2.1
  have s0 := setCell_self HS.out.2.1 (i := 0) (u := .int .i64 0) rfl
  have HD1 := Lib.hid (H.out.later HS.out.2.2)
  obtain ⟨⟨q0, q1, q2, q3⟩, f0, f1, f2, f3⟩ := box4 HD1.out.bp
  obtain ⟨⟨z0, z1, z2, z3, z4⟩, y0, y1, y2, y3, y4⟩ := HD1.out.zone hi
  have RB : Hid (Rd w1 w1.heap.size B b) := HR.out.later HS.out.2.2
  go_wp2_with fail
  refine (HE3.out w1 (HME.out.later HS.out.2.2) RB.out).mono ?_
  rintro e w2 ⟨A2, c2, rfl, hm2, hc2, hb2⟩
  have HT := Lib.hid (And.intro (HS.out.1.later hb2) (And.intro (HS.out.2.1.later hb2) (And.intro (HS.out.2.2.trans (hb2.mono HS.out.2.2.size)) (And.intro hm2 (HN.out _ c2 HLL.out hc2)))))
  clear s0 HD1 q0 q1 q2 q3 f0 f1 f2 f3 z0 z1 z2 z3 z4 y0 y1 y2 y3 y4 g0 fg0 e0 fe0 hb2 hm2 hc2 HE3 hs1 HS RB HR HME HN HLL
  have hs2 := HT.out.2.1.lt
  have hs3 := HT.out.1.lt
  obtain ⟨g0, fg0⟩ := box1 HT.out.1
  obtain ⟨e0, fe0⟩ := box1 HT.out.2.1
  have s0 := setCell_self HT.out.2.1 (i := 0) (u := .int .i64 0) rfl
  go_wp2_with fail
  refine (tooMany_dev i hi nk zs[i].safe L.length c2 A2 zs[i].done _ (H.out.later (HT.out.2.2.1.alloc HT.out.2.2.1.size _)) HT.out.2.2.2.2).mono ?_
  rintro e w3 ⟨rfl, hb3⟩
  rw [show tooB cap limit zs nk zs[i].done zs[i] = true from HT0.out]
  have hb4 := below_of_alloc hb3 (by simp)
  have HU := Lib.hid (And.intro (HT.out.1.later hb4) (And.intro (HT.out.2.1.later hb4) (And.intro (HT.out.2.2.1.trans (hb4.mono HT.out.2.2.1.size)) (And.intro (HT.out.2.2.2.1.later hb4) (And.intro HT.out.2.2.2.2 (one_box hb3 (by simp)).1)))))
  clear s0 g0 fg0 e0 fe0 hb3 hb4 HT0
  have ht1 := HU.out.2.1.lt
  have ht2 := HU.out.1.lt
  clear HT
  obtain ⟨g0, fg0⟩ := box1 HU.out.1
  obtain ⟨e0, fe0⟩ := box1 HU.out.2.1
  go_wp2
  refine leaves_cons (f := 46) (args := #[.pointer (some ⟨w.heap.size, 0, none⟩), .pointer (some ⟨w.heap.size + 1, 0, none⟩)]) (by simp) (by simp [go_sem]) ?_
  refine (d22_some w.heap.size (w.heap.size + 1) 8 .returning _ (by simp [go_sem, *]) (by simp [go_sem, *]) (H.out.later (HU.out.2.2.1.trans (by repeat (first | with_reducible exact Below.refl _ _ | with_reducible refine Below.drew ?_ | with_reducible refine Below.alloc ?_ (by first | (simp; done) | (simp; omega)) _ | with_reducible refine Below.setCell ?_ (by first | (simp; done) | (simp; omega)) _)))).bp hbad (by decide)).mono ?_
  rintro e u' w' ⟨rfl, rfl, rfl⟩
  simp only [settle]
  refine ⟨.int .i64 8, by simp [results, Try.results28, go_sem, *], rfl, counted_turn H.out (HU.out.2.2.1.trans (by repeat (first | with_reducible exact Below.refl _ _ | with_reducible refine Below.drew ?_ | with_reducible refine Below.alloc ?_ (by first | (simp; done) | (simp; omega)) _ | with_reducible refine Below.setCell ?_ (by first | (simp; done) | (simp; omega)) _)))⟩

set_option maxHeartbeats 2000000 in
theorem append_fits {p zb cap blk : Nat} {limit : Int} {bad : Nat} {zs : List Zs} (i : Nat) (hi : i < zs.length) (B : Option Addr) (cb : Nat) (b : List UInt8) (w : World) (h : DevAt w p zb cap blk limit bad zs) (hm : b.length ≤ maxLen) (hr : Rd w w.heap.size B b) (hE : appE cap blk zs[i].k b.length zs[i].done = 0) (ht : tooB cap limit zs (zs[i].k + b.length / blk) zs[i].done zs[i] = false) :
    Calls Try.prog 28 #[.pointer (some ⟨p, 0, none⟩), .int .i64 (i : Int), .slice B b.length cb] w (PutD p zb cap blk limit bad zs i (zs[i].k + b.length / blk) zs[i].safe zs[i].done (zs[i].D ++ b) w) := by
  have HE : Hid (reachE false zs.length (i : Int) = 0) := by
    show reachE false zs.length (i : Int) = 0
    simp [reachE]; omega
  have HO := Lib.hid (h.ok zs[i] (List.getElem_mem hi))
  have HM := Lib.hid hm
  clear hm
  have HE3 := Lib.hid (fun (w1 : World) (hr : Mem 5 w1 zs[i].A (cBs zs[i].D)) (hb : Rd w1 w1.heap.size B b) => append_ok zs[i].A B cb zs[i].D b zs[i].done w1 HO.out HM.out hr hb hE)
  have HR := Lib.hid hr
  have HME := Lib.hid (h.mem zs[i] (List.getElem_mem hi))
  have HN := Lib.hid (fun l c2 => app_ok (l := l) (c2 := c2) HO.out hE)
  generalize hL : zs[i].D ++ b = L at HE3 ⊢
  have HLL : Hid (zs[i].D.length + b.length = L.length) := by
    show zs[i].D.length + b.length = L.length
    rw [← hL, List.length_append]
  have HT0 := Lib.hid ht
  generalize hK : zs[i].k + b.length / blk = nk at HN HT0 ⊢
  clear hE hr ht hL hK
  have hmf : ∀ (fn : Fn) (first cap : Array Value) (w : World), (Instr.makeFunc fn first cap).run Try.prog w = .ok (.func fn first cap) w := fun _ _ _ _ => rfl
  have H := Lib.hid h
  have hp := h.lt.1
  have hzl := h.lt.2
  have hne := h.ne
  have hp1 : ¬ p = w.heap.size + 1 := by omega
  have hp2 : ¬ p = w.heap.size := by omega
  have hp3 : ¬ w.heap.size + 1 = p := by omega
  have hp4 : ¬ w.heap.size = p := by omega
  clear h
  go_enter_defers Try.func28, Try.ntmps28
  go_wp2_with fail
  refine (reach_dev (lost := false) (i : Int) _ (H.out.later (((Below.refl _ _).alloc (Nat.le_refl _) _).alloc (by simp) _)).bp).mono ?_
  rintro e w1 ⟨rfl, hw⟩
  rw [show reachE false zs.length (i : Int) = 0 from HE.out]
  have HS : Hid (Box w1 w.heap.size 55 #[.pointer (some ⟨p, 0, none⟩)] ∧ Box w1 (w.heap.size + 1) 26 #[.int .i64 0] ∧ Below w.heap.size w w1) := by
    have h2 := two_boxes (w := w) (t := 55) (u := 26) (Below.refl (w.heap.size + 1 + 1) ((w.alloc (.cells #[.pointer (some ⟨p, 0, none⟩)] 55)).alloc (.cells #[.int .i64 0] 26))) (Nat.le_refl _)
    rw [hw] at h2
    exact h2
  clear hw
  have hs1 := HS.out.2.1.lt
  obtain ⟨g0, fg0⟩ := box1 HS.out.1
  obtain ⟨e0, fe0⟩ := box1 HS.out.2.1
  have s0 := setCell_self HS.out.2.1 (i := 0) (u := .int .i64 0) rfl
  have HD1 := Lib.hid (H.out.later HS.out.2.2)
  obtain ⟨⟨q0, q1, q2, q3⟩, f0, f1, f2, f3⟩ := box4 HD1.out.bp
  obtain ⟨⟨z0, z1, z2, z3, z4⟩, y0, y1, y2, y3, y4⟩ := HD1.out.zone hi
  have RB : Hid (Rd w1 w1.heap.size B b) := HR.out.later HS.out.2.2
  go_wp2_with fail
  refine (HE3.out w1 (HME.out.later HS.out.2.2) RB.out).mono ?_
  rintro e w2 ⟨A2, c2, rfl, hm2, hc2, hb2⟩
  have HT := Lib.hid (And.intro (HS.out.1.later hb2) (And.intro (HS.out.2.1.later hb2) (And.intro (HS.out.2.2.trans (hb2.mono HS.out.2.2.size)) (And.intro hm2 (HN.out _ c2 HLL.out hc2)))))
  clear s0 HD1 q0 q1 q2 q3 f0 f1 f2 f3 z0 z1 z2 z3 z4 y0 y1 y2 y3 y4 g0 fg0 e0 fe0 hb2 hm2 hc2 HE3 hs1 HS RB HR HME HN HLL
  have hs2 := HT.out.2.1.lt
  have hs3 := HT.out.1.lt
  obtain ⟨g0, fg0⟩ := box1 HT.out.1
  obtain ⟨e0, fe0⟩ := box1 HT.out.2.1
  have s0 := setCell_self HT.out.2.1 (i := 0) (u := .int .i64 0) rfl
  go_wp2_with fail
  refine (tooMany_dev i hi nk zs[i].safe L.length c2 A2 zs[i].done _ (H.out.later (HT.out.2.2.1.alloc HT.out.2.2.1.size _)) HT.out.2.2.2.2).mono ?_
  rintro e w3 ⟨rfl, hb3⟩
  rw [show tooB cap limit zs nk zs[i].done zs[i] = false from HT0.out]
  have hb4 := below_of_alloc hb3 (by simp)
  have HU := Lib.hid (And.intro (HT.out.1.later hb4) (And.intro (HT.out.2.1.later hb4) (And.intro (HT.out.2.2.1.trans (hb4.mono HT.out.2.2.1.size)) (And.intro (HT.out.2.2.2.1.later hb4) (And.intro HT.out.2.2.2.2 (one_box hb3 (by simp)).1)))))
  clear s0 g0 fg0 e0 fe0 hb3 hb4 HT0
  have ht1 := HU.out.2.1.lt
  have ht2 := HU.out.1.lt
  have ht3 : w.heap.size ≤ w2.heap.size := HT.out.2.2.1.size
  clear HT
  go_wp2_with fail
  refine wpG_start [zb] (by kernel_rfl) ?_
  have HV : Hid (Box w3.drew w.heap.size 55 #[.pointer (some ⟨p, 0, none⟩)] ∧ Box w3.drew (w.heap.size + 1) 26 #[.int .i64 0] ∧ Below w.heap.size w w3.drew ∧ Mem 5 w3.drew A2 (cBs L) ∧ Zok cap blk nk zs[i].safe L.length c2 ∧ Box w3.drew w2.heap.size 74 #[.int .i64 (cap : Int), .int .i64 (blk : Int), .slice A2 L.length c2, .int .i64 (zs[i].safe : Int), .bool zs[i].done] ∧ DevAt w3.drew p zb cap blk limit bad zs) :=
    ⟨HU.out.1, HU.out.2.1, HU.out.2.2.1.drew, HU.out.2.2.2.1.later (Below.refl _ _).drew, HU.out.2.2.2.2.1, HU.out.2.2.2.2.2, (H.out.later HU.out.2.2.1).drew⟩
  have ht4 : w.heap.size + 1 < w3.drew.heap.size := HV.out.2.1.lt
  generalize w3.drew = w4 at HV ht4 ⊢
  clear HU ht1 ht2
  have g0 : ∀ w', Turn [zb] w4 w' → w'.cell? ⟨w.heap.size, 0, none⟩ = some (.pointer (some ⟨p, 0, none⟩)) := fun w' h => (box1 (HV.out.1.turn h (by simp; omega))).1
  have p0 : ∀ w', Turn [zb] w4 w' → w'.cell? ⟨p, 0, none⟩ = some (.slice (some ⟨zb, 0, none⟩) zs.length zs.length) := fun w' h => (box4 (Box.turn HV.out.2.2.2.2.2.2.bp h (by simpa using hne))).1.1
  have n0 : ∀ w', Turn [zb] w4 w' → w'.cell? ⟨w2.heap.size, 0, none⟩ = some (.int .i64 (cap : Int)) := fun w' h => (box5 (HV.out.2.2.2.2.2.1.turn h (by simp; omega))).1.1
  have n1 : ∀ w', Turn [zb] w4 w' → w'.cell? ⟨w2.heap.size, 1, none⟩ = some (.int .i64 (blk : Int)) := fun w' h => (box5 (HV.out.2.2.2.2.2.1.turn h (by simp; omega))).1.2.1
  have n2 : ∀ w', Turn [zb] w4 w' → w'.cell? ⟨w2.heap.size, 2, none⟩ = some (.slice A2 L.length c2) := fun w' h => (box5 (HV.out.2.2.2.2.2.1.turn h (by simp; omega))).1.2.2.1
  have n3 : ∀ w', Turn [zb] w4 w' → w'.cell? ⟨w2.heap.size, 3, none⟩ = some (.int .i64 (zs[i].safe : Int)) := fun w' h => (box5 (HV.out.2.2.2.2.2.1.turn h (by simp; omega))).1.2.2.2.1
  have n4 : ∀ w', Turn [zb] w4 w' → w'.cell? ⟨w2.heap.size, 4, none⟩ = some (.bool zs[i].done) := fun w' h => (box5 (HV.out.2.2.2.2.2.1.turn h (by simp; omega))).1.2.2.2.2
  refine wpG_take (i := 0) (d := 34) (v := ?v10x0) rfl rfl (by kernel_rfl) (by kernel_rfl) (by kernel_rfl) (fun c a w h => panic_put Try.results28 (by decide) c a w h) (by rfl) ?y10x0 ?r10x0
  case y10x0 => (intro w' hSw; go_simp; try (with_reducible rfl))
  simp only [Act.put, List.setIfInBounds_toArray, List.set_cons_zero, List.set_cons_succ]
  refine wpG_take (i := 1) (d := 35) (v := ?v10x1) rfl rfl (by kernel_rfl) (by kernel_rfl) (by kernel_rfl) (fun c a w h => panic_put Try.results28 (by decide) c a w h) (by rfl) ?y10x1 ?r10x1
  case y10x1 => (intro w' hSw; go_simp; try (with_reducible rfl))
  simp only [Act.put, List.setIfInBounds_toArray, List.set_cons_zero, List.set_cons_succ]
  refine wpG_take (i := 2) (d := 36) (v := ?v10x2) rfl rfl (by kernel_rfl) (by kernel_rfl) (by kernel_rfl) (fun c a w h => panic_put Try.results28 (by decide) c a w h) (by rfl) ?y10x2 ?r10x2
  case y10x2 => (intro w' hSw; go_simp; try (with_reducible rfl))
  simp only [Act.put, List.setIfInBounds_toArray, List.set_cons_zero, List.set_cons_succ]
  refine wpG_take (i := 3) (d := 37) (v := ?v10x3) rfl rfl (by kernel_rfl) (by kernel_rfl) (by kernel_rfl) (fun c a w h => panic_put Try.results28 (by decide) c a w h) (by rfl) ?y10x3 ?r10x3
  case y10x3 => (intro w' hSw; go_simp; try (with_reducible rfl))
  simp only [Act.put, List.setIfInBounds_toArray, List.set_cons_zero, List.set_cons_succ]
  refine wpG_take (i := 4) (d := 38) (v := ?v10x4) rfl rfl (by kernel_rfl) (by kernel_rfl) (by kernel_rfl) (fun c a w h => panic_put Try.results28 (by decide) c a w h) (by rfl) ?y10x4 ?r10x4
  case y10x4 => (intro w' hSw; go_simp; try (with_reducible rfl))
  simp only [Act.put, List.setIfInBounds_toArray, List.set_cons_zero, List.set_cons_succ]
  refine wpG_take (i := 5) (d := 39) (v := ?v10x5) rfl rfl (by kernel_rfl) (by kernel_rfl) (by kernel_rfl) (fun c a w h => panic_put Try.results28 (by decide) c a w h) (by rfl) ?y10x5 ?r10x5
  case y10x5 => (intro w' hSw; go_simp; try (with_reducible rfl))
  simp only [Act.put, List.setIfInBounds_toArray, List.set_cons_zero, List.set_cons_succ]
  refine wpG_take (i := 6) (d := 40) (v := ?v10x6) rfl rfl (by kernel_rfl) (by kernel_rfl) (by kernel_rfl) (fun c a w h => panic_put Try.results28 (by decide) c a w h) (by rfl) ?y10x6 ?r10x6
  case y10x6 => (intro w' hSw; go_simp; try (with_reducible rfl))
  simp only [Act.put, List.setIfInBounds_toArray, List.set_cons_zero, List.set_cons_succ]
  obtain ⟨⟨z0, z1, z2, z3, z4⟩, y0, y1, y2, y3, y4⟩ := HV.out.2.2.2.2.2.2.zone hi
  refine wpG_do (i := 7) (by kernel_rfl) rfl (by rfl) (fun K hK => ?_)
  go_simp
  have hput := HV.out.2.2.2.2.2.2.put hi ⟨nk, zs[i].safe, zs[i].done, L, A2, c2⟩ HV.out.2.2.2.2.1 HV.out.2.2.2.1
  simp only at hput
  refine hK.out _ _ hput.2 ?_
  generalize (((((w4.setCell ⟨zb, i * 5, none⟩ (.int .i64 (cap : Int))).setCell ⟨zb, i * 5 + 1, none⟩ (.int .i64 (blk : Int))).setCell ⟨zb, i * 5 + 2, none⟩ (.slice A2 L.length c2)).setCell ⟨zb, i * 5 + 3, none⟩ (.int .i64 (zs[i].safe : Int))).setCell ⟨zb, i * 5 + 4, none⟩ (.bool zs[i].done)) = w5 at hput ⊢
  have HW := Lib.hid (And.intro (HV.out.1.turn hput.2 (by simp; omega)) (And.intro (HV.out.2.1.turn hput.2 (by simp; omega)) (And.intro hput.1 hput.2)))
  clear hK K hput g0 p0 n0 n1 n2 n3 n4 z0 z1 z2 z3 z4 y0 y1 y2 y3 y4
  refine wpG_done (by kernel_rfl) ?_
  obtain ⟨g0, fg0⟩ := box1 HW.out.1
  obtain ⟨e0, fe0⟩ := box1 HW.out.2.1
  have s0 := setCell_self HW.out.2.1 (i := 0) (u := .int .i64 0) rfl
  go_wp2
  refine leaves_cons (f := 46) (args := #[.pointer (some ⟨w.heap.size, 0, none⟩), .pointer (some ⟨w.heap.size + 1, 0, none⟩)]) (by simp) (by simp [go_sem]) ?_
  refine (d22_none w.heap.size (w.heap.size + 1) (some ⟨p, 0, none⟩) 0 .returning _ g0 e0 (by decide)).mono ?_
  rintro e u' w' ⟨rfl, rfl, rfl⟩
  simp only [settle]
  refine ⟨.int .i64 0, by simp [results, Try.results28, go_sem, *], A2, c2, rfl, HW.out.2.2.1, ?_⟩
  exact (Turn.of_below HV.out.2.2.1 (Nat.le_refl _)).trans (HW.out.2.2.2.mono (by simp))
end Go.Proofs.Ytbaolfncolfipaa
