/- The contract of conf.Get. -/
import Derived.Test.YtaceaemombnhkaaO
import Derived.Test.YtaceaemombnhkaaN
namespace Go.Proofs.Ytaceaemombnhkaa
set_option linter.unusedVariables false
set_option maxRecDepth 100000
set_option linter.unusedSimpArgs false
open Go.RowKit
open Go.RowKit (wrap64)

/-- A block of eleven cells: none is frozen. -/
theorem froz11 {w : World} {g : Nat} {t : TypeId} {cs : Array Value} (h : Box w g t cs) : (w.frozen? ⟨g, 0, none⟩ = false ∧ w.frozen? ⟨g, 1, none⟩ = false ∧ w.frozen? ⟨g, 2, none⟩ = false ∧ w.frozen? ⟨g, 3, none⟩ = false ∧ w.frozen? ⟨g, 4, none⟩ = false ∧ w.frozen? ⟨g, 5, none⟩ = false ∧ w.frozen? ⟨g, 6, none⟩ = false ∧ w.frozen? ⟨g, 7, none⟩ = false ∧ w.frozen? ⟨g, 8, none⟩ = false ∧ w.frozen? ⟨g, 9, none⟩ = false ∧ w.frozen? ⟨g, 10, none⟩ = false) :=
  ⟨h.frozen _, h.frozen _, h.frozen _, h.frozen _, h.frozen _, h.frozen _, h.frozen _, h.frozen _, h.frozen _, h.frozen _, h.frozen _⟩
theorem pts_at {w : World} {p q : Nat} (h : PtsAt w p q) (k : Nat) (hk : k < 11) : w.cell? ⟨q, k, none⟩ = some (.pointer (some ⟨p, k, none⟩)) := by
  match k, hk with
  | 0, _ => exact h.cell 0
  | 1, _ => exact h.cell 1
  | 2, _ => exact h.cell 2
  | 3, _ => exact h.cell 3
  | 4, _ => exact h.cell 4
  | 5, _ => exact h.cell 5
  | 6, _ => exact h.cell 6
  | 7, _ => exact h.cell 7
  | 8, _ => exact h.cell 8
  | 9, _ => exact h.cell 9
  | 10, _ => exact h.cell 10
  | k + 11, hk => omega
theorem Box.apart {w : World} {g h : Nat} {t u : TypeId} {a b : Array Value} (h1 : Box w g t a) (h2 : Box w h u b) (hne : t ≠ u) : g ≠ h := by
  rintro rfl
  have e := h1.symm.trans h2
  simp at e
  exact hne e.2
/-- Get's memory when k numbers were read. -/
structure GetSt (w wr : World) (p q : Nat) (l : List UInt8) (k : Nat) : Prop where
  rdr : RdrG wr p (w.heap.size + 2) (rS l k).1 (rS l k).2
  box : Box wr (w.heap.size + 1) 23 (nums l k).toArray
  pts : PtsAt wr (w.heap.size + 1) q
  res : Box wr w.heap.size 23 #[.int .i64 0, .int .i64 0, .int .i64 0, .int .i64 0, .int .i64 0, .int .i64 0, .int .i64 0, .int .i64 0, .int .i64 0, .int .i64 0, .int .i64 0]
  bel : Below w.heap.size w wr
  hp : w.heap.size + 2 ≤ p
theorem GetSt.turn {w wr w2 : World} {p q k : Nat} {l : List UInt8} (h : GetSt w wr p q l k) (hr : RdrG w2 p (w.heap.size + 2) (rS l (k + 1)).1 (rS l (k + 1)).2) (ht : Turn [p] wr w2) (hk : k < 11) :
    GetSt w (w2.setCell ⟨w.heap.size + 1, k, none⟩ (.int .i64 (rV l k))) p q l (k + 1) := by
  obtain ⟨A, c, hbp, _⟩ := h.rdr
  have hpq : q ≠ p := h.pts.apart hbp (by decide)
  have hqg : q ≠ w.heap.size + 1 := h.pts.apart h.box (by decide)
  have hp := h.hp
  have ht2 : Turn [p, w.heap.size + 1] wr (w2.setCell ⟨w.heap.size + 1, k, none⟩ (.int .i64 (rV l k))) := Turn.put ⟨ht.os, ht.tape, ht.output, ht.size, fun i hi hn => ht.block i hi (by simp at hn ⊢; exact hn.1)⟩ (by simp) _
  refine ⟨hr.put (by omega) (by omega) _, ?_, h.pts.turn ht2 (by simp; omega), h.res.turn ht2 (by simp; omega), h.bel.trans (ht2.below (by simp; omega) h.bel.size), h.hp⟩
  have hb := (h.box.turn ht (by simp; omega)).store k (.int .i64 (rV l k))
  rw [List.setIfInBounds_toArray, nums_set l k hk] at hb
  exact hb
/-- What Get hands back. -/
def GotC (w : World) (q : Cf × Int) (e : Ending) (w' : World) : Prop :=
  e = .returned (.tuple #[.agg #[.int .i64 q.1.id, .int .i64 q.1.m, .int .i64 q.1.u, .int .i64 q.1.b, .int .i64 q.1.cp, .int .i64 q.1.z, .int .i64 q.1.s, .int .i64 q.1.mt, .int .i64 q.1.o, .int .i64 q.1.a, .int .i64 q.1.l], .int .i64 q.2]) ∧ Below w.heap.size w w'
theorem two_boxes' (w : World) (t u : TypeId) (a b : Array Value) : Box ((w.alloc (.cells a t)).alloc (.cells b u)) w.heap.size t a ∧ Box ((w.alloc (.cells a t)).alloc (.cells b u)) (w.heap.size + 1) u b ∧ Below w.heap.size w ((w.alloc (.cells a t)).alloc (.cells b u)) ∧ ((w.alloc (.cells a t)).alloc (.cells b u)).heap.size = w.heap.size + 2 := by
  refine ⟨(Box.fresh w t a).later ((Below.refl _ _).alloc (Nat.le_refl _) (.cells b u)), ?_, ((Below.refl _ _).alloc (Nat.le_refl _) _).alloc (by simp) _, by simp⟩
  have h := Box.fresh (w.alloc (.cells a t)) u b
  simpa using h
set_option maxHeartbeats 4000000 in
theorem get_any (A : Option Addr) (cap : Nat) (l : List UInt8) (w : World) (hr : Rd w w.heap.size A l) (hl : l.length ≤ 10000) :
    Calls Try.prog 76 #[.slice A l.length cap] w (GotC w (getC l)) := by
  go_enter Try.func76, Try.ntmps76
  go_wp2_with fail
  have HA := Lib.hid (two_boxes' w 23 23 #[.int .i64 0, .int .i64 0, .int .i64 0, .int .i64 0, .int .i64 0, .int .i64 0, .int .i64 0, .int .i64 0, .int .i64 0, .int .i64 0, .int .i64 0] #[.int .i64 0, .int .i64 0, .int .i64 0, .int .i64 0, .int .i64 0, .int .i64 0, .int .i64 0, .int .i64 0, .int .i64 0, .int .i64 0, .int .i64 0])
  generalize ((w.alloc (.cells #[.int .i64 0, .int .i64 0, .int .i64 0, .int .i64 0, .int .i64 0, .int .i64 0, .int .i64 0, .int .i64 0, .int .i64 0, .int .i64 0, .int .i64 0] 23)).alloc (.cells #[.int .i64 0, .int .i64 0, .int .i64 0, .int .i64 0, .int .i64 0, .int .i64 0, .int .i64 0, .int .i64 0, .int .i64 0, .int .i64 0, .int .i64 0] 23)) = w0 at HA ⊢
  have hr0 : Rd w0 w0.heap.size A l := (hr.below HA.out.2.2.1).more HA.out.2.2.1.size
  refine (newG_any A cap l w0 hr0 (by omega)).mono ?_
  rintro e w1 ⟨rfl, hg, hsz, hb⟩
  have HB : Hid (RdrG w1 (w0.heap.size + 1) (w.heap.size + 2) l 0 ∧ Box w1 w.heap.size 23 #[.int .i64 0, .int .i64 0, .int .i64 0, .int .i64 0, .int .i64 0, .int .i64 0, .int .i64 0, .int .i64 0, .int .i64 0, .int .i64 0, .int .i64 0] ∧ Box w1 (w.heap.size + 1) 23 #[.int .i64 0, .int .i64 0, .int .i64 0, .int .i64 0, .int .i64 0, .int .i64 0, .int .i64 0, .int .i64 0, .int .i64 0, .int .i64 0, .int .i64 0] ∧ Below w.heap.size w w1 ∧ w.heap.size + 2 ≤ w0.heap.size + 1) := by
    rw [← HA.out.2.2.2]
    exact ⟨hg, HA.out.1.later hb, HA.out.2.1.later hb, HA.out.2.2.1.trans (hb.mono HA.out.2.2.1.size), by omega⟩
  generalize w0.heap.size + 1 = p at HB ⊢
  clear hg hsz hb HA hr0 hr
  go_wp2_with fail
  refine (numbers_any (w.heap.size + 1) w1).mono ?_
  rintro e w2 ⟨rfl, hq, hb⟩
  have HC : Hid (GetSt w w2 p w1.heap.size l 0) := ⟨HB.out.1.later hb, by rw [nums_none]; exact HB.out.2.2.1.later hb, hq, HB.out.2.1.later hb, HB.out.2.2.2.1.trans (hb.mono HB.out.2.2.2.1.size), HB.out.2.2.2.2⟩
  generalize w1.heap.size = q at HC ⊢
  clear hq hb HB
  go_wp2
  go_loopw [13] (fun i wr => ∃ k : Nat, k ≤ 11 ∧ i = .int .i64 k ∧ GetSt w wr p q l k) (fun i _ => 11 - (intOf i).toNat)
  case atStart => exact ⟨0, by omega, rfl, HC.out⟩
  case round =>
    clear HC
    obtain ⟨k, hk, rfl, hst⟩ := hrel
    have HS := Lib.hid hst
    clear hst
    by_cases hlt : k < 11
    · have h1 := pts_at HS.out.pts k hlt
      go_wp2_with fail
      refine (rIntG_any (rS l k).1 (rS l k).2 (-4611686018427387904) 4611686018427387904 p (w.heap.size + 2) wr HS.out.rdr).mono ?_
      rintro e w3 ⟨rfl, hg, ht⟩
      have HN := Lib.hid (HS.out.turn hg ht hlt)
      have hb3 := HS.out.box.turn ht (by have := HS.out.hp; simp; omega)
      obtain ⟨u, hu⟩ : ∃ u : Int, (if k < k then rV l k else 0) = u := ⟨_, rfl⟩
      have h2 : w3.cell? ⟨w.heap.size + 1, k, none⟩ = some (.int .i64 u) := by
        rw [hb3.cell, List.getElem?_toArray, nums_at l k k hlt, hu]
      have h3 : w3.frozen? ⟨w.heap.size + 1, k, none⟩ = false := hb3.frozen k
      clear hu hg ht hb3 HS h1
      have hv : (rI (rS l k).1 (rS l k).2 (-4611686018427387904) 4611686018427387904).1 = rV l k := rfl
      rw [hv]
      clear hv
      generalize rV l k = n at HN ⊢
      go_wp2
      go_roundw
      case rel => exact ⟨k + 1, by omega, by go_num, HN.out⟩
      case measure => simp [intOf]; omega
    · obtain rfl : k = 11 := by omega
      have HZ : Hid ((¬ (rS l 11).2 = 0 → getC l = (⟨0, 0, 0, 0, 0, 0, 0, 0, 0, 0, 0⟩, (rS l 11).2)) ∧ ((rS l 11).2 = 0 → 0 < (rS l 11).1.length → getC l = (⟨0, 0, 0, 0, 0, 0, 0, 0, 0, 0, 0⟩, 13)) ∧ ((rS l 11).2 = 0 → ¬ 0 < (rS l 11).1.length → getC l = (⟨rV l 0, rV l 1, rV l 2, rV l 3, rV l 4, rV l 5, rV l 6, rV l 7, rV l 8, rV l 9, rV l 10⟩, 0))) := by
        refine ⟨fun h => ?_, fun h h2 => ?_, fun h h2 => ?_⟩
        · unfold getC; rw [if_neg h]
        · unfold getC; rw [if_pos h, if_pos h2]
        · unfold getC; rw [if_pos h, if_neg h2]
      have HL := Lib.hid (rS_left l 11)
      go_wp2_with fail
      refine (err_any (rS l 11).1 (rS l 11).2 p wr HS.out.rdr.rdr).mono ?_
      rintro e w' ⟨rfl, rfl⟩
      obtain ⟨z0, z1, z2, z3, z4, z5, z6, z7, z8, z9, z10⟩ := box11 HS.out.res
      obtain ⟨f0, f1, f2, f3, f4, f5, f6, f7, f8, f9, f10⟩ := froz11 HS.out.res
      have hbx := HS.out.box
      rw [nums_all] at hbx
      have HR := Lib.hid (And.intro HS.out.rdr.rdr HS.out.bel)
      clear HS
      generalize rS l 11 = rs at HZ HL HR ⊢
      obtain ⟨lf, er⟩ := rs
      simp only at HZ HL HR ⊢
      by_cases he : er = 0
      · subst he
        have h1 := HL.out
        have HZ2 : Hid ((0 < lf.length → getC l = _) ∧ (lf.length = 0 → getC l = _)) := ⟨HZ.out.2.1 rfl, fun h => HZ.out.2.2 rfl (by omega)⟩
        clear HZ
        go_wp2_with fail
        refine (left_any lf 0 p wr HR.out.1).mono ?_
        rintro e w' ⟨rfl, rfl⟩
        by_cases hx : 0 < lf.length
        · have HW := Lib.hid (HZ2.out.1 hx)
          clear HZ2 hbx
          go_wp2
          refine bodyPost_ret (v := .tuple #[.agg #[.int .i64 0, .int .i64 0, .int .i64 0, .int .i64 0, .int .i64 0, .int .i64 0, .int .i64 0, .int .i64 0, .int .i64 0, .int .i64 0, .int .i64 0], .int .i64 13]) (by simp [results, Try.results76, go_sem, *]) rfl ⟨by rw [HW.out], HR.out.2.trans ?_⟩
          exact (by repeat (first | with_reducible exact Below.refl _ _ | with_reducible refine Below.drew ?_ | with_reducible refine Below.alloc ?_ (by first | (simp; done) | (simp; omega)) _ | with_reducible refine Below.setCell ?_ (by first | (simp; done) | (simp; omega)) _))
        · have HW := Lib.hid (HZ2.out.2 (by omega))
          obtain ⟨y0, y1, y2, y3, y4, y5, y6, y7, y8, y9, y10⟩ := box11 hbx
          clear HZ2 hbx
          generalize rV l 0 = n0 at HW y0
          generalize rV l 1 = n1 at HW y1
          generalize rV l 2 = n2 at HW y2
          generalize rV l 3 = n3 at HW y3
          generalize rV l 4 = n4 at HW y4
          generalize rV l 5 = n5 at HW y5
          generalize rV l 6 = n6 at HW y6
          generalize rV l 7 = n7 at HW y7
          generalize rV l 8 = n8 at HW y8
          generalize rV l 9 = n9 at HW y9
          generalize rV l 10 = n10 at HW y10
          go_wp2
          refine bodyPost_ret (v := .tuple #[.agg #[.int .i64 n0, .int .i64 n1, .int .i64 n2, .int .i64 n3, .int .i64 n4, .int .i64 n5, .int .i64 n6, .int .i64 n7, .int .i64 n8, .int .i64 n9, .int .i64 n10], .int .i64 0]) (by simp [results, Try.results76, go_sem, *]) rfl ⟨by rw [HW.out], HR.out.2.trans ?_⟩
          exact (by repeat (first | with_reducible exact Below.refl _ _ | with_reducible refine Below.drew ?_ | with_reducible refine Below.alloc ?_ (by first | (simp; done) | (simp; omega)) _ | with_reducible refine Below.setCell ?_ (by first | (simp; done) | (simp; omega)) _))
      · have he2 : (er == 0) = false := by simpa using he
        have HW := Lib.hid (HZ.out.1 he)
        clear HZ hbx he
        go_wp2
        refine bodyPost_ret (v := .tuple #[.agg #[.int .i64 0, .int .i64 0, .int .i64 0, .int .i64 0, .int .i64 0, .int .i64 0, .int .i64 0, .int .i64 0, .int .i64 0, .int .i64 0, .int .i64 0], .int .i64 er]) (by simp [results, Try.results76, go_sem, *]) rfl ⟨by rw [HW.out], HR.out.2.trans ?_⟩
        exact (by repeat (first | with_reducible exact Below.refl _ _ | with_reducible refine Below.drew ?_ | with_reducible refine Below.alloc ?_ (by first | (simp; done) | (simp; omega)) _ | with_reducible refine Below.setCell ?_ (by first | (simp; done) | (simp; omega)) _))
end Go.Proofs.Ytaceaemombnhkaa
