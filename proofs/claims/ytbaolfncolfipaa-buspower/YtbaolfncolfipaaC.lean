/- Contracts of zone.settled, Append, Read, Flush, Reset, Finish, Crash, Look, Active. -/
import Derived.Test.YtbaolfncolfipaaB
namespace Go.Proofs.Ytbaolfncolfipaa
set_option linter.unusedVariables false
open Go.RowKit
open Go.RowKit (wrap64)

/-- What is known of a block of five cells. -/
theorem box5 {w : World} {g : Nat} {t : TypeId} {a b c d e : Value} (h : Box w g t #[a, b, c, d, e]) :
    (w.cell? ⟨g, 0, none⟩ = some a ∧ w.cell? ⟨g, 1, none⟩ = some b ∧ w.cell? ⟨g, 2, none⟩ = some c ∧ w.cell? ⟨g, 3, none⟩ = some d ∧ w.cell? ⟨g, 4, none⟩ = some e) ∧
    (w.frozen? ⟨g, 0, none⟩ = false ∧ w.frozen? ⟨g, 1, none⟩ = false ∧ w.frozen? ⟨g, 2, none⟩ = false ∧ w.frozen? ⟨g, 3, none⟩ = false ∧ w.frozen? ⟨g, 4, none⟩ = false) :=
  ⟨⟨h.cell 0, h.cell 1, h.cell 2, h.cell 3, h.cell 4⟩, h.frozen 0, h.frozen 1, h.frozen 2, h.frozen 3, h.frozen 4⟩

theorem Pts.one {w : World} {X : Option Addr} {l : List UInt8} {n c g : Nat} {t : TypeId} (hg : w.heap.size = g) (hn : l.length = n) (h : Rd w w.heap.size X l) :
    Pts (w.alloc (.cells #[.slice X n c] t)) (w.alloc (.cells #[.slice X n c] t)).heap.size (some ⟨g, 0, none⟩) [l] := fun _ =>
  ⟨_, _, rfl, by simp [hg], fun j hj => by
    subst hg
    subst hn
    rcases j with _ | j
    · exact ⟨X, c, by rw [cell_of_row _ _ _ _ t (0, 0) (heap_alloc_new w _)]; rfl, (h.alloc (Nat.le_refl _) _).more (by simp)⟩
    · simp at hj⟩
theorem Pts.two {w : World} {A B : Option Addr} {a b : List UInt8} {n m ca cb g : Nat} {t : TypeId} (hg : w.heap.size = g) (hn : a.length = n) (hm : b.length = m) (ha : Rd w w.heap.size A a) (hb : Rd w w.heap.size B b) :
    Pts (w.alloc (.cells #[.slice A n ca, .slice B m cb] t)) (w.alloc (.cells #[.slice A n ca, .slice B m cb] t)).heap.size (some ⟨g, 0, none⟩) [a, b] := fun _ =>
  ⟨_, _, rfl, by simp [hg], fun j hj => by
    subst hg
    subst hn
    subst hm
    rcases j with _ | _ | j
    · exact ⟨A, ca, by rw [cell_of_row _ _ _ _ t (0, 0) (heap_alloc_new w _)]; rfl, (ha.alloc (Nat.le_refl _) _).more (by simp)⟩
    · exact ⟨B, cb, by rw [cell_of_row _ _ _ _ t (0, 0) (heap_alloc_new w _)]; rfl, (hb.alloc (Nat.le_refl _) _).more (by simp)⟩
    · simp at hj; omega⟩

theorem Rd.step {w : World} {A : Option Addr} {l : List UInt8} (h : Rd w w.heap.size A l) (o : Obj) : Rd (w.alloc o) (w.alloc o).heap.size A l := h.later ((Below.refl _ _).alloc (Nat.le_refl _) _)
/-- Two blocks of the call's own, and what came behind them. -/
theorem two_boxes {w w1 : World} {a b : Array Value} {t u : TypeId} {B : Nat} (hb : Below B ((w.alloc (.cells a t)).alloc (.cells b u)) w1) (hB : w.heap.size + 1 + 1 ≤ B) :
    Box w1 w.heap.size t a ∧ Box w1 (w.heap.size + 1) u b ∧ Below w.heap.size w w1 := by
  refine ⟨?_, ?_, ?_⟩
  · refine Box.under ?_ hb (by omega)
    exact (Box.fresh w t a).under ((Below.refl (w.heap.size + 1) _).alloc (by simp) _) (by omega)
  · refine Box.under ?_ hb (by omega)
    have := Box.fresh (w.alloc (.cells a t)) u b
    simpa using this
  · exact (((Below.refl _ _).alloc (Nat.le_refl _) _).alloc (by simp) _).trans (hb.mono (by omega))
theorem below_of_alloc {w w1 : World} {o : Obj} {B : Nat} (hb : Below B (w.alloc o) w1) (hB : w.heap.size ≤ B) : Below w.heap.size w w1 := ((Below.refl _ _).alloc (Nat.le_refl _) o).trans (hb.mono hB)

set_option maxHeartbeats 1000000 in
theorem settled_any (cap safe : Int) (blk j m : Nat) (A : Option Addr) (D : List UInt8) (c : Nat) (done : Bool) (w : World) (h1 : 1 ≤ blk) (h2 : blk ≤ 4096) (hm : m = j * blk) (hj : m ≤ D.length) (hn : D.length ≤ 16777216) (hc : D.length ≤ c) (hr : Mem 5 w A (cBs D)) :
    Calls Try.prog 70 #[.agg #[.int .i64 cap, .int .i64 (blk : Int), .slice A D.length c, .int .i64 safe, .bool done], .int .i64 (j : Int)] w fun e w' => ∃ A' c', e = .returned (.agg #[.int .i64 cap, .int .i64 (blk : Int), .slice A' (D.take m).length c', .int .i64 (j : Int), .bool done]) ∧ Mem 5 w' A' (cBs (D.take m)) ∧ (D.take m).length ≤ c' ∧ Below w.heap.size w w' := by
  have hmi : (j : Int) * (blk : Int) = (m : Int) := by rw [hm]; simp
  have HT : Hid ((D.take m).length = m) := by
    show (D.take m).length = m
    simp; omega
  have HL : Hid (sumLen [D.take m] ≤ 100000000) := by
    show sumLen [D.take m] ≤ 100000000
    simp [sumLen]; omega
  have R0 := Lib.hid (hr.rd.take m)
  clear hr hm
  generalize D.take m = T at HT HL R0 ⊢
  go_enter Try.func70, Try.ntmps70
  go_wp2_with fail
  refine (concat_any _ _ [T] _ (Pts.one (by simp) HT.out ((R0.out.step _).step _)) (by simp) HL.out).mono ?_
  rintro e w1 ⟨A1, c1, rfl, hr1, hc1, hb1⟩
  obtain ⟨b1, b2, hbw⟩ := two_boxes (below_of_alloc (hb1.mono (by simp)) (Nat.le_refl _)) (by simp)
  simp only [List.flatten_cons, List.flatten_nil, List.append_nil] at hr1 hc1 ⊢
  obtain ⟨⟨q0, q1, q2, q3, q4⟩, f0, f1, f2, f3, f4⟩ := box5 b1
  obtain ⟨⟨p0, p1, p2, p3, p4⟩, g0, g1, g2, g3, g4⟩ := box5 b2
  have HB := Lib.hid hbw
  have HC := Lib.hid hc1
  have HR1 := Lib.hid hr1
  have E1 : Hid (∀ g ∈ [w.heap.size, w.heap.size + 1], Else 5 w1 g) := by
    show ∀ g ∈ [w.heap.size, w.heap.size + 1], Else 5 w1 g
    simp only [List.mem_cons, List.not_mem_nil, or_false]
    rintro g (rfl | rfl)
    · exact b1.else_ (by decide)
    · exact b2.else_ (by decide)
  have hsz := b2.lt
  clear hb1 hr1 hc1 hbw b1 b2 R0
  generalize hG : T.length = tl at HT HC ⊢
  have HG := Lib.hid hG
  clear hG
  go_wp2
  refine bodyPost_ret (v := .agg #[.int .i64 cap, .int .i64 (blk : Int), .slice A1 tl c1, .int .i64 (j : Int), .bool done]) (by simp [results, Try.results70, go_sem, *]) rfl ?_
  refine ⟨A1, c1, by rw [HG.out], HR1.out.turn (gs := [w.heap.size, w.heap.size + 1]) ?_ E1.out, by rw [HG.out]; exact HC.out, HB.out.trans (Turn.below (gs := [w.heap.size, w.heap.size + 1]) ?_ (by simp) (by omega))⟩
  all_goals repeat (first | with_reducible exact Turn.refl _ _ | with_reducible refine Turn.put ?_ (by simp) _ | with_reducible refine Turn.alloc ?_ _ | with_reducible refine Turn.drew ?_)
end Go.Proofs.Ytbaolfncolfipaa
