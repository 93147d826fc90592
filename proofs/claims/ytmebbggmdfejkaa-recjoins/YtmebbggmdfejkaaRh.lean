/- read's memory. -/
import Derived.Test.YtmebbggmdfejkaaRg
namespace Go.Proofs.Ytmebbggmdfejkaa
set_option linter.unusedVariables false
set_option linter.unusedSimpArgs false
open Go.RowKit
open Go.RowKit (wrap64)

theorem Box.apart {w : World} {g h : Nat} {t u : TypeId} {a b : Array Value} (h1 : Box w g t a) (h2 : Box w h u b) (hne : t ≠ u) : g ≠ h := by
  rintro rfl
  have e := h1.symm.trans h2
  simp at e
  exact hne e.2
theorem turn_of_grown {w w' : World} {row : Option Nat} (h : w.grownBy w' row) : Turn row.toList w w' :=
  ⟨h.os, h.tape, h.output, h.size, fun k hk hn => h.block k hk (by rintro e; exact hn (by rw [← e]; simp))⟩
/-- None of them is a byte. -/
def NoBytes (cs : Array Value) : Prop := ∀ (i : Nat) (m : Int), cs[i]? ≠ some (Value.int .u8 m)
/-- Bytes lie in no block without bytes. -/
theorem Rd.apart {w : World} {B : Nat} {A : Option Addr} {l : List UInt8} {g : Nat} {t : TypeId} {cs : Array Value} (h : Rd w B A l) (h0 : 0 < l.length) (hb : Box w g t cs) (hn : NoBytes cs) : Off g A := by
  obtain ⟨b, off, rfl, _, hc⟩ := h.at_ h0
  intro ad e
  injection e with e
  subst e
  rintro rfl
  have h1 := hc 0 h0
  rw [Nat.add_zero, hb.cell] at h1
  exact hn _ _ h1
theorem Rd.put {w : World} {B : Nat} {A : Option Addr} {l : List UInt8} (h : Rd w B A l) {g : Nat} (ho : Off g A) (k : Nat) (u : Value) : Rd (w.setCell ⟨g, k, none⟩ u) B A l := fun h0 => by
  obtain ⟨ad, rfl, hx, hc⟩ := h h0
  refine ⟨ad, rfl, hx, fun j v hv => ?_⟩
  rw [World.cell?_setCell_other w ⟨g, k, none⟩ (ad.add j) u (fun e => by
    have e2 := congrArg Addr.block e
    rw [step_block] at e2
    exact ho ad rfl e2.symm)]
  exact hc j v hv
theorem Rdr.put {w : World} {p : Nat} {l : List UInt8} {er : Int} (h : Rdr w p l er) {g k : Nat} {t : TypeId} {cs : Array Value} (hb : Box w g t cs) (hn : NoBytes cs) (hp : g ≠ p) (u : Value) : Rdr (w.setCell ⟨g, k, none⟩ u) p l er := by
  obtain ⟨A, c, h1, h2, h3, h4⟩ := h
  exact ⟨A, c, (Below.heap_setCell w ⟨g, k, none⟩ u p (fun e => hp e.symm)).trans h1, fun h0 => h2.put (h2.apart h0 hb hn) k u h0, h3, h4⟩
/-- A value that is no byte. -/
def noByte : Value → Bool | .int .u8 _ => false | _ => true
theorem RecAt.noBytes {n : Nat → Int} {v : Value} (hv : noByte v = true) : NoBytes #[.int .i64 (n 0), .int .i64 (n 1), .int .i64 (n 2), .int .i64 (n 3), .int .i64 (n 4), .int .i64 (n 5), .int .i64 (n 6), .int .i64 (n 7), .int .i64 (n 8), v] := by
  intro i m
  match i with
  | 0 => simp
  | 1 => simp
  | 2 => simp
  | 3 => simp
  | 4 => simp
  | 5 => simp
  | 6 => simp
  | 7 => simp
  | 8 => simp
  | 9 => simp; rintro rfl; exact absurd hv (by simp [noByte])
  | i + 10 => simp
theorem RecAt.put {w : World} {g : Nat} {n n' : Nat → Int} {v : Value} (h : RecAt w g n v) {k : Nat} (hk : k < 9) (x : Int) (hn : ∀ i, i < 9 → n' i = if i = k then x else n i) : RecAt (w.setCell ⟨g, k, none⟩ (.int .i64 x)) g n' v := by
  have hb := Box.store h k (.int .i64 x)
  show Box _ g 24 #[.int .i64 (n' 0), .int .i64 (n' 1), .int .i64 (n' 2), .int .i64 (n' 3), .int .i64 (n' 4), .int .i64 (n' 5), .int .i64 (n' 6), .int .i64 (n' 7), .int .i64 (n' 8), v]
  rw [hn 0 (by omega), hn 1 (by omega), hn 2 (by omega), hn 3 (by omega), hn 4 (by omega), hn 5 (by omega), hn 6 (by omega), hn 7 (by omega), hn 8 (by omega)]
  match k, hk with
  | 0, _ => exact hb
  | 1, _ => exact hb
  | 2, _ => exact hb
  | 3, _ => exact hb
  | 4, _ => exact hb
  | 5, _ => exact hb
  | 6, _ => exact hb
  | 7, _ => exact hb
  | 8, _ => exact hb
  | k + 9, hk => omega
theorem RecAt.putBody {w : World} {g : Nat} {n : Nat → Int} {v : Value} (h : RecAt w g n v) (u : Value) : RecAt (w.setCell ⟨g, 9, none⟩ u) g n u := Box.store h 9 u
theorem RecAt.congr {w : World} {g : Nat} {n n' : Nat → Int} {v : Value} (h : RecAt w g n v) (hn : ∀ i, i < 9 → n i = n' i) : RecAt w g n' v := by
  show Box _ g 24 #[.int .i64 (n' 0), .int .i64 (n' 1), .int .i64 (n' 2), .int .i64 (n' 3), .int .i64 (n' 4), .int .i64 (n' 5), .int .i64 (n' 6), .int .i64 (n' 7), .int .i64 (n' 8), v]
  rw [← hn 0 (by omega), ← hn 1 (by omega), ← hn 2 (by omega), ← hn 3 (by omega), ← hn 4 (by omega), ← hn 5 (by omega), ← hn 6 (by omega), ← hn 7 (by omega), ← hn 8 (by omega)]
  exact h
/-- The numbers when k of them were read. -/
def nK (l : List UInt8) (k : Nat) : Nat → Int := fun i => if i < k then rV l i else 0
theorem nK_zero (l : List UInt8) : nK l 0 = fun _ => 0 := by
  funext i
  unfold nK
  rw [if_neg (by omega)]
theorem nK_step (l : List UInt8) (k : Nat) (i : Nat) : nK l (k + 1) i = if i = k then rV l k else nK l k i := by
  unfold nK
  by_cases h : i = k
  · subst h
    rw [if_pos rfl, if_pos (by omega)]
  · rw [if_neg h]
    by_cases h2 : i < k
    · rw [if_pos h2, if_pos (by omega)]
    · rw [if_neg h2, if_neg (by omega)]
theorem nK_all (l : List UInt8) {i : Nat} (h : i < 9) : nK l 9 i = rV l i := by
  unfold nK
  rw [if_pos h]
/-- read's memory when k numbers were read. -/
structure ReadSt (w wr : World) (p F : Nat) (l : List UInt8) (k : Nat) : Prop where
  rdr : Rdr wr p (rS l k).1 (rS l k).2
  box : RecAt wr (w.heap.size + 1) (nK l k) (.slice none 0 0)
  fld : FldAt wr F (w.heap.size + 1)
  res : RecAt wr w.heap.size (fun _ => 0) (.slice none 0 0)
  bel : Below w.heap.size w wr
  hp : w.heap.size + 2 ≤ p
theorem ReadSt.turn {w wr w2 : World} {p F k : Nat} {l : List UInt8} (h : ReadSt w wr p F l k) (hr : Rdr w2 p (rS l (k + 1)).1 (rS l (k + 1)).2) (ht : Turn [p] wr w2) (hk : k < 9) :
    ReadSt w (w2.setCell ⟨w.heap.size + 1, k, none⟩ (.int .i64 (rV l k))) p F l (k + 1) := by
  obtain ⟨A, c, hbp, _⟩ := h.rdr
  have hFp : F ≠ p := Box.apart h.fld hbp (by decide)
  have hFg : F ≠ w.heap.size + 1 := Box.apart h.fld h.box (by decide)
  have hp := h.hp
  have hbx : RecAt w2 (w.heap.size + 1) (nK l k) (.slice none 0 0) := Box.turn h.box ht (by simp; omega)
  have ht2 : Turn [p, w.heap.size + 1] wr (w2.setCell ⟨w.heap.size + 1, k, none⟩ (.int .i64 (rV l k))) := Turn.put ⟨ht.os, ht.tape, ht.output, ht.size, fun i hi hn => ht.block i hi (by simp at hn ⊢; exact hn.1)⟩ (by simp) _
  exact ⟨hr.put hbx (RecAt.noBytes rfl) (by omega) _, hbx.put hk _ (fun i _ => nK_step l k i), Box.turn h.fld ht2 (by simp; omega), Box.turn h.res ht2 (by simp; omega), h.bel.trans (ht2.below (by simp; omega) h.bel.size), h.hp⟩
end Go.Proofs.Ytmebbggmdfejkaa
