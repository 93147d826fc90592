/- A reader whose bytes lie from a block on; rows of the call's own. -/
import Derived.Test.YtaceaemombnhkaaC
namespace Go.Proofs.Ytaceaemombnhkaa
set_option linter.unusedVariables false
set_option maxRecDepth 100000
set_option linter.unusedSimpArgs false
open Go.RowKit
open Go.RowKit (wrap64)

theorem rI_left (l : List UInt8) (er lo hi : Int) : (rI l er lo hi).2.1.length ≤ l.length := by
  unfold rI
  split
  · split
    · exact Nat.le_refl _
    · split <;> simp
  · exact Nat.le_refl _
/-- A reader at block p whose bytes lie from block g on. -/
def RdrG (w : World) (p g : Nat) (l : List UInt8) (er : Int) : Prop :=
  ∃ A c, Box w p 115 #[.slice A l.length c, .int .i64 er] ∧ Rd w p A l ∧ l.length ≤ c ∧ c ≤ 10000000 ∧ Fresh g A
theorem RdrG.rdr {w : World} {p g : Nat} {l : List UInt8} {er : Int} (h : RdrG w p g l er) : Rdr w p l er := by
  obtain ⟨A, c, h1, h2, h3, h4, _⟩ := h
  exact ⟨A, c, h1, h2, h3, h4⟩
theorem RdrG.later {w w' : World} {p g : Nat} {l : List UInt8} {er : Int} (h : RdrG w p g l er) (hb : Below w.heap.size w w') : RdrG w' p g l er := by
  obtain ⟨A, c, h1, h2, h3, h4, h5⟩ := h
  exact ⟨A, c, h1.later hb, h2.below (hb.mono (Nat.le_of_lt h1.lt)), h3, h4, h5⟩
theorem Fresh.cut {g c n : Nat} {A : Option Addr} (h : Fresh g A) : Fresh g (if c = n then A else A.map (·.add n)) := by
  intro ad e
  split at e
  · exact h ad e
  · rcases A with _ | a
    · simp at e
    · simp at e
      subst e
      rw [step_block]
      exact h a rfl
theorem RdrG.cut {w' : World} {p g : Nat} {A : Option Addr} {l : List UInt8} {c n : Nat} {er : Int} (hb : Box w' p 115 #[cutS A l.length c n, .int .i64 er]) (hr : Rd w' p A l) (hf : Fresh g A) (hn : n ≤ l.length) (hk : l.length ≤ c) (hc : c ≤ 10000000) : RdrG w' p g (l.drop n) er :=
  ⟨_, _, by unfold cutS at hb; rw [List.length_drop]; exact hb, hr.cut hn hk, by rw [List.length_drop]; omega, by omega, hf.cut⟩
/-- A store into a block below g, other than p. -/
theorem RdrG.put {w : World} {p g : Nat} {l : List UInt8} {er : Int} (h : RdrG w p g l er) {b k : Nat} (hb : b < g) (hp : b ≠ p) (u : Value) : RdrG (w.setCell ⟨b, k, none⟩ u) p g l er := by
  obtain ⟨A, c, h1, h2, h3, h4, h5⟩ := h
  refine ⟨A, c, ?_, ?_, h3, h4, h5⟩
  · exact (Below.heap_setCell w ⟨b, k, none⟩ u p (fun e => hp e.symm)).trans h1
  · intro h0
    obtain ⟨ad, rfl, hx, hc⟩ := h2 h0
    refine ⟨ad, rfl, hx, fun j v hv => ?_⟩
    have hg := h5 ad rfl
    rw [World.cell?_setCell_other w ⟨b, k, none⟩ (ad.add j) u (fun e => by
      have e2 := congrArg Addr.block e
      rw [step_block] at e2
      simp only at e2
      omega)]
    exact hc j v hv
theorem rIntG_any (l : List UInt8) (er lo hi : Int) (p g : Nat) (w : World) (h : RdrG w p g l er) :
    Calls Try.prog 90 #[.pointer (some ⟨p, 0, none⟩), .int .i64 lo, .int .i64 hi] w fun e w' => e = .returned (.int .i64 (rI l er lo hi).1) ∧ RdrG w' p g (rI l er lo hi).2.1 (rI l er lo hi).2.2 ∧ Turn [p] w w' := by
  have h' := h
  obtain ⟨A, c, hb, hr, hk, hc, hf⟩ := h'
  by_cases he : er = 0
  · subst he
    by_cases h8 : l.length < 8
    · have e1 : rI l 0 lo hi = (0, l, 14) := by simp [rI, h8]
      rw [e1]
      refine (rInt_short lo hi p A l.length c w hb h8).mono ?_
      rintro e w' ⟨rfl, rfl⟩
      exact ⟨rfl, ⟨A, c, hb.store 1 _, hr.setCell (p := ⟨p, 1, none⟩) (Nat.le_refl p) _, hk, hc, hf⟩, (Turn.refl _ _).put (by simp) _⟩
    · by_cases hx : wrap64 (numLE (l.take 8) : Nat) < lo ∨ hi < wrap64 (numLE (l.take 8) : Nat)
      · have e1 : rI l 0 lo hi = (0, l.drop 8, 13) := by simp [rI, h8, hx]
        rw [e1]
        refine (rInt_form lo hi p A c l w hb hr (by omega) hk hc _ (Lib.hid rfl) hx).mono ?_
        rintro e w' ⟨rfl, rfl⟩
        refine ⟨rfl, RdrG.cut (A := A) (c := c) (n := 8) ((hb.store 0 _).store 1 _) ((hr.setCell (p := ⟨p, 0, none⟩) (Nat.le_refl p) _).setCell (p := ⟨p, 1, none⟩) (Nat.le_refl p) _) hf (by omega) hk hc, ?_⟩
        exact ((Turn.refl _ _).put (by simp) _).put (by simp) _
      · have e1 : rI l 0 lo hi = (wrap64 (numLE (l.take 8) : Nat), l.drop 8, 0) := by simp only [rI, if_pos, if_neg h8, if_neg hx]
        rw [e1]
        refine (rInt_ok lo hi p A c l w hb hr (by omega) hk hc _ (Lib.hid rfl) (by omega) (by omega)).mono ?_
        rintro e w' ⟨rfl, rfl⟩
        exact ⟨rfl, RdrG.cut (A := A) (c := c) (n := 8) (hb.store 0 _) (hr.setCell (p := ⟨p, 0, none⟩) (Nat.le_refl p) _) hf (by omega) hk hc, (Turn.refl _ _).put (by simp) _⟩
  · have e1 : rI l er lo hi = (0, l, er) := by simp [rI, he]
    rw [e1]
    refine (rInt_err lo hi er p _ w hb (by simpa using he)).mono ?_
    rintro e w' ⟨rfl, rfl⟩
    exact ⟨rfl, h, Turn.refl _ _⟩
/-- A new reader. -/
def MadeG (w : World) (l : List UInt8) (e : Ending) (w' : World) : Prop := e = .returned (.pointer (some ⟨w.heap.size + 1, 0, none⟩)) ∧ RdrG w' (w.heap.size + 1) w.heap.size l 0 ∧ w'.heap.size = w.heap.size + 2 ∧ Below w.heap.size w w'
set_option maxHeartbeats 400000 in
theorem newG_any (A : Option Addr) (c : Nat) (l : List UInt8) (w : World) (hr : Rd w w.heap.size A l) (hl : l.length ≤ 10000000) :
    Calls Try.prog 43 #[.slice A l.length c] w (MadeG w l) := by
  go_enter Try.func43, Try.ntmps43
  go_wp2_with fail
  refine (grown_any A c 0 l w hr hl (by omega)).mono ?_
  rintro e w' ⟨rfl, rfl⟩
  go_wp2
  go_ret
  have e0 : l ++ zeros 0 = l := by simp [zeros]
  rw [e0]
  refine ⟨rfl, ⟨some ⟨w.heap.size, 0, none⟩, l.length, ?_, (Rd.new w l 5).alloc (by simp) _, Nat.le_refl _, hl, Fresh.some (Nat.le_refl _)⟩, by simp, ((Below.refl _ _).alloc (Nat.le_refl _) _).alloc (by simp) _⟩
  have h := Box.fresh (w.alloc (.cells (cBs l).toArray 5)) 115 #[.slice (some ⟨w.heap.size, 0, none⟩) l.length l.length, .int .i64 0]
  simpa using h
/-- Bytes handed back. -/
def GaveB (w : World) (l : List UInt8) (e : Ending) (w' : World) : Prop := ∃ A cp, e = .returned (.slice A l.length cp) ∧ Rd w' w'.heap.size A l ∧ l.length ≤ cp ∧ Below w.heap.size w w'
theorem Own.later {w w' : World} {base : Nat} {e : TypeId} {v : Value} {l : List UInt8} (h : Own w base e v l) (hb : Below w.heap.size w w') : Own w' base e v l :=
  World.ownsRow.kept h (turned_of_below hb none) (by rcases v.ownBlock with _ | _ <;> simp)
theorem Own.mono {w : World} {base base' : Nat} {e : TypeId} {v : Value} {l : List UInt8} (h : Own w base e v l) (hb : base' ≤ base) : Own w base' e v l := by
  refine ⟨h.1, ?_⟩
  rcases h.2 with h2 | ⟨g, cap, cur, h2, h3, h4⟩
  · exact .inl h2
  · exact .inr ⟨g, cap, cur, h2, Nat.le_trans hb h3, h4⟩
/-- The row's block is none of numbers. -/
theorem own_apart {w : World} {base q : Nat} {v : Value} {l : List UInt8} {cs : Array Value} (h : Own w base 5 v l) (hb : Box w q 3 cs) : some q ≠ v.ownBlock := by
  rcases h.2 with ⟨rfl, _⟩ | ⟨g, cap, cur, rfl, _, hh, _⟩
  · simp [Value.ownBlock]
  · simp only [Value.ownBlock]
    intro e
    injection e with e
    subst e
    have hx := hb.symm.trans hh
    simp at hx
end Go.Proofs.Ytaceaemombnhkaa
