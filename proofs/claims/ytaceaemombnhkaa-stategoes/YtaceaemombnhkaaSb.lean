/- States in memory: rows of ints, of parities, of zones, that are read. -/
import Derived.Test.YtaceaemombnhkaaSa
namespace Go.Proofs.Ytaceaemombnhkaa
set_option linter.unusedVariables false
set_option maxRecDepth 100000
set_option linter.unusedSimpArgs false
open Go.RowKit
open Go.RowKit (wrap64)

/-- The blocks of S are as they were. -/
def Kept (S : Nat → Prop) (w w' : World) : Prop := ∀ g, S g → w'.heap[g]? = w.heap[g]?
def LT (B : Nat) : Nat → Prop := fun g => g < B
theorem Kept.cell {S : Nat → Prop} {w w' : World} (h : Kept S w w') {p : Addr} (hp : S p.block) : w'.cell? p = w.cell? p := World.cell?_of_block (h _ hp)
theorem Kept.of_below {S : Nat → Prop} {B : Nat} {w w' : World} (h : Below B w w') (hS : ∀ g, S g → g < B) : Kept S w w' := fun g hg => h.block g (hS g hg)
theorem Kept.below {B : Nat} {w w' : World} (h : Below B w w') : Kept (LT B) w w' := fun g hg => h.block g hg
theorem Kept.turn {S : Nat → Prop} {gs : List Nat} {w w' : World} (h : Turn gs w w') (hS : ∀ g, S g → g < w.heap.size ∧ g ∉ gs) : Kept S w w' := fun g hg => h.block g (hS g hg).1 (hS g hg).2
/-- A byte slice at A reads as l; its block is of S. -/
def RdS (w : World) (S : Nat → Prop) (A : Option Addr) (l : List UInt8) : Prop :=
  0 < l.length → ∃ ad, A = some ad ∧ S ad.block ∧ ∀ j u, (cBs l)[j]? = some u → w.cell? (ad.add j) = some u
/-- Ints at A. -/
def IntsAt (w : World) (S : Nat → Prop) (A : Option Addr) (l : List Int) : Prop :=
  0 < l.length → ∃ g off, A = some ⟨g, off, none⟩ ∧ S g ∧ ∀ j (hj : j < l.length), w.cell? ⟨g, off + j, none⟩ = some (.int .i64 l[j])
/-- A parity's two cells. -/
def PrAt (w : World) (S : Nat → Prop) (g off : Nat) (p : Pr) : Prop :=
  ∃ X x, w.cell? ⟨g, off, none⟩ = some (.int .i64 p.w) ∧ w.cell? ⟨g, off + 1, none⟩ = some (.slice X p.b.length x) ∧ RdS w S X p.b ∧ p.b.length ≤ x ∧ p.b.length ≤ 140737488351232
/-- Parities at A. -/
def PrsAt (w : World) (S : Nat → Prop) (A : Option Addr) (ps : List Pr) : Prop :=
  0 < ps.length → ∃ g off, A = some ⟨g, off, none⟩ ∧ S g ∧ ∀ j (hj : j < ps.length), PrAt w S g (off + j * 2) ps[j]
/-- A zone's six cells. -/
def ZnAt (w : World) (S : Nat → Prop) (g off : Nat) (z : Zn) : Prop :=
  ∃ X x, w.cell? ⟨g, off, none⟩ = some (.int .i64 z.gen) ∧ w.cell? ⟨g, off + 1, none⟩ = some (.int .i64 z.slot) ∧ w.cell? ⟨g, off + 2, none⟩ = some (.bool z.full) ∧ w.cell? ⟨g, off + 3, none⟩ = some (.int .i64 z.w) ∧ w.cell? ⟨g, off + 4, none⟩ = some (.bool z.whole) ∧ w.cell? ⟨g, off + 5, none⟩ = some (.slice X z.ps.length x) ∧ PrsAt w S X z.ps ∧ z.ps.length ≤ x ∧ z.ps.length ≤ 140737488351232
/-- Zones at A. -/
def ZnsAt (w : World) (S : Nat → Prop) (A : Option Addr) (zs : List Zn) : Prop :=
  0 < zs.length → ∃ g off, A = some ⟨g, off, none⟩ ∧ S g ∧ ∀ j (hj : j < zs.length), ZnAt w S g (off + j * 6) zs[j]
/-- The two rows of a state. -/
def StAt (w : World) (S : Nat → Prop) (A : Option Addr) (st : List Int) (k : Nat) (D : Option Addr) (zs : List Zn) (d : Nat) : Prop :=
  IntsAt w S A st ∧ ZnsAt w S D zs ∧ st.length ≤ k ∧ zs.length ≤ d

section
variable {w w' : World} {S S' : Nat → Prop} {A D : Option Addr} {g off k d : Nat}
theorem RdS.keep {l : List UInt8} (h : RdS w S A l) (hk : Kept S w w') : RdS w' S A l := fun hn => by
  obtain ⟨ad, e, hb, hc⟩ := h hn
  exact ⟨ad, e, hb, fun j u hu => (hk.cell (by rw [step_block]; exact hb)).trans (hc j u hu)⟩
theorem RdS.mono {l : List UInt8} (h : RdS w S A l) (hS : ∀ g, S g → S' g) : RdS w S' A l := fun hn => by
  obtain ⟨ad, e, hb, hc⟩ := h hn
  exact ⟨ad, e, hS _ hb, hc⟩
theorem RdS.rd {l : List UInt8} {B : Nat} (h : RdS w S A l) (hS : ∀ g, S g → g < B) : Rd w B A l := fun hn => by
  obtain ⟨ad, e, hb, hc⟩ := h hn
  exact ⟨ad, e, hS _ hb, hc⟩
theorem RdS.lt {l : List UInt8} {B : Nat} (h : RdS w (LT B) A l) : Rd w B A l := h.rd fun _ h => h
theorem RdS.of_rd {l : List UInt8} {B : Nat} (h : Rd w B A l) : RdS w (LT B) A l := h
theorem IntsAt.keep {l : List Int} (h : IntsAt w S A l) (hk : Kept S w w') : IntsAt w' S A l := fun hn => by
  obtain ⟨g, off, e, hb, hc⟩ := h hn
  exact ⟨g, off, e, hb, fun j hj => (hk.cell (p := ⟨g, off + j, none⟩) hb).trans (hc j hj)⟩
theorem IntsAt.mono {l : List Int} (h : IntsAt w S A l) (hS : ∀ g, S g → S' g) : IntsAt w S' A l := fun hn => by
  obtain ⟨g, off, e, hb, hc⟩ := h hn
  exact ⟨g, off, e, hS _ hb, hc⟩
theorem PrAt.keep {p : Pr} (h : PrAt w S g off p) (hg : S g) (hk : Kept S w w') : PrAt w' S g off p := by
  obtain ⟨X, x, h0, h1, hX, h2⟩ := h
  exact ⟨X, x, (hk.cell (p := ⟨g, off, none⟩) hg).trans h0, (hk.cell (p := ⟨g, off + 1, none⟩) hg).trans h1, hX.keep hk, h2⟩
theorem PrAt.mono {p : Pr} (h : PrAt w S g off p) (hS : ∀ g, S g → S' g) : PrAt w S' g off p := by
  obtain ⟨X, x, h0, h1, hX, h2⟩ := h
  exact ⟨X, x, h0, h1, hX.mono hS, h2⟩
theorem PrsAt.keep {l : List Pr} (h : PrsAt w S A l) (hk : Kept S w w') : PrsAt w' S A l := fun hn => by
  obtain ⟨g, off, e, hb, hc⟩ := h hn
  exact ⟨g, off, e, hb, fun j hj => (hc j hj).keep hb hk⟩
theorem PrsAt.mono {l : List Pr} (h : PrsAt w S A l) (hS : ∀ g, S g → S' g) : PrsAt w S' A l := fun hn => by
  obtain ⟨g, off, e, hb, hc⟩ := h hn
  exact ⟨g, off, e, hS _ hb, fun j hj => (hc j hj).mono hS⟩
theorem PrsAt.nil : PrsAt w S A [] := fun h => absurd h (Nat.lt_irrefl 0)
theorem ZnsAt.nil : ZnsAt w S A [] := fun h => absurd h (Nat.lt_irrefl 0)
theorem IntsAt.nil : IntsAt w S A [] := fun h => absurd h (Nat.lt_irrefl 0)
theorem ZnAt.keep {z : Zn} (h : ZnAt w S g off z) (hg : S g) (hk : Kept S w w') : ZnAt w' S g off z := by
  obtain ⟨X, x, h0, h1, h2, h3, h4, h5, hX, hx⟩ := h
  exact ⟨X, x, (hk.cell (p := ⟨g, off, none⟩) hg).trans h0, (hk.cell (p := ⟨g, off + 1, none⟩) hg).trans h1, (hk.cell (p := ⟨g, off + 2, none⟩) hg).trans h2, (hk.cell (p := ⟨g, off + 3, none⟩) hg).trans h3, (hk.cell (p := ⟨g, off + 4, none⟩) hg).trans h4, (hk.cell (p := ⟨g, off + 5, none⟩) hg).trans h5, hX.keep hk, hx⟩
theorem ZnAt.mono {z : Zn} (h : ZnAt w S g off z) (hS : ∀ g, S g → S' g) : ZnAt w S' g off z := by
  obtain ⟨X, x, h0, h1, h2, h3, h4, h5, hX, hx⟩ := h
  exact ⟨X, x, h0, h1, h2, h3, h4, h5, hX.mono hS, hx⟩
theorem ZnsAt.keep {l : List Zn} (h : ZnsAt w S A l) (hk : Kept S w w') : ZnsAt w' S A l := fun hn => by
  obtain ⟨g, off, e, hb, hc⟩ := h hn
  exact ⟨g, off, e, hb, fun j hj => (hc j hj).keep hb hk⟩
theorem ZnsAt.mono {l : List Zn} (h : ZnsAt w S A l) (hS : ∀ g, S g → S' g) : ZnsAt w S' A l := fun hn => by
  obtain ⟨g, off, e, hb, hc⟩ := h hn
  exact ⟨g, off, e, hS _ hb, fun j hj => (hc j hj).mono hS⟩
theorem StAt.keep {st : List Int} {zs : List Zn} (h : StAt w S A st k D zs d) (hk : Kept S w w') : StAt w' S A st k D zs d := ⟨h.1.keep hk, h.2.1.keep hk, h.2.2⟩
theorem StAt.mono {st : List Int} {zs : List Zn} (h : StAt w S A st k D zs d) (hS : ∀ g, S g → S' g) : StAt w S' A st k D zs d := ⟨h.1.mono hS, h.2.1.mono hS, h.2.2⟩
theorem LT.up {B B' : Nat} (h : B ≤ B') : ∀ g, LT B g → LT B' g := fun g hg => Nat.lt_of_lt_of_le hg h
/-- What lies below stays, and lies below. -/
theorem StAt.later {st : List Int} {zs : List Zn} (h : StAt w (LT w.heap.size) A st k D zs d) (hb : Below w.heap.size w w') : StAt w' (LT w'.heap.size) A st k D zs d := (h.keep (Kept.below hb)).mono (LT.up hb.size)
theorem PrsAt.later {l : List Pr} (h : PrsAt w (LT w.heap.size) A l) (hb : Below w.heap.size w w') : PrsAt w' (LT w'.heap.size) A l := (h.keep (Kept.below hb)).mono (LT.up hb.size)
theorem ZnsAt.later {l : List Zn} (h : ZnsAt w (LT w.heap.size) A l) (hb : Below w.heap.size w w') : ZnsAt w' (LT w'.heap.size) A l := (h.keep (Kept.below hb)).mono (LT.up hb.size)
theorem IntsAt.later {l : List Int} (h : IntsAt w (LT w.heap.size) A l) (hb : Below w.heap.size w w') : IntsAt w' (LT w'.heap.size) A l := (h.keep (Kept.below hb)).mono (LT.up hb.size)
end
/-- A state that came in as a value, in a block of its own. -/
def StIn (c : Cf) (ep sq : Int) (A : Option Addr) (st : List Int) (k : Nat) (D : Option Addr) (zs : List Zn) (d : Nat) (w w0 : World) : Prop := Box w0 w.heap.size 27 #[.int .i64 c.id, .int .i64 c.m, .int .i64 c.u, .int .i64 c.b, .int .i64 c.cp, .int .i64 c.z, .int .i64 c.s, .int .i64 c.mt, .int .i64 c.o, .int .i64 c.a, .int .i64 c.l, .int .i64 ep, .int .i64 sq, .slice A st.length k, .slice D zs.length d] ∧ StAt w0 (LT w0.heap.size) A st k D zs d ∧ Below w.heap.size w w0
theorem StIn.new {c : Cf} {ep sq : Int} {A : Option Addr} {st : List Int} {k : Nat} {D : Option Addr} {zs : List Zn} {d : Nat} {w : World} (h : StAt w (LT w.heap.size) A st k D zs d) : StIn c ep sq A st k D zs d w (w.alloc (.cells #[.int .i64 c.id, .int .i64 c.m, .int .i64 c.u, .int .i64 c.b, .int .i64 c.cp, .int .i64 c.z, .int .i64 c.s, .int .i64 c.mt, .int .i64 c.o, .int .i64 c.a, .int .i64 c.l, .int .i64 ep, .int .i64 sq, .slice A st.length k, .slice D zs.length d] 27)) :=
  ⟨Box.fresh w 27 _, h.later ((Below.refl _ _).alloc (Nat.le_refl _) _), (Below.refl _ _).alloc (Nat.le_refl _) _⟩
theorem StIn.later {c : Cf} {ep sq : Int} {A : Option Addr} {st : List Int} {k : Nat} {D : Option Addr} {zs : List Zn} {d : Nat} {w w0 w1 : World} (h : StIn c ep sq A st k D zs d w w0) (hb : Below w0.heap.size w0 w1) : StIn c ep sq A st k D zs d w w1 :=
  ⟨h.1.later hb, h.2.1.later hb, h.2.2.trans (hb.mono h.2.2.size)⟩
/-- A bool that says just P. -/
def SaysP (w : World) (P : Prop) (e : Ending) (w' : World) : Prop := ∃ b : Bool, e = .returned (.bool b) ∧ (b = true ↔ P) ∧ Below w.heap.size w w'
theorem SaysP.yes {w w' : World} {P : Prop} (h : P) (hb : Below w.heap.size w w') : SaysP w P (.returned (.bool true)) w' := ⟨true, rfl, iff_of_true rfl h, hb⟩
theorem SaysP.no {w w' : World} {P : Prop} (h : ¬ P) (hb : Below w.heap.size w w') : SaysP w P (.returned (.bool false)) w' := ⟨false, rfl, iff_of_false (by simp) h, hb⟩
theorem Box.at_ {w : World} {g B : Nat} {t : TypeId} {cs : Array Value} {i : Nat} {v : Value} (h : Box w g t cs) (hg : g < B) (hv : cs[i]? = some v) : ∀ w', Below B w w' → w'.cell? ⟨g, i, none⟩ = some v := fun w' hb => by
  rw [(h.under hb hg).cell]
  exact hv
theorem Box.atG {w : World} {g : Nat} {gs : List Nat} {t : TypeId} {cs : Array Value} {i : Nat} {v : Value} (h : Box w g t cs) (hg : g ∉ gs) (hv : cs[i]? = some v) : ∀ w', Turn gs w w' → w'.cell? ⟨g, i, none⟩ = some v := fun w' hb => by
  rw [(h.turn hb hg).cell]
  exact hv
theorem box15 {w : World} {g : Nat} {t : TypeId} {a0 a1 a2 a3 a4 a5 a6 a7 a8 a9 a10 a11 a12 a13 a14 : Value} (h : Box w g t #[a0, a1, a2, a3, a4, a5, a6, a7, a8, a9, a10, a11, a12, a13, a14]) :
    (w.cell? ⟨g, 0, none⟩ = some a0 ∧ w.cell? ⟨g, 1, none⟩ = some a1 ∧ w.cell? ⟨g, 2, none⟩ = some a2 ∧ w.cell? ⟨g, 3, none⟩ = some a3 ∧ w.cell? ⟨g, 4, none⟩ = some a4 ∧ w.cell? ⟨g, 5, none⟩ = some a5 ∧ w.cell? ⟨g, 6, none⟩ = some a6 ∧ w.cell? ⟨g, 7, none⟩ = some a7 ∧ w.cell? ⟨g, 8, none⟩ = some a8 ∧ w.cell? ⟨g, 9, none⟩ = some a9 ∧ w.cell? ⟨g, 10, none⟩ = some a10 ∧ w.cell? ⟨g, 11, none⟩ = some a11 ∧ w.cell? ⟨g, 12, none⟩ = some a12 ∧ w.cell? ⟨g, 13, none⟩ = some a13 ∧ w.cell? ⟨g, 14, none⟩ = some a14) := by
  refine ⟨?_, ?_, ?_, ?_, ?_, ?_, ?_, ?_, ?_, ?_, ?_, ?_, ?_, ?_, ?_⟩ <;> (rw [h.cell]; rfl)
theorem box6 {w : World} {g : Nat} {t : TypeId} {a0 a1 a2 a3 a4 a5 : Value} (h : Box w g t #[a0, a1, a2, a3, a4, a5]) :
    (w.cell? ⟨g, 0, none⟩ = some a0 ∧ w.cell? ⟨g, 1, none⟩ = some a1 ∧ w.cell? ⟨g, 2, none⟩ = some a2 ∧ w.cell? ⟨g, 3, none⟩ = some a3 ∧ w.cell? ⟨g, 4, none⟩ = some a4 ∧ w.cell? ⟨g, 5, none⟩ = some a5) := by
  refine ⟨?_, ?_, ?_, ?_, ?_, ?_⟩ <;> (rw [h.cell]; rfl)
theorem box2 {w : World} {g : Nat} {t : TypeId} {a0 a1 : Value} (h : Box w g t #[a0, a1]) : (w.cell? ⟨g, 0, none⟩ = some a0 ∧ w.cell? ⟨g, 1, none⟩ = some a1) := by
  refine ⟨?_, ?_⟩ <;> (rw [h.cell]; rfl)
theorem froz17 {w : World} {g : Nat} {t : TypeId} {cs : Array Value} (h : Box w g t cs) : w.frozen? ⟨g, 0, none⟩ = false ∧ w.frozen? ⟨g, 1, none⟩ = false ∧ w.frozen? ⟨g, 2, none⟩ = false ∧ w.frozen? ⟨g, 3, none⟩ = false ∧ w.frozen? ⟨g, 4, none⟩ = false ∧ w.frozen? ⟨g, 5, none⟩ = false ∧ w.frozen? ⟨g, 6, none⟩ = false ∧ w.frozen? ⟨g, 7, none⟩ = false ∧ w.frozen? ⟨g, 8, none⟩ = false ∧ w.frozen? ⟨g, 9, none⟩ = false ∧ w.frozen? ⟨g, 10, none⟩ = false ∧ w.frozen? ⟨g, 11, none⟩ = false ∧ w.frozen? ⟨g, 12, none⟩ = false ∧ w.frozen? ⟨g, 13, none⟩ = false ∧ w.frozen? ⟨g, 14, none⟩ = false ∧ w.frozen? ⟨g, 15, none⟩ = false ∧ w.frozen? ⟨g, 16, none⟩ = false :=
  ⟨h.frozen _, h.frozen _, h.frozen _, h.frozen _, h.frozen _, h.frozen _, h.frozen _, h.frozen _, h.frozen _, h.frozen _, h.frozen _, h.frozen _, h.frozen _, h.frozen _, h.frozen _, h.frozen _, h.frozen _⟩
theorem froz15 {w : World} {g : Nat} {t : TypeId} {cs : Array Value} (h : Box w g t cs) : w.frozen? ⟨g, 0, none⟩ = false ∧ w.frozen? ⟨g, 1, none⟩ = false ∧ w.frozen? ⟨g, 2, none⟩ = false ∧ w.frozen? ⟨g, 3, none⟩ = false ∧ w.frozen? ⟨g, 4, none⟩ = false ∧ w.frozen? ⟨g, 5, none⟩ = false ∧ w.frozen? ⟨g, 6, none⟩ = false ∧ w.frozen? ⟨g, 7, none⟩ = false ∧ w.frozen? ⟨g, 8, none⟩ = false ∧ w.frozen? ⟨g, 9, none⟩ = false ∧ w.frozen? ⟨g, 10, none⟩ = false ∧ w.frozen? ⟨g, 11, none⟩ = false ∧ w.frozen? ⟨g, 12, none⟩ = false ∧ w.frozen? ⟨g, 13, none⟩ = false ∧ w.frozen? ⟨g, 14, none⟩ = false :=
  ⟨h.frozen _, h.frozen _, h.frozen _, h.frozen _, h.frozen _, h.frozen _, h.frozen _, h.frozen _, h.frozen _, h.frozen _, h.frozen _, h.frozen _, h.frozen _, h.frozen _, h.frozen _⟩
theorem froz6 {w : World} {g : Nat} {t : TypeId} {cs : Array Value} (h : Box w g t cs) : w.frozen? ⟨g, 0, none⟩ = false ∧ w.frozen? ⟨g, 1, none⟩ = false ∧ w.frozen? ⟨g, 2, none⟩ = false ∧ w.frozen? ⟨g, 3, none⟩ = false ∧ w.frozen? ⟨g, 4, none⟩ = false ∧ w.frozen? ⟨g, 5, none⟩ = false :=
  ⟨h.frozen _, h.frozen _, h.frozen _, h.frozen _, h.frozen _, h.frozen _⟩
/-- Cells stored one by one. -/
def sets (g : Nat) : Nat → List Value → World → World
  | _, [], w => w
  | i, v :: vs, w => sets g (i + 1) vs (w.setCell ⟨g, i, none⟩ v)
theorem sets_box {g : Nat} {t : TypeId} : ∀ (vs : List Value) (i : Nat) (w : World) (cs : Array Value), Box w g t cs → cs.size = i + vs.length → Box (sets g i vs w) g t (cs.toList.take i ++ vs).toArray
  | [], i, w, cs, h, hn => by
    have e : (cs.toList.take i ++ []).toArray = cs := by
      rw [List.append_nil, List.take_of_length_le (by simp only [Array.length_toList]; simp at hn; omega)]
    rw [e]
    exact h
  | v :: vs, i, w, cs, h, hn => by
    have h1 := sets_box vs (i + 1) _ _ (h.store i v) (by simp at hn ⊢; omega)
    have e : ((cs.setIfInBounds i v).toList.take (i + 1) ++ vs).toArray = (cs.toList.take i ++ v :: vs).toArray := by
      congr 1
      have hi : i < cs.toList.length := by simp at hn ⊢; omega
      rw [Array.toList_setIfInBounds, List.take_set, List.take_succ_eq_append_getElem hi, List.set_append_right _ _ (by simp; omega)]
      have e2 : i - (cs.toList.take i).length = 0 := by rw [List.length_take]; omega
      rw [e2]
      simp
    rw [e] at h1
    exact h1
theorem sets_box0 {g : Nat} {t : TypeId} {w : World} {cs : Array Value} (vs : List Value) (h : Box w g t cs) (hn : cs.size = vs.length) : Box (sets g 0 vs w) g t vs.toArray := by
  have h1 := sets_box vs 0 w cs h (by omega)
  simpa using h1
theorem sets_below {g B : Nat} {w0 : World} : ∀ (vs : List Value) (i : Nat) (w : World), Below B w0 w → B ≤ g → Below B w0 (sets g i vs w)
  | [], _, _, h, _ => h
  | v :: vs, i, w, h, hg => sets_below vs (i + 1) _ (Below.setCell h (by exact hg) _) hg
theorem sets_turn {g : Nat} {gs : List Nat} {w0 : World} : ∀ (vs : List Value) (i : Nat) (w : World), Turn gs w0 w → g ∈ gs → Turn gs w0 (sets g i vs w)
  | [], _, _, h, _ => h
  | v :: vs, i, w, h, hg => sets_turn vs (i + 1) _ (h.put (Or.inl hg) _) hg
theorem sets_size {g : Nat} : ∀ (vs : List Value) (i : Nat) (w : World), (sets g i vs w).heap.size = w.heap.size
  | [], _, _ => rfl
  | v :: vs, i, w => (sets_size vs (i + 1) _).trans (by simp)
end Go.Proofs.Ytaceaemombnhkaa
