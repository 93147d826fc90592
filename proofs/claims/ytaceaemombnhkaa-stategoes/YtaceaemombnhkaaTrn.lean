/- What turned: all blocks but some stay. -/
import Derived.Test.YtaceaemombnhkaaOrb
import Derived.Test.YtaceaemombnhkaaArg
namespace Go.Proofs.Ytaceaemombnhkaa
open Go.RowKit
set_option linter.unusedVariables false

/-- Only the blocks gs, and what is new, have turned. -/
structure Turn (gs : List Nat) (w w' : World) : Prop where
  os : w'.os = w.os
  tape : w'.tape = w.tape
  output : w'.output = w.output
  size : w.heap.size ≤ w'.heap.size
  block : ∀ k, k < w.heap.size → k ∉ gs → w'.heap[k]? = w.heap[k]?
theorem Turn.refl (gs : List Nat) (w : World) : Turn gs w w := ⟨rfl, rfl, rfl, Nat.le_refl _, fun _ _ _ => rfl⟩
theorem Turn.put {gs : List Nat} {a w : World} (h : Turn gs a w) {p : Addr} (hp : p.block ∈ gs ∨ a.heap.size ≤ p.block) (u : Value) : Turn gs a (w.setCell p u) where
  os := h.os
  tape := h.tape
  output := h.output
  size := by simpa [World.setCell] using h.size
  block := fun k hk hne => by
    have hkp : k ≠ p.block := by
      rintro rfl
      rcases hp with hp | hp
      · exact hne hp
      · omega
    rw [Below.heap_setCell w p u k hkp]
    exact h.block k hk hne
theorem Turn.alloc {gs : List Nat} {a w : World} (h : Turn gs a w) (o : Obj) : Turn gs a (w.alloc o) where
  os := h.os
  tape := h.tape
  output := h.output
  size := by have := h.size; simp; omega
  block := fun k hk hne => (Below.heap_alloc w o k (by have := h.size; omega)).trans (h.block k hk hne)
theorem Turn.drew {gs : List Nat} {a w : World} (h : Turn gs a w) : Turn gs a w.drew := ⟨h.os, h.tape, h.output, h.size, h.block⟩
theorem Turn.below {gs : List Nat} {a w : World} {B : Nat} (h : Turn gs a w) (hg : ∀ g ∈ gs, B ≤ g) (hB : B ≤ a.heap.size) : Below B a w :=
  ⟨h.os, h.tape, h.output, h.size, fun k hk => h.block k (by omega) (fun hm => by have := hg k hm; omega)⟩
theorem Turn.of_below {gs : List Nat} {a w : World} {B : Nat} (h : Below B a w) (hB : a.heap.size ≤ B) : Turn gs a w := ⟨h.os, h.tape, h.output, h.size, fun k hk _ => h.block k (by omega)⟩
theorem Turn.trans {gs : List Nat} {a b c : World} (h : Turn gs a b) (k : Turn gs b c) : Turn gs a c :=
  ⟨k.os.trans h.os, k.tape.trans h.tape, k.output.trans h.output, Nat.le_trans h.size k.size, fun i hi hn => (k.block i (Nat.lt_of_lt_of_le hi h.size) hn).trans (h.block i hi hn)⟩
theorem Box.later {w w' : World} {g : Nat} {t : TypeId} {cs : Array Value} (h : Box w g t cs) (hb : Below w.heap.size w w') : Box w' g t cs := h.under hb h.lt
theorem Box.turn {gs : List Nat} {w w' : World} {g : Nat} {t : TypeId} {cs : Array Value} (h : Box w g t cs) (ht : Turn gs w w') (hg : g ∉ gs) : Box w' g t cs := (ht.block g h.lt hg).trans h
end Go.Proofs.Ytaceaemombnhkaa
