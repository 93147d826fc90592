/- A member in memory: its block, its zones' block, its zones' bytes. -/
import Derived.Test.YtbaolfncolfipaaJ
namespace Go.Proofs.Ytbaolfncolfipaa
set_option linter.unusedVariables false
set_option linter.unusedSimpArgs false
open Go.RowKit
open Go.RowKit (wrap64)

/-- A zone of a member: how many blocks are written, how many are safe, whether it is finished, its bytes, and where they lie. -/
structure Zs where
  k : Nat
  safe : Nat
  done : Bool
  D : List UInt8
  A : Option Addr
  c : Nat
def Zs.cells (cap blk : Nat) (z : Zs) : List Value := [.int .i64 (cap : Int), .int .i64 (blk : Int), .slice z.A z.D.length z.c, .int .i64 (z.safe : Int), .bool z.done]
def zcells (cap blk : Nat) (zs : List Zs) : List Value := (zs.map (Zs.cells cap blk)).flatten
theorem zcells_cons (cap blk : Nat) (z : Zs) (zs : List Zs) : zcells cap blk (z :: zs) = z.cells cap blk ++ zcells cap blk zs := by simp [zcells]
theorem zcells_at (cap blk : Nat) : ∀ (zs : List Zs) (i j : Nat) (hi : i < zs.length), j < 5 → (zcells cap blk zs)[i * 5 + j]? = (zs[i].cells cap blk)[j]?
  | z :: r, 0, j, _, hj => by
    rw [zcells_cons, Nat.zero_mul, Nat.zero_add, List.getElem?_append_left (by simpa [Zs.cells] using hj)]
    rfl
  | z :: r, i + 1, j, hi, hj => by
    rw [zcells_cons, List.getElem?_append_right (by simp [Zs.cells]; omega)]
    have e : (i + 1) * 5 + j - (z.cells cap blk).length = i * 5 + j := by simp [Zs.cells]; omega
    rw [e]
    exact zcells_at cap blk r i j (by simpa using hi) hj
theorem zcells_length (cap blk : Nat) (zs : List Zs) : (zcells cap blk zs).length = zs.length * 5 := by
  induction zs with
  | nil => rfl
  | cons z r ih => rw [zcells_cons, List.length_append, ih]; simp [Zs.cells]; omega
theorem zcells_set (cap blk : Nat) (z : Zs) : ∀ (zs : List Zs) (i : Nat), i < zs.length → zcells cap blk (zs.set i z) =
    (((((zcells cap blk zs).set (i * 5) (.int .i64 (cap : Int))).set (i * 5 + 1) (.int .i64 (blk : Int))).set (i * 5 + 2) (.slice z.A z.D.length z.c)).set (i * 5 + 3) (.int .i64 (z.safe : Int))).set (i * 5 + 4) (.bool z.done)
  | y :: r, 0, _ => by
    rw [List.set_cons_zero, zcells_cons, zcells_cons]
    simp [Zs.cells]
  | y :: r, i + 1, hi => by
    have h := zcells_set cap blk z r i (by simpa using hi)
    rw [List.set_cons_succ, zcells_cons, zcells_cons, h]
    have e : ∀ (j : Nat) (l : List Value) (u : Value), (y.cells cap blk ++ l).set ((i + 1) * 5 + j) u = y.cells cap blk ++ l.set (i * 5 + j) u := fun j l u => by
      rw [List.set_append_right _ _ (by simp [Zs.cells]; omega)]
      have e : (i + 1) * 5 + j - (y.cells cap blk).length = i * 5 + j := by simp [Zs.cells]; omega
      rw [e]
    have e0 := e 0
    simp only [Nat.add_zero] at e0
    rw [e0, e 1, e 2, e 3, e 4]

/-- The member at block p, with its zones at block zb. -/
structure DevAt (w : World) (p zb cap blk : Nat) (limit : Int) (bad : Nat) (zs : List Zs) : Prop where
  bp : DevBox w p (some ⟨zb, 0, none⟩) zs.length zs.length limit bad false
  bz : Box w zb 74 (zcells cap blk zs).toArray
  ok : ∀ z ∈ zs, Zok cap blk z.k z.safe z.D.length z.c
  mem : ∀ z ∈ zs, Mem 5 w z.A (cBs z.D)
  len : zs.length ≤ 64

section
variable {w w' : World} {p zb cap blk : Nat} {limit : Int} {bad : Nat} {zs : List Zs}
theorem DevAt.ne (h : DevAt w p zb cap blk limit bad zs) : p ≠ zb := by
  rintro rfl
  have h1 := h.bp
  have h2 := h.bz
  unfold DevBox Box at h1
  unfold Box at h2
  rw [h1] at h2
  injection h2 with h2
  injection h2 with _ h2
  cases h2
theorem DevAt.later (h : DevAt w p zb cap blk limit bad zs) (hb : Below w.heap.size w w') : DevAt w' p zb cap blk limit bad zs :=
  ⟨Box.later h.bp hb, h.bz.later hb, h.ok, fun z hz => (h.mem z hz).later hb, h.len⟩
theorem DevAt.turn {gs : List Nat} (h : DevAt w p zb cap blk limit bad zs) (ht : Turn gs w w') (hg : ∀ g ∈ gs, Else 5 w g) (hp : p ∉ gs) (hz : zb ∉ gs) : DevAt w' p zb cap blk limit bad zs :=
  ⟨Box.turn h.bp ht hp, h.bz.turn ht hz, h.ok, fun z hz => (h.mem z hz).turn ht hg, h.len⟩
theorem DevAt.drew (h : DevAt w p zb cap blk limit bad zs) : DevAt w.drew p zb cap blk limit bad zs := h.later (Below.refl _ _).drew
/-- One call more is counted. -/
theorem DevAt.count (h : DevAt w p zb cap blk limit bad zs) : DevAt (w.setCell ⟨p, 2, none⟩ (.int .i64 ((bad + 1 : Nat) : Int))) p zb cap blk limit (bad + 1) zs := by
  have ht : Turn [p] w (w.setCell ⟨p, 2, none⟩ (.int .i64 ((bad + 1 : Nat) : Int))) := (Turn.refl _ _).put (by simp) _
  refine ⟨Box.store h.bp 2 _, h.bz.turn ht (by simpa using fun e => h.ne e.symm), h.ok, fun z hz => (h.mem z hz).turn ht ?_, h.len⟩
  intro g hg
  obtain rfl : g = p := by simpa using hg
  exact Box.else_ h.bp (by decide)
/-- The cells of its i-th zone. -/
theorem DevAt.zone (h : DevAt w p zb cap blk limit bad zs) {i : Nat} (hi : i < zs.length) :
    (w.cell? ⟨zb, i * 5, none⟩ = some (.int .i64 (cap : Int)) ∧ w.cell? ⟨zb, i * 5 + 1, none⟩ = some (.int .i64 (blk : Int)) ∧ w.cell? ⟨zb, i * 5 + 2, none⟩ = some (.slice zs[i].A zs[i].D.length zs[i].c) ∧ w.cell? ⟨zb, i * 5 + 3, none⟩ = some (.int .i64 (zs[i].safe : Int)) ∧ w.cell? ⟨zb, i * 5 + 4, none⟩ = some (.bool zs[i].done)) ∧
    (w.frozen? ⟨zb, i * 5, none⟩ = false ∧ w.frozen? ⟨zb, i * 5 + 1, none⟩ = false ∧ w.frozen? ⟨zb, i * 5 + 2, none⟩ = false ∧ w.frozen? ⟨zb, i * 5 + 3, none⟩ = false ∧ w.frozen? ⟨zb, i * 5 + 4, none⟩ = false) := by
  have e : ∀ j, j < 5 → w.cell? ⟨zb, i * 5 + j, none⟩ = (zs[i].cells cap blk)[j]? := fun j hj => by
    rw [h.bz.cell, List.getElem?_toArray, zcells_at cap blk zs i j hi hj]
  exact ⟨⟨e 0 (by omega), e 1 (by omega), e 2 (by omega), e 3 (by omega), e 4 (by omega)⟩, h.bz.frozen _, h.bz.frozen _, h.bz.frozen _, h.bz.frozen _, h.bz.frozen _⟩
/-- A zone is written anew. -/
theorem DevAt.put (h : DevAt w p zb cap blk limit bad zs) {i : Nat} (hi : i < zs.length) (z : Zs) (hz : Zok cap blk z.k z.safe z.D.length z.c) (hm : Mem 5 w z.A (cBs z.D)) :
    DevAt (((((w.setCell ⟨zb, i * 5, none⟩ (.int .i64 (cap : Int))).setCell ⟨zb, i * 5 + 1, none⟩ (.int .i64 (blk : Int))).setCell ⟨zb, i * 5 + 2, none⟩ (.slice z.A z.D.length z.c)).setCell ⟨zb, i * 5 + 3, none⟩ (.int .i64 (z.safe : Int))).setCell ⟨zb, i * 5 + 4, none⟩ (.bool z.done)) p zb cap blk limit bad (zs.set i z) ∧
    Turn [zb] w (((((w.setCell ⟨zb, i * 5, none⟩ (.int .i64 (cap : Int))).setCell ⟨zb, i * 5 + 1, none⟩ (.int .i64 (blk : Int))).setCell ⟨zb, i * 5 + 2, none⟩ (.slice z.A z.D.length z.c)).setCell ⟨zb, i * 5 + 3, none⟩ (.int .i64 (z.safe : Int))).setCell ⟨zb, i * 5 + 4, none⟩ (.bool z.done)) := by
  have ht : Turn [zb] w (((((w.setCell ⟨zb, i * 5, none⟩ (.int .i64 (cap : Int))).setCell ⟨zb, i * 5 + 1, none⟩ (.int .i64 (blk : Int))).setCell ⟨zb, i * 5 + 2, none⟩ (.slice z.A z.D.length z.c)).setCell ⟨zb, i * 5 + 3, none⟩ (.int .i64 (z.safe : Int))).setCell ⟨zb, i * 5 + 4, none⟩ (.bool z.done)) := by
    repeat (first | with_reducible exact Turn.refl _ _ | with_reducible refine Turn.put ?_ (by simp) _)
  have hel : ∀ g ∈ [zb], Else 5 w g := fun g hg => by
    obtain rfl : g = zb := by simpa using hg
    exact h.bz.else_ (by decide)
  refine ⟨⟨?_, ?_, fun y hy => ?_, fun y hy => ?_, by simpa using h.len⟩, ht⟩
  · have := Box.turn h.bp ht (by simpa using h.ne)
    simpa [DevBox] using this
  · have h5 := ((((h.bz.store (i * 5) (.int .i64 (cap : Int))).store (i * 5 + 1) (.int .i64 (blk : Int))).store (i * 5 + 2) (.slice z.A z.D.length z.c)).store (i * 5 + 3) (.int .i64 (z.safe : Int))).store (i * 5 + 4) (.bool z.done)
    simp only [List.setIfInBounds_toArray] at h5
    rw [← zcells_set cap blk z zs i hi] at h5
    exact h5
  · rcases List.mem_or_eq_of_mem_set hy with hy | rfl
    · exact h.ok y hy
    · exact hz
  · rcases List.mem_or_eq_of_mem_set hy with hy | rfl
    · exact (h.mem y hy).turn ht hel
    · exact hm.turn ht hel
end

/-- How many zones are in use. -/
def nAct (cap : Nat) : List Zs → Nat
  | [] => 0
  | z :: r => (if actB cap z.k z.done = true then 1 else 0) + nAct cap r
theorem nAct_le (cap : Nat) : ∀ zs : List Zs, nAct cap zs ≤ zs.length
  | [] => Nat.le_refl _
  | z :: r => by have := nAct_le cap r; simp only [nAct, List.length_cons]; split <;> omega
theorem nAct_take (cap : Nat) : ∀ (zs : List Zs) (i : Nat) (hi : i < zs.length), nAct cap (zs.take (i + 1)) = nAct cap (zs.take i) + (if actB cap zs[i].k zs[i].done = true then 1 else 0)
  | z :: r, 0, _ => by simp [nAct]
  | z :: r, i + 1, hi => by
    have h := nAct_take cap r i (by simpa using hi)
    simp only [List.take_succ_cons, nAct, List.getElem_cons_succ, h]
    omega
theorem nAct_set (cap : Nat) (y : Zs) : ∀ (zs : List Zs) (i : Nat) (hi : i < zs.length), nAct cap (zs.set i y) + (if actB cap zs[i].k zs[i].done = true then 1 else 0) = nAct cap zs + (if actB cap y.k y.done = true then 1 else 0)
  | z :: r, 0, _ => by simp only [List.set_cons_zero, nAct, List.getElem_cons_zero]; omega
  | z :: r, i + 1, hi => by
    have h := nAct_set cap y r i (by simpa using hi)
    simp only [List.set_cons_succ, nAct, List.getElem_cons_succ]
    omega
end Go.Proofs.Ytbaolfncolfipaa
