/- The reference's Split: a row of blocks whose last one grows. -/
import Derived.Test.YtkjdinlebpkimaaS
namespace Go.Proofs.Ytkjdinlebpkimaa
set_option linter.unusedVariables false
set_option linter.unusedSimpArgs false
open Go.RowKit
open Go.RowKit (wrap64)

/-- The row v of the call's own: the blocks ps, and behind them the block u, which alone is still growing and reads as cur. -/
def Grow (w wr : World) (g p cap : Nat) (u : Value) (ps : List (List UInt8)) (cur : List UInt8) : Prop :=
  ∃ us : List Value, us.length = p ∧ wr.ownsRow w.heap.size 23 1 (.slice (some ⟨g, 0, none⟩) (p + 1) cap) (p + 1) (us ++ [u]) ∧ Blks wr us ps ∧ Own wr w.heap.size 5 u cur ∧
    (∀ x ∈ us, u.ownBlock = none ∨ x.ownBlock ≠ u.ownBlock) ∧ Below w.heap.size w wr

theorem Blk.lt {w : World} {x : Value} {l : List UInt8} (h : Blk w x l) : ∀ g, x.ownBlock = some g → g < w.heap.size := fun g e => by
  obtain ⟨X, c, rfl, _, ht⟩ := h
  rcases X with _ | ad
  · cases e
  · injection e with e
    subst e
    obtain ⟨cs, m, h1⟩ := ht ad rfl
    exact (Array.getElem?_eq_some_iff.1 h1).1
/-- A block elsewhere stays. -/
theorem Blk.apart {w w' : World} {x : Value} {l : List UInt8} {row : Option Nat} (h : Blk w x l) (hg : w.grownBy w' row) (hne : row = none ∨ x.ownBlock ≠ row) : Blk w' x l := by
  have hlt := h.lt
  obtain ⟨X, c, rfl, hx, ht⟩ := h
  have hne' : ∀ ad, X = some ad → some ad.block ≠ row := fun ad e e2 => by
    subst e
    rcases hne with h0 | h0
    · rw [h0] at e2; cases e2
    · exact h0 e2
  refine ⟨X, c, rfl, fun h0 => ?_, fun ad e => ?_⟩
  · obtain ⟨ad, e, hb, hc⟩ := hx h0
    refine ⟨ad, e, Nat.lt_of_lt_of_le hb hg.size, fun j u hu => ?_⟩
    rw [← hc j u hu]
    exact World.cell?_of_block (hg.block _ (by rw [step_block]; exact hb) (by rw [step_block]; exact hne' ad e))
  · obtain ⟨cs, m, h1⟩ := ht ad e
    exact ⟨cs, m, (hg.block _ (by subst e; exact hlt _ rfl) (hne' ad e)).trans h1⟩
theorem own_typed5 {w : World} {base : Nat} {v : Value} {l : List UInt8} (h : Own w base 5 v l) : ∀ g, v.ownBlock = some g → ∃ cs m, w.heap[g]? = some (.cells cs 5 m) := fun g hg => by
  rcases h.2 with ⟨rfl, _⟩ | ⟨g', cap, cur, rfl, _, hh, _⟩
  · cases hg
  · injection hg with hg; subst hg; exact ⟨cur, _, hh⟩
theorem own_block {A : Option Addr} {n c : Nat} {w : World} {base : Nat} {l : List UInt8} (h : Own w base 5 (.slice A n c) l) : (Value.slice A n c).ownBlock = A.map (·.block) := by
  cases A <;> rfl

theorem Grow.parts {w wr : World} {g p cap : Nat} {u : Value} {ps : List (List UInt8)} {cur : List UInt8} (h : Grow w wr g p cap u ps cur) : OwnB wr w.heap.size (.slice (some ⟨g, 0, none⟩) (p + 1) cap) (ps ++ [cur]) := by
  obtain ⟨us, hp, h1, h2, h3, _, _⟩ := h
  refine ⟨us ++ [u], ?_, h2.append (Blks.one_ (blk_of_own h3))⟩
  rw [List.length_append, ← h2.1, hp]
  exact h1
theorem Grow.drew {w wr : World} {g p cap : Nat} {u : Value} {ps : List (List UInt8)} {cur : List UInt8} (h : Grow w wr g p cap u ps cur) : Grow w wr.drew g p cap u ps cur := by
  obtain ⟨us, hp, h1, h2, h3, h4, h5⟩ := h
  exact ⟨us, hp, h1, h2.grown (turned_of_below ((Below.refl _ _).drew) none) (fun g e => by cases e), h3, h4, h5.drew⟩
theorem Grow.cell {w wr : World} {g p cap : Nat} {u : Value} {ps : List (List UInt8)} {cur : List UInt8} (h : Grow w wr g p cap u ps cur) : wr.cell? ⟨g, p, none⟩ = some u := by
  obtain ⟨us, hp, h1, _⟩ := h
  rw [World.ownsRow.cellAt h1 p (by omega)]
  simp [← hp]

/-- One byte more. -/
theorem Grow.next {w w0 : World} {g p cap : Nat} {u : Value} {ps : List (List UInt8)} {cur : List UInt8} (h : Grow w w0 g p cap u ps cur) (x : UInt8) (hl : cur.length ≤ 100000) :
    ∃ A c w2, (Builtin.append_ #[23, 23] 23 #[u, .slice (some ⟨w0.heap.size, 0, none⟩) 1 1]).run Try.prog (w0.alloc (.cells #[.int .u8 (x.toNat : Int)] 5)) = .ok (.slice A (cur.length + 1) c) w2 ∧
      Grow w (w2.setCell ⟨g, p, none⟩ (.slice A (cur.length + 1) c)) g p cap (.slice A (cur.length + 1) c) ps (cur ++ [x]) ∧
      Below w.heap.size (w0.alloc (.cells #[.int .u8 (x.toNat : Int)] 5)) w2 ∧ Below w.heap.size w2 (w2.setCell ⟨g, p, none⟩ (.slice A (cur.length + 1) c)) ∧ w2.frozen? ⟨g, p, none⟩ = false ∧ w2.cell? ⟨g, p, none⟩ = some u := by
  obtain ⟨us, hp, h1, h2, h3, h4, h5⟩ := h
  obtain ⟨i0, hi, hz0, hz1, hz2⟩ := info_parts Try.info5
  have hgg : w.heap.size ≤ g ∧ g < w0.heap.size := World.ownsRow.lt h1 g rfl
  have b1 : Below w0.heap.size w0 (w0.alloc (.cells #[.int .u8 (x.toNat : Int)] 5)) := (Below.refl _ _).alloc (Nat.le_refl _) _
  have hs1 : (w0.alloc (.cells #[.int .u8 (x.toNat : Int)] 5)).heap.size = w0.heap.size + 1 := by simp
  have h1' := World.ownsRow.alloc h1 (.cells #[.int .u8 (x.toNat : Int)] 5)
  have h3' : Own (w0.alloc (.cells #[.int .u8 (x.toNat : Int)] 5)) w.heap.size 5 u cur := own_alloc h3 _
  have hcx : ∀ (j : Nat) v, (cBs [x])[j]? = some v → (w0.alloc (.cells #[.int .u8 (x.toNat : Int)] 5)).cell? ((⟨w0.heap.size, 0, none⟩ : Addr).add j) = some v := fun j v hv => cell_one_new w0 _ 5 j v hv
  have h2' : Blks (w0.alloc (.cells #[.int .u8 (x.toNat : Int)] 5)) us ps := h2.grown (turned_of_below b1 none) (fun g e => by cases e)
  obtain ⟨v', w2, hrun, ho, hg, _, hb⟩ := run_append_own_at (P := Try.prog) _ w.heap.size 23 23 5 i0 (.int .u8 0) 1 1 Try.underlying23 hi hz0 hz1 hz2 rfl (by omega) u cur.length (cBs cur) h3' ⟨w0.heap.size, 0, none⟩ 1 1 (cBs [x]) (by simp [cBs]) hcx (cBs_one _) (by unfold maxLen; omega) (by omega) (by rw [hs1]; have := h5.size; omega)
  have ho' : Own w2 w.heap.size 5 v' (cur ++ [x]) := by
    unfold Own
    rw [List.length_append, cBs_append]
    exact ho
  obtain ⟨A, c, rfl, _⟩ := ho'.rd
  have hlen : (cur ++ [x]).length = cur.length + 1 := by simp
  rw [hlen] at hrun ho' hb
  have hne : some g ≠ u.ownBlock := fun e => by
    obtain ⟨cs, m, k1⟩ := own_typed5 h3' g e.symm
    obtain ⟨cs2, m2, k2⟩ := own_typed h1' g rfl
    rw [k1] at k2
    injection k2 with k2
    injection k2 with _ k2
    cases k2
  have r2 : w2.ownsRow w.heap.size 23 1 (.slice (some ⟨g, 0, none⟩) (p + 1) cap) (p + 1) (us ++ [u]) := World.ownsRow.kept h1' hg (.inr hne)
  have b2 : Blks w2 us ps := ⟨h2'.1, fun j v l k1 k2 => (h2'.2 j v l k1 k2).apart hg (h4 v (List.mem_of_getElem? k1))⟩
  have bel2 : Below w.heap.size (w0.alloc (.cells #[.int .u8 (x.toNat : Int)] 5)) w2 := (Below.refl _ _).grown hg (by rw [hs1]; have := h5.size; omega) (fun k hk => (World.ownsRow.lt h3' k hk).1)
  obtain ⟨r3, g3⟩ := World.ownsRow.stored r2 p (.slice A (cur.length + 1) c)
  have bel3 : Below w.heap.size w2 (w2.setCell ⟨g, p, none⟩ (.slice A (cur.length + 1) c)) := (Below.refl _ _).grown g3 (by have := bel2.size; have := h5.size; rw [hs1] at *; omega) (fun k hk => by injection hk with hk; subst hk; exact hgg.1)
  have hne2 : some g ≠ (Value.slice A (cur.length + 1) c).ownBlock := fun e => by
    obtain ⟨cs, m, k1⟩ := own_typed5 ho' g e.symm
    obtain ⟨cs2, m2, k2⟩ := own_typed r2 g rfl
    rw [k1] at k2
    injection k2 with k2
    injection k2 with _ k2
    cases k2
  refine ⟨A, c, w2, hrun, ⟨us, hp, ?_, b2.grown g3 (fun k hk => own_typed r2 k hk), World.ownsRow.kept ho' g3 (.inr fun e => hne2 e.symm), fun y hy => ?_, ((h5.trans (b1.mono h5.size)).trans bel2).trans bel3⟩, bel2, bel3, World.ownsRow.frozenAt r2 p, by rw [World.ownsRow.cellAt r2 p (by omega)]; simp [← hp]⟩
  · have e : (us ++ [u]).set p (.slice A (cur.length + 1) c) = us ++ [.slice A (cur.length + 1) c] := by
      rw [← hp, List.set_append_right _ _ (Nat.le_refl _)]
      simp
    rw [← e]
    exact r3
  · rcases hb with hb | hb
    · rw [hb]; exact h4 y hy
    · refine .inr fun e => ?_
      obtain ⟨j, hj, rfl⟩ := List.getElem_of_mem hy
      have hbl := h2.2 j us[j] (ps[j]'(by rw [← h2.1]; exact hj)) (by simp [hj]) (by simp [← h2.1, hj])
      rw [hb] at e
      have := hbl.lt _ e
      rw [hs1] at this
      omega
end Go.Proofs.Ytkjdinlebpkimaa
