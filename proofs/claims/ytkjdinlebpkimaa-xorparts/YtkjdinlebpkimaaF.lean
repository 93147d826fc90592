/- Slices of byte slices that the call owns: blocks (memory of type byte), rows of them, an append of rows. -/
import Derived.Test.YtkjdinlebpkimaaE
namespace Go.Proofs.Ytkjdinlebpkimaa
set_option linter.unusedVariables false
open Go.RowKit
open Go.RowKit (wrap64)

theorem Try.info23 : (Try.prog.info? 23).map (fun i => (i.zero, i.size, i.bytes)) = some (some (.slice none 0 0), 1, 24) := by kernel_rfl

/-- A slice that reads as l, whose memory is of type byte. -/
def Blk (w : World) (u : Value) (l : List UInt8) : Prop := ∃ X c, u = .slice X l.length c ∧ Rd w w.heap.size X l ∧ ∀ ad, X = some ad → ∃ cs m, w.heap[ad.block]? = some (.cells cs 5 m)

theorem Blk.grown {w w' : World} {u : Value} {l : List UInt8} {row : Option Nat} (h : Blk w u l) (hg : w.grownBy w' row) (hr : ∀ g, row = some g → ∃ cs m, w.heap[g]? = some (.cells cs 23 m)) : Blk w' u l := by
  obtain ⟨X, c, rfl, hx, ht⟩ := h
  have hne : ∀ ad, X = some ad → some ad.block ≠ row := fun ad e e2 => by
    obtain ⟨cs, m, h1⟩ := ht ad e
    obtain ⟨cs2, m2, h2⟩ := hr ad.block e2.symm
    rw [h1] at h2
    injection h2 with h2
    injection h2 with _ h2
    cases h2
  have hlt : ∀ ad, X = some ad → ad.block < w.heap.size := fun ad e => by
    obtain ⟨cs, m, h1⟩ := ht ad e
    exact (Array.getElem?_eq_some_iff.1 h1).1
  refine ⟨X, c, rfl, fun h0 => ?_, fun ad e => ?_⟩
  · obtain ⟨ad, e, hb, hc⟩ := hx h0
    refine ⟨ad, e, Nat.lt_of_lt_of_le hb hg.size, fun j u hu => ?_⟩
    rw [← hc j u hu]
    exact World.cell?_of_block (hg.block _ (by rw [step_block]; exact hb) (by rw [step_block]; exact hne ad e))
  · obtain ⟨cs, m, h1⟩ := ht ad e
    exact ⟨cs, m, (hg.block _ (hlt ad e) (hne ad e)).trans h1⟩
theorem Blk.later {w w' : World} {u : Value} {l : List UInt8} (h : Blk w u l) (hb : Below w.heap.size w w') : Blk w' u l := h.grown (turned_of_below hb none) (fun g e => by cases e)
theorem Blk.one {w : World} {u : Value} {l : List UInt8} (h : Blk w u l) : u.oneCell' = true := by
  obtain ⟨X, c, rfl, _⟩ := h
  rfl
theorem blk_of_own {w : World} {base : Nat} {v : Value} {l : List UInt8} (h : Own w base 5 v l) : Blk w v l := by
  rcases h.2 with ⟨rfl, h0⟩ | ⟨g, cap, cur, rfl, hbg, hh, hc, _⟩
  · obtain rfl : l = [] := List.eq_nil_of_length_eq_zero h0
    exact ⟨none, 0, rfl, Rd.nil, fun ad e => by cases e⟩
  · obtain ⟨A, c, e, hr, _, _⟩ := h.rd
    injection e with e1 e2 e3
    subst e1
    exact ⟨_, cap, rfl, hr, fun ad e => by injection e with e; subst e; exact ⟨cur, _, hh⟩⟩
theorem blk_new (w : World) (l : List UInt8) : Blk (w.alloc (.cells (cBs l).toArray 5)) (.slice (some ⟨w.heap.size, 0, none⟩) l.length l.length) l :=
  ⟨_, _, rfl, (Rd.new w l 5).more (by simp), fun ad e => by injection e with e; subst e; exact ⟨_, _, heap_alloc_new w _⟩⟩

/-- The values us are the blocks ps. -/
def Blks (w : World) (us : List Value) (ps : List (List UInt8)) : Prop := us.length = ps.length ∧ ∀ (j : Nat) u l, us[j]? = some u → ps[j]? = some l → Blk w u l
theorem Blks.nil (w : World) : Blks w [] [] := ⟨rfl, fun j u l h => by simp at h⟩
theorem Blks.one_ {w : World} {u : Value} {l : List UInt8} (h : Blk w u l) : Blks w [u] [l] := ⟨rfl, fun j u' l' h1 h2 => by
  rcases j with _ | j
  · simp at h1 h2; subst h1; subst h2; exact h
  · simp at h1⟩
theorem Blks.append {w : World} {us vs : List Value} {ps qs : List (List UInt8)} (h : Blks w us ps) (k : Blks w vs qs) : Blks w (us ++ vs) (ps ++ qs) := ⟨by simp [h.1, k.1], fun j u l h1 h2 => by
  rcases Nat.lt_or_ge j us.length with hj | hj
  · rw [List.getElem?_append_left hj] at h1
    rw [List.getElem?_append_left (by rw [← h.1]; exact hj)] at h2
    exact h.2 j u l h1 h2
  · rw [List.getElem?_append_right hj] at h1
    rw [List.getElem?_append_right (by rw [← h.1]; exact hj), ← h.1] at h2
    exact k.2 _ u l h1 h2⟩
theorem Blks.grown {w w' : World} {us : List Value} {ps : List (List UInt8)} {row : Option Nat} (h : Blks w us ps) (hg : w.grownBy w' row) (hr : ∀ g, row = some g → ∃ cs m, w.heap[g]? = some (.cells cs 23 m)) : Blks w' us ps :=
  ⟨h.1, fun j u l h1 h2 => (h.2 j u l h1 h2).grown hg hr⟩
theorem Blks.cells {w : World} {us : List Value} {ps : List (List UInt8)} (h : Blks w us ps) : ∀ u ∈ us, u.oneCell' = true := fun u hu => by
  obtain ⟨j, hj, rfl⟩ := List.getElem_of_mem hu
  exact (h.2 j us[j] (ps[j]'(by rw [← h.1]; exact hj)) (by simp [hj]) (by simp [← h.1, hj])).one

/-- The slice v is one of the call's own and holds the blocks ps. -/
def OwnB (w : World) (base : Nat) (v : Value) (ps : List (List UInt8)) : Prop := ∃ us, w.ownsRow base 23 1 v ps.length us ∧ Blks w us ps
theorem own_typed {w : World} {base n : Nat} {v : Value} {us : List Value} (h : w.ownsRow base 23 1 v n us) : ∀ g, v.ownBlock = some g → ∃ cs m, w.heap[g]? = some (.cells cs 23 m) := fun g hg => by
  rcases h.2 with ⟨rfl, _⟩ | ⟨g', cap, cur, rfl, _, hh, _⟩
  · cases hg
  · injection hg with hg; subst hg; exact ⟨cur, _, hh⟩
theorem OwnB.nil (w : World) (base : Nat) : OwnB w base (.slice none 0 0) [] := ⟨[], World.ownsRow_nil _ _ _ _, Blks.nil w⟩
theorem OwnB.kept {w w' : World} {base : Nat} {v : Value} {ps : List (List UInt8)} {row : Option Nat} (h : OwnB w base v ps) (hg : w.grownBy w' row) (hne : v.ownBlock = none ∨ v.ownBlock ≠ row)
    (hr : ∀ g, row = some g → ∃ cs m, w.heap[g]? = some (.cells cs 23 m)) : OwnB w' base v ps := by
  obtain ⟨us, h1, h2⟩ := h
  exact ⟨us, World.ownsRow.kept h1 hg hne, h2.grown hg hr⟩
theorem OwnB.later {w w' : World} {base : Nat} {v : Value} {ps : List (List UInt8)} (h : OwnB w base v ps) (hb : Below w.heap.size w w') : OwnB w' base v ps := by
  refine h.kept (turned_of_below hb none) ?_ (fun g e => by cases e)
  cases hv : v.ownBlock with
  | none => exact .inl rfl
  | some g => exact .inr (by simp)
theorem OwnB.lt {w : World} {base : Nat} {v : Value} {ps : List (List UInt8)} (h : OwnB w base v ps) : ∀ k, v.ownBlock = some k → base ≤ k ∧ k < w.heap.size := by
  obtain ⟨us, h1, h2⟩ := h
  exact World.ownsRow.lt h1
theorem OwnB.form {w : World} {base : Nat} {v : Value} {ps : List (List UInt8)} (h : OwnB w base v ps) : ∃ A c, v = .slice A ps.length c ∧ Pts w w.heap.size A ps := by
  obtain ⟨us, h1, h2⟩ := h
  rcases h1.2 with ⟨rfl, h0⟩ | ⟨g, cap, cur, rfl, hbg, hh, hc, _⟩
  · obtain rfl : ps = [] := List.eq_nil_of_length_eq_zero h0
    exact ⟨none, 0, rfl, fun h => by simp at h⟩
  · refine ⟨_, cap, rfl, fun h0 => ⟨g, 0, rfl, (Array.getElem?_eq_some_iff.1 hh).1, fun j hj => ?_⟩⟩
    have hj' : j < us.length := by rw [h2.1]; exact hj
    obtain ⟨X, c, hu, hx, _⟩ := h2.2 j us[j] ps[j] (by simp [hj']) (by simp [hj])
    have hcell := World.ownsRow.cells h1 rfl j us[j] (by simp [hj'])
    have hadd : (⟨g, 0, none⟩ : Addr).add j = ⟨g, 0 + j, none⟩ := by unfold Addr.add; split <;> simp_all
    rw [hadd, hu] at hcell
    exact ⟨X, c, hcell, hx⟩

/-- Blocks at an address: the source of an append. -/
def Lst (w : World) (X : Option Addr) (qs : List (List UInt8)) : Prop := ∃ us, (∀ (j : Nat) u, us[j]? = some u → ∃ ad, X = some ad ∧ w.cell? (ad.add j) = some u) ∧ Blks w us qs
theorem Lst.one {w : World} {u : Value} {l : List UInt8} (h : Blk w u l) : Lst (w.alloc (.cells #[u] 23)) (some ⟨w.heap.size, 0, none⟩) [l] :=
  ⟨[u], fun j u' hu => ⟨_, rfl, cell_one_new w u 23 j u' hu⟩, Blks.one_ (h.later ((Below.refl _ _).alloc (Nat.le_refl _) _))⟩
theorem Lst.later {w w' : World} {X : Option Addr} {qs : List (List UInt8)} (h : Lst w X qs) (hb : Below w.heap.size w w') : Lst w' X qs := by
  obtain ⟨us, h1, h2⟩ := h
  refine ⟨us, fun j u hu => ?_, h2.grown (turned_of_below hb none) (fun g e => by cases e)⟩
  obtain ⟨ad, e, hc⟩ := h1 j u hu
  refine ⟨ad, e, (hb.cell ?_).trans hc⟩
  rcases Nat.lt_or_ge (ad.add j).block w.heap.size with hl | hl
  · exact hl
  · simp [World.cell?, Array.getElem?_eq_none hl] at hc
theorem OwnB.lst {w : World} {base : Nat} {A : Option Addr} {n c : Nat} {ps : List (List UInt8)} (h : OwnB w base (.slice A n c) ps) : Lst w A ps := by
  obtain ⟨us, h1, h2⟩ := h
  refine ⟨us, fun j u hu => ?_, h2⟩
  rcases h1.2 with ⟨e, h0⟩ | ⟨g, cap, cur, e, _⟩
  · have : us.length = 0 := by rw [h1.1, h0]
    have hj := (List.getElem?_eq_some_iff.1 hu).1
    omega
  · injection e with e1 e2 e3
    subst e1
    exact ⟨_, rfl, World.ownsRow.cells h1 rfl j u hu⟩
theorem own_one {w : World} {base : Nat} {u : Value} {l : List UInt8} (h : Blk w u l) (hb : base ≤ w.heap.size) : OwnB (w.alloc (.cells #[u] 23)) base (.slice (some ⟨w.heap.size, 0, none⟩) 1 1) [l] :=
  ⟨[u], World.ownsRow_lit (e := 23) (base := base) (size := 1) w #[u] 1 hb (by unfold maxLen; omega) (by simp), Blks.one_ (h.later ((Below.refl _ _).alloc (Nat.le_refl _) _))⟩

theorem wpList_appB (w : World) {ops : Array Oper} {rest : List Oper} {o : Oper} {a : Act} {Q : Exit → Act → World → Prop} (hgd : o.guard = none) (s x : Operand)
    (ho : o.op = .call { callee := .builtin .append, args := #[s, x], argTypes := #[22, 22] })
    (base : Nat) (v : Value) (ps : List (List UInt8)) (hs : a.eval s = v) (hown : OwnB w base v ps) (X : Option Addr) (c : Nat) (qs : List (List UInt8)) (hx : a.eval x = .slice X qs.length c) (hr : Lst w X qs)
    (hl : ps.length + qs.length ≤ 1000000) (hbase : base ≤ w.heap.size)
    (h : ∀ v' w', OwnB w' base v' (ps ++ qs) → w.grownBy w' v.ownBlock → (v'.ownBlock = v.ownBlock ∨ v'.ownBlock = some w.heap.size) → wpList Try.prog ops Q rest (a.put o.dst v') w') : wpList Try.prog ops Q (o :: rest) a w := by
  obtain ⟨i0, hi, hz0, hz1, hz2⟩ := info_parts Try.info23
  obtain ⟨us, h1, h2⟩ := hown
  obtain ⟨ns, h3, h4⟩ := hr
  rcases X with _ | ad
  · have h0 : qs = [] := by
      rcases Nat.eq_zero_or_pos qs.length with h0 | h0
      · exact List.eq_nil_of_length_eq_zero h0
      · obtain ⟨ad, h, _⟩ := h3 0 (ns[0]'(by rw [h4.1]; exact h0)) (by simp)
        cases h
    subst h0
    have hrun : (Builtin.append_ #[22, 22] o.type #[v, .slice none 0 c]).run Try.prog w = .ok v w := by
      rcases h1.2 with ⟨rfl, hl0⟩ | ⟨g, cap, cur, rfl, _, _, hnc, _⟩
      · simp [Builtin.append_, run_underlying Try.underlying22, sizeOf, typeInfo, hi, Builtin.lenOf, Builtin.firstCells]
      · simp [Builtin.append_, run_underlying Try.underlying22, sizeOf, typeInfo, hi, Builtin.lenOf, Builtin.firstCells, hnc, storeCells]
    refine wpList_plain hgd fun K hK => ?_
    unfold Oper.wp
    simp only [List.length_nil] at hx
    simp [execOp, ho, resolve, invoke, builtin, hs, hx, hrun, Result.andThen]
    exact hK _ _ (h v w (by simpa using ⟨us, h1, h2⟩) (World.grownBy.refl w _) (.inl rfl))
  · refine wpList_append_own_at (P := Try.prog) w hgd s x 22 ho base 23 i0 (.slice none 0 0) 1 24 Try.underlying22 hi hz0 hz1 hz2 rfl (by omega) v ps.length us hs h1 ad qs.length c ns hx (by rw [h4.1]; omega) ?_ h4.cells (by unfold maxLen; omega) (by omega) hbase ?_
    · intro j u hj
      obtain ⟨ad', e, hc⟩ := h3 j u hj
      injection e with e
      subst e
      exact hc
    · intro v' w' k1 k2 _ k4
      refine h v' w' ⟨us ++ ns, ?_, (h2.append h4).grown k2 (own_typed h1)⟩ k2 k4
      rw [List.length_append]
      exact k1
end Go.Proofs.Ytkjdinlebpkimaa
