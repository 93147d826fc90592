/- P9.4's plain part: what each member has behind the steps of the first blocks is what it needs. -/
import Derived.Test.YteglgopbagefcaaPf
namespace Go.Proofs.Yteglgopbagefcaa
set_option linter.unusedVariables false
set_option linter.unusedSimpArgs false
open Go.RowKit Go.Shelf
open Go.RowKit (wrap64)

/-- How much of member m's zone these steps write. -/
def hasN (l : List St) (m : Int) : Int := (l.map fun s => if s.m = m then s.n else 0).sum
theorem hasN_nil (m : Int) : hasN [] m = 0 := rfl
theorem hasN_snoc (l : List St) (x : St) (m : Int) : hasN (l ++ [x]) m = hasN l m + if x.m = m then x.n else 0 := by simp [hasN, List.sum_append]
/-- A step that goes on where its member stands. -/
structure StepOk (c : Cf) (l : List St) (x : St) : Prop where
  m0 : 0 ≤ x.m
  m1 : x.m < c.m
  f : hasN l x.m = x.f
  f0 : 0 ≤ x.f
  f1 : x.f ≤ 262208
  n0 : 0 ≤ x.n
  n1 : x.n ≤ 64
def AllOk (c : Cf) (l : List St) : Prop := ∀ i (hi : i < l.length), StepOk c (l.take i) l[i]
theorem allOk_nil (c : Cf) : AllOk c [] := fun i hi => by simp at hi
theorem AllOk.snoc {c : Cf} {l : List St} {x : St} (h : AllOk c l) (hx : StepOk c l x) : AllOk c (l ++ [x]) := fun i hi => by
  rcases Nat.lt_or_ge i l.length with h1 | h1
  · rw [List.take_append_of_le_length (by omega), List.getElem_append_left h1]
    exact h i h1
  · have e : i = l.length := by simp at hi; omega
    subst e
    simpa using hx
theorem part_full {c : Cf} (hc : checkC c = 0) {s m : Int} (m0 : 0 ≤ m) (m1 : m < c.m) : partC c s m (dataC c * c.u) = if s % c.m = m then 0 else c.u := by
  have ho := ok_of hc
  have o1 := ho.m1
  have o3 := ho.u1
  unfold partC
  rw [ho.d]
  rcases uniC_val (c := c) (s := s) (m := m) o1 m0 m1 with ⟨e, h⟩ | ⟨e, h⟩ | ⟨e, h⟩
  · rw [if_pos h, if_pos e.symm]
  · have hb : 0 ≤ uniC c s m ∧ uniC c s m < c.m - 1 := by
      rcases uniC_in (c := c) (s := s) (m := m) o1 m0 m1 with h2 | h2
      · have := Int.emod_nonneg s (show c.m ≠ 0 by omega); omega
      · exact h2
    have h3 : (uniC c s m + 1) * c.u ≤ (c.m - 1) * c.u := Int.mul_le_mul_of_nonneg_right (by omega) (by omega)
    rw [Int.add_mul] at h3
    rw [if_neg (by omega), if_neg (show ¬ s % c.m = m by omega), if_neg (by omega)]
    split <;> omega
  · have hb : 0 ≤ uniC c s m ∧ uniC c s m < c.m - 1 := by
      rcases uniC_in (c := c) (s := s) (m := m) o1 m0 m1 with h2 | h2
      · have := Int.emod_lt_of_pos s (show 0 < c.m by omega); omega
      · exact h2
    have h3 : (uniC c s m + 1) * c.u ≤ (c.m - 1) * c.u := Int.mul_le_mul_of_nonneg_right (by omega) (by omega)
    rw [Int.add_mul] at h3
    rw [if_neg (by omega), if_neg (show ¬ s % c.m = m by omega), if_neg (by omega)]
    split <;> omega
/-- What one more block does to a member's need. -/
theorem ned_succ {c : Cf} {a m : Int} {P : Pl} (h : Lies c a P) (hc : checkC c = 0) (m0 : 0 ≤ m) (m1 : m < c.m) :
    nedC c m (a + 1) = nedC c m a + (if P.m = m then 1 else 0) + if (a + 1) % (dataC c * c.u) = 0 ∧ P.s % c.m = m then c.u else 0 := by
  have ho := ok_of hc
  have o1 := ho.m1
  have o3 := ho.u1
  have hr := ho.r1
  have g1 := Int.mul_nonneg h.u0 (show 0 ≤ c.u by omega)
  have hi0 := h.i0
  have hi1 := h.i1
  have hl := h.l
  have e0 : a + 1 = P.s * (dataC c * c.u) + (P.u * c.u + P.i + 1) := by have := h.e; omega
  have em : (a + 1) % (dataC c * c.u) = (P.u * c.u + P.i + 1) % (dataC c * c.u) := by rw [e0, Int.add_comm, Int.mul_comm P.s, Int.add_mul_emod_self_left]
  have hq : (P.u * c.u + P.i) / c.u = P.u := by
    rw [Int.add_comm, Int.mul_comm, Int.add_mul_ediv_left _ _ (by omega), Int.ediv_eq_zero_of_lt h.i0 h.i1]
    omega
  have hs := part_step (s := P.s) (m := m) hc m0 m1 (show 0 ≤ P.u * c.u + P.i by omega) (by rw [hq]; exact h.u1)
  rw [hq, ← h.m] at hs
  have hp : partC c P.s m (P.u * c.u + P.i + 1) = partC c P.s m (P.u * c.u + P.i) + if P.m = m then 1 else 0 := by
    by_cases hm : P.m = m
    · rw [if_pos hm, hs.1 hm]
    · rw [if_neg hm, hs.2 hm]; omega
  have ha : nedC c m a = P.s * c.u + partC c P.s m (P.u * c.u + P.i) := by
    conv => lhs; rw [h.e]
    exact ned_at hc m (by omega) hl
  rw [em, ha]
  rcases Int.lt_or_le (P.u * c.u + P.i + 1) (dataC c * c.u) with h2 | h2
  · rw [Int.emod_eq_of_lt (by omega) h2, if_neg (show ¬ (P.u * c.u + P.i + 1 = 0 ∧ P.s % c.m = m) from fun hh => by omega), e0, ned_at hc m (by omega) h2, hp]
    omega
  · have h3 : P.u * c.u + P.i + 1 = dataC c * c.u := by omega
    have e4 : a + 1 = (P.s + 1) * (dataC c * c.u) + 0 := by rw [e0, h3, Int.add_mul]; omega
    rw [e4, ned_at hc m (by omega) (by omega), part_zero hc m0 m1, h3, Int.emod_self]
    rw [h3, part_full hc m0 m1] at hp
    rw [Int.add_mul]
    by_cases hm : P.s % c.m = m
    · rw [if_pos hm] at hp
      rw [if_pos (⟨rfl, hm⟩ : (0 : Int) = 0 ∧ P.s % c.m = m)]
      omega
    · rw [if_neg hm] at hp
      rw [if_neg (show ¬ ((0 : Int) = 0 ∧ P.s % c.m = m) from fun hh => hm hh.2)]
      omega
def P9s (c : Cf) (k : Nat) : Pl := ofIn c (k : Int)
theorem steps_ok {c : Cf} (hc : checkC c = 0) : ∀ k : Nat, (k : Int) ≤ stripesC c * (dataC c * c.u) → AllOk c (stepsL c 0 k) ∧ ∀ m, 0 ≤ m → m < c.m → hasN (stepsL c 0 k) m = nedC c m k
  | 0, _ => by
    rw [stepsL_zero]
    refine ⟨allOk_nil c, fun m m0 m1 => ?_⟩
    have ho := ok_of hc
    have h := ned_at (S := 0) (L := 0) hc m (by omega) (by have := ho.r1; omega)
    rw [part_zero hc m0 m1] at h
    simp at h
    rw [hasN_nil]
    exact h.symm
  | k + 1, hk => by
    have ho := ok_of hc
    have o1 := ho.m1
    have o3 := ho.u1
    have o4 := ho.u2
    obtain ⟨h1, h2⟩ := steps_ok hc k (by push_cast at hk; omega)
    have hB : ofB c (k : Int) = true := ofB_iff.2 ⟨hc, by omega, by push_cast at hk; omega⟩
    have hA : ofA c (k : Int) = ofIn c (k : Int) := by unfold ofA; rw [if_pos hB]
    have hL := lies_of hB
    rw [hA] at hL
    have hs0 : P9s c k = ofIn c (k : Int) := rfl
    rw [stepsL_succ]
    unfold stepsOf
    have e0 : (0 : Int) + (k : Int) = k := by omega
    rw [e0]
    have hb0 : blkS c (k : Int) = ⟨false, (P9s c k).m, (P9s c k).p, k, 1⟩ := rfl
    have hsx : (k : Int) / (dataC c * c.u) = (P9s c k).s := rfl
    rw [hb0, hsx]
    rw [← hs0] at hL
    generalize P9s c k = P at hL ⊢
    have hg := hL.big hc
    have hn : nedC c P.m k = P.p := by
      have h3 := hL.need hc (by omega) (by push_cast at hk; omega)
      rw [need_at hc hL.m0 hL.m1 (by omega) (by push_cast at hk; omega)] at h3
      exact h3
    have k1 : AllOk c (stepsL c 0 k ++ [⟨false, P.m, P.p, k, 1⟩]) := h1.snoc ⟨hL.m0, hL.m1, by rw [h2 _ hL.m0 hL.m1]; exact hn, hg.1, hg.2.1, by show (0 : Int) ≤ 1; omega, by show (1 : Int) ≤ 64; omega⟩
    have ek : ((k + 1 : Nat) : Int) = (k : Int) + 1 := by push_cast; rfl
    by_cases he : ((k : Int) + 1) % (dataC c * c.u) = 0
    · rw [if_pos he]
      have hM0 := Int.emod_nonneg P.s (show c.m ≠ 0 by omega)
      have hM1 := Int.emod_lt_of_pos P.s (show 0 < c.m by omega)
      have hne : ¬ P.m = P.s % c.m := fun e => by
        have h3 := hL.un
        have h4 := hL.u0
        rcases uniC_val (c := c) (s := P.s) (m := P.m) o1 hL.m0 hL.m1 with ⟨_, h⟩ | ⟨h, _⟩ | ⟨h, _⟩ <;> omega
      have hpz : nedC c (P.s % c.m) k = P.s * c.u := by
        have g1 := Int.mul_nonneg hL.u0 (show 0 ≤ c.u by omega)
        have h3 := hL.i0
        conv => lhs; rw [hL.e]
        rw [ned_at hc _ (by omega) hL.l]
        have hu : uniC c P.s (P.s % c.m) = -1 := by
          rcases uniC_val (c := c) (s := P.s) (m := P.s % c.m) o1 hM0 hM1 with ⟨_, h⟩ | ⟨h, _⟩ | ⟨h, _⟩ <;> omega
        unfold partC
        rw [if_pos hu]
        omega
      have hz := Int.mul_nonneg hL.s0 (show 0 ≤ c.u by omega)
      have hi0 := hL.i0
      have hpp := hL.p
      have e3 : stepsL c 0 k ++ [(⟨false, P.m, P.p, k, 1⟩ : St), parS c P.s] = (stepsL c 0 k ++ [⟨false, P.m, P.p, k, 1⟩]) ++ [parS c P.s] := by rw [List.append_assoc]; rfl
      rw [e3]
      have k2 : StepOk c (stepsL c 0 k ++ [⟨false, P.m, P.p, k, 1⟩]) (parS c P.s) := by
        refine ⟨hM0, hM1, ?_, hz, ?_, ?_, ?_⟩
        · show hasN _ (P.s % c.m) = P.s * c.u
          rw [hasN_snoc, h2 _ hM0 hM1, if_neg hne, hpz]
          omega
        · show P.s * c.u ≤ 262208
          omega
        · show 0 ≤ c.u
          omega
        · exact o4
      refine ⟨k1.snoc k2, fun m m0 m1 => ?_⟩
      rw [hasN_snoc, hasN_snoc, h2 m m0 m1, ek, ned_succ hL hc m0 m1]
      show _ + (if P.m = m then (1 : Int) else 0) + (if P.s % c.m = m then c.u else 0) = _
      by_cases hm : P.s % c.m = m
      · rw [if_pos (show ((k : Int) + 1) % (dataC c * c.u) = 0 ∧ P.s % c.m = m from ⟨he, hm⟩), if_pos hm]
      · rw [if_neg (show ¬ (((k : Int) + 1) % (dataC c * c.u) = 0 ∧ P.s % c.m = m) from fun hh => hm hh.2), if_neg hm]
    · rw [if_neg he]
      refine ⟨k1, fun m m0 m1 => ?_⟩
      rw [hasN_snoc, h2 m m0 m1, ek, ned_succ hL hc m0 m1, if_neg (show ¬ (((k : Int) + 1) % (dataC c * c.u) = 0 ∧ P.s % c.m = m) from fun hh => he hh.1)]
      show _ + (if P.m = m then (1 : Int) else 0) = _
      omega
/-- A row to which another row is appended. -/
theorem run_appRow {ty : TypeId} (W : World) (base : Nat) (v : Value) (l k : List St) (A : Option Addr) (c : Nat) (hrow : Rw St.cs 41 W base v l) (hk : Seen St.cs W A k) (hl : l.length + k.length ≤ 1000000) (hb : base ≤ W.heap.size) :
    ∃ v' w', (Builtin.append_ #[27, 27] ty #[v, .slice A k.length c]).run Try.prog W = .ok v' w' ∧ Rw St.cs 41 w' base v' (l ++ k) ∧ W.grownBy w' v.ownBlock := by
  obtain ⟨i0, hi, hz0, hz1, hz2⟩ := info_parts Try.info41
  rcases A with _ | ad
  · have h0 : k = [] := by
      rcases Nat.eq_zero_or_pos k.length with h0 | h0
      · exact List.eq_nil_of_length_eq_zero h0
      · obtain ⟨g, h, _⟩ := hk 0 h0
        cases h
    subst h0
    refine ⟨v, W, ?_, by simpa using hrow, World.grownBy.refl W _⟩
    rcases hrow.2 with ⟨rfl, hl0⟩ | ⟨g, cap, cur, rfl, _, _, hnc, _⟩
    · simp [Builtin.append_, run_underlying Try.underlying27, sizeOf, typeInfo, hi, Builtin.lenOf, Builtin.firstCells]
    · simp [Builtin.append_, run_underlying Try.underlying27, sizeOf, typeInfo, hi, Builtin.lenOf, Builtin.firstCells, hnc, storeCells]
  · have hc : ∀ j u, (rcells St.cs k)[j]? = some u → W.cell? (ad.add j) = some u := fun j u hj => by
      have hj5 : j < k.length * 5 := by have := (List.getElem?_eq_some_iff.1 hj).1; rw [rcells_len St.len] at this; exact this
      have hq : j / 5 < k.length := by omega
      obtain ⟨g, hA, hg⟩ := hk (j / 5) hq
      cases hA
      have h4 := hg (j % 5) (by omega)
      rw [← rcells_at St.len k (j / 5) (j % 5) hq (by omega)] at h4
      have e : j / 5 * 5 + j % 5 = j := by omega
      rw [e, hj] at h4
      have hadd : (⟨g, 0, none⟩ : Addr).add j = ⟨g, j, none⟩ := by unfold Addr.add; split <;> simp_all
      rw [hadd]
      exact h4
    have h1 : ∀ u ∈ rcells St.cs k, u.oneCell' = true := fun u hu => by
      obtain ⟨cs, hcs, hu⟩ := List.mem_flatten.1 hu
      obtain ⟨x, _, rfl⟩ := List.mem_map.1 hcs
      exact St.one x u hu
    obtain ⟨v', w', h, h2, h3, _⟩ := run_append_own (P := Try.prog) W base 27 ty 41 i0 _ 5 40 Try.underlying27 hi hz0 hz1 hz2 rfl (by omega) v l.length (rcells St.cs l) hrow ad k.length c (rcells St.cs k) (rcells_len St.len k) hc h1 (by unfold maxLen; omega) (by omega) hb
    refine ⟨v', w', h, ?_, h3⟩
    show w'.ownsRow base 41 5 v' (l ++ k).length (rcells St.cs (l ++ k))
    rw [rcells_app, List.length_append]
    exact h2
/-- An empty row of its own. -/
theorem Rw.made (W : World) (base : Nat) (hb : base ≤ W.heap.size) : Rw St.cs 41 (W.alloc (.cells #[] 41)) base (.slice (some ⟨W.heap.size, 0, none⟩) 0 0) [] :=
  ⟨rfl, .inr ⟨W.heap.size, 0, #[], rfl, hb, Box.fresh W 41 #[], Nat.le_refl _, Nat.zero_le _, rfl, rfl⟩⟩
end Go.Proofs.Yteglgopbagefcaa
