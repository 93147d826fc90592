/- Parities of lists of bytes, of no program. -/
import Derived.Test.YtkjdinlebpkimaaWords
import Derived.Laws.BitsAllLaws
namespace Go.Proofs.Ytkjdinlebpkimaa
set_option linter.unusedVariables false

/-- The byte at i; 0 behind the end. -/
def at0 (l : List UInt8) (i : Nat) : UInt8 := l.getD i 0
/-- The first n bytes, with bytes 0 behind. -/
def fitL (l : List UInt8) (n : Nat) : List UInt8 := (List.range n).map (at0 l)
/-- The parity of two. -/
def intoL (a b : List UInt8) : List UInt8 := (List.range (max a.length b.length)).map fun i => at0 a i ^^^ at0 b i
/-- The parity of all. -/
def ofL (ps : List (List UInt8)) : List UInt8 := ps.foldl intoL []

theorem at0_out {l : List UInt8} {i : Nat} (h : l.length ≤ i) : at0 l i = 0 := by simp [at0, List.getD, List.getElem?_eq_none h]
theorem at0_in {l : List UInt8} {i : Nat} (h : i < l.length) : at0 l i = l[i] := by simp [at0, List.getD, h]
theorem fitL_length (l : List UInt8) (n : Nat) : (fitL l n).length = n := by simp [fitL]
theorem intoL_length (a b : List UInt8) : (intoL a b).length = max a.length b.length := by simp [intoL]
theorem at0_fitL (l : List UInt8) (n i : Nat) : at0 (fitL l n) i = if i < n then at0 l i else 0 := by
  split
  · rename_i h; rw [at0_in (by rw [fitL_length]; exact h)]; simp [fitL]
  · rename_i h; rw [at0_out (by rw [fitL_length]; omega)]
theorem at0_intoL (a b : List UInt8) (i : Nat) : at0 (intoL a b) i = at0 a i ^^^ at0 b i := by
  by_cases h : i < max a.length b.length
  · rw [at0_in (by rw [intoL_length]; exact h)]; simp [intoL]
  · rw [at0_out (by rw [intoL_length]; omega), at0_out (show a.length ≤ i by omega), at0_out (show b.length ≤ i by omega)]; rfl
theorem ext0 {a b : List UInt8} (hl : a.length = b.length) (h : ∀ i, at0 a i = at0 b i) : a = b := by
  apply List.ext_getElem hl
  intro i h1 h2
  have := h i
  rwa [at0_in h1, at0_in h2] at this
theorem fitL_self (l : List UInt8) : fitL l l.length = l := ext0 (fitL_length _ _) fun i => by
  rw [at0_fitL]; split
  · rfl
  · rename_i h; rw [at0_out (by omega)]
theorem fitL_succ (l : List UInt8) (n : Nat) : fitL l (n + 1) = fitL l n ++ [at0 l n] := by simp [fitL, List.range_succ]
theorem fitL_nil (n : Nat) : fitL [] n = zeros n := by
  unfold fitL zeros
  rw [List.eq_replicate_iff]
  refine ⟨by simp, fun b hb => ?_⟩
  obtain ⟨i, _, rfl⟩ := List.mem_map.1 hb
  simp [at0]
theorem at0_nil (i : Nat) : at0 [] i = 0 := by simp [at0]
theorem intoL_nil (l : List UInt8) : intoL l [] = l := ext0 (by rw [intoL_length]; simp) fun i => by rw [at0_intoL, at0_nil]; simp

theorem ofL_snoc (ps : List (List UInt8)) (l : List UInt8) : ofL (ps ++ [l]) = intoL (ofL ps) l := by simp [ofL, List.foldl_append]
theorem ofL_take {ps : List (List UInt8)} {k : Nat} (h : k < ps.length) : ofL (ps.take (k + 1)) = intoL (ofL (ps.take k)) ps[k] := by
  rw [List.take_succ_eq_append_getElem h, ofL_snoc]
/-- The longest of all. -/
def most (ps : List (List UInt8)) : Nat := (ofL ps).length
theorem most_take {ps : List (List UInt8)} {k : Nat} (h : k < ps.length) : most (ps.take (k + 1)) = max (most (ps.take k)) ps[k].length := by
  unfold most; rw [ofL_take h, intoL_length]
theorem most_snoc (ps : List (List UInt8)) (l : List UInt8) : most (ps ++ [l]) = max (most ps) l.length := by unfold most; rw [ofL_snoc, intoL_length]
theorem foldl_len_le : ∀ (ps : List (List UInt8)) (a : List UInt8), a.length ≤ (ps.foldl intoL a).length ∧ ∀ l ∈ ps, l.length ≤ (ps.foldl intoL a).length
  | [], a => ⟨Nat.le_refl _, fun l hl => by cases hl⟩
  | p :: ps, a => by
    obtain ⟨h1, h2⟩ := foldl_len_le ps (intoL a p)
    rw [intoL_length] at h1
    simp only [List.foldl_cons]
    refine ⟨by omega, fun l hl => ?_⟩
    rcases List.mem_cons.1 hl with rfl | hl
    · omega
    · exact h2 l hl
theorem le_most {ps : List (List UInt8)} {l : List UInt8} (h : l ∈ ps) : l.length ≤ most ps := (foldl_len_le ps []).2 l h
theorem foldl_len_bound : ∀ (ps : List (List UInt8)) (a : List UInt8) (M : Nat), a.length ≤ M → (∀ l ∈ ps, l.length ≤ M) → (ps.foldl intoL a).length ≤ M
  | [], a, M, h, _ => h
  | p :: ps, a, M, h, hp => by
    refine foldl_len_bound ps _ M ?_ fun l hl => hp l (List.mem_cons_of_mem _ hl)
    rw [intoL_length]
    have := hp p (List.mem_cons_self ..)
    omega
theorem most_le {ps : List (List UInt8)} {M : Nat} (h : ∀ l ∈ ps, l.length ≤ M) : most ps ≤ M := foldl_len_bound ps [] M (by simp) h

theorem xor_set (a l : List UInt8) (n j : Nat) (hj : j < l.length) (hn : l.length ≤ n) :
    (fitL (intoL a (l.take j)) n).set j (at0 (fitL (intoL a (l.take j)) n) j ^^^ l[j]) = fitL (intoL a (l.take (j + 1))) n := by
  refine ext0 (by simp [fitL_length]) fun i => ?_
  have e : ∀ k, at0 (l.take k) i = if i < k then at0 l i else 0 := fun k => by
    simp only [at0, List.getD, List.getElem?_take]
    split <;> simp
  by_cases hi : i = j
  · subst hi
    have hin : i < n := by omega
    rw [at0_in (by simp [fitL_length]; omega), List.getElem_set_self, at0_fitL, at0_fitL, at0_intoL, at0_intoL, e, e, at0_in hj]
    simp [hin]
  · have h1 : at0 ((fitL (intoL a (l.take j)) n).set j (at0 (fitL (intoL a (l.take j)) n) j ^^^ l[j])) i = at0 (fitL (intoL a (l.take j)) n) i := by
      simp only [at0, List.getD]
      rw [List.getElem?_set_ne (fun h => hi h.symm)]
    rw [h1, at0_fitL, at0_fitL, at0_intoL, at0_intoL, e, e]
    have hij : (i < j) = (i < j + 1) := propext (by omega)
    simp only [hij]
theorem cB_xor (a b : UInt8) : Value.int .u8 (bits .xor .u8 (a.toNat : Int) (b.toNat : Int)) = cB (a ^^^ b) := by
  unfold cB
  rw [u8_xor_nat _ _ a.toNat_lt b.toNat_lt, UInt8.toNat_xor]
end Go.Proofs.Ytkjdinlebpkimaa
