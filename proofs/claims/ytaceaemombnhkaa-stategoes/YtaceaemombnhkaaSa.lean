/- States as plain data: which may be, which slots are free. -/
import Derived.Test.YtaceaemombnhkaaM
namespace Go.Proofs.Ytaceaemombnhkaa
set_option linter.unusedVariables false
set_option maxRecDepth 100000
set_option linter.unusedSimpArgs false
open Go.RowKit
open Go.RowKit (wrap64)

/-- A parity that the log has. -/
structure Pr where
  w : Int
  b : List UInt8
/-- A zone as the log has it. -/
structure Zn where
  gen : Int
  slot : Int
  full : Bool
  w : Int
  whole : Bool
  ps : List Pr
/-- A state. -/
structure St where
  c : Cf
  ep : Int
  sq : Int
  st : List Int
  zs : List Zn

def sizeC (c : Cf) : Int := stripesC c * (dataC c * c.u)
/-- How many are not 0. -/
def oddN : List Int → Nat
  | [] => 0
  | n :: l => (if n = 0 then 0 else 1) + oddN l
theorem oddN_append : ∀ (l r : List Int), oddN (l ++ r) = oddN l + oddN r
  | [], r => by simp [oddN]
  | n :: l, r => by
    show (if n = 0 then 0 else 1) + oddN (l ++ r) = (if n = 0 then 0 else 1) + oddN l + oddN r
    rw [oddN_append l r, Nat.add_assoc]
theorem oddN_take {l : List Int} {k : Nat} (h : k < l.length) : oddN (l.take (k + 1)) = oddN (l.take k) + (if l[k] = 0 then 0 else 1) := by
  rw [List.take_succ_eq_append_getElem h, oddN_append]
  rfl
theorem oddN_le : ∀ l : List Int, oddN l ≤ l.length
  | [] => Nat.le_refl _
  | n :: l => by
    have := oddN_le l
    show (if n = 0 then 0 else 1) + oddN l ≤ l.length + 1
    split <;> omega
def StandR (st : List Int) : Prop := (∀ n ∈ st, 0 ≤ n ∧ n ≤ 2) ∧ oddN st ≤ 1
def ParR (c : Cf) (p : Pr) : Prop := (1 ≤ p.w ∧ p.w ≤ sizeC c) ∧ (p.b.length : Int) = c.u * c.b
def HaveR (c : Cf) (ps : List Pr) : Prop := (∀ p ∈ ps, ParR c p) ∧ ps.length ≤ 2
def EndR (c : Cf) (w : Int) (has : Prop) : Prop := (0 ≤ w ∧ w ≤ sizeC c) ∧ (w = 0 ∨ has)
/-- A zone by itself. -/
structure ZoneR (c : Cf) (reb : Prop) (z : Zn) : Prop where
  gen : 0 ≤ z.gen ∧ z.gen ≤ 1099511627776
  slot : -1 ≤ z.slot ∧ z.slot ≤ slotsC c - 1
  have_ : HaveR c z.ps
  pars : 0 < z.ps.length → z.slot ≠ -1
  whole : z.whole = true → z.slot ≠ -1 ∧ reb
  end_ : EndR c z.w (z.slot ≠ -1)
  full : z.w ≠ 0 → z.full = true
/-- No two zones have one slot. -/
def ApartR (zs : List Zn) : Prop := zs.Pairwise fun y z => y.slot = z.slot → z.slot = -1
structure RightS (s : St) : Prop where
  conf : checkC s.c = 0
  stat : (s.st.length : Int) = s.c.m
  zone : (s.zs.length : Int) = s.c.z
  ep : 1 ≤ s.ep ∧ s.ep ≤ 1099511627776
  sq : 0 ≤ s.sq ∧ s.sq ≤ 1099511627776
  stand : StandR s.st
  be : ∀ z ∈ s.zs, ZoneR s.c (2 ∈ s.st) z
  apart : ApartR s.zs

/-- Has some zone that slot? -/
def usedB (zs : List Zn) (n : Nat) : Bool := zs.any fun z => decide (z.slot = (n : Int))
theorem usedB_cons (z : Zn) (zs : List Zn) (n : Nat) : usedB (z :: zs) n = (decide (z.slot = (n : Int)) || usedB zs n) := rfl
theorem usedB_take {zs : List Zn} {k : Nat} (h : k < zs.length) (n : Nat) : usedB (zs.take (k + 1)) n = (usedB (zs.take k) n || decide (zs[k].slot = (n : Int))) := by
  unfold usedB
  rw [List.take_succ_eq_append_getElem h, List.any_append]
  simp
theorem usedB_iff {zs : List Zn} {n : Nat} : usedB zs n = true ↔ ∃ z ∈ zs, z.slot = (n : Int) := by
  unfold usedB
  simp [List.any_eq_true]
/-- The slots below N that no zone has. -/
def freeN (zs : List Zn) (N : Nat) : List Nat := (List.range N).filter fun n => !usedB zs n
theorem freeN_succ (zs : List Zn) (N : Nat) : freeN zs (N + 1) = freeN zs N ++ (if usedB zs N = true then [] else [N]) := by
  unfold freeN
  rw [List.range_succ, List.filter_append]
  congr 1
  cases h : usedB zs N <;> simp [h]
theorem freeN_len (zs : List Zn) (N : Nat) : (freeN zs N).length ≤ N := by
  have := List.length_filter_le (fun n => !usedB zs n) (List.range N)
  rwa [List.length_range] at this
theorem freeN_mem {zs : List Zn} {N n : Nat} : n ∈ freeN zs N ↔ n < N ∧ ∀ z ∈ zs, z.slot ≠ (n : Int) := by
  unfold freeN
  rw [List.mem_filter, List.mem_range]
  constructor
  · rintro ⟨h1, h2⟩
    refine ⟨h1, fun z hz he => ?_⟩
    rw [usedB_iff.2 ⟨z, hz, he⟩] at h2
    simp at h2
  · rintro ⟨h1, h2⟩
    refine ⟨h1, ?_⟩
    cases h : usedB zs n with
    | false => rfl
    | true =>
      obtain ⟨z, hz, he⟩ := usedB_iff.1 h
      exact absurd he (h2 z hz)
theorem freeN_nodup (zs : List Zn) (N : Nat) : (freeN zs N).Nodup := List.nodup_range.filter _
/-- How many zones have a slot. -/
def hasN : List Zn → Nat
  | [] => 0
  | z :: zs => (if z.slot = -1 then 0 else 1) + hasN zs
theorem hasN_append : ∀ (l r : List Zn), hasN (l ++ r) = hasN l + hasN r
  | [], r => by simp [hasN]
  | z :: l, r => by
    show (if z.slot = -1 then 0 else 1) + hasN (l ++ r) = (if z.slot = -1 then 0 else 1) + hasN l + hasN r
    rw [hasN_append l r, Nat.add_assoc]
theorem hasN_take {l : List Zn} {k : Nat} (h : k < l.length) : hasN (l.take (k + 1)) = hasN (l.take k) + (if l[k].slot = -1 then 0 else 1) := by
  rw [List.take_succ_eq_append_getElem h, hasN_append]
  rfl
theorem hasN_le : ∀ l : List Zn, hasN l ≤ l.length
  | [] => Nat.le_refl _
  | z :: l => by
    have := hasN_le l
    show (if z.slot = -1 then 0 else 1) + hasN l ≤ l.length + 1
    split <;> omega
theorem freeN_cons_none (z : Zn) (zs : List Zn) (N : Nat) (h : z.slot = -1) : freeN (z :: zs) N = freeN zs N := by
  unfold freeN
  refine List.filter_congr fun n hn => ?_
  have e : decide (z.slot = (n : Int)) = false := decide_eq_false (by omega)
  rw [usedB_cons, e, Bool.false_or]
theorem freeN_cons_some (z : Zn) (zs : List Zn) (N m : Nat) (h : z.slot = (m : Int)) : freeN (z :: zs) N = (freeN zs N).filter fun n => !(n == m) := by
  unfold freeN
  rw [List.filter_filter]
  refine List.filter_congr fun n hn => ?_
  rw [usedB_cons]
  have e : decide (z.slot = (n : Int)) = (n == m) := by
    rw [Bool.eq_iff_iff]
    simp
    omega
  rw [e, Bool.not_or]
theorem filter_out {l : List Nat} (hn : l.Nodup) (m : Nat) : (l.filter fun n => !(n == m)).length + (if m ∈ l then 1 else 0) = l.length := by
  induction l with
  | nil => simp
  | cons a l ih =>
    rw [List.nodup_cons] at hn
    have ih := ih hn.2
    by_cases ha : a = m
    · subst ha
      rw [if_neg hn.1] at ih
      simp
      exact fun x hx e => hn.1 (e ▸ hx)
    · have e : (m ∈ a :: l) ↔ m ∈ l := by simp [Ne.symm ha]
      have e2 : (!(a == m)) = true := by simp [ha]
      simp only [List.filter_cons, e2, if_true, List.length_cons]
      by_cases hm : m ∈ l
      · rw [if_pos (e.2 hm)]; rw [if_pos hm] at ih; omega
      · rw [if_neg (fun h => hm (e.1 h))]; rw [if_neg hm] at ih; omega
/-- The slots that are taken are as many as the zones that have one just where no two have one. -/
theorem free_count (N : Nat) : ∀ (zs : List Zn), (∀ z ∈ zs, -1 ≤ z.slot ∧ z.slot < (N : Int)) →
    N ≤ (freeN zs N).length + hasN zs ∧ ((freeN zs N).length + hasN zs = N ↔ ApartR zs)
  | [], _ => by
    have e : (freeN [] N).length = N := by
      have e1 : freeN [] N = List.range N := List.filter_eq_self.2 fun n _ => rfl
      rw [e1, List.length_range]
    refine ⟨by rw [e]; omega, ?_⟩
    rw [e]
    simp [hasN, ApartR]
  | z :: zs, h => by
    obtain ⟨h1, h2⟩ := free_count N zs (fun y hy => h y (List.mem_cons_of_mem _ hy))
    have hz := h z List.mem_cons_self
    have hap : ApartR (z :: zs) ↔ (∀ y ∈ zs, z.slot = y.slot → y.slot = -1) ∧ ApartR zs := List.pairwise_cons
    by_cases hs : z.slot = -1
    · rw [freeN_cons_none z zs N hs]
      have e : hasN (z :: zs) = hasN zs := by simp [hasN, hs]
      rw [e, hap]
      refine ⟨h1, h2.trans ⟨fun h => ⟨fun y _ he => by rw [← he]; exact hs, h⟩, fun h => h.2⟩⟩
    · obtain ⟨m, hm⟩ : ∃ m : Nat, z.slot = (m : Int) := ⟨z.slot.toNat, by omega⟩
      rw [freeN_cons_some z zs N m hm]
      have hf := filter_out (freeN_nodup zs N) m
      have e : hasN (z :: zs) = 1 + hasN zs := by simp [hasN, hs]
      rw [e, hap]
      by_cases hmm : m ∈ freeN zs N
      · rw [if_pos hmm] at hf
        have h3 := (freeN_mem.1 hmm).2
        refine ⟨by omega, ?_⟩
        rw [show ((freeN zs N).filter fun n => !(n == m)).length + (1 + hasN zs) = (freeN zs N).length + hasN zs by omega]
        refine h2.trans ⟨fun h => ⟨fun y hy he => absurd (he.symm.trans hm) (h3 y hy), h⟩, fun h => h.2⟩
      · rw [if_neg hmm] at hf
        refine ⟨by omega, ⟨fun h => by omega, fun hh => absurd ?_ hmm⟩⟩
        refine freeN_mem.2 ⟨by omega, fun y hy he => ?_⟩
        have := hh.1 y hy (hm.trans he.symm)
        omega
theorem apart_at {zs : List Zn} : ApartR zs ↔ ∀ i (hi : i < zs.length) k (hk : k < i), zs[k].slot = zs[i].slot → zs[i].slot = -1 := by
  unfold ApartR
  rw [List.pairwise_iff_getElem]
  exact ⟨fun h i hi k hk => h k i (by omega) hi hk, fun h k i hk hi hki => h i hi k hki⟩
/-- Free: as ints. -/
def freeL (c : Cf) (zs : List Zn) : List Int := (freeN zs (slotsC c).toNat).map fun n : Nat => (n : Int)
def zero_c : Cf := ⟨0, 0, 0, 0, 0, 0, 0, 0, 0, 0, 0⟩
def zeroS : St := ⟨zero_c, 0, 0, [], []⟩
/-- The state at the beginning. -/
def newS (c : Cf) : St := ⟨c, 1, 0, List.replicate c.m.toNat 0, List.replicate c.z.toNat ⟨0, -1, false, 0, false, []⟩⟩
theorem check_good0 {c : Cf} (h : checkC c = 0) : Good c := by
  by_cases hg : Good c
  · exact hg
  · rw [check_one hg] at h
    omega
theorem good_sane {c : Cf} (h : Good c) : c.sane = true := bounded_sane ((good_iff c).2 h).1
theorem slots_good {c : Cf} (h : Good c) : slotsC c = c.z + c.s := by unfold slotsC; rw [if_pos (good_sane h)]
theorem oddN_zero (n : Nat) : oddN (List.replicate n 0) = 0 := by
  induction n with
  | zero => rfl
  | succ n ih => rw [List.replicate_succ]; show (if (0 : Int) = 0 then 0 else 1) + oddN _ = 0; rw [ih]; rfl
theorem new_right {c : Cf} (h : checkC c = 0) : RightS (newS c) := by
  have hg := check_good0 h
  have hs := slots_good hg
  obtain ⟨h1, h2, h3, h4, h5, h6, h7, h8, h9, h10, h11, h12, h13, _⟩ := hg
  refine ⟨h, ?_, ?_, ⟨by show (1 : Int) ≤ 1; omega, by show (1 : Int) ≤ _; omega⟩, ⟨by show (0 : Int) ≤ 0; omega, by show (0 : Int) ≤ _; omega⟩, ⟨?_, ?_⟩, ?_, ?_⟩
  · show ((List.replicate c.m.toNat (0 : Int)).length : Int) = c.m
    rw [List.length_replicate]; omega
  · show ((List.replicate c.z.toNat (_ : Zn)).length : Int) = c.z
    rw [List.length_replicate]; omega
  · intro n hn
    obtain rfl := List.eq_of_mem_replicate hn
    omega
  · show oddN (List.replicate c.m.toNat 0) ≤ 1
    rw [oddN_zero]; omega
  · intro z hz
    obtain rfl := List.eq_of_mem_replicate hz
    have hsz := size_in c
    exact ⟨by simp, ⟨by simp, by show (-1 : Int) ≤ slotsC c - 1; omega⟩, ⟨by simp, by simp⟩, by simp, by simp, ⟨⟨by simp, by show (0 : Int) ≤ stripesC c * (dataC c * c.u); exact hsz.1⟩, Or.inl rfl⟩, by simp⟩
  · refine List.pairwise_iff_getElem.2 fun i j hi hj _ _ => ?_
    rw [List.eq_of_mem_replicate (List.getElem_mem hj)]
/-- P11.5: as many free slots as zones without one, and spare ones. -/
def bareN (zs : List Zn) : Nat := zs.length - hasN zs
theorem right_free {s : St} (h : RightS s) : ((freeL s.c s.zs).length : Int) = s.c.s + (bareN s.zs : Int) := by
  have hg := check_good0 h.conf
  have hs := slots_good hg
  obtain ⟨h1, h2, h3, h4, h5, h6, h7, h8, h9, h10, h11, h12, h13, _⟩ := hg
  have hc := (free_count (slotsC s.c).toNat s.zs (fun z hz => by have := (h.be z hz).slot; omega)).2.2 h.apart
  have hz := h.zone
  have hl := hasN_le s.zs
  unfold freeL bareN
  rw [List.length_map]
  omega
end Go.Proofs.Ytaceaemombnhkaa
