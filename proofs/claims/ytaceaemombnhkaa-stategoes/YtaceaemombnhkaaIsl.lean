/-
  A region that draws its order: an island of calls that wait for one another (the chain) and of operations that make memory (the free ones), which come up in whatever order. Each is run once, over what is known whichever of the others came up before it.
-/
import Derived.Test.YtaceaemombnhkaaOrg
namespace Go.Proofs.Ytaceaemombnhkaa
open Go.RowKit
set_option linter.unusedVariables false
set_option linter.unusedSimpArgs false

section
variable {P : Program} {ops : Array Oper} {Q : Exit → Act → World → Prop} {md : Region.Mode} {gs : List Nat}

def upd (u : Nat → Value) (d : Nat) (v : Value) : Nat → Value := fun k => if k = d then v else u k

/-- Every way from D, n operations on, ends in F, over the operations E. -/
def island (md : Region.Mode) (ops : Array Oper) (E : List Nat) (F : Array Bool) : Nat → Array Bool → Bool
  | 0, D => D == F
  | n + 1, D => !(Region.ready md ops D).isEmpty && (Region.ready md ops D).all fun i => E.contains i && island md ops E F n (D.setIfInBounds i true)

/-- Each of the chain but the first one waits for the one ahead of it. -/
def waits (md : Region.Mode) (ops : Array Oper) : List Nat → Bool
  | a :: b :: l => ((ops[b]?).map (·.after.any fun e => Region.binds md e && e.on == a)).getD false && waits md ops (b :: l)
  | _ => true

def AllC {α : Type} (p : Nat → α → Prop) : Nat → List α → Prop
  | _, [] => True
  | j, i :: l => p j i ∧ AllC p (j + 1) l
theorem AllC.get {α : Type} {p : Nat → α → Prop} : ∀ {l : List α} {j k : Nat} {i : α}, AllC p j l → l[k]? = some i → p (j + k) i
  | [], _, _, _, _, h => by simp at h
  | a :: l, j, 0, i, h, hk => by
    obtain rfl : a = i := by simpa using hk
    exact h.1
  | a :: l, j, k + 1, i, h, hk => by
    have := h.2.get (k := k) (i := i) (by simpa using hk)
    rwa [show j + (k + 1) = j + 1 + k by omega]
def AllF {α : Type} (p : α → Prop) : List α → Prop
  | [] => True
  | i :: l => p i ∧ AllF p l
theorem AllF.get {α : Type} {p : α → Prop} : ∀ {l : List α} {i : α}, AllF p l → i ∈ l → p i
  | [], _, _, h => by simp at h
  | a :: l, i, h, hi => by
    rcases List.mem_cons.1 hi with rfl | hi
    · exact h.1
    · exact h.2.get hi

theorem waits_get : ∀ {l : List Nat} {j a b : Nat}, waits md ops l = true → l[j]? = some a → l[j + 1]? = some b → ∃ o e, ops[b]? = some o ∧ e ∈ o.after ∧ Region.binds md e = true ∧ e.on = a
  | [], _, _, _, _, h, _ => by simp at h
  | [_], j, _, _, _, _, h => by simp at h
  | x :: y :: l, 0, a, b, h, h1, h2 => by
    obtain rfl : x = a := by simpa using h1
    obtain rfl : y = b := by simpa using h2
    unfold waits at h
    rw [Bool.and_eq_true] at h
    cases ho : ops[y]? with
    | none => rw [ho] at h; simp at h
    | some o =>
      rw [ho] at h
      simp only [Option.map_some, Option.getD_some] at h
      obtain ⟨i, hi, he⟩ := Array.any_eq_true.1 h.1
      rw [Bool.and_eq_true, beq_iff_eq] at he
      exact ⟨o, _, rfl, Array.getElem_mem hi, he.1, he.2⟩
  | x :: y :: l, j + 1, a, b, h, h1, h2 => by
    unfold waits at h
    rw [Bool.and_eq_true] at h
    exact waits_get (l := y :: l) (j := j) h.2 (by simpa using h1) (by simpa using h2)

theorem getD_true_of {D : Array Bool} {i : Nat} (h : D.getD i false = true) : D.getD i true = true := by
  rcases Nat.lt_or_ge i D.size with h' | h'
  · simp [h'] at h ⊢; exact h
  · simp [Array.getElem?_eq_none h'] at h
theorem getD_set_self {D : Array Bool} {i : Nat} : (D.setIfInBounds i true).getD i true = true := by
  rcases Nat.lt_or_ge i D.size with h' | h'
  · simp [h']
  · simp [h']

theorem wpOp_run {i : Nat} {o : Oper} {K : Act → World → Prop} {a : Act} {w : World} (ho : ops[i]? = some o) (hw : Region.wanted o (yielded ops a.tmps) = true) (h : Oper.wp P o a w K Q) : wpOp P ops Q i K a w := by
  unfold wpOp
  rw [ho]
  show if Region.wanted o (yielded ops a.tmps) = true then _ else _
  rw [if_pos hw]
  exact .inl h

/-- Waits b for a? -/
def onB (md : Region.Mode) (ops : Array Oper) (b a : Nat) : Bool := ((ops[b]?).map (·.after.any fun e => Region.binds md e && e.on == a)).getD false
theorem onB_done {D : Array Bool} {i a : Nat} (hi : i ∈ Region.ready md ops D) (h : onB md ops i a = true) : D.getD a true = true := by
  obtain ⟨_, o, ho, haft⟩ := mem_ready.1 hi
  unfold onB at h
  rw [ho] at h
  simp only [Option.map_some, Option.getD_some] at h
  obtain ⟨k, hk, he⟩ := Array.any_eq_true.1 h
  rw [Bool.and_eq_true, beq_iff_eq] at he
  have := getD_true_of (haft _ (Array.getElem_mem hk) he.1)
  rwa [he.2] at this

/-- The values of some operations in their slots. -/
def puts : List (Nat × Nat) → Act → (Nat → Value) → Act
  | [], a, _ => a
  | (i, d) :: l, a, u => puts l (a.put (some d) (u i)) u
theorem puts_put : ∀ (l : List (Nat × Nat)) (a : Act) (u : Nat → Value) (d : Nat) (v : Value), d ∉ l.map (·.2) → (puts l a u).put (some d) v = puts l (a.put (some d) v) u
  | [], _, _, _, _, _ => rfl
  | (i, e) :: l, a, u, d, v, h => by
    have h : d ≠ e ∧ d ∉ l.map (·.2) := by simpa using h
    show (puts l (a.put (some e) (u i)) u).put (some d) v = puts l ((a.put (some d) v).put (some e) (u i)) u
    rw [puts_put l _ u d v h.2, Act.put_comm a _ _ (fun x hx hy => h.1 (by cases hx; cases hy; rfl))]
theorem puts_upd : ∀ (l : List (Nat × Nat)) (a : Act) (u : Nat → Value) (i : Nat) (v : Value), i ∉ l.map (·.1) → puts l a (upd u i v) = puts l a u
  | [], _, _, _, _, _ => rfl
  | (k, e) :: l, a, u, i, v, h => by
    have h : i ≠ k ∧ i ∉ l.map (·.1) := by simpa using h
    show puts l (a.put (some e) (upd u i v k)) (upd u i v) = _
    rw [puts_upd l _ u i v h.2, show upd u i v k = u k from if_neg (Ne.symm h.1)]
    rfl
theorem put_twice (a : Act) (d : Nat) (v v' : Value) : (a.put (some d) v).put (some d) v' = a.put (some d) v' := by
  simp [Act.put]
theorem puts_one : ∀ (l : List (Nat × Nat)) (a : Act) (u : Nat → Value) (i d : Nat) (v : Value), (i, d) ∈ l → (l.map (·.1)).Nodup → (l.map (·.2)).Nodup → (puts l a u).put (some d) v = puts l a (upd u i v)
  | [], _, _, _, _, _, h, _, _ => by simp at h
  | (k, e) :: l, a, u, i, d, v, h, h1, h2 => by
    have g1 : k ∉ l.map (·.1) ∧ (l.map (·.1)).Nodup := by simpa using h1
    have g2 : e ∉ l.map (·.2) ∧ (l.map (·.2)).Nodup := by simpa using h2
    rcases List.mem_cons.1 h with h | h
    · obtain ⟨rfl, rfl⟩ : i = k ∧ d = e := by simpa using h
      show (puts l (a.put (some d) (u i)) u).put (some d) v = puts l (a.put (some d) (upd u i v i)) (upd u i v)
      rw [puts_put _ _ _ _ _ g2.1, put_twice, puts_upd _ _ _ _ _ g1.1, show upd u i v i = v from if_pos rfl]
    · have hk : i ≠ k := fun e => g1.1 (e ▸ List.mem_map_of_mem (f := (·.1)) h)
      show (puts l (a.put (some e) (u k)) u).put (some d) v = puts l (a.put (some e) (upd u i v k)) (upd u i v)
      rw [puts_one l _ u i d v h g1.2 g2.2, show upd u i v k = u k from if_neg (Ne.symm hk)]
/-- At first the slots hold what they held. -/
theorem puts_start (a : Act) : ∀ (l : List (Nat × Nat)), (l.map (·.1)).Nodup → ∃ u, puts l a u = a
  | [], _ => ⟨fun _ => undef, rfl⟩
  | (i, d) :: l, h => by
    have h : i ∉ l.map (·.1) ∧ (l.map (·.1)).Nodup := by simpa using h
    obtain ⟨u, hu⟩ := puts_start a l h.2
    refine ⟨upd u i (a.tmps.getD d undef), ?_⟩
    show puts l (a.put (some d) (upd u i (a.tmps.getD d undef) i)) (upd u i (a.tmps.getD d undef)) = a
    rw [puts_upd _ _ _ _ _ h.1, show upd u i (a.tmps.getD d undef) i = a.tmps.getD d undef from if_pos rfl]
    have e : a.put (some d) (a.tmps.getD d undef) = a := by
      cases a with
      | mk t ds =>
        show (⟨t.setIfInBounds d (t.getD d undef), ds⟩ : Act) = ⟨t, ds⟩
        congr 1
        apply Array.ext
        · simp
        · intro k h1 h2
          rw [Array.getElem_setIfInBounds h2]
          split
          · rename_i hk
            subst hk
            simp [h2]
          · rfl
    rw [e, hu]

/-- What an operation of the island is to show. -/
def IslStep (P : Program) (ops : Array Oper) (Q : Exit → Act → World → Prop) (gs : List Nat) (a0 : Act) (E : List (Nat × Nat)) (Φ : Nat → Value → World → Prop) (R' : World → Prop) (i d : Nat) (u : Nat → Value) (w : World) : Prop :=
  ∀ a, a = puts E a0 u → ∀ K : Act → World → Prop, Shut (∀ v w', Turn gs w w' → R' w' → Φ i v w' → K (a.put (some d) v) w') → wpOp P ops Q i K a w
/-- What is known of those that it waits for. -/
def Waited (md : Region.Mode) (ops : Array Oper) (E : List (Nat × Nat)) (Φ : Nat → Value → World → Prop) (i : Nat) (u : Nat → Value) (w : World) : Prop := ∀ i' ∈ E.map (·.1), onB md ops i i' = true → Φ i' (u i') w

/-- An island: 'chain' and 'free' are operations with their slots; R j is what holds with j calls of the chain done. -/
theorem wpG_island {D : Array Bool} {w : World} {fuel : Nat} {a0 : Act} (chain free : List (Nat × Nat)) (F : Array Bool) (n : Nat) (R : Nat → World → Prop) (Φ : Nat → Value → World → Prop)
    (hisl : island md ops ((chain ++ free).map (·.1)) F n D = true)
    (hch : waits md ops (chain.map (·.1)) = true) (hnd : ((chain ++ free).map (·.1)).Nodup) (hnd2 : ((chain ++ free).map (·.2)).Nodup)
    (hun : ((chain ++ free).map (·.1)).all (fun i => !D.getD i true) = true) (hF : ((chain ++ free).map (·.1)).all (fun i => F.getD i true) = true)
    (hΦ : ∀ i v w w', Turn gs w w' → Φ i v w → Φ i v w')
    (hR : R 0 w)
    (hcall : AllC (fun j i => ∀ u w1, Turn gs w w1 → R j w1 → Waited md ops (chain ++ free) Φ i.1 u w1 → IslStep P ops Q gs a0 (chain ++ free) Φ (R (j + 1)) i.1 i.2 u w1) 0 chain)
    (hfree : AllF (fun i => ∀ u w1 j, Turn gs w w1 → R j w1 → Waited md ops (chain ++ free) Φ i.1 u w1 → IslStep P ops Q gs a0 (chain ++ free) Φ (R j) i.1 i.2 u w1) free)
    (hend : ∀ u w', Turn gs w w' → R chain.length w' → AllF (fun i => Φ i (u i) w') ((chain ++ free).map (·.1)) → ∀ a, a = puts (chain ++ free) a0 u → ∃ gs', (∀ g ∈ gs', g ∈ gs ∨ w.heap.size ≤ g) ∧ wpG P md ops Q gs' fuel F a w') :
    wpG P md ops Q gs (fuel + n) D a0 w := by
  obtain ⟨u0, hu0⟩ := puts_start a0 _ hnd
  rw [show wpG P md ops Q gs (fuel + n) D a0 w = wpG P md ops Q gs (fuel + n) D (puts (chain ++ free) a0 u0) w by rw [hu0]]
  clear hu0
  suffices H : ∀ n D u w1 k, Turn gs w w1 → island md ops ((chain ++ free).map (·.1)) F n D = true → k ≤ chain.length → (∀ (j : Nat) (i : Nat × Nat), chain[j]? = some i → D.getD i.1 true = decide (j < k)) → R k w1 → (∀ i ∈ (chain ++ free).map (·.1), D.getD i true = true → Φ i (u i) w1) →
      wpAnyH P md ops Q (fun w' => Turn gs w w') (fuel + n) D (puts (chain ++ free) a0 u) w1 by
    refine H n D u0 w 0 (Turn.refl _ _) hisl (Nat.zero_le _) (fun j i hj => ?_) hR (fun i hi hd => ?_)
    · have h1 := (List.all_eq_true.1 hun) i.1 (List.mem_map_of_mem (f := (·.1)) (List.mem_append.2 (.inl (List.mem_of_getElem? hj))))
      simpa using h1
    · have h1 := (List.all_eq_true.1 hun) i hi
      rw [hd] at h1
      simp at h1
  clear hR hisl hun u0 D
  have hmap : ∀ {j : Nat} {i : Nat × Nat}, chain[j]? = some i → (chain.map (·.1))[j]? = some i.1 := fun h => by rw [List.getElem?_map, h]; rfl
  have hinE : ∀ {i : Nat × Nat}, i ∈ chain → i.1 ∈ (chain ++ free).map (·.1) := fun h => List.mem_map_of_mem (f := (·.1)) (List.mem_append.2 (.inl h))
  intro n
  induction n with
  | zero =>
    intro D u w1 k hT1 hisl hk hD hR hΦd
    have hDF : D = F := by simpa [island] using hisl
    subst hDF
    have hall := List.all_eq_true.1 hF
    have hk' : k = chain.length := by
      rcases Nat.lt_or_ge k chain.length with h | h
      · obtain ⟨i, hi⟩ : ∃ i, chain[k]? = some i := ⟨_, List.getElem?_eq_getElem h⟩
        have h1 := hD k i hi
        rw [hall i.1 (hinE (List.mem_of_getElem? hi))] at h1
        simp at h1
      · omega
    subst hk'
    have hend := hend u w1 hT1 hR ?_ _ rfl
    · obtain ⟨gs', hgs, hx⟩ := hend
      refine held_weaker (fun w2 h2 => ?_) _ _ _ _ hx
      exact ⟨h2.os.trans hT1.os, h2.tape.trans hT1.tape, h2.output.trans hT1.output, Nat.le_trans hT1.size h2.size, fun k hk hn => (h2.block k (Nat.lt_of_lt_of_le hk hT1.size) (fun hm => (hgs k hm).elim hn (fun h => by omega))).trans (hT1.block k hk hn)⟩
    have : ∀ l : List Nat, (∀ i ∈ l, i ∈ (chain ++ free).map (·.1)) → AllF (fun i => Φ i (u i) w1) l := by
      intro l
      induction l with
      | nil => intro _; trivial
      | cons a l ih => exact fun h => ⟨hΦd a (h a (by simp)) (hall a (h a (by simp))), ih fun i hi => h i (by simp [hi])⟩
    exact this _ fun _ h => h
  | succ n ih =>
    intro D u w1 k hT1 hisl hk hD hR hΦd
    unfold island at hisl
    rw [Bool.and_eq_true] at hisl
    obtain ⟨hne, hall⟩ := hisl
    rw [List.all_eq_true] at hall
    refine ⟨fun h0 => ?_, fun i hi => ?_⟩
    · rw [h0] at hne
      simp at hne
    · have h1 := hall i hi
      rw [Bool.and_eq_true] at h1
      obtain ⟨hE, hI⟩ := h1
      have hE : i ∈ (chain ++ free).map (·.1) := by simpa using hE
      obtain ⟨⟨i, d⟩, hid, rfl⟩ := List.mem_map.1 hE
      obtain ⟨hDi, o, ho, haft⟩ := mem_ready.1 hi
      have hW : Waited md ops (chain ++ free) Φ i u w1 := fun i' hi' hon => hΦd i' hi' (onB_done hi hon)
      have hnd' := List.nodup_append.1 (by rw [List.map_append] at hnd; exact hnd)
      have next : ∀ (v : Value) (w' : World) (k' : Nat), Turn gs w1 w' → k' ≤ chain.length → (∀ (j : Nat) (i' : Nat × Nat), chain[j]? = some i' → (D.setIfInBounds i true).getD i'.1 true = decide (j < k')) → R k' w' → Φ i v w' →
          (fun a' w' => Turn gs w w' ∧ wpAnyH P md ops Q (fun w' => Turn gs w w') (fuel + n) (D.setIfInBounds i true) a' w') ((puts (chain ++ free) a0 u).put (some d) v) w' := by
        intro v w' k' hT hk' hD' hR' hv
        rw [puts_one _ _ _ _ _ _ hid hnd hnd2]
        refine ⟨hT1.trans hT, ih _ _ _ k' (hT1.trans hT) hI hk' hD' hR' ?_⟩
        intro i' hi' hd
        by_cases hii : i = i'
        · subst hii
          simpa [upd] using hv
        · rw [getD_set_ne true hii] at hd
          rw [show upd u i v i' = u i' from if_neg (Ne.symm hii)]
          exact hΦ _ _ _ _ hT (hΦd i' hi' hd)
      rcases List.mem_append.1 hid with hc | hf
      · obtain ⟨j, hj⟩ := List.mem_iff_getElem?.1 hc
        have hkj : k ≤ j := by
          have h2 := hD j _ hj
          rw [hDi] at h2
          have : ¬ j < k := by simpa using h2.symm
          omega
        have hjk : j ≤ k := by
          rcases j with _ | j
          · omega
          · obtain ⟨i', hi'⟩ : ∃ i', chain[j]? = some i' := ⟨_, List.getElem?_eq_getElem (by have := (List.getElem?_eq_some_iff.1 hj).1; omega)⟩
            obtain ⟨o', e, ho', he, hb, hon⟩ := waits_get hch (hmap hi') (hmap hj)
            rw [ho] at ho'
            obtain rfl : o = o' := by simpa using ho'
            have h3 := getD_true_of (haft e he hb)
            rw [hon, hD j i' hi'] at h3
            have : j < k := by simpa using h3
            omega
        obtain rfl : j = k := by omega
        have hcl := hcall.get hj
        rw [Nat.zero_add] at hcl
        refine hcl u w1 hT1 hR hW _ rfl _ ?_
        intro v w' hT hR' hv
        refine next v w' (j + 1) hT (by have := (List.getElem?_eq_some_iff.1 hj).1; omega) ?_ hR' hv
        intro j' i' hj'
        by_cases hji : j' = j
        · subst hji
          obtain rfl : (i, d) = i' := by rw [hj] at hj'; simpa using hj'
          rw [getD_set_self]
          simp
        · have hii : i ≠ i'.1 := fun h => hji (by
            have l1 := (List.getElem?_eq_some_iff.1 (hmap hj')).1
            exact (List.getElem?_inj l1 hnd'.1).1 ((hmap hj').trans ((by rw [h]) : some i'.1 = some i) |>.trans (hmap hj).symm))
          rw [getD_set_ne true hii, hD j' i' hj']
          have : (j' < j) ↔ (j' < j + 1) := by omega
          simp [this]
      · have hni : ∀ {j' : Nat} {i' : Nat × Nat}, chain[j']? = some i' → i ≠ i'.1 := fun {j' i'} h e => (hnd'.2.2 i'.1 (List.mem_map_of_mem (f := (·.1)) (List.mem_of_getElem? h)) i (List.mem_map_of_mem (f := (·.1)) hf)) e.symm
        refine hfree.get hf u w1 k hT1 hR hW _ rfl _ ?_
        intro v w' hT hR' hv
        refine next v w' k hT hk ?_ hR' hv
        intro j' i' hj'
        rw [getD_set_ne true (hni hj'), hD j' i' hj']
end
end Go.Proofs.Ytaceaemombnhkaa
