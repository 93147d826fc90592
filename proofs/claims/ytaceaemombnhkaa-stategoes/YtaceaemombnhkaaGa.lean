/- What is read is what was put: plain. -/
import Derived.Test.YtaceaemombnhkaaSl
namespace Go.Proofs.Ytaceaemombnhkaa
set_option linter.unusedVariables false
set_option maxRecDepth 100000
set_option linter.unusedSimpArgs false
open Go.RowKit
open Go.RowKit (wrap64)

theorem leK_cons (u k : Nat) : leK u (k + 1) = UInt8.ofNat u :: leK (u / 256) k := by
  unfold leK
  rw [List.range_succ_eq_map]
  simp only [List.map_cons, List.map_map, Nat.pow_zero, Nat.div_one, List.cons.injEq, true_and]
  refine List.map_congr_left fun i _ => ?_
  simp only [Function.comp_def, Nat.succ_eq_add_one]
  rw [Nat.div_div_eq_div_mul, Nat.pow_succ, Nat.mul_comm]
theorem leK_num : ∀ l : List UInt8, leK (numLE l) l.length = l
  | [] => rfl
  | b :: r => by
    have hb := b.toNat_lt
    show leK (b.toNat + 256 * numLE r) (r.length + 1) = b :: r
    rw [leK_cons]
    have e1 : (b.toNat + 256 * numLE r) / 256 = numLE r := by omega
    have e2 : UInt8.ofNat (b.toNat + 256 * numLE r) = b := by
      apply UInt8.toNat_inj.1
      rw [UInt8.toNat_ofNat']
      omega
    rw [e1, e2, leK_num r]
theorem u64_wrap {x : Nat} (h : x < 18446744073709551616) : u64 (wrap64 (x : Int)) = x := by
  unfold u64 wrap64
  omega
/-- Eight bytes are those of the number that they give. -/
theorem le8_num {l : List UInt8} (h : l.length = 8) : le8 (wrap64 (numLE l : Nat)) = l := by
  have h1 := numLE_lt l
  rw [h] at h1
  have h2 : numLE l < 18446744073709551616 := by
    have : (256 : Nat) ^ 8 = 18446744073709551616 := by decide
    omega
  unfold le8
  rw [u64_wrap h2]
  have h3 := leK_num l
  rw [h] at h3
  exact h3
theorem rI_ok {l : List UInt8} {er lo hi : Int} (h : (rI l er lo hi).2.2 = 0) : er = 0 ∧ l = le8 (rI l er lo hi).1 ++ (rI l er lo hi).2.1 ∧ lo ≤ (rI l er lo hi).1 ∧ (rI l er lo hi).1 ≤ hi := by
  unfold rI at h ⊢
  by_cases he : er = 0
  · rw [if_pos he] at h ⊢
    by_cases hl : l.length < 8
    · rw [if_pos hl] at h
      simp at h
    · rw [if_neg hl] at h ⊢
      by_cases hr : wrap64 (numLE (l.take 8) : Nat) < lo ∨ hi < wrap64 (numLE (l.take 8) : Nat)
      · rw [if_pos hr] at h
        simp at h
      · rw [if_neg hr]
        refine ⟨he, ?_, by dsimp only; omega, by dsimp only; omega⟩
        dsimp only
        rw [le8_num (by rw [List.length_take]; omega), List.take_append_drop]
  · rw [if_neg he] at h
    exact absurd h he
theorem rI_err {l : List UInt8} {er lo hi : Int} (h : er = 0 ∨ er = 13 ∨ er = 14) : (rI l er lo hi).2.2 = 0 ∨ (rI l er lo hi).2.2 = 13 ∨ (rI l er lo hi).2.2 = 14 := by
  unfold rI
  split
  · split
    · simp
    · split <;> simp
  · exact h
theorem rF_ok {l : List UInt8} {er : Int} (h : (rF l er).2.2 = 0) : er = 0 ∧ l = fB (rF l er).1 ++ (rF l er).2.1 := by
  unfold rF at h ⊢
  by_cases he : er = 0
  · rw [if_pos he] at h ⊢
    refine ⟨he, ?_⟩
    match l with
    | [] => simp at h
    | b :: r =>
      dsimp only at h ⊢
      by_cases hb : 1 < b.toNat
      · rw [if_pos hb] at h
        simp at h
      · rw [if_neg hb]
        dsimp only
        by_cases h1 : b.toNat = 1
        · have e : b = 1 := UInt8.toNat_inj.1 h1
          subst e
          rfl
        · have e : b = 0 := UInt8.toNat_inj.1 (by show b.toNat = 0; omega)
          subst e
          rfl
  · rw [if_neg he] at h
    exact absurd h he
theorem rF_err {l : List UInt8} {er : Int} (h : er = 0 ∨ er = 13 ∨ er = 14) : (rF l er).2.2 = 0 ∨ (rF l er).2.2 = 13 ∨ (rF l er).2.2 = 14 := by
  unfold rF
  by_cases he : er = 0
  · rw [if_pos he]
    match l with
    | [] => simp
    | b :: r =>
      dsimp only
      split <;> simp
  · rw [if_neg he]
    exact h
theorem rB_ok {l : List UInt8} {er most : Int} (h : (rB l er most).2.2 = 0) : er = 0 ∧ l = (le8 (rB l er most).1.length ++ (rB l er most).1) ++ (rB l er most).2.1 ∧ ((rB l er most).1.length : Int) ≤ most := by
  unfold rB at h ⊢
  by_cases h0 : (rI l er 0 most).2.2 = 0
  · rw [if_pos h0] at h ⊢
    obtain ⟨h1, h2, h3, h4⟩ := rI_ok h0
    by_cases hl : (rI l er 0 most).2.1.length < (rI l er 0 most).1.toNat
    · rw [if_pos hl] at h
      simp at h
    · rw [if_neg hl]
      dsimp only
      have hn : ((rI l er 0 most).2.1.take (rI l er 0 most).1.toNat).length = (rI l er 0 most).1.toNat := by rw [List.length_take]; omega
      refine ⟨h1, ?_, by rw [hn]; omega⟩
      rw [hn, Int.toNat_of_nonneg h3, List.append_assoc, List.take_append_drop]
      exact h2
  · rw [if_neg h0] at h
    exact absurd h h0
theorem rB_err {l : List UInt8} {er most : Int} (h : er = 0 ∨ er = 13 ∨ er = 14) : (rB l er most).2.2 = 0 ∨ (rB l er most).2.2 = 13 ∨ (rB l er most).2.2 = 14 := by
  have h1 := rI_err (l := l) (lo := 0) (hi := most) h
  unfold rB
  split
  · split <;> simp
  · rename_i h0
    rcases h1 with h1 | h1 | h1
    · exact absurd h1 h0
    · right; left; exact h1
    · right; right; exact h1
/-- A parity, read. -/
def getP (sz pb : Int) (x : List UInt8 × Int) : Pr × (List UInt8 × Int) :=
  let a := rI x.1 x.2 1 sz
  let b := rB a.2.1 a.2.2 pb
  (⟨a.1, b.1⟩, b.2)
def getPs (sz pb : Int) : Nat → List UInt8 × Int → List Pr × (List UInt8 × Int)
  | 0, x => ([], x)
  | n + 1, x => ((getPs sz pb n x).1 ++ [(getP sz pb (getPs sz pb n x).2).1], (getP sz pb (getPs sz pb n x).2).2)
/-- A zone's numbers ahead of its parities, read, and how many of these. -/
def getH (sl sz : Int) (x : List UInt8 × Int) : (Int × Int × Bool × Int × Bool × Int) × (List UInt8 × Int) :=
  let a := rI x.1 x.2 0 1099511627776
  let b := rI a.2.1 a.2.2 (-1) sl
  let c := rF b.2.1 b.2.2
  let d := rI c.2.1 c.2.2 0 sz
  let e := rF d.2.1 d.2.2
  let f := rI e.2.1 e.2.2 0 2
  ((a.1, b.1, c.1, d.1, e.1, f.1), f.2)
def getZ (sl sz pb : Int) (x : List UInt8 × Int) : Zn × (List UInt8 × Int) :=
  let h := getH sl sz x
  let q := getPs sz pb h.1.2.2.2.2.2.toNat h.2
  (⟨h.1.1, h.1.2.1, h.1.2.2.1, h.1.2.2.2.1, h.1.2.2.2.2.1, q.1⟩, q.2)
def getZs (sl sz pb : Int) : Nat → List UInt8 × Int → List Zn × (List UInt8 × Int)
  | 0, x => ([], x)
  | n + 1, x => ((getZs sl sz pb n x).1 ++ [(getZ sl sz pb (getZs sl sz pb n x).2).1], (getZ sl sz pb (getZs sl sz pb n x).2).2)
def getIs : Nat → List UInt8 × Int → List Int × (List UInt8 × Int)
  | 0, x => ([], x)
  | n + 1, x => ((getIs n x).1 ++ [(rI (getIs n x).2.1 (getIs n x).2.2 0 2).1], (rI (getIs n x).2.1 (getIs n x).2.2 0 2).2)
theorem getP_ok {sz pb : Int} {x : List UInt8 × Int} (h : (getP sz pb x).2.2 = 0) : x.2 = 0 ∧ x.1 = putP (getP sz pb x).1 ++ (getP sz pb x).2.1 := by
  obtain ⟨h1, h2, _⟩ := rB_ok h
  obtain ⟨h3, h4, _⟩ := rI_ok h1
  refine ⟨h3, ?_⟩
  rw [h4]
  show _ = (le8 _ ++ (le8 _ ++ _)) ++ _
  rw [List.append_assoc]
  congr 1
theorem getPs_ok {sz pb : Int} : ∀ {n : Nat} {x : List UInt8 × Int}, (getPs sz pb n x).2.2 = 0 → x.2 = 0 ∧ x.1 = putPs (getPs sz pb n x).1 ++ (getPs sz pb n x).2.1
  | 0, x, h => ⟨h, rfl⟩
  | n + 1, x, h => by
    obtain ⟨h1, h2⟩ := getP_ok h
    obtain ⟨h3, h4⟩ := getPs_ok h1
    refine ⟨h3, ?_⟩
    show x.1 = putPs ((getPs sz pb n x).1 ++ [_]) ++ _
    rw [putPs_snoc, List.append_assoc]
    exact h4.trans (congrArg _ h2)
theorem getPs_len {sz pb : Int} : ∀ (n : Nat) (x : List UInt8 × Int), (getPs sz pb n x).1.length = n
  | 0, x => rfl
  | n + 1, x => by show ((getPs sz pb n x).1 ++ [_]).length = n + 1; rw [List.length_append, getPs_len n x]; rfl
theorem getIs_ok : ∀ {n : Nat} {x : List UInt8 × Int}, (getIs n x).2.2 = 0 → x.2 = 0 ∧ x.1 = putIs (getIs n x).1 ++ (getIs n x).2.1
  | 0, x, h => ⟨h, rfl⟩
  | n + 1, x, h => by
    obtain ⟨h1, h2, _⟩ := rI_ok h
    obtain ⟨h3, h4⟩ := getIs_ok h1
    refine ⟨h3, ?_⟩
    show x.1 = putIs ((getIs n x).1 ++ [_]) ++ _
    rw [putIs_snoc, List.append_assoc]
    exact h4.trans (congrArg _ h2)
theorem getIs_len : ∀ (n : Nat) (x : List UInt8 × Int), (getIs n x).1.length = n
  | 0, x => rfl
  | n + 1, x => by show ((getIs n x).1 ++ [_]).length = n + 1; rw [List.length_append, getIs_len n x]; rfl
theorem getZ_ok {sl sz pb : Int} {x : List UInt8 × Int} (h : (getZ sl sz pb x).2.2 = 0) : x.2 = 0 ∧ x.1 = putZ (getZ sl sz pb x).1 ++ (getZ sl sz pb x).2.1 := by
  obtain ⟨h1, h2⟩ := getPs_ok h
  obtain ⟨h3, h4, f0, f2⟩ := rI_ok h1
  obtain ⟨h5, h6⟩ := rF_ok h3
  obtain ⟨h7, h8, _⟩ := rI_ok h5
  obtain ⟨h9, h10⟩ := rF_ok h7
  obtain ⟨h11, h12, _⟩ := rI_ok h9
  obtain ⟨h13, h14, _⟩ := rI_ok h11
  refine ⟨h13, ?_⟩
  have hn : ((getZ sl sz pb x).1.ps.length : Int) = (getH sl sz x).1.2.2.2.2.2 := by
    show ((getPs sz pb _ _).1.length : Int) = _
    rw [getPs_len]
    exact Int.toNat_of_nonneg f0
  show x.1 = (le8 _ ++ (le8 _ ++ (fB _ ++ (le8 _ ++ (fB _ ++ le8 ((getZ sl sz pb x).1.ps.length : Int))))) ++ putPs _) ++ _
  rw [hn]
  simp only [List.append_assoc]
  rw [h14]
  congr 1
  rw [h12]
  congr 1
  rw [h10]
  congr 1
  rw [h8]
  congr 1
  rw [h6]
  congr 1
  rw [h4]
  congr 1
theorem getZs_ok {sl sz pb : Int} : ∀ {n : Nat} {x : List UInt8 × Int}, (getZs sl sz pb n x).2.2 = 0 → x.2 = 0 ∧ x.1 = putZs (getZs sl sz pb n x).1 ++ (getZs sl sz pb n x).2.1
  | 0, x, h => ⟨h, rfl⟩
  | n + 1, x, h => by
    obtain ⟨h1, h2⟩ := getZ_ok h
    obtain ⟨h3, h4⟩ := getZs_ok h1
    refine ⟨h3, ?_⟩
    show x.1 = putZs ((getZs sl sz pb n x).1 ++ [_]) ++ _
    rw [putZs_snoc, List.append_assoc]
    exact h4.trans (congrArg _ h2)
theorem getZs_len {sl sz pb : Int} : ∀ (n : Nat) (x : List UInt8 × Int), (getZs sl sz pb n x).1.length = n
  | 0, x => rfl
  | n + 1, x => by show ((getZs sl sz pb n x).1 ++ [_]).length = n + 1; rw [List.length_append, getZs_len n x]; rfl
/-- The errors that a reader may tell. -/
def ErrR (e : Int) : Prop := e = 0 ∨ e = 13 ∨ e = 14
theorem getP_err {sz pb : Int} {x : List UInt8 × Int} (h : ErrR x.2) : ErrR (getP sz pb x).2.2 := rB_err (rI_err h)
theorem getPs_err {sz pb : Int} : ∀ {n : Nat} {x : List UInt8 × Int}, ErrR x.2 → ErrR (getPs sz pb n x).2.2
  | 0, x, h => h
  | n + 1, x, h => getP_err (getPs_err (n := n) h)
theorem getZ_err {sl sz pb : Int} {x : List UInt8 × Int} (h : ErrR x.2) : ErrR (getZ sl sz pb x).2.2 := getPs_err (rI_err (rF_err (rI_err (rF_err (rI_err (rI_err h))))))
theorem getZs_err {sl sz pb : Int} : ∀ {n : Nat} {x : List UInt8 × Int}, ErrR x.2 → ErrR (getZs sl sz pb n x).2.2
  | 0, x, h => h
  | n + 1, x, h => getZ_err (getZs_err (n := n) h)
theorem getIs_err : ∀ {n : Nat} {x : List UInt8 × Int}, ErrR x.2 → ErrR (getIs n x).2.2
  | 0, x, h => h
  | n + 1, x, h => rI_err (getIs_err (n := n) h)
end Go.Proofs.Ytaceaemombnhkaa
