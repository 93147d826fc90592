/- What Peers is, as plain data. -/
import Derived.Test.YteglgopbagefcaaPf
namespace Go.Proofs.Yteglgopbagefcaa
set_option linter.unusedVariables false
set_option linter.unusedSimpArgs false
open Go.RowKit Go.Shelf

section
variable {α : Type}
theorem flat_mul (f : Nat → List α) (D u : Nat) : (List.range (D * u)).flatMap f = (List.range D).flatMap fun d => (List.range u).flatMap fun r => f (d * u + r) := by
  induction D with
  | zero => simp
  | succ D ih =>
    rw [Nat.succ_mul, List.range_add, List.flatMap_append, ih, List.range_succ, List.flatMap_append]
    simp [List.flatMap_map]
theorem flat_none (g : Nat → List α) (u : Nat) (h : ∀ r, r < u → g r = []) : (List.range u).flatMap g = [] := by
  induction u with
  | zero => simp
  | succ u ih =>
    rw [List.range_succ, List.flatMap_append, ih (fun r hr => h r (by omega))]
    simp [h u (by omega)]
theorem flat_one (g : Nat → List α) (u I : Nat) (hI : I < u) (h : ∀ r, r < u → r ≠ I → g r = []) : (List.range u).flatMap g = g I := by
  induction u with
  | zero => omega
  | succ u ih =>
    rw [List.range_succ, List.flatMap_append]
    by_cases e : I = u
    · subst e
      rw [flat_none g I (fun r hr => h r (by omega) (by omega))]
      simp
    · rw [ih (by omega) (fun r hr => h r (by omega)), ]
      simp [h u (by omega) (fun he => e he.symm)]
theorem flat_congr {f g : Nat → List α} (D : Nat) (h : ∀ d, d < D → f d = g d) : (List.range D).flatMap f = (List.range D).flatMap g := by
  induction D with
  | zero => simp
  | succ D ih => rw [List.range_succ, List.flatMap_append, List.flatMap_append, ih (fun d hd => h d (by omega))]; simp [h D (by omega)]
end
/-- P9.2: the peer in unit u, if there is one, of a block at P where X is its stripe's first block. -/
def peerU (c : Cf) (P : Pl) (X n : Int) (u : Nat) : List Pl := if (u : Int) = P.u ∨ n ≤ X + u * c.u + P.i then [] else [ofIn c (X + u * c.u + P.i)]
def peersU (c : Cf) (P : Pl) (X n : Int) (k : Nat) : List Pl := (List.range k).flatMap fun u => peerU c P X n u
theorem peersU_zero (c : Cf) (P : Pl) (X n : Int) : peersU c P X n 0 = [] := by simp [peersU]
theorem peersU_succ (c : Cf) (P : Pl) (X n : Int) (k : Nat) : peersU c P X n (k + 1) = peersU c P X n k ++ peerU c P X n k := by simp [peersU, List.range_succ]
theorem peersU_len (c : Cf) (P : Pl) (X n : Int) (k : Nat) : (peersU c P X n k).length ≤ k := by
  induction k with
  | zero => simp [peersU_zero]
  | succ k ih =>
    rw [peersU_succ, List.length_append]
    have : (peerU c P X n k).length ≤ 1 := by unfold peerU; split <;> simp
    omega
/-- The same by going through all of the stripe. -/
def peerI (c : Cf) (P : Pl) (X n : Int) (i : Nat) : List Pl := if n ≤ X + i then [] else if (ofIn c (X + i)).i = P.i ∧ (ofIn c (X + i)).u ≠ P.u then [ofIn c (X + i)] else []
def peersI (c : Cf) (P : Pl) (X n : Int) (k : Nat) : List Pl := (List.range k).flatMap fun i => peerI c P X n i
theorem peersI_zero (c : Cf) (P : Pl) (X n : Int) : peersI c P X n 0 = [] := by simp [peersI]
theorem peersI_succ (c : Cf) (P : Pl) (X n : Int) (k : Nat) : peersI c P X n (k + 1) = peersI c P X n k ++ peerI c P X n k := by simp [peersI, List.range_succ]
theorem peersI_len (c : Cf) (P : Pl) (X n : Int) (k : Nat) : (peersI c P X n k).length ≤ k := by
  induction k with
  | zero => simp [peersI_zero]
  | succ k ih =>
    rw [peersI_succ, List.length_append]
    have : (peerI c P X n k).length ≤ 1 := by unfold peerI; repeat' split <;> simp
    omega
theorem in_row {c : Cf} (hc : checkC c = 0) {S : Int} {d r : Nat} (hd : (d : Int) < dataC c) (hr : (r : Int) < c.u) : (ofIn c (S * (dataC c * c.u) + (d * c.u + r))).u = d ∧ (ofIn c (S * (dataC c * c.u) + (d * c.u + r))).i = r := by
  have ho := ok_of hc
  have o1 := ho.u1
  have o2 := ho.r1
  show (S * (dataC c * c.u) + (d * c.u + r)) % (dataC c * c.u) / c.u = d ∧ (S * (dataC c * c.u) + (d * c.u + r)) % (dataC c * c.u) % c.u = r
  have h1 : (d : Int) * c.u + r < dataC c * c.u := by
    have : (d + 1 : Int) * c.u ≤ dataC c * c.u := Int.mul_le_mul_of_nonneg_right (by omega) (by omega)
    rw [Int.add_mul] at this
    omega
  have h0 : 0 ≤ (d : Int) * c.u := Int.mul_nonneg (by omega) (by omega)
  have e : (S * (dataC c * c.u) + (d * c.u + r)) % (dataC c * c.u) = d * c.u + r := by
    rw [Int.add_comm, Int.add_mul_emod_self_right]
    exact Int.emod_eq_of_lt (by omega) h1
  rw [e]
  exact (Int.ediv_emod_unique (by omega)).2 ⟨by rw [Int.mul_comm]; omega, by omega, by omega⟩
theorem peers_eq {c : Cf} (hc : checkC c = 0) (P : Pl) (S X n : Int) (hX : S * (dataC c * c.u) = X) (hi0 : 0 ≤ P.i) (hi1 : P.i < c.u) : peersI c P X n (dataC c * c.u).toNat = peersU c P X n (dataC c).toNat := by
  have ho := ok_of hc
  have o1 := ho.u1
  have o2 := ho.d
  have o3 := ho.m1
  obtain ⟨D, hD⟩ : ∃ D : Nat, dataC c = D := ⟨(dataC c).toNat, by omega⟩
  obtain ⟨U, hU⟩ : ∃ U : Nat, c.u = U := ⟨c.u.toNat, by omega⟩
  obtain ⟨I, hI⟩ : ∃ I : Nat, P.i = I := ⟨P.i.toNat, by omega⟩
  have e1 : (dataC c * c.u).toNat = D * U := by rw [hD, hU]; omega
  have e2 : (dataC c).toNat = D := by omega
  rw [e1, e2]
  unfold peersI peersU
  rw [flat_mul]
  refine flat_congr D fun d hd => ?_
  have hrow : ∀ r : Nat, r < U → (ofIn c (X + ((d * U + r : Nat) : Int))).u = d ∧ (ofIn c (X + ((d * U + r : Nat) : Int))).i = r := fun r hr => by
    have h := in_row hc (S := S) (d := d) (r := r) (by omega) (by omega)
    rw [hX, hU] at h
    have e : ((d * U + r : Nat) : Int) = (d : Int) * U + r := by push_cast; rfl
    rw [e]
    exact h
  rw [flat_one _ U I (by omega) (fun r hr hne => by
    unfold peerI
    split
    · rfl
    · rw [if_neg]
      rw [(hrow r hr).2, hI]
      omega)]
  have hIU : I < U := by omega
  have e3 : X + ((d * U + I : Nat) : Int) = X + d * c.u + P.i := by rw [hU, hI]; push_cast; omega
  unfold peerI peerU
  have h1 := hrow I hIU
  rw [e3] at h1 ⊢
  rw [h1.1, h1.2, hI]
  rw [hI] at e3
  by_cases g1 : n ≤ X + d * c.u + I
  · rw [if_pos g1, if_pos (Or.inr g1)]
  · rw [if_neg g1]
    by_cases g2 : (d : Int) = P.u
    · rw [if_neg (by simp [g2]), if_pos (Or.inl g2)]
    · rw [if_pos ⟨rfl, g2⟩, if_neg (by intro h; rcases h with h | h; exact g2 h; exact g1 h)]
/-- P9.2: Peers. -/
def pgoodC (c : Cf) (lb n : Int) : Bool := decide (rightC c 0 n = true ∧ 0 ≤ lb ∧ lb < n)
theorem pgoodC_iff {c : Cf} {lb n : Int} : pgoodC c lb n = true ↔ rightC c 0 n = true ∧ 0 ≤ lb ∧ lb < n := by simp [pgoodC]
def peersA (c : Cf) (lb n : Int) : List Pl := if pgoodC c lb n = true then peersU c (ofIn c lb) (lb / (dataC c * c.u) * (dataC c * c.u)) n (dataC c).toNat else []
def wholeA (c : Cf) (lb n : Int) : Bool := if pgoodC c lb n = true then decide (lb / (dataC c * c.u) * (dataC c * c.u) + dataC c * c.u ≤ n) else false
/-- The call gave a new row of places, and a truth. -/
def GaveP (w : World) (l : List Pl) (b : Bool) (e : Ending) (w' : World) : Prop := ∃ v, e = .returned (.tuple #[v, .bool b]) ∧ Rw Pl.cs 36 w' w.heap.size v l ∧ Below w.heap.size w w'
/-- The settings, the block's own place, and what may turn from B on. -/
structure AtO (c : Cf) (P : Pl) (gp B : Nat) (w wr : World) : Prop where
  at' : At c w wr
  pl : Box wr gp 36 #[.int .i64 P.s, .int .i64 P.u, .int .i64 P.i, .int .i64 P.m, .int .i64 P.p]
  lt : gp < B
  ge : w.heap.size + 1 ≤ B
  sz : B ≤ wr.heap.size
theorem AtO.later {c : Cf} {P : Pl} {gp B : Nat} {w wr w2 : World} (h : AtO c P gp B w wr) (hb : Below wr.heap.size wr w2) : AtO c P gp B w w2 := ⟨h.at'.later hb, h.pl.later hb, h.lt, h.ge, Nat.le_trans h.sz hb.size⟩
theorem AtO.kept {c : Cf} {P : Pl} {gp B : Nat} {w wr w2 : World} (h : AtO c P gp B w wr) (hb : Below B wr w2) : AtO c P gp B w w2 := ⟨h.at'.kept (hb.mono h.ge), h.pl.under hb h.lt, h.lt, h.ge, Nat.le_trans h.sz hb.size⟩
theorem AtO.alloc {c : Cf} {P : Pl} {gp B : Nat} {w wr : World} (h : AtO c P gp B w wr) (o : Obj) : AtO c P gp B w (wr.alloc o) := h.later ((Below.refl _ _).alloc (Nat.le_refl _) _)
end Go.Proofs.Yteglgopbagefcaa
