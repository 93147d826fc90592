/-
  Words on byte slices in memory, of no program: a slice that reads as a list of bytes, a new block of bytes, what 'make', 'copy' and 'string(b)' do there.
-/
import Derived.WalkKit
import Derived.WalkSpells
import Derived.Laws.CopyOwn
import Derived.Laws.BytesArg
import Derived.Deep.OwnRows
import Derived.Deep.AppendLies
import Derived.Deep.Draws
import Derived.Lib.Hide
import Derived.Maps.AppendAt
import Derived.Lib.SliceRun
namespace Go.Proofs.Ytaceaemombnhkaa
set_option linter.unusedVariables false
open Go.RowKit

/-- One byte as a cell. -/
def cB (b : UInt8) : Value := .int .u8 (b.toNat : Int)
/-- Bytes as cells. -/
def cBs (l : List UInt8) : List Value := l.map cB

theorem cBs_length (l : List UInt8) : (cBs l).length = l.length := by simp [cBs]
theorem cBs_append (l m : List UInt8) : cBs (l ++ m) = cBs l ++ cBs m := by simp [cBs]
theorem cBs_one (l : List UInt8) : ∀ u ∈ cBs l, u.oneCell' = true := by
  intro u hu
  obtain ⟨_, _, rfl⟩ := List.mem_map.1 hu
  rfl

/-- A step within a block. -/
theorem step_block (a : Addr) (n : Nat) : (a.add n).block = a.block := by
  by_cases h : n = 0 <;> simp [Addr.add, h]
theorem step_step (a : Addr) (i j : Nat) : (a.add i).add j = a.add (i + j) := by
  by_cases hi : i = 0
  · subst hi; simp [Addr.add]
  · by_cases hj : j = 0
    · subst hj; simp [Addr.add]
    · simp [Addr.add, hi, hj, Nat.add_assoc]

/-- A byte slice at address A reads as l, and lies below block B. -/
def Rd (w : World) (B : Nat) (A : Option Addr) (l : List UInt8) : Prop :=
  0 < l.length → ∃ ad, A = some ad ∧ ad.block < B ∧ ∀ j u, (cBs l)[j]? = some u → w.cell? (ad.add j) = some u

section
variable {w w' : World} {B B' : Nat} {A : Option Addr} {l : List UInt8}
theorem Rd.nil : Rd w B A [] := fun h => by simp at h
theorem Rd.keep (h : Rd w B A l) (hk : ∀ p : Addr, p.block < B → w'.cell? p = w.cell? p) : Rd w' B A l := fun hn => by
  obtain ⟨ad, e, hb, hc⟩ := h hn
  exact ⟨ad, e, hb, fun j u hu => (hk _ (by rw [step_block]; exact hb)).trans (hc j u hu)⟩
theorem Rd.more (h : Rd w B A l) (hB : B ≤ B') : Rd w B' A l := fun hn => by
  obtain ⟨ad, e, hb, hc⟩ := h hn
  exact ⟨ad, e, by omega, hc⟩
theorem Rd.below (h : Rd w B A l) (hb : Below B w w') : Rd w' B A l := h.keep fun _ hp => hb.cell hp
theorem Rd.alloc (h : Rd w B A l) (hB : B ≤ w.heap.size) (o : Obj) : Rd (w.alloc o) B A l := h.keep fun p hp => World.cell?_alloc_lt w o p (by omega)
theorem Rd.setCell (h : Rd w B A l) {p : Addr} (hB : B ≤ p.block) (u : Value) : Rd (w.setCell p u) B A l :=
  h.keep fun q hq => World.cell?_setCell_other w p q u (fun e => by subst e; omega)
theorem Rd.grown {row : Option Nat} (h : Rd w B A l) (hg : w.grownBy w' row) (hB : B ≤ w.heap.size) (hr : ∀ g, row = some g → B ≤ g) : Rd w' B A l :=
  h.keep fun p hp => World.cell?_of_block (hg.block p.block (by omega) (fun e => by have := hr _ e.symm; omega))
theorem Rd.new (w : World) (l : List UInt8) (t : TypeId) : Rd (w.alloc (.cells (cBs l).toArray t)) (w.heap.size + 1) (some ⟨w.heap.size, 0, none⟩) l := fun _ =>
  ⟨_, rfl, by simp, fun j u hu => by
    have hadd : (⟨w.heap.size, 0, none⟩ : Addr).add j = ⟨w.heap.size, j, none⟩ := by unfold Addr.add; split <;> simp_all
    rw [hadd, cell_of_row _ _ j _ t (0, 0) (heap_alloc_new w _)]
    simpa using hu⟩
end

theorem Rd.at_ {w : World} {B : Nat} {A : Option Addr} {l : List UInt8} (h : Rd w B A l) (h0 : 0 < l.length) :
    ∃ b off, A = some ⟨b, off, none⟩ ∧ b < B ∧ ∀ j (hj : j < l.length), w.cell? ⟨b, off + j, none⟩ = some (.int .u8 (l[j].toNat : Int)) := by
  obtain ⟨⟨b, off, spot⟩, rfl, hb, hc⟩ := h h0
  have hc0 := hc 0 (cB l[0]) (by simp [cBs, h0])
  have hspot : spot = none := by simpa [Addr.add] using World.cell?_spot hc0
  subst hspot
  refine ⟨b, off, rfl, hb, fun j hj => ?_⟩
  have h1 := hc j (cB l[j]) (by simp [cBs, hj])
  have hadd : (⟨b, off, none⟩ : Addr).add j = ⟨b, off + j, none⟩ := by unfold Addr.add; split <;> simp_all
  rw [hadd] at h1
  exact h1

theorem setRow_alloc_new (w : World) (a b : Array Value) (t : TypeId) : (w.alloc (.cells a t)).setRow w.heap.size b = w.alloc (.cells b t) := by
  unfold World.setRow World.alloc
  congr 1
  apply Array.ext_getElem?
  intro k
  simp only [Array.getElem?_modify, Array.getElem?_push]
  by_cases hk : k = w.heap.size
  · subst hk; simp
  · simp [hk]
    intro h; exact absurd h.symm hk

/-- m bytes 0. -/
def zeros (m : Nat) : List UInt8 := List.replicate m 0
theorem zeros_length (m : Nat) : (zeros m).length = m := by simp [zeros]

/-- 'make' and 'copy' together: the new block's bytes. -/
theorem run_copy_new {P : Program} (w : World) (dT sT ty e : TypeId) (A : Option Addr) (c m : Nat) (l : List UInt8) (hu : P.underlying dT = some (.slice e)) (hs : (P.info? e).map (·.size) = some 1) (hr : Rd w w.heap.size A l) :
    (Builtin.copy_ #[dT, sT] ty #[.slice (some ⟨w.heap.size, 0, none⟩) (l.length + m) (l.length + m), .slice A l.length c]).run P (w.alloc (.cells (madeCells #[.int .u8 0] (l.length + m)) e)) =
      .ok (goInt l.length) (w.alloc (.cells (cBs (l ++ zeros m)).toArray e)) := by
  unfold zeros
  have hmade : madeCells #[.int .u8 0] (l.length + m) = (cBs (List.replicate (l.length + m) 0)).toArray := by
    apply Array.toList_inj.1
    rw [toList_madeCells_one]
    simp [cBs, cB]
  rw [hmade]
  rcases Nat.eq_zero_or_pos l.length with h0 | h0
  · obtain rfl : l = [] := List.eq_nil_of_length_eq_zero h0
    have hrun := run_copy_none (P := P) (w.alloc (.cells (cBs (List.replicate (0 + m) 0)).toArray e)) dT sT ty e (some ⟨w.heap.size, 0, none⟩) A (0 + m) (0 + m) 0 c hu hs (by simp)
    simpa using hrun
  · obtain ⟨ad, rfl, hb, hc⟩ := hr h0
    have hg := heap_alloc_new w (.cells (cBs (List.replicate (l.length + m) 0)).toArray e)
    have hrun := run_copy_row P (w.alloc (.cells (cBs (List.replicate (l.length + m) 0)).toArray e)) dT sT ty e w.heap.size 0 (l.length + m) (l.length + m) ad l.length c _ e (cBs l) hu hs hg (by simp [cBs_length])
      (fun j v hv => by rw [World.cell?_alloc_lt w _ _ (by rw [step_block]; exact hb)]; exact hc j v hv) (by simp [cBs_length]) (cBs_one l)
    rw [hrun]
    congr 1
    · simp [cBs_length]
    · have e1 : ((cBs (List.replicate (l.length + m) 0)).toArray.toList.take 0 ++ cBs l ++ (cBs (List.replicate (l.length + m) 0)).toArray.toList.drop (0 + (cBs l).length)) = cBs (l ++ List.replicate m 0) := by
        simp [cBs]
      rw [e1]
      exact setRow_alloc_new w _ _ e

/-- 'copy' behind l, to the new block's end. -/
theorem run_copy_tail {P : Program} (w : World) (dT sT ty e : TypeId) (D A : Option Addr) (c k dk d : Nat) (l x : List UInt8) (hu : P.underlying dT = some (.slice e)) (hs : (P.info? e).map (·.size) = some 1) (hr : Rd w w.heap.size A x)
    (hk : x.length = k) (hdk : dk = k) (hD : 0 < k → D = some ⟨w.heap.size, l.length, none⟩) :
    (Builtin.copy_ #[dT, sT] ty #[.slice D dk d, .slice A k c]).run P (w.alloc (.cells (cBs (l ++ zeros k)).toArray e)) =
      .ok (goInt k) (w.alloc (.cells (cBs (l ++ x)).toArray e)) := by
  subst hdk
  subst hk
  unfold zeros
  rcases Nat.eq_zero_or_pos x.length with h0 | h0
  · obtain rfl : x = [] := List.eq_nil_of_length_eq_zero h0
    have hrun := run_copy_none (P := P) (w.alloc (.cells (cBs (l ++ List.replicate 0 0)).toArray e)) dT sT ty e D A 0 d 0 c hu hs (by simp)
    simpa using hrun
  · obtain ⟨ad, rfl, hb, hc⟩ := hr h0
    obtain rfl := hD h0
    have hg := heap_alloc_new w (.cells (cBs (l ++ List.replicate x.length 0)).toArray e)
    have hrun := run_copy_row P (w.alloc (.cells (cBs (l ++ List.replicate x.length 0)).toArray e)) dT sT ty e w.heap.size l.length x.length d ad x.length c _ e (cBs x) hu hs hg (by simp [cBs_length])
      (fun j v hv => by rw [World.cell?_alloc_lt w _ _ (by rw [step_block]; exact hb)]; exact hc j v hv) (by simp [cBs_length]) (cBs_one x)
    rw [hrun]
    congr 1
    · simp [cBs_length]
    · have e1 : ((cBs (l ++ List.replicate x.length 0)).toArray.toList.take l.length ++ cBs x ++ (cBs (l ++ List.replicate x.length 0)).toArray.toList.drop (l.length + (cBs x).length)) = cBs (l ++ x) := by
        simp [cBs]
      rw [e1]
      exact setRow_alloc_new w _ _ e

/-- 'string(b)' of a slice that reads as l. -/
theorem run_conv {P : Program} (w : World) (src dst e : TypeId) (hs : P.underlying src = some (.slice e)) (he : P.underlying e = some (.int .u8)) (hd : P.underlying dst = some .string)
    (A : Option Addr) (c B : Nat) (l : List UInt8) (hr : Rd w B A l) : (convert src dst (.slice A l.length c)).run P w = .ok (.string ⟨l.toArray⟩) w := by
  rcases A with _ | ad
  · have h0 : l = [] := by
      rcases Nat.eq_zero_or_pos l.length with h0 | h0
      · exact List.eq_nil_of_length_eq_zero h0
      · obtain ⟨ad, h, _⟩ := hr h0
        cases h
    subst h0
    exact run_convert_bytes_nil w src e hs he _ c dst hd
  · have hl : (loadCells ad l.length).run P w = .ok ((l.map fun b => (b.toNat : Int)).map (Value.int .u8)).toArray w := by
      have h := run_loadCells_list (P := P) w ad (cBs l) (fun j v hj => by
        rcases Nat.eq_zero_or_pos l.length with h0 | h0
        · obtain rfl := List.eq_nil_of_length_eq_zero h0
          simp [cBs] at hj
        · obtain ⟨ad', h, _, hc⟩ := hr h0
          injection h with h
          subst h
          exact hc j v hj)
      rw [cBs_length] at h
      rw [h]
      simp [cBs, cB, Function.comp_def]
    rw [run_convert_bytes_string w src dst e _ l.length c hs he hd, run_bytesToString w _ l.length c _ hl, foldl_push_bytes]
    congr 2
    apply ByteArray.ext
    apply Array.toList_inj.1
    simp [ByteArray.empty, ByteArray.emptyWithCapacity, Function.comp_def]
    rfl

/-- The number of a machine word. -/
def u64 (v : Int) : Nat := (v % 18446744073709551616).toNat
/-- The lowest k bytes of u. -/
def leK (u k : Nat) : List UInt8 := (List.range k).map fun i => UInt8.ofNat (u / 256 ^ i)
/-- Eight bytes, the lowest first. -/
def le8 (v : Int) : List UInt8 := leK (u64 v) 8
theorem leK_length (u k : Nat) : (leK u k).length = k := by simp [leK]
theorem le8_length (v : Int) : (le8 v).length = 8 := leK_length _ _
theorem leK_succ (u k : Nat) : leK u (k + 1) = leK u k ++ [UInt8.ofNat (u / 256 ^ k)] := by simp [leK, List.range_succ]

theorem wrap_u64 (v : Int) : IntKind.u64.wrap v = ((u64 v : Nat) : Int) := by
  have h : IntKind.u64.wrap v = v % 18446744073709551616 := rfl
  rw [h]; unfold u64; omega

theorem cBs_get (l : List UInt8) (i : Nat) (h : i < l.length) : (cBs l)[i]? = some (cB (l[i])) := by simp [cBs, h]
theorem splice_nil {α : Type} (l : List α) (off : Nat) : splice l off [] = l := by simp [splice]
theorem splice_set {α : Type} (l xs : List α) (off : Nat) (b : α) (h : off + xs.length < l.length) : (splice l off xs).set (off + xs.length) b = splice l off (xs ++ [b]) := by
  unfold splice
  rw [← List.append_assoc, List.set_append_right _ _ (by simp; omega)]
  have e : off + xs.length - (l.take off ++ xs).length = 0 := by simp; omega
  rw [e, List.drop_eq_getElem_cons h]
  simp [Nat.add_assoc]
theorem splice_end (l xs : List UInt8) (m : Nat) (hm : xs.length = m) : splice (l ++ zeros m) l.length xs = l ++ xs := by
  subst hm
  simp [splice, zeros]
theorem splice_step (l : List UInt8) (off u j : Nat) (h : off + j < l.length) :
    (cBs (splice l off (leK u j))).set (off + j) (.int .u8 ((u : Int) / 256 ^ j % 256)) = cBs (splice l off (leK u (j + 1))) := by
  have hb : Value.int .u8 ((u : Int) / 256 ^ j % 256) = cB (UInt8.ofNat (u / 256 ^ j)) := by
    unfold cB
    congr 1
  have hs := splice_set l (leK u j) off (UInt8.ofNat (u / 256 ^ j)) (by rw [leK_length]; exact h)
  rw [leK_length] at hs
  rw [hb, leK_succ, ← hs]
  simp [cBs, List.map_set]

/-- The number that bytes give, the lowest first. -/
def numLE : List UInt8 → Nat
  | [] => 0
  | b :: r => b.toNat + 256 * numLE r
theorem numLE_lt : ∀ l : List UInt8, numLE l < 256 ^ l.length
  | [] => by simp [numLE]
  | b :: r => by
    have h := numLE_lt r
    have hb := b.toNat_lt
    simp only [numLE, List.length_cons, Nat.pow_succ]
    omega
theorem numLE_snoc : ∀ (l : List UInt8) (b : UInt8), numLE (l ++ [b]) = numLE l + b.toNat * 256 ^ l.length
  | [], b => by simp [numLE]
  | a :: r, b => by
    have h := numLE_snoc r b
    simp only [List.cons_append, numLE, h, List.length_cons, Nat.pow_succ, Nat.mul_add]
    rw [show b.toNat * (256 ^ r.length * 256) = 256 * (b.toNat * 256 ^ r.length) by rw [← Nat.mul_assoc, Nat.mul_comm]]
    omega
theorem or_step (n b k : Nat) (hk : k < 8) (hn : n < 256 ^ k) (hb : b < 256) :
    bits .or .u64 (n : Int) (IntKind.u64.wrap (IntKind.u64.wrap (b : Int) * 2 ^ (8 * k))) = ((n + b * 256 ^ k : Nat) : Int) := by
  have e256 : (256 : Nat) ^ k = 2 ^ (8 * k) := by rw [Nat.pow_mul]
  have hpk : (2 : Nat) ^ (8 * k) ≤ 2 ^ 56 := Nat.pow_le_pow_right (by omega) (by omega)
  have hbk : b * 2 ^ (8 * k) ≤ 255 * 2 ^ (8 * k) := Nat.mul_le_mul_right _ (by omega)
  have hlt : b * 2 ^ (8 * k) < 18446744073709551616 := by
    have : (2 : Nat) ^ 56 = 72057594037927936 := by decide
    omega
  have hnl : n < 18446744073709551616 := by
    have : (2 : Nat) ^ 56 = 72057594037927936 := by decide
    omega
  have hw1 : IntKind.u64.wrap (b : Int) = (b : Int) := by
    have h : IntKind.u64.wrap (b : Int) = (b : Int) % 18446744073709551616 := rfl
    omega
  have hc : (b : Int) * 2 ^ (8 * k) = ((b * 2 ^ (8 * k) : Nat) : Int) := by simp
  have hw2 : IntKind.u64.wrap ((b * 2 ^ (8 * k) : Nat) : Int) = ((b * 2 ^ (8 * k) : Nat) : Int) := by
    have h : IntKind.u64.wrap ((b * 2 ^ (8 * k) : Nat) : Int) = ((b * 2 ^ (8 * k) : Nat) : Int) % 18446744073709551616 := rfl
    omega
  rw [hw1, hc, hw2, u64_or_nat _ _ hnl hlt, e256]
  have h := Nat.shiftLeft_add_eq_or_of_lt (b := n) (i := 8 * k) (by rw [← e256]; exact hn) b
  rw [Nat.shiftLeft_eq] at h
  rw [Nat.or_comm, ← h, Nat.add_comm]
/-- Block g holds just these cells, and none of them is frozen. -/
def Box (w : World) (g : Nat) (t : TypeId) (cs : Array Value) : Prop := w.heap[g]? = some (.cells cs t (0, 0))
theorem Box.lt {w : World} {g : Nat} {t : TypeId} {cs : Array Value} (h : Box w g t cs) : g < w.heap.size := (Array.getElem?_eq_some_iff.1 h).1
theorem Box.cell {w : World} {g : Nat} {t : TypeId} {cs : Array Value} (h : Box w g t cs) (i : Nat) : w.cell? ⟨g, i, none⟩ = cs[i]? := cell_of_row w g i cs t (0, 0) h
theorem Box.frozen {w : World} {g : Nat} {t : TypeId} {cs : Array Value} (h : Box w g t cs) (i : Nat) : w.frozen? ⟨g, i, none⟩ = false := by
  have h' : w.heap[g]? = some (.cells cs t (0, 0)) := h
  simp [World.frozen?, h']
theorem Box.fresh (w : World) (t : TypeId) (cs : Array Value) : Box (w.alloc (.cells cs t)) w.heap.size t cs := heap_alloc_new w _
theorem Box.store {w : World} {g : Nat} {t : TypeId} {cs : Array Value} (h : Box w g t cs) (i : Nat) (u : Value) : Box (w.setCell ⟨g, i, none⟩ u) g t (cs.setIfInBounds i u) := by
  have h' : w.heap[g]? = some (.cells cs t (0, 0)) := h
  show (w.setCell ⟨g, i, none⟩ u).heap[g]? = _
  simp [World.setCell, Array.getElem?_modify, h']
theorem Box.under {w w' : World} {g B : Nat} {t : TypeId} {cs : Array Value} (h : Box w g t cs) (hb : Below B w w') (hg : g < B) : Box w' g t cs := (hb.block g hg).trans h

/-- Only block g, and what is new, has turned: a store into g, or into what is new. -/
theorem turned_store {a w : World} {g : Nat} (h : a.grownBy w (some g)) {p : Addr} (hp : p.block = g ∨ a.heap.size ≤ p.block) (u : Value) : a.grownBy (w.setCell p u) (some g) where
  os := h.os
  tape := h.tape
  output := h.output
  size := by simpa [World.setCell] using h.size
  block := fun i hi hne => by
    have hip : i ≠ p.block := by
      rintro rfl
      rcases hp with hp | hp
      · exact hne (congrArg some hp)
      · omega
    rw [Below.heap_setCell w p u i hip]
    exact h.block i hi hne
theorem turned_trans {a b c : World} {row : Option Nat} (h : a.grownBy b row) (k : b.grownBy c row) : a.grownBy c row where
  os := k.os.trans h.os
  tape := k.tape.trans h.tape
  output := k.output.trans h.output
  size := Nat.le_trans h.size k.size
  block := fun i hi hne => (k.block i (Nat.lt_of_lt_of_le hi h.size) hne).trans (h.block i hi hne)
theorem turned_of_below {a w : World} (h : Below a.heap.size a w) (row : Option Nat) : a.grownBy w row where
  os := h.os
  tape := h.tape
  output := h.output
  size := h.size
  block := fun i hi _ => h.block i hi
theorem below_of_turned {B : Nat} {a w : World} {g : Nat} (h : a.grownBy w (some g)) (hB : B ≤ g) (hB2 : B ≤ a.heap.size) : Below B a w :=
  ⟨h.os, h.tape, h.output, h.size, fun k hk => h.block k (by omega) (fun e => by injection e with e; omega)⟩

/-- A cut 'b[n:]' of a slice that reads as l. -/
theorem Rd.cut {w : World} {B : Nat} {A : Option Addr} {l : List UInt8} (h : Rd w B A l) {n cap : Nat} (hn : n ≤ l.length) (hc : l.length ≤ cap) :
    Rd w B (if cap = n then A else A.map (·.add n)) (l.drop n) := fun h0 => by
  rw [List.length_drop] at h0
  obtain ⟨ad, rfl, hb, hcell⟩ := h (by omega)
  rw [if_neg (by omega)]
  refine ⟨ad.add n, rfl, by rw [step_block]; exact hb, fun j u hu => ?_⟩
  rw [step_step]
  refine hcell _ u ?_
  rw [← hu]
  simp [cBs]
theorem Rd.take {w : World} {B : Nat} {A : Option Addr} {l : List UInt8} (h : Rd w B A l) (n : Nat) : Rd w B A (l.take n) := fun h0 => by
  rw [List.length_take] at h0
  obtain ⟨ad, rfl, hb, hcell⟩ := h (by omega)
  refine ⟨ad, rfl, hb, fun j u hu => hcell j u ?_⟩
  simp [cBs, List.getElem?_take] at hu ⊢
  exact hu.2
/-- The slice v is one of the call's own (its row's number is from 'base' on) and holds the bytes l. -/
def Own (w : World) (base : Nat) (e : TypeId) (v : Value) (l : List UInt8) : Prop := w.ownsRow base e 1 v l.length (cBs l)
/-- An address from block n on. -/
def Fresh (n : Nat) (A : Option Addr) : Prop := ∀ ad, A = some ad → n ≤ ad.block
/-- An address outside block p. -/
def Off (p : Nat) (A : Option Addr) : Prop := ∀ ad, A = some ad → ad.block ≠ p
theorem Fresh.none {n : Nat} : Fresh n none := fun _ h => by cases h
theorem Fresh.some {n : Nat} {ad : Addr} (h : n ≤ ad.block) : Fresh n (some ad) := fun a e => by injection e with e; subst e; exact h
theorem Fresh.off {n p : Nat} {A : Option Addr} (h : Fresh n A) (hp : p < n) : Off p A := fun ad e => by have := h ad e; omega
theorem Rd.off {w w' : World} {p B : Nat} {A : Option Addr} {l : List UInt8} (h : Rd w B A l) (ho : Off p A) (hg : w.grownBy w' (some p)) (hB : B ≤ w.heap.size) : Rd w' B A l := fun h0 => by
  obtain ⟨ad, rfl, hb, hc⟩ := h h0
  refine ⟨ad, rfl, hb, fun j u hu => ?_⟩
  have hne := ho ad rfl
  rw [← hc j u hu]
  exact World.cell?_of_block (hg.block _ (by rw [step_block]; omega) (by rw [step_block]; exact fun e => hne (Option.some.inj e)))
theorem Own.rd {w : World} {base : Nat} {e : TypeId} {v : Value} {l : List UInt8} (h : Own w base e v l) : ∃ A c, v = .slice A l.length c ∧ Rd w w.heap.size A l ∧ l.length ≤ c ∧ Fresh base A := by
  rcases h.2 with ⟨rfl, h0⟩ | ⟨g, cap, cur, rfl, hbg, hh, hc, _⟩
  · obtain rfl : l = [] := List.eq_nil_of_length_eq_zero h0
    exact ⟨none, 0, rfl, Rd.nil, Nat.le_refl _, Fresh.none⟩
  · refine ⟨some ⟨g, 0, none⟩, cap, rfl, fun _ => ⟨_, rfl, ?_, World.ownsRow.cells h rfl⟩, hc, Fresh.some hbg⟩
    show g < w.heap.size
    rcases Nat.lt_or_ge g w.heap.size with hlt | hge
    · exact hlt
    · rw [Array.getElem?_eq_none hge] at hh; cases hh

theorem wpList_app {P : Program} (w : World) {ops : Array Oper} {rest : List Oper} {o : Oper} {a : Act} {Q : Exit → Act → World → Prop} (hgd : o.guard = none) (s x : Operand) (t : TypeId)
    (ho : o.op = .call { callee := .builtin .append, args := #[s, x], argTypes := #[t, t] })
    (base : Nat) (e : TypeId) (i : TypeInfo) (ht : P.underlying t = some (.slice e)) (hi : P.info? e = some i) (hz : i.zero = some (.int .u8 0)) (hsize : i.size = 1) (hby : i.bytes = 1)
    (v : Value) (l : List UInt8) (hs : a.eval s = v) (hown : Own w base e v l) (B : Nat) (X : Option Addr) (c : Nat) (y : List UInt8) (hx : a.eval x = .slice X y.length c) (hr : Rd w B X y)
    (hl : l.length + y.length ≤ 100000000) (hbase : base ≤ w.heap.size)
    (h : ∀ v' w', Own w' base e v' (l ++ y) → w.grownBy w' v.ownBlock → (v'.ownBlock = v.ownBlock ∨ v'.ownBlock = some w.heap.size) → wpList P ops Q rest (a.put o.dst v') w') : wpList P ops Q (o :: rest) a w := by
  rcases X with _ | ad
  · have h0 : y = [] := by
      rcases Nat.eq_zero_or_pos y.length with h0 | h0
      · exact List.eq_nil_of_length_eq_zero h0
      · obtain ⟨ad, h, _⟩ := hr h0
        cases h
    subst h0
    have hrun : (Builtin.append_ #[t, t] o.type #[v, .slice none 0 c]).run P w = .ok v w := by
      rcases hown.2 with ⟨rfl, hl0⟩ | ⟨g, cap, cur, rfl, _, _, hnc, _⟩
      · simp [Builtin.append_, run_underlying ht, sizeOf, typeInfo, hi, Builtin.lenOf, Builtin.firstCells]
      · simp [Builtin.append_, run_underlying ht, sizeOf, typeInfo, hi, Builtin.lenOf, Builtin.firstCells, hnc, storeCells]
    refine wpList_plain hgd fun K hK => ?_
    unfold Oper.wp
    simp only [List.length_nil] at hx
    simp [execOp, ho, resolve, invoke, builtin, hs, hx, hrun, Result.andThen]
    exact hK _ _ (h v w (by simpa using hown) (World.grownBy.refl w _) (.inl rfl))
  · refine wpList_append_own_at (P := P) w hgd s x t ho base e i (.int .u8 0) 1 1 ht hi hz hsize hby rfl (by omega) v l.length (cBs l) hs hown ad y.length c (cBs y) hx (by simp [cBs_length]) ?_ (cBs_one y) (by unfold maxLen; omega) (by omega) hbase ?_
    · intro j u hj
      rcases Nat.eq_zero_or_pos y.length with h0 | h0
      · obtain rfl := List.eq_nil_of_length_eq_zero h0
        simp [cBs] at hj
      · obtain ⟨ad', h', _, hc⟩ := hr h0
        injection h' with h'
        subst h'
        exact hc j u hj
    · intro v' w' h1 h2 _ h4
      refine h v' w' ?_ h2 h4
      unfold Own
      rw [List.length_append, cBs_append]
      exact h1
end Go.Proofs.Ytaceaemombnhkaa
