/- Records as plain data: what Right, Put and Get answer; what is put is got. -/
import Derived.Test.YtmebbggmdfejkaaD
import Derived.Test.YtmebbggmdfejkaaE
import Derived.Test.YtmebbggmdfejkaaOf
namespace Go.Proofs.Ytmebbggmdfejkaa
set_option linter.unusedVariables false
set_option linter.unusedSimpArgs false
open Go.RowKit
open Go.RowKit (wrap64)

/-- From where and to where number i may be. -/
def loF (i : Nat) : Int := if i = 5 then -1 else 0
def hiF (i : Nat) : Int := if i = 0 then 6 else 1099511627776
/-- The first k numbers may be. -/
def numsB (n : Nat → Int) : Nat → Bool
  | 0 => true
  | k + 1 => numsB n k && (decide (loF k ≤ n k) && decide (n k ≤ hiF k))
theorem numsB_iff {n : Nat → Int} : ∀ {k : Nat}, numsB n k = true ↔ ∀ i, i < k → loF i ≤ n i ∧ n i ≤ hiF i
  | 0 => ⟨fun _ i h => by omega, fun _ => rfl⟩
  | k + 1 => by
    show (numsB n k && (decide (loF k ≤ n k) && decide (n k ≤ hiF k))) = true ↔ _
    rw [Bool.and_eq_true, Bool.and_eq_true, decide_eq_true_iff, decide_eq_true_iff, numsB_iff]
    constructor
    · rintro ⟨h, h2⟩ i hi
      rcases Nat.lt_or_ge i k with h3 | h3
      · exact h i h3
      · obtain rfl : i = k := by omega
        exact h2
    · intro h
      exact ⟨fun i hi => h i (by omega), h k (by omega)⟩
theorem numsB_not {n : Nat → Int} {k m : Nat} (hk : k < m) (h : ¬ (loF k ≤ n k ∧ n k ≤ hiF k)) : numsB n m = false := by
  cases he : numsB n m
  · rfl
  · exact absurd (numsB_iff.1 he k hk) h
/-- P10.1. -/
def rightB (n : Nat → Int) (len : Nat) : Bool := numsB n 9 && decide (len ≤ 1048576)
theorem rightB_iff {n : Nat → Int} {len : Nat} : rightB n len = true ↔ (∀ i, i < 9 → loF i ≤ n i ∧ n i ≤ hiF i) ∧ len ≤ 1048576 := by
  unfold rightB
  rw [Bool.and_eq_true, decide_eq_true_iff, numsB_iff]
/-- How many bytes a block may have. -/
def mayB (bl : Int) : Bool := decide (1 ≤ bl) && decide (bl ≤ 4096)
theorem mayB_iff {bl : Int} : mayB bl = true ↔ 1 ≤ bl ∧ bl ≤ 4096 := by
  unfold mayB
  rw [Bool.and_eq_true, decide_eq_true_iff, decide_eq_true_iff]
/-- The first k numbers are the same. -/
def eqN (n m : Nat → Int) : Nat → Bool
  | 0 => true
  | k + 1 => eqN n m k && decide (n k = m k)
theorem eqN_iff {n m : Nat → Int} : ∀ {k : Nat}, eqN n m k = true ↔ ∀ i, i < k → n i = m i
  | 0 => ⟨fun _ i h => by omega, fun _ => rfl⟩
  | k + 1 => by
    show (eqN n m k && decide (n k = m k)) = true ↔ _
    rw [Bool.and_eq_true, decide_eq_true_iff, eqN_iff]
    constructor
    · rintro ⟨h, h2⟩ i hi
      rcases Nat.lt_or_ge i k with h3 | h3
      · exact h i h3
      · obtain rfl : i = k := by omega
        exact h2
    · intro h
      exact ⟨fun i hi => h i (by omega), h k (by omega)⟩
theorem eqN_not {n m : Nat → Int} {k q : Nat} (hk : k < q) (h : ¬ n k = m k) : eqN n m q = false := by
  cases he : eqN n m q
  · rfl
  · exact absurd (eqN_iff.1 he k hk) h
def sameB (n m : Nat → Int) (l r : List UInt8) : Bool := eqN n m 9 && decide (l = r)
theorem sameB_refl {n m : Nat → Int} (l : List UInt8) (h : ∀ i, i < 9 → n i = m i) : sameB n m l l = true := by
  unfold sameB
  rw [eqN_iff.2 h]
  simp
/-- The first k numbers' bytes. -/
def numsL (n : Nat → Int) : Nat → List UInt8
  | 0 => []
  | k + 1 => numsL n k ++ le8 (n k)
theorem numsL_length (n : Nat → Int) : ∀ k, (numsL n k).length = 8 * k
  | 0 => rfl
  | k + 1 => by
    show (numsL n k ++ le8 (n k)).length = _
    rw [List.length_append, le8_length, numsL_length n k]
    omega
/-- P10.2: the payload. -/
def payL (n : Nat → Int) (l : List UInt8) : List UInt8 := (numsL n 9 ++ le8 l.length) ++ l
theorem payL_length (n : Nat → Int) (l : List UInt8) : (payL n l).length = 80 + l.length := by
  unfold payL
  rw [List.length_append, List.length_append, le8_length, numsL_length]
/-- What stands ahead of a payload. -/
def headL (p : List UInt8) : List UInt8 := le8 p.length ++ le8 (crcN p : Nat)
theorem headL_length (p : List UInt8) : (headL p).length = 16 := by
  unfold headL
  rw [List.length_append, le8_length, le8_length]
/-- P10.2: the record's bytes. -/
def putL (n : Nat → Int) (l : List UInt8) (bl : Int) : List UInt8 :=
  if (rightB n l.length && mayB bl) = true then (headL (payL n l) ++ payL n l) ++ zeros (padN (96 + l.length) bl.toNat) else []
/-- How many blocks a payload of so many bytes has. -/
def spanN (size bl : Nat) : Nat := (16 + size + bl - 1) / bl
theorem pad_span (k u : Nat) (hu : 1 ≤ u) : k + padN k u = (k + u - 1) / u * u := by
  have h1 := Nat.div_add_mod k u
  have h2 := Nat.mod_lt k (show u > 0 by omega)
  rw [Nat.mul_comm] at h1
  by_cases h0 : k % u = 0
  · rw [padN_zero h0]
    have e : (k + u - 1) / u = k / u := by
      apply Nat.div_eq_of_lt_le
      · omega
      · rw [Nat.add_mul]; omega
    rw [e]
    omega
  · rw [padN_pos hu h0]
    have e : (k + u - 1) / u = k / u + 1 := by
      apply Nat.div_eq_of_lt_le
      · rw [Nat.add_mul]; omega
      · rw [Nat.add_mul, Nat.add_mul]; omega
    rw [e, Nat.add_mul]
    omega
theorem putL_length {n : Nat → Int} {l : List UInt8} {bl : Int} (h1 : rightB n l.length = true) (h2 : mayB bl = true) : (putL n l bl).length = spanN (80 + l.length) bl.toNat * bl.toNat := by
  have hb := mayB_iff.1 h2
  unfold putL
  rw [h1, h2, if_pos (show (true && true) = true from rfl), List.length_append, List.length_append, headL_length, payL_length, zeros_length, show 16 + (80 + l.length) = 96 + l.length by omega, pad_span _ _ (by omega)]
  unfold spanN
  congr 2
  omega
theorem span_ge (size bl : Nat) (h : 1 ≤ bl) : 16 + size ≤ spanN size bl * bl := by
  unfold spanN
  have := pad_span (16 + size) bl h
  omega
/-- The number that bytes begin with. -/
def num8 (l : List UInt8) : Int := wrap64 (numLE (l.take 8) : Nat)
theorem rI_of {l : List UInt8} (lo hi : Int) (h : 8 ≤ l.length) : rI l 0 lo hi = if num8 l < lo ∨ hi < num8 l then (0, l.drop 8, 13) else (num8 l, l.drop 8, 0) := by
  unfold rI num8
  rw [if_pos rfl, if_neg (by omega)]
theorem num8_back {v : Int} (h : (Lit.int .i64 v).wf = true) (r : List UInt8) : num8 (le8 v ++ r) = v := by
  unfold num8
  rw [List.take_append_of_le_length (by rw [le8_length]; omega), List.take_of_length_le (by rw [le8_length]; omega), numLE_le8, wrap_back h]
theorem num8_take {l : List UInt8} {k : Nat} (h : 8 ≤ k) : num8 (l.take k) = num8 l := by
  unfold num8
  rw [List.take_take, Nat.min_eq_left h]
/-- What is left, and the error, when k numbers of a payload were read. -/
def rS (l : List UInt8) : Nat → List UInt8 × Int
  | 0 => (l, 0)
  | k + 1 => ((rI (rS l k).1 (rS l k).2 (loF k) (hiF k)).2.1, (rI (rS l k).1 (rS l k).2 (loF k) (hiF k)).2.2)
/-- The number that is read behind k others. -/
def rV (l : List UInt8) (k : Nat) : Int := (rI (rS l k).1 (rS l k).2 (loF k) (hiF k)).1
theorem rS_left (l : List UInt8) : ∀ k, (rS l k).1.length ≤ l.length
  | 0 => Nat.le_refl _
  | k + 1 => Nat.le_trans (rI_left _ _ _ _) (rS_left l k)
/-- The body, what is left, and the error. -/
def rY (l : List UInt8) : List UInt8 × List UInt8 × Int := rB (rS l 9).1 (rS l 9).2 1048576
/-- It is the payload of a record. -/
def readB (l : List UInt8) : Bool := decide ((rY l).2.2 = 0) && decide ((rY l).2.1.length = 0)
/-- P10.3: the payload that bytes begin with, what fills its last block, the error. -/
def payO (b : List UInt8) : List UInt8 := (b.drop 16).take (num8 b).toNat
def fillO (b : List UInt8) (bl : Int) : List UInt8 := (b.drop (16 + (num8 b).toNat)).take (spanN (num8 b).toNat bl.toNat * bl.toNat - (16 + (num8 b).toNat))
def partE (b : List UInt8) (bl : Int) : Int :=
  if mayB bl = true then
    if b.length < 16 then 14 else if num8 b < 0 ∨ 1048656 < num8 b then 13
    else if b.length < spanN (num8 b).toNat bl.toNat * bl.toNat then 14
    else if num8 (b.drop 8) = (crcN (payO b) : Nat) then 0 else 15
  else 1
def getE (b : List UInt8) (bl : Int) : Int :=
  if partE b bl = 0 then (if (readB (payO b) && zeroL (fillO b bl)) = true then 0 else 13) else partE b bl
def getN (b : List UInt8) (bl : Int) : Nat → Int := if getE b bl = 0 then rV (payO b) else fun _ => 0
def getD (b : List UInt8) (bl : Int) : List UInt8 := if getE b bl = 0 then (rY (payO b)).1 else []
def getK (b : List UInt8) (bl : Int) : Nat := if getE b bl = 0 then spanN (num8 b).toNat bl.toNat else 0
theorem wf40 {v : Int} (h1 : -1 ≤ v) (h2 : v ≤ 1099511627776) : (Lit.int .i64 v).wf = true := WalkArith.wf_i64 (by omega)
theorem loF_ge (i : Nat) : -1 ≤ loF i := by unfold loF; split <;> omega
theorem hiF_le (i : Nat) : hiF i ≤ 1099511627776 := by unfold hiF; split <;> omega
/-- The numbers of a payload that was laid, read. -/
def tailL (n : Nat → Int) (r : List UInt8) : Nat → List UInt8
  | 0 => r
  | j + 1 => le8 (n (8 - j)) ++ tailL n r j
theorem rS_back {n : Nat → Int} (h : ∀ i, i < 9 → loF i ≤ n i ∧ n i ≤ hiF i) (r : List UInt8) : ∀ k, k ≤ 9 → rS (tailL n r 9) k = (tailL n r (9 - k), 0) ∧ (∀ i, i < k → rV (tailL n r 9) i = n i)
  | 0, _ => ⟨rfl, fun i h => by omega⟩
  | k + 1, hk => by
    obtain ⟨h1, h2⟩ := rS_back h r k (by omega)
    have hn := h k (by omega)
    have hl := loF_ge k
    have hh := hiF_le k
    have e : tailL n r (9 - k) = le8 (n k) ++ tailL n r (9 - (k + 1)) := by
      have : 9 - k = (9 - (k + 1)) + 1 := by omega
      rw [this]
      show le8 (n (8 - (9 - (k + 1)))) ++ _ = _
      congr 3
      omega
    have hR := rI_back (wf40 (v := n k) (by omega) (by omega)) hn.1 hn.2 (tailL n r (9 - (k + 1)))
    refine ⟨?_, fun i hi => ?_⟩
    · show ((rI (rS (tailL n r 9) k).1 (rS (tailL n r 9) k).2 (loF k) (hiF k)).2.1, (rI (rS (tailL n r 9) k).1 (rS (tailL n r 9) k).2 (loF k) (hiF k)).2.2) = _
      rw [h1]
      simp only
      rw [e, hR]
    · rcases Nat.lt_or_ge i k with h3 | h3
      · exact h2 i h3
      · obtain rfl : i = k := by omega
        show (rI (rS (tailL n r 9) i).1 (rS (tailL n r 9) i).2 (loF i) (hiF i)).1 = _
        rw [h1]
        simp only
        rw [e, hR]
theorem numsL_tail (n : Nat → Int) (r : List UInt8) : numsL n 9 ++ r = tailL n r 9 := by
  simp [numsL, tailL]
theorem read_back {n : Nat → Int} {l : List UInt8} (h : rightB n l.length = true) : readB (payL n l) = true ∧ (rY (payL n l)).1 = l ∧ (∀ i, i < 9 → rV (payL n l) i = n i) := by
  obtain ⟨h1, h2⟩ := rightB_iff.1 h
  have e : payL n l = tailL n (le8 l.length ++ l) 9 := by
    unfold payL
    rw [List.append_assoc, numsL_tail]
  obtain ⟨h3, h4⟩ := rS_back h1 (le8 l.length ++ l) 9 (Nat.le_refl _)
  have hI : rI (le8 (l.length : Int) ++ l) 0 0 1048576 = ((l.length : Int), l, 0) := rI_back (wf_len (by omega)) (by omega) (by omega) l
  have hY : rY (payL n l) = (l, [], 0) := by
    unfold rY
    rw [e, h3]
    show rB (le8 l.length ++ l) 0 1048576 = _
    unfold rB
    rw [hI]
    simp
  refine ⟨?_, ?_, ?_⟩
  · unfold readB
    rw [hY]
    rfl
  · rw [hY]
  · rw [e]
    exact h4
theorem zeroL_zeros (k : Nat) : zeroL (zeros k) = true := by
  unfold zeroL zeros
  rw [List.all_eq_true]
  intro x hx
  simp [List.eq_of_mem_replicate hx]
theorem crc_wf (p : List UInt8) : (Lit.int .i64 (crcN p : Nat)).wf = true := by
  have : crcN p ≤ 4294967295 := by unfold crcN; omega
  exact WalkArith.wf_i64 (by omega)
/-- What a record's bytes begin with. -/
theorem put_head {n : Nat → Int} {l : List UInt8} {bl : Int} (h1 : rightB n l.length = true) (h2 : mayB bl = true) (r : List UInt8) : num8 (putL n l bl ++ r) = ((80 + l.length : Nat) : Int) ∧ num8 ((putL n l bl ++ r).drop 8) = (crcN (payL n l) : Nat) ∧ (putL n l bl ++ r).drop 16 = payL n l ++ (zeros (padN (96 + l.length) bl.toNat) ++ r) := by
  obtain ⟨_, h3⟩ := rightB_iff.1 h1
  have e : putL n l bl ++ r = le8 ((payL n l).length : Nat) ++ (le8 (crcN (payL n l) : Nat) ++ (payL n l ++ (zeros (padN (96 + l.length) bl.toNat) ++ r))) := by
    unfold putL headL
    rw [h1, h2, if_pos (show (true && true) = true from rfl)]
    simp
  have e8 : (putL n l bl ++ r).drop 8 = le8 (crcN (payL n l) : Nat) ++ (payL n l ++ (zeros (padN (96 + l.length) bl.toNat) ++ r)) := by
    rw [e]
    have := List.drop_left (l₁ := le8 ((payL n l).length : Nat)) (l₂ := le8 (crcN (payL n l) : Nat) ++ (payL n l ++ (zeros (padN (96 + l.length) bl.toNat) ++ r)))
    rwa [le8_length] at this
  refine ⟨?_, ?_, ?_⟩
  · rw [e, num8_back (by rw [payL_length]; exact wf_len (by omega)), payL_length]
  · rw [e8, num8_back (crc_wf _)]
  · have e16 : (putL n l bl ++ r).drop 16 = ((putL n l bl ++ r).drop 8).drop 8 := by rw [List.drop_drop]
    rw [e16, e8]
    have := List.drop_left (l₁ := le8 (crcN (payL n l) : Nat)) (l₂ := payL n l ++ (zeros (padN (96 + l.length) bl.toNat) ++ r))
    rwa [le8_length] at this
/-- P10.4: what is put is got, whatever stands behind it. -/
theorem put_got {n : Nat → Int} {l : List UInt8} {bl : Int} (h1 : rightB n l.length = true) (h2 : mayB bl = true) (r : List UInt8) : getE (putL n l bl ++ r) bl = 0 ∧ (∀ i, i < 9 → getN (putL n l bl ++ r) bl i = n i) ∧ getD (putL n l bl ++ r) bl = l ∧ getK (putL n l bl ++ r) bl = spanN (80 + l.length) bl.toNat := by
  obtain ⟨p1, p2, p3⟩ := put_head h1 h2 r
  obtain ⟨_, h3⟩ := rightB_iff.1 h1
  have hb := mayB_iff.1 h2
  have hL := putL_length h1 h2
  have hg := span_ge (80 + l.length) bl.toNat (by omega)
  have hT : (num8 (putL n l bl ++ r)).toNat = 80 + l.length := by rw [p1]; rfl
  have hP : payO (putL n l bl ++ r) = payL n l := by
    unfold payO
    rw [hT, p3, ← payL_length n l, List.take_left]
  have hF : fillO (putL n l bl ++ r) bl = zeros (padN (96 + l.length) bl.toNat) := by
    unfold fillO
    rw [hT, ← List.drop_drop, p3, ← payL_length n l, List.drop_left, payL_length]
    have e : spanN (80 + l.length) bl.toNat * bl.toNat - (16 + (80 + l.length)) = (zeros (padN (96 + l.length) bl.toNat)).length := by
      rw [zeros_length]
      have h := pad_span (96 + l.length) bl.toNat (by omega)
      have e2 : spanN (80 + l.length) bl.toNat = (96 + l.length + bl.toNat - 1) / bl.toNat := by
        unfold spanN
        congr 1
        omega
      rw [e2, ← h]
      omega
    rw [e, List.take_left]
  have hE : partE (putL n l bl ++ r) bl = 0 := by
    unfold partE
    rw [if_pos h2, if_neg (by rw [List.length_append]; omega), if_neg (by rw [p1]; omega), hT, if_neg (by rw [List.length_append]; omega), if_pos (by rw [p2, hP])]
  obtain ⟨r1, r2, r3⟩ := read_back h1
  have hG : getE (putL n l bl ++ r) bl = 0 := by
    unfold getE
    rw [if_pos hE, hP, hF, r1, zeroL_zeros]
    rfl
  refine ⟨hG, fun i hi => ?_, ?_, ?_⟩
  · unfold getN
    rw [if_pos hG, hP]
    exact r3 i hi
  · unfold getD
    rw [if_pos hG, hP, r2]
  · unfold getK
    rw [if_pos hG, hT]
/-- P10.4: of which blocks are wanting it is too short. -/
theorem put_short {n : Nat → Int} {l : List UInt8} {bl : Int} (h1 : rightB n l.length = true) (h2 : mayB bl = true) (k : Nat) (hk : k < (putL n l bl).length) : getE ((putL n l bl).take k) bl = 14 := by
  obtain ⟨p1, p2, p3⟩ := put_head h1 h2 []
  rw [List.append_nil] at p1
  have hL := putL_length h1 h2
  obtain ⟨_, h3⟩ := rightB_iff.1 h1
  have hE : partE ((putL n l bl).take k) bl = 14 := by
    unfold partE
    rw [if_pos h2]
    by_cases hs : ((putL n l bl).take k).length < 16
    · rw [if_pos hs]
    · rw [if_neg hs]
      rw [List.length_take] at hs
      rw [num8_take (by omega), p1, if_neg (by omega), if_pos]
      rw [List.length_take, ← show (80 + l.length) = (((80 + l.length : Nat)) : Int).toNat from rfl, ← hL]
      omega
  unfold getE
  rw [hE]
  rfl
/-- Behind so many records, how many blocks. -/
def blk (b : List UInt8) (bl : Int) : Nat → Nat
  | 0 => 0
  | j + 1 => blk b bl j + getK (b.drop (blk b bl j * bl.toNat)) bl
/-- There are j records, one behind the other. -/
def good (b : List UInt8) (bl : Int) (j : Nat) : Prop := ∀ i, i < j → getE (b.drop (blk b bl i * bl.toNat)) bl = 0
theorem getE_ok {b : List UInt8} {bl : Int} (h : getE b bl = 0) : mayB bl = true ∧ 16 ≤ getK b bl * bl.toNat ∧ getK b bl * bl.toNat ≤ b.length := by
  unfold getK
  rw [if_pos h]
  have hp : partE b bl = 0 := by
    unfold getE at h
    split at h
    · assumption
    · exact h
  unfold partE at hp
  split at hp
  · rename_i hm
    have hb := mayB_iff.1 hm
    refine ⟨hm, ?_, ?_⟩
    · have := span_ge (num8 b).toNat bl.toNat (by omega)
      omega
    · split at hp
      · exact absurd hp (by omega)
      · split at hp
        · exact absurd hp (by omega)
        · split at hp
          · exact absurd hp (by omega)
          · omega
  · exact absurd hp (by omega)
theorem good_len {b : List UInt8} {bl : Int} : ∀ {j : Nat}, good b bl j → 16 * j ≤ blk b bl j * bl.toNat ∧ blk b bl j * bl.toNat ≤ b.length
  | 0, _ => by simp [blk]
  | j + 1, h => by
    obtain ⟨h1, h2⟩ := good_len (fun i hi => h i (by omega) : good b bl j)
    obtain ⟨_, h4, h5⟩ := getE_ok (h j (by omega))
    rw [List.length_drop] at h5
    show 16 * (j + 1) ≤ (blk b bl j + getK (b.drop (blk b bl j * bl.toNat)) bl) * bl.toNat ∧ (blk b bl j + getK (b.drop (blk b bl j * bl.toNat)) bl) * bl.toNat ≤ b.length
    rw [Nat.add_mul]
    omega
theorem good_stop {b : List UInt8} {bl : Int} {j k : Nat} (hj : good b bl j) (hk : good b bl k) (ej : ¬ getE (b.drop (blk b bl j * bl.toNat)) bl = 0) (ek : ¬ getE (b.drop (blk b bl k * bl.toNat)) bl = 0) : j = k := by
  rcases Nat.lt_trichotomy j k with h | h | h
  · exact absurd (hk j h) ej
  · exact h
  · exact absurd (hj k h) ek
/-- A record ahead. -/
theorem blk_put {n : Nat → Int} {l : List UInt8} {bl : Int} (h1 : rightB n l.length = true) (h2 : mayB bl = true) (r : List UInt8) : ∀ j, blk (putL n l bl ++ r) bl (j + 1) * bl.toNat = (putL n l bl).length + blk r bl j * bl.toNat
  | 0 => by
    show (0 + getK ((putL n l bl ++ r).drop (0 * bl.toNat)) bl) * bl.toNat = _
    rw [Nat.zero_mul, List.drop_zero, (put_got h1 h2 r).2.2.2, putL_length h1 h2]
    simp [blk]
  | j + 1 => by
    have ih := blk_put h1 h2 r j
    show (blk (putL n l bl ++ r) bl (j + 1) + getK ((putL n l bl ++ r).drop (blk (putL n l bl ++ r) bl (j + 1) * bl.toNat)) bl) * bl.toNat = (putL n l bl).length + (blk r bl j + getK (r.drop (blk r bl j * bl.toNat)) bl) * bl.toNat
    rw [ih]
    have e : (putL n l bl ++ r).drop ((putL n l bl).length + blk r bl j * bl.toNat) = r.drop (blk r bl j * bl.toNat) := by
      rw [← List.drop_drop, List.drop_left]
    rw [e, Nat.add_mul, ih, Nat.add_mul]
    omega
theorem good_put {n : Nat → Int} {l : List UInt8} {bl : Int} (h1 : rightB n l.length = true) (h2 : mayB bl = true) {r : List UInt8} {j : Nat} (h : good (putL n l bl ++ r) bl (j + 1)) : good r bl j := fun i hi => by
  have h3 := h (i + 1) (by omega)
  rw [blk_put h1 h2 r i, ← List.drop_drop, List.drop_left] at h3
  exact h3
/-- All records, one behind the other. -/
def putsL (bl : Int) : List ((Nat → Int) × List UInt8) → List UInt8
  | [] => []
  | x :: xs => putL x.1 x.2 bl ++ putsL bl xs
theorem good_puts {bl : Int} {r : List UInt8} (hr : r.length ≤ 300) : ∀ (xs : List ((Nat → Int) × List UInt8)) {j : Nat}, good (putsL bl xs ++ r) bl j → j ≤ xs.length + 18
  | [], j, h => by
    have := good_len h
    simp [putsL] at this
    simp
    omega
  | x :: xs, j, h => by
    have e : putsL bl (x :: xs) ++ r = putL x.1 x.2 bl ++ (putsL bl xs ++ r) := by
      show (putL x.1 x.2 bl ++ putsL bl xs) ++ r = _
      rw [List.append_assoc]
    rw [e] at h
    by_cases hx : (rightB x.1 x.2.length && mayB bl) = true
    · rw [Bool.and_eq_true] at hx
      cases j with
      | zero => omega
      | succ j =>
        have := good_puts hr xs (good_put hx.1 hx.2 h)
        simp
        omega
    · have e2 : putL x.1 x.2 bl = [] := by
        unfold putL
        rw [if_neg hx]
      rw [e2, List.nil_append] at h
      have := good_puts hr xs h
      simp
      omega
end Go.Proofs.Ytmebbggmdfejkaa
