/- What is laid is read: the plain part; arguments as byte slices. -/
import Derived.Test.YtolabagnoieofaaC
import Derived.ChangeOld
import Derived.OpenShut
namespace Go.Proofs.Ytolabagnoieofaa
set_option linter.unusedVariables false
open Go.RowKit
open Go.RowKit (wrap64)

theorem numLE_leK : ∀ (k u : Nat), numLE (leK u k) = u % 256 ^ k
  | 0, u => by simp [leK, numLE, Nat.mod_one]
  | k + 1, u => by
    rw [leK_succ, numLE_snoc, leK_length, numLE_leK k u]
    have h : (UInt8.ofNat (u / 256 ^ k)).toNat = u / 256 ^ k % 256 := by simp
    rw [h, Nat.pow_succ, Nat.mod_mul, Nat.mul_comm]
theorem numLE_le8 (v : Int) : numLE (le8 v) = u64 v := by
  unfold le8
  rw [numLE_leK]
  apply Nat.mod_eq_of_lt
  unfold u64
  have : (256 : Nat) ^ 8 = 18446744073709551616 := by decide
  omega
theorem wrap_back {v : Int} (h : (Lit.int .i64 v).wf = true) : wrap64 (u64 v : Nat) = v := by
  have hb := bounds_i64 h
  unfold u64
  unfold wrap64
  omega
theorem rI_back {v lo hi : Int} (h : (Lit.int .i64 v).wf = true) (h1 : lo ≤ v) (h2 : v ≤ hi) (r : List UInt8) : rI (le8 v ++ r) 0 lo hi = (v, r, 0) := by
  have ht : (le8 v ++ r).take 8 = le8 v := by
    rw [List.take_append_of_le_length (by rw [le8_length]; omega)]
    exact List.take_of_length_le (by rw [le8_length]; omega)
  have hd : (le8 v ++ r).drop 8 = r := by
    have := List.drop_left (l₁ := le8 v) (l₂ := r)
    rwa [le8_length] at this
  unfold rI
  rw [ht, hd, numLE_le8, wrap_back h, if_pos rfl, if_neg (by rw [List.length_append, le8_length]; omega), if_neg (by omega)]
theorem wf_len {n : Nat} (h : n ≤ 1000000) : (Lit.int .i64 (n : Int)).wf = true :=
  WalkArith.wf_i64 (by omega)
theorem rB_back (x r : List UInt8) (h : x.length ≤ 1000000) : rB (le8 x.length ++ (x ++ r)) 0 x.length = (x, r, 0) := by
  unfold rB
  rw [rI_back (wf_len h) (by omega) (Int.le_refl _)]
  simp
theorem rF_back (is : Bool) (r : List UInt8) : rF ((if is then 1 else 0) :: r) 0 = (is, r, 0) := by
  cases is <;> simp [rF]

theorem int_gave (A : Option Addr) (c : Nat) (v : Int) (l : List UInt8) (w : World) (hr : Rd w w.heap.size A l) (hl : l.length ≤ 1000000) : Calls Try.prog 7 #[.slice A l.length c, .int .i64 v] w (Gave w (l ++ le8 v)) := by
  refine (int_any A c v l w hr hl).mono ?_
  rintro e w' ⟨rfl, rfl⟩
  exact ⟨_, _, by rw [List.length_append, le8_length], (Rd.new w _ 5).more (by simp), by rw [List.length_append, le8_length]; omega, (Below.refl _ _).alloc (Nat.le_refl _) _, Fresh.some (Nat.le_refl _)⟩
theorem bytes_gave (A X : Option Addr) (c d : Nat) (l x : List UInt8) (w : World) (hr : Rd w w.heap.size A l) (hx : Rd w w.heap.size X x) (hl : l.length ≤ 100000) (hxl : x.length ≤ 100000) :
    Calls Try.prog 9 #[.slice A l.length c, .slice X x.length d] w (Gave w ((l ++ le8 x.length) ++ x)) := by
  refine (bytes_any A X c d l x w hr hx hl hxl).mono ?_
  rintro e w' ⟨rfl, rfl⟩
  exact ⟨_, _, by rw [List.length_append, List.length_append, le8_length, Nat.add_assoc], (Rd.new w _ 5).more (by simp), by rw [List.length_append, List.length_append, le8_length]; omega, (Below.refl _ _).alloc (Nat.le_refl _) _, Fresh.some (Nat.le_refl _)⟩
theorem flag_gave (A : Option Addr) (c : Nat) (is : Bool) (l : List UInt8) (w : World) (hr : Rd w w.heap.size A l) (hl : l.length ≤ 1000000) : Calls Try.prog 11 #[.slice A l.length c, .bool is] w (Gave w (l ++ [if is then 1 else 0])) := by
  refine (flag_any A c is l w hr hl).mono ?_
  rintro e w' ⟨rfl, rfl⟩
  exact ⟨_, _, by rw [List.length_append]; rfl, (Rd.new w _ 5).more (by simp), by simp, (Below.refl _ _).alloc (Nat.le_refl _) _, Fresh.some (Nat.le_refl _)⟩
theorem Rd.later {w w' : World} {A : Option Addr} {l : List UInt8} (h : Rd w w.heap.size A l) (hb : Below w.heap.size w w') : Rd w' w'.heap.size A l := (h.below hb).more hb.size
theorem below_trans {a b c : World} (h : Below a.heap.size a b) (k : Below b.heap.size b c) : Below a.heap.size a c := h.trans (k.mono h.size)

/-- A slice of bytes that came in, as bytes. -/
theorem rd_of_ints {w : World} {x : Addr} {len cap : Nat} {zs : List Int} (hl : len ≤ cap) (hz : zs.length = cap) (hc : ∀ i, i < zs.length → w.cell? (x.add i) = some (.int .u8 (zs.getD i 0))) (hw : ∀ n ∈ zs, (Lit.int .u8 n).wf = true) :
    ∃ l : List UInt8, l.length = len ∧ Rd w w.heap.size (some x) l := by
  refine ⟨(zs.take len).map fun n => UInt8.ofNat n.toNat, by simp; omega, fun h0 => ⟨x, rfl, ?_, fun j u hu => ?_⟩⟩
  · have h := hc 0 (by simp at h0; omega)
    have hb : (x.add 0).block < w.heap.size := by
      rcases Nat.lt_or_ge (x.add 0).block w.heap.size with h1 | h1
      · exact h1
      · simp [World.cell?, Array.getElem?_eq_none h1] at h
    rwa [step_block] at hb
  · have hj : j < len := by
      have := (List.getElem?_eq_some_iff.1 hu).1
      simp [cBs] at this
      omega
    have hjz : j < zs.length := by omega
    have hb := bounds_u8 (hw zs[j] (List.getElem_mem hjz))
    have hu' : u = .int .u8 zs[j] := by
      simp [cBs, cB, hj, hjz] at hu
      rw [← hu]
      congr 1
      omega
    rw [hc j hjz, hu']
    simp [List.getD, hjz]
end Go.Proofs.Ytolabagnoieofaa
