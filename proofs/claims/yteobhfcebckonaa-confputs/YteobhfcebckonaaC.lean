/- Contracts of the Reader's Left, Err and of New; what is laid is read. -/
import Derived.Test.YteobhfcebckonaaB
namespace Go.Proofs.Yteobhfcebckonaa
set_option linter.unusedVariables false
open Go.RowKit
open Go.RowKit (wrap64)

/-- The bytes that a call hands back lie in new memory. -/
def Gave (w : World) (l : List UInt8) (e : Ending) (w' : World) : Prop := ∃ A c, e = .returned (.slice A l.length c) ∧ Rd w' w'.heap.size A l ∧ l.length ≤ c ∧ Below w.heap.size w w' ∧ Fresh w.heap.size A
theorem Rdr.below {w w' : World} {p B : Nat} {l : List UInt8} {er : Int} (h : Rdr w p l er) (hb : Below B w w') (hp : p < B) : Rdr w' p l er := by
  obtain ⟨A, c, hbk, hr, hk, hc⟩ := h
  exact ⟨A, c, hbk.under hb hp, hr.below (hb.mono (by omega)), hk, hc⟩
theorem left_any (l : List UInt8) (er : Int) (p : Nat) (w : World) (h : Rdr w p l er) : Calls Try.prog 33 #[.pointer (some ⟨p, 0, none⟩)] w fun e w' => e = .returned (.int .i64 l.length) ∧ w = w' := by
  obtain ⟨A, c, hb, hr, hk, hc⟩ := h
  have h0 : w.cell? ⟨p, 0, none⟩ = some (.slice A l.length c) := hb.cell 0
  clear hb hr
  go_enter Try.func33, Try.ntmps33
  go_wp2
  go_ret
  exact ⟨rfl, rfl⟩
theorem err_any (l : List UInt8) (er : Int) (p : Nat) (w : World) (h : Rdr w p l er) : Calls Try.prog 32 #[.pointer (some ⟨p, 0, none⟩)] w fun e w' => e = .returned (.int .i64 er) ∧ w = w' := by
  obtain ⟨A, c, hb, hr, hk, hc⟩ := h
  have h0 : w.cell? ⟨p, 1, none⟩ = some (.int .i64 er) := hb.cell 1
  clear hb hr
  go_enter Try.func32, Try.ntmps32
  go_wp2
  go_ret
  exact ⟨rfl, rfl⟩
theorem code_any (er : Int) (w : World) : Calls Try.prog 14 #[.int .i64 er] w fun e w' => e = .returned (.int .i64 er) ∧ w = w' := by
  go_enter Try.func14, Try.ntmps14
  go_wp2
  go_ret
  exact ⟨rfl, rfl⟩
/-- A new reader. -/
def Made (w : World) (l : List UInt8) (e : Ending) (w' : World) : Prop := e = .returned (.pointer (some ⟨w.heap.size + 1, 0, none⟩)) ∧ Rdr w' (w.heap.size + 1) l 0 ∧ w'.heap.size = w.heap.size + 2 ∧ Below w.heap.size w w'
set_option maxHeartbeats 400000 in
theorem new_any (A : Option Addr) (c : Nat) (l : List UInt8) (w : World) (hr : Rd w w.heap.size A l) (hl : l.length ≤ 1000000) :
    Calls Try.prog 30 #[.slice A l.length c] w (Made w l) := by
  go_enter Try.func30, Try.ntmps30
  go_wp2_with fail
  refine (grown_any A c 0 l w hr hl (by omega)).mono ?_
  rintro e w' ⟨rfl, rfl⟩
  go_wp2
  go_ret
  have e0 : l ++ zeros 0 = l := by simp [zeros]
  rw [e0]
  refine ⟨rfl, ⟨some ⟨w.heap.size, 0, none⟩, l.length, ?_, (Rd.new w l 5).alloc (by simp) _, Nat.le_refl _, hl⟩, by simp, ((Below.refl _ _).alloc (Nat.le_refl _) _).alloc (by simp) _⟩
  have h := Box.fresh (w.alloc (.cells (cBs l).toArray 5)) 61 #[.slice (some ⟨w.heap.size, 0, none⟩) l.length l.length, .int .i64 0]
  simpa using h
theorem numLE_leK : ∀ (k u : Nat), numLE (leK u k) = u % 256 ^ k
  | 0, u => by simp [leK, numLE, Nat.mod_one]
  | k + 1, u => by
    rw [leK_succ, numLE_snoc, leK_length, numLE_leK k u]
    have h : (UInt8.ofNat (u / 256 ^ k)).toNat = u / 256 ^ k % 256 := by simp
    rw [h, Nat.pow_succ, Nat.mod_mul, Nat.mul_comm]
theorem numLE_le8 (v : Int) : numLE (le8 v) = u64 v := by
  unfold le8
  rw [numLE_leK]
  apply Nat.mod_eq_of_lt
  unfold u64
  have : (256 : Nat) ^ 8 = 18446744073709551616 := by decide
  omega
theorem wrap_back {v : Int} (h : (Lit.int .i64 v).wf = true) : wrap64 (u64 v : Nat) = v := by
  have hb := bounds_i64 h
  unfold u64
  unfold wrap64
  omega
theorem rI_back {v lo hi : Int} (h : (Lit.int .i64 v).wf = true) (h1 : lo ≤ v) (h2 : v ≤ hi) (r : List UInt8) : rI (le8 v ++ r) 0 lo hi = (v, r, 0) := by
  have ht : (le8 v ++ r).take 8 = le8 v := by
    rw [List.take_append_of_le_length (by rw [le8_length]; omega)]
    exact List.take_of_length_le (by rw [le8_length]; omega)
  have hd : (le8 v ++ r).drop 8 = r := by
    have := List.drop_left (l₁ := le8 v) (l₂ := r)
    rwa [le8_length] at this
  unfold rI
  rw [ht, hd, numLE_le8, wrap_back h, if_pos rfl, if_neg (by rw [List.length_append, le8_length]; omega), if_neg (by omega)]
theorem wf_len {n : Nat} (h : n ≤ 1000000) : (Lit.int .i64 (n : Int)).wf = true :=
  WalkArith.wf_i64 (by omega)
theorem int_gave (A : Option Addr) (c : Nat) (v : Int) (l : List UInt8) (w : World) (hr : Rd w w.heap.size A l) (hl : l.length ≤ 1000000) : Calls Try.prog 29 #[.slice A l.length c, .int .i64 v] w (Gave w (l ++ le8 v)) := by
  refine (int_any A c v l w hr hl).mono ?_
  rintro e w' ⟨rfl, rfl⟩
  exact ⟨_, _, by rw [List.length_append, le8_length], (Rd.new w _ 5).more (by simp), by rw [List.length_append, le8_length]; omega, (Below.refl _ _).alloc (Nat.le_refl _) _, Fresh.some (Nat.le_refl _)⟩
theorem below_trans {a b c : World} (h : Below a.heap.size a b) (k : Below b.heap.size b c) : Below a.heap.size a c := h.trans (k.mono h.size)
end Go.Proofs.Yteobhfcebckonaa
