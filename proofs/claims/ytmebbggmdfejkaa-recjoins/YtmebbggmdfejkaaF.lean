/- Contracts of the reference's number, ReadInt. -/
import Derived.Test.YtmebbggmdfejkaaE
namespace Go.Proofs.Ytmebbggmdfejkaa
set_option linter.unusedVariables false
set_option linter.unusedSimpArgs false
open Go.RowKit
open Go.RowKit (wrap64)

theorem numLE_cons (b : UInt8) (r : List UInt8) : numLE (b :: r) = b.toNat + 256 * numLE r := rfl
theorem numLE_drop (l : List UInt8) (k : Nat) (h : k < l.length) : numLE (l.drop k) = l[k].toNat + 256 * numLE (l.drop (k + 1)) := by
  rw [List.drop_eq_getElem_cons h, numLE_cons]
theorem numLE_bound (l : List UInt8) (k : Nat) (h8 : l.length = 8) : numLE (l.drop k) < 18446744073709551616 := by
  have h := numLE_lt (l.drop k)
  rw [List.length_drop, h8] at h
  have : (256 : Nat) ^ (8 - k) ≤ 256 ^ 8 := Nat.pow_le_pow_right (by omega) (by omega)
  have e : (256 : Nat) ^ 8 = 18446744073709551616 := by decide
  omega
theorem wrap_acc (d y : Nat) (h : y + 256 * d < 18446744073709551616) : IntKind.u64.wrap (IntKind.u64.wrap (256 * (d : Int)) + IntKind.u64.wrap (y : Int)) = ((y + 256 * d : Nat) : Int) := by
  have e : ∀ n : Int, IntKind.u64.wrap n = n % 18446744073709551616 := fun _ => rfl
  rw [e, e, e]
  omega
set_option maxHeartbeats 400000 in
theorem refNumber_any (A : Option Addr) (c B : Nat) (l : List UInt8) (w : World) (hr : Rd w B A l) (h8 : l.length = 8) :
    Calls Try.prog 49 #[.slice A 8 c] w fun e w' => e = .returned (.int .i64 (wrap64 (numLE l : Nat))) ∧ w = w' := by
  obtain ⟨b, off, rfl, hb, hc⟩ := hr.at_ (by omega)
  have HC := Lib.hid hc
  have H8 := Lib.hid h8
  have hl8 : 8 ≤ l.length := by omega
  clear hc h8
  go_enter Try.func49, Try.ntmps49
  go_wp2
  go_loop [3, 4] (fun n i => ∃ k : Nat, k ≤ 8 ∧ i = .int .i64 ((k : Int) - 1) ∧ n = .int .u64 (numLE (l.drop k) : Nat)) (fun _ i => (intOf i + 1).toNat)
  case atStart => exact ⟨8, by omega, rfl, by rw [List.drop_eq_nil_of_le (by rw [H8.out]; omega)]; rfl⟩
  case round =>
    obtain ⟨k, hk, rfl, rfl⟩ := hrel
    rcases k with _ | k
    · have e0 : ((0 : Nat) : Int) - 1 = -1 := by omega
      rw [e0]
      simp only [List.drop_zero]
      go_wp2
      go_ret
      exact ⟨rfl, rfl⟩
    · have e0 : ((k + 1 : Nat) : Int) - 1 = (k : Int) := by omega
      rw [e0]
      have hck := HC.out k (by omega)
      have hst := numLE_drop l k (by omega)
      have hbd := numLE_bound l k H8.out
      have hby := l[k].toNat_lt
      have HS : Hid (numLE (l.drop k) = l[k].toNat + 256 * numLE (l.drop (k + 1)) ∧ numLE (l.drop k) < 18446744073709551616 ∧ l[k].toNat < 256) := ⟨hst, hbd, hby⟩
      generalize numLE (l.drop (k + 1)) = d at HS ⊢
      generalize l[k].toNat = y at hck HS ⊢
      clear hst hbd hby
      have hk0 : 0 ≤ (k : Int) := by omega
      have hk8 : (k : Int) < 8 := by omega
      go_wp2
      go_round
      case rel => exact ⟨k, by omega, rfl, by rw [HS.out.1, wrap_acc d y (by rw [← HS.out.1]; exact HS.out.2.1)]⟩
      case measure => simp [intOf]
/-- The reference's reader as a value. -/
def qv (A : Option Addr) (n c : Nat) (at_ : Nat) (er : Int) : Value := .agg #[.slice A n c, .int .i64 (at_ : Int), .int .i64 er]
/-- What ReadInt hands back. -/
def GotI (A : Option Addr) (b : List UInt8) (c : Nat) (q : Int × List UInt8 × Int) (w : World) (e : Ending) (w' : World) : Prop :=
  ∃ at' : Nat, e = .returned (.tuple #[.agg #[.slice A b.length c, .int .i64 (at' : Int), .int .i64 q.2.2], .int .i64 q.1]) ∧ at' ≤ b.length ∧ b.drop at' = q.2.1 ∧ Below w.heap.size w w'
set_option maxHeartbeats 400000 in
theorem refReadInt_err (A : Option Addr) (b : List UInt8) (c at_ : Nat) (er lo hi : Int) (w : World) (hl : at_ ≤ b.length) (he : (er == 0) = false) :
    Calls Try.prog 36 #[.agg #[.slice A b.length c, .int .i64 (at_ : Int), .int .i64 er], .int .i64 lo, .int .i64 hi] w (GotI A b c (0, b.drop at_, er) w) := by
  have he2 : (er != 0) = true := by simpa using he
  go_enter Try.func36, Try.ntmps36
  go_wp2
  exact bodyPost_ret (v := .tuple #[.agg #[.slice A b.length c, .int .i64 (at_ : Int), .int .i64 er], .int .i64 0]) (by simp [results, Try.results36, go_sem]) rfl ⟨at_, rfl, hl, rfl, ((Below.refl _ _).alloc (Nat.le_refl _) _).alloc (by simp) _⟩
set_option maxHeartbeats 400000 in
theorem refReadInt_short (A : Option Addr) (b : List UInt8) (c at_ : Nat) (lo hi : Int) (w : World) (hl : at_ ≤ b.length) (hb : b.length ≤ 10000000) (h8 : b.length - at_ < 8) :
    Calls Try.prog 36 #[.agg #[.slice A b.length c, .int .i64 (at_ : Int), .int .i64 0], .int .i64 lo, .int .i64 hi] w (GotI A b c (0, b.drop at_, 14) w) := by
  have h1 : (b.length : Int) - (at_ : Int) < 8 := by omega
  go_enter Try.func36, Try.ntmps36
  go_wp2
  exact bodyPost_ret (v := .tuple #[.agg #[.slice A b.length c, .int .i64 (at_ : Int), .int .i64 14], .int .i64 0]) (by simp [results, Try.results36, go_sem]) rfl ⟨at_, rfl, hl, rfl, ((Below.refl _ _).alloc (Nat.le_refl _) _).alloc (by simp) _⟩
set_option maxHeartbeats 10000000 in
theorem refReadInt_ok (A : Option Addr) (b : List UInt8) (c at_ : Nat) (lo hi : Int) (w : World) (hr : Rd w w.heap.size A b) (hl : at_ + 8 ≤ b.length) (hb : b.length ≤ 10000000) (hc : b.length ≤ c) (n : Int) (hN : Hid (wrap64 (numLE ((b.drop at_).take 8) : Nat) = n)) (h1 : lo ≤ n) (h2 : n ≤ hi) :
    Calls Try.prog 36 #[.agg #[.slice A b.length c, .int .i64 (at_ : Int), .int .i64 0], .int .i64 lo, .int .i64 hi] w (GotI A b c (n, b.drop (at_ + 8), 0) w) := by
  have h3 : ¬ (b.length : Int) - (at_ : Int) < 8 := by omega
  have hcut : Rd w w.heap.size (if c = at_ then A else A.map (·.add at_)) ((b.drop at_).take 8) := (hr.cut (by omega) hc).take 8
  rw [if_neg (by omega)] at hcut
  obtain ⟨ad, rfl, _, _⟩ := hr (by omega)
  have HK : Hid (((b.drop at_).take 8).length = 8) := by
    show ((b.drop at_).take 8).length = 8
    rw [List.length_take, List.length_drop]; omega
  generalize (b.drop at_).take 8 = l8 at hcut HK hN
  go_enter Try.func36, Try.ntmps36
  go_wp2_with fail
  refine (refNumber_any (some (ad.add at_)) (c - at_) w.heap.size l8 _ ((hcut.alloc (Nat.le_refl _) _).alloc (by simp) _) HK.out).mono ?_
  rintro e w' ⟨rfl, rfl⟩
  rw [hN.out]
  clear hN HK hcut hr
  go_wp2
  exact bodyPost_ret (v := .tuple #[.agg #[.slice (some ad) b.length c, .int .i64 ((at_ : Int) + 8), .int .i64 0], .int .i64 n]) (by simp [results, Try.results36, go_sem]) rfl ⟨at_ + 8, by simp, hl, rfl, ((Below.refl _ _).alloc (Nat.le_refl _) _).alloc (by simp) _⟩
set_option maxHeartbeats 10000000 in
theorem refReadInt_form (A : Option Addr) (b : List UInt8) (c at_ : Nat) (lo hi : Int) (w : World) (hr : Rd w w.heap.size A b) (hl : at_ + 8 ≤ b.length) (hb : b.length ≤ 10000000) (hc : b.length ≤ c) (n : Int) (hN : Hid (wrap64 (numLE ((b.drop at_).take 8) : Nat) = n)) (h1 : n < lo ∨ hi < n) :
    Calls Try.prog 36 #[.agg #[.slice A b.length c, .int .i64 (at_ : Int), .int .i64 0], .int .i64 lo, .int .i64 hi] w (GotI A b c (0, b.drop (at_ + 8), 13) w) := by
  have h3 : ¬ (b.length : Int) - (at_ : Int) < 8 := by omega
  have hcut : Rd w w.heap.size (if c = at_ then A else A.map (·.add at_)) ((b.drop at_).take 8) := (hr.cut (by omega) hc).take 8
  rw [if_neg (by omega)] at hcut
  obtain ⟨ad, rfl, _, _⟩ := hr (by omega)
  have HK : Hid (((b.drop at_).take 8).length = 8) := by
    show ((b.drop at_).take 8).length = 8
    rw [List.length_take, List.length_drop]; omega
  generalize (b.drop at_).take 8 = l8 at hcut HK hN
  by_cases hlt : n < lo
  · go_enter Try.func36, Try.ntmps36
    go_wp2_with fail
    refine (refNumber_any (some (ad.add at_)) (c - at_) w.heap.size l8 _ ((hcut.alloc (Nat.le_refl _) _).alloc (by simp) _) HK.out).mono ?_
    rintro e w' ⟨rfl, rfl⟩
    rw [hN.out]
    clear hN HK hcut hr h1
    go_wp2
    exact bodyPost_ret (v := .tuple #[.agg #[.slice (some ad) b.length c, .int .i64 ((at_ : Int) + 8), .int .i64 13], .int .i64 0]) (by simp [results, Try.results36, go_sem]) rfl ⟨at_ + 8, by simp, hl, rfl, ((Below.refl _ _).alloc (Nat.le_refl _) _).alloc (by simp) _⟩
  · have hgt : hi < n := by omega
    go_enter Try.func36, Try.ntmps36
    go_wp2_with fail
    refine (refNumber_any (some (ad.add at_)) (c - at_) w.heap.size l8 _ ((hcut.alloc (Nat.le_refl _) _).alloc (by simp) _) HK.out).mono ?_
    rintro e w' ⟨rfl, rfl⟩
    rw [hN.out]
    clear hN HK hcut hr h1
    go_wp2
    exact bodyPost_ret (v := .tuple #[.agg #[.slice (some ad) b.length c, .int .i64 ((at_ : Int) + 8), .int .i64 13], .int .i64 0]) (by simp [results, Try.results36, go_sem]) rfl ⟨at_ + 8, by simp, hl, rfl, ((Below.refl _ _).alloc (Nat.le_refl _) _).alloc (by simp) _⟩
theorem refReadInt_any (A : Option Addr) (b : List UInt8) (c at_ : Nat) (er lo hi : Int) (w : World) (hr : Rd w w.heap.size A b) (hl : at_ ≤ b.length) (hb : b.length ≤ 10000000) (hc : b.length ≤ c) :
    Calls Try.prog 36 #[.agg #[.slice A b.length c, .int .i64 (at_ : Int), .int .i64 er], .int .i64 lo, .int .i64 hi] w (GotI A b c (rI (b.drop at_) er lo hi) w) := by
  by_cases he : er = 0
  · subst he
    by_cases h8 : (b.drop at_).length < 8
    · have e1 : rI (b.drop at_) 0 lo hi = (0, b.drop at_, 14) := by unfold rI; rw [if_pos rfl, if_pos h8]
      rw [e1]
      exact refReadInt_short A b c at_ lo hi w hl hb (by rwa [List.length_drop] at h8)
    · have h8' : at_ + 8 ≤ b.length := by rw [List.length_drop] at h8; omega
      by_cases hf : wrap64 (numLE ((b.drop at_).take 8) : Nat) < lo ∨ hi < wrap64 (numLE ((b.drop at_).take 8) : Nat)
      · have e1 : rI (b.drop at_) 0 lo hi = (0, b.drop (at_ + 8), 13) := by unfold rI; rw [if_pos rfl, if_neg h8, if_pos hf, List.drop_drop]
        rw [e1]
        exact refReadInt_form A b c at_ lo hi w hr h8' hb hc _ (Lib.hid rfl) hf
      · have e1 : rI (b.drop at_) 0 lo hi = (wrap64 (numLE ((b.drop at_).take 8) : Nat), b.drop (at_ + 8), 0) := by unfold rI; rw [if_pos rfl, if_neg h8, if_neg hf, List.drop_drop]
        rw [e1]
        exact refReadInt_ok A b c at_ lo hi w hr h8' hb hc _ (Lib.hid rfl) (by omega) (by omega)
  · have e1 : rI (b.drop at_) er lo hi = (0, b.drop at_, er) := by unfold rI; rw [if_neg he]
    rw [e1]
    exact refReadInt_err A b c at_ er lo hi w hl (by simpa using he)
end Go.Proofs.Ytmebbggmdfejkaa
