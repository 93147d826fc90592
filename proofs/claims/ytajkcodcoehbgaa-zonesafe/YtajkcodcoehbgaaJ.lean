/- Contracts of the reference's held, New, Active, Flush, Reset, Finish, Crash. -/
import Derived.Test.YtajkcodcoehbgaaH
namespace Go.Proofs.Ytajkcodcoehbgaa
set_option linter.unusedVariables false
set_option linter.unusedSimpArgs false
open Go.RowKit
open Go.RowKit (wrap64)

theorem held_any (n : Int) (w : World) : Calls Try.prog 23 #[.int .i64 n, .int .i64 4096] w fun e w' => e = .returned (.int .i64 (fit n)) ∧ w = w' := by
  by_cases h1 : n < 1
  · have e : fit n = 1 := by unfold fit; omega
    rw [e]
    go_enter Try.func23, Try.ntmps23
    go_wp2
    go_ret
    exact ⟨rfl, rfl⟩
  · by_cases h2 : 4096 < n
    · have e : fit n = 4096 := by unfold fit; omega
      rw [e]
      go_enter Try.func23, Try.ntmps23
      go_wp2
      go_ret
      exact ⟨rfl, rfl⟩
    · have e : fit n = n := by unfold fit; omega
      rw [e]
      go_enter Try.func23, Try.ntmps23
      go_wp2
      go_ret
      exact ⟨rfl, rfl⟩

set_option maxHeartbeats 400000 in
theorem rnew_any (n m : Int) (w : World) :
    Calls Try.prog 9 #[.int .i64 n, .int .i64 m] w fun e w' => e = .returned (.agg #[.int .i64 (fit n), .int .i64 (fit m), .slice none 0 0, .int .i64 0, .bool false]) ∧ Below w.heap.size w w' := by
  go_enter Try.func9, Try.ntmps9
  go_wp2_with fail
  refine (held_any n _).mono ?_
  rintro e w' ⟨rfl, rfl⟩
  go_wp2_with fail
  refine (held_any m _).mono ?_
  rintro e w' ⟨rfl, rfl⟩
  go_wp2
  exact bodyPost_ret (v := .agg #[.int .i64 (fit n), .int .i64 (fit m), .slice none 0 0, .int .i64 0, .bool false]) (by simp [results, Try.results9, go_sem]) rfl ⟨rfl, (by repeat (first | with_reducible exact Below.refl _ _ | with_reducible refine Below.drew ?_ | with_reducible refine Below.alloc ?_ (by first | (simp; done) | (simp; omega)) _ | with_reducible refine Below.setCell ?_ (by first | (simp; done) | (simp; omega)) _))⟩

theorem ractive_any (cap k c : Nat) (blk safe : Int) (A : Option Addr) (done : Bool) (w : World) (hk : k ≤ 4096) (hc : cap ≤ 4096) :
    Calls Try.prog 17 #[.agg #[.int .i64 (cap : Int), .int .i64 blk, .slice A k c, .int .i64 safe, .bool done]] w fun e w' => e = .returned (.bool (actB cap k done)) ∧ Below w.heap.size w w' := by
  cases done
  · by_cases h0 : 0 < k
    · go_enter Try.func17, Try.ntmps17
      go_wp2
      go_ret
      exact ⟨by simp [actB, h0], (by repeat (first | with_reducible exact Below.refl _ _ | with_reducible refine Below.drew ?_ | with_reducible refine Below.alloc ?_ (by first | (simp; done) | (simp; omega)) _ | with_reducible refine Below.setCell ?_ (by first | (simp; done) | (simp; omega)) _))⟩
    · have hk0 : decide (0 < k) = false := by simp; omega
      go_enter Try.func17, Try.ntmps17
      go_wp2
      go_ret
      exact ⟨by simp [actB, hk0], (by repeat (first | with_reducible exact Below.refl _ _ | with_reducible refine Below.drew ?_ | with_reducible refine Below.alloc ?_ (by first | (simp; done) | (simp; omega)) _ | with_reducible refine Below.setCell ?_ (by first | (simp; done) | (simp; omega)) _))⟩
  · go_enter Try.func17, Try.ntmps17
    go_wp2
    go_ret
    exact ⟨by simp [actB], (by repeat (first | with_reducible exact Below.refl _ _ | with_reducible refine Below.drew ?_ | with_reducible refine Below.alloc ?_ (by first | (simp; done) | (simp; omega)) _ | with_reducible refine Below.setCell ?_ (by first | (simp; done) | (simp; omega)) _))⟩

theorem rflush_any (cap blk safe : Int) (k c : Nat) (A : Option Addr) (done : Bool) (w : World) :
    Calls Try.prog 26 #[.agg #[.int .i64 cap, .int .i64 blk, .slice A k c, .int .i64 safe, .bool done]] w fun e w' => e = .returned (.agg #[.int .i64 cap, .int .i64 blk, .slice A k c, .int .i64 (k : Int), .bool done]) ∧ Below w.heap.size w w' := by
  go_enter Try.func26, Try.ntmps26
  go_wp2
  exact bodyPost_ret (v := .agg #[.int .i64 cap, .int .i64 blk, .slice A k c, .int .i64 (k : Int), .bool done]) (by simp [results, Try.results26, go_sem]) rfl ⟨rfl, (by repeat (first | with_reducible exact Below.refl _ _ | with_reducible refine Below.drew ?_ | with_reducible refine Below.alloc ?_ (by first | (simp; done) | (simp; omega)) _ | with_reducible refine Below.setCell ?_ (by first | (simp; done) | (simp; omega)) _))⟩
theorem rreset_any (cap blk safe : Int) (k c : Nat) (A : Option Addr) (done : Bool) (w : World) :
    Calls Try.prog 27 #[.agg #[.int .i64 cap, .int .i64 blk, .slice A k c, .int .i64 safe, .bool done]] w fun e w' => e = .returned (.agg #[.int .i64 cap, .int .i64 blk, .slice none 0 0, .int .i64 0, .bool false]) ∧ Below w.heap.size w w' := by
  go_enter Try.func27, Try.ntmps27
  go_wp2
  exact bodyPost_ret (v := .agg #[.int .i64 cap, .int .i64 blk, .slice none 0 0, .int .i64 0, .bool false]) (by simp [results, Try.results27, go_sem]) rfl ⟨rfl, (by repeat (first | with_reducible exact Below.refl _ _ | with_reducible refine Below.drew ?_ | with_reducible refine Below.alloc ?_ (by first | (simp; done) | (simp; omega)) _ | with_reducible refine Below.setCell ?_ (by first | (simp; done) | (simp; omega)) _))⟩
theorem rfinish_any (cap blk safe : Int) (k c : Nat) (A : Option Addr) (done : Bool) (w : World) :
    Calls Try.prog 28 #[.agg #[.int .i64 cap, .int .i64 blk, .slice A k c, .int .i64 safe, .bool done]] w fun e w' => e = .returned (.agg #[.int .i64 cap, .int .i64 blk, .slice A k c, .int .i64 (k : Int), .bool true]) ∧ Below w.heap.size w w' := by
  go_enter Try.func28, Try.ntmps28
  go_wp2
  exact bodyPost_ret (v := .agg #[.int .i64 cap, .int .i64 blk, .slice A k c, .int .i64 (k : Int), .bool true]) (by simp [results, Try.results28, go_sem]) rfl ⟨rfl, (by repeat (first | with_reducible exact Below.refl _ _ | with_reducible refine Below.drew ?_ | with_reducible refine Below.alloc ?_ (by first | (simp; done) | (simp; omega)) _ | with_reducible refine Below.setCell ?_ (by first | (simp; done) | (simp; omega)) _))⟩

set_option maxHeartbeats 1000000 in
theorem rcrash_any (cap blk : Int) (k safe c : Nat) (A : Option Addr) (done : Bool) (keep : Int) (w : World) (hk : k ≤ 4096) (hs : safe ≤ k) (hc : k ≤ c) :
    Calls Try.prog 29 #[.agg #[.int .i64 cap, .int .i64 blk, .slice A k c, .int .i64 (safe : Int), .bool done], .int .i64 keep] w fun e w' => e = .returned (.agg #[.int .i64 cap, .int .i64 blk, .slice A (safe + keep.toNat % (k - safe + 1)) c, .int .i64 ((safe + keep.toNat % (k - safe + 1) : Nat) : Int), .bool done]) ∧ Below w.heap.size w w' := by
  obtain ⟨d1, hd1, hd2⟩ : ∃ d1 : Nat, d1 = k - safe + 1 ∧ 1 ≤ d1 := ⟨_, rfl, by omega⟩
  have hdi : (k : Int) - (safe : Int) + 1 = (d1 : Int) := by omega
  have hd0 : ¬ d1 = 0 := by omega
  have hdz : ((d1 : Int) == 0) = false := by simp; omega
  rw [← hd1]
  by_cases hneg : keep < 0
  · have e0 : keep.toNat % d1 = 0 := by
      have : keep.toNat = 0 := by omega
      rw [this]; simp
    rw [e0, Nat.add_zero]
    clear e0 hd1
    go_enter Try.func29, Try.ntmps29
    go_wp2_with fail
    go_region
    go_wp2
    exact bodyPost_ret (v := .agg #[.int .i64 cap, .int .i64 blk, .slice A safe c, .int .i64 (safe : Int), .bool done]) (by simp [results, Try.results29, go_sem]) rfl ⟨rfl, (by repeat (first | with_reducible exact Below.refl _ _ | with_reducible refine Below.drew ?_ | with_reducible refine Below.alloc ?_ (by first | (simp; done) | (simp; omega)) _ | with_reducible refine Below.setCell ?_ (by first | (simp; done) | (simp; omega)) _))⟩
  · obtain ⟨kp, rfl⟩ : ∃ kp : Nat, keep = (kp : Int) := ⟨keep.toNat, by omega⟩
    have hlt := Nat.mod_lt kp (show 0 < d1 by omega)
    have hrem : (kp : Int) % (d1 : Int) = ((kp % d1 : Nat) : Int) := by simp
    have hre2 : (kp : Int).tmod (d1 : Int) = ((kp % d1 : Nat) : Int) := by rw [Int.tmod_eq_emod_of_nonneg (by omega)]; simp
    rw [Int.toNat_natCast]
    generalize kp % d1 = r at hrem hre2 hlt ⊢
    have hsum : (safe : Int) + (r : Int) = ((safe + r : Nat) : Int) := by omega
    have hjk : safe + r ≤ k := by omega
    generalize safe + r = j at hsum hjk ⊢
    clear hd1 hneg
    go_enter Try.func29, Try.ntmps29
    go_wp2_with fail
    go_region
    go_wp2
    exact bodyPost_ret (v := .agg #[.int .i64 cap, .int .i64 blk, .slice A j c, .int .i64 (j : Int), .bool done]) (by simp [results, Try.results29, go_sem]) rfl ⟨rfl, (by repeat (first | with_reducible exact Below.refl _ _ | with_reducible refine Below.drew ?_ | with_reducible refine Below.alloc ?_ (by first | (simp; done) | (simp; omega)) _ | with_reducible refine Below.setCell ?_ (by first | (simp; done) | (simp; omega)) _))⟩
end Go.Proofs.Ytajkcodcoehbgaa
