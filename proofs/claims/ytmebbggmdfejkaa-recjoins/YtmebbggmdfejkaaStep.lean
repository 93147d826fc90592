/- Contracts of crc.Step and of the reference's Step. -/
import Derived.Test.YtmebbggmdfejkaaRows
import Derived.Test.YtmebbggmdfejkaaSum
import Derived.Test.YtmebbggmdfejkaaWords
namespace Go.Proofs.Ytmebbggmdfejkaa
set_option linter.unusedVariables false
open Go.RowKit
open Go.RowKit (wrap64)

theorem and_one (t : Nat) (h : t < 4294967296) : bits .and .u32 (t : Int) 1 = ((t % 2 : Nat) : Int) := by
  rw [show (1 : Int) = ((1 : Nat) : Int) from rfl, u32_and_nat t 1 h (by omega), Nat.and_one_is_mod]
theorem turn_odd {t : Nat} (h : t < 4294967296) (ho : t % 2 = 1) : bits .xor .u32 ((t : Int) / 2) 2197175160 = ((turn t : Nat) : Int) := by
  rw [show (t : Int) / 2 = ((t / 2 : Nat) : Int) from by omega, show (2197175160 : Int) = ((2197175160 : Nat) : Int) from rfl, u32_xor_nat _ _ (by omega) (by omega), turn, if_pos ho]
theorem turn_even {t : Nat} (ho : ¬ t % 2 = 1) : (t : Int) / 2 = ((turn t : Nat) : Int) := by
  rw [turn, if_neg ho]; omega

set_option maxHeartbeats 400000 in
theorem step_any (n c : Nat) (w : World) (hn : n < 4294967296) (hc : c < 256) :
    Calls Try.prog 50 #[.int .u32 n, .int .u8 c] w fun e w' => e = .returned (.int .u32 (stp n c : Nat)) ∧ w = w' := by
  go_enter Try.func50, Try.ntmps50
  go_wp2
  go_loop [0, 10] (fun s i => ∃ k : Nat, k ≤ 8 ∧ i = .int .i64 k ∧ s = .int .u32 (turns k (n ^^^ c) : Nat)) (fun _ i => 8 - (intOf i).toNat)
  case atStart => exact ⟨0, by omega, rfl, by rw [u32_xor_nat n c hn (by omega)]; rfl⟩
  case round =>
    obtain ⟨k, hk, rfl, rfl⟩ := hrel
    by_cases hlt : k < 8
    · have ht := turns_lt (xor_lt32 hn (show c < 4294967296 by omega)) k
      have HT : Hid (turns (k + 1) (n ^^^ c) = turn (turns k (n ^^^ c))) := rfl
      generalize turns k (n ^^^ c) = t at ht HT ⊢
      by_cases ho : t % 2 = 1
      · have hb : (bits .and .u32 (t : Int) 1 == 1) = true := by rw [and_one t ht, ho]; rfl
        have HO := Lib.hid ho
        clear ho
        go_wp2
        go_round
        case rel => exact ⟨k + 1, by omega, by go_num, by rw [HT.out, turn_odd ht HO.out]⟩
        case measure => simp [intOf]; omega
      · have hb : (bits .and .u32 (t : Int) 1 == 1) = false := by
          rw [and_one t ht]
          have : t % 2 = 0 := by omega
          rw [this]; rfl
        have HO := Lib.hid ho
        clear ho
        go_wp2
        go_round
        case rel => exact ⟨k + 1, by omega, by go_num, by rw [HT.out, turn_even HO.out]⟩
        case measure => simp [intOf]; omega
    · obtain rfl : k = 8 := by omega
      go_wp2
      go_ret
      exact ⟨rfl, rfl⟩

theorem low_int (n c : Nat) (hn : n < 4294967296) (hc : c < 256) :
    ((n : Int) / 256 * 256 + bits .xor .u8 ((n : Int) % 256) c % 4294967296) % 4294967296 = ((n ^^^ c : Nat) : Int) := by
  rw [show (n : Int) % 256 = ((n % 256 : Nat) : Int) from by omega, u8_xor_nat _ _ (by omega) hc]
  have h := low_xor n c hc
  have h2 := xor_lt32 hn (show c < 4294967296 by omega)
  omega

set_option maxHeartbeats 400000 in
theorem rstep_any (n c : Nat) (w : World) (hn : n < 4294967296) (hc : c < 256) :
    Calls Try.prog 43 #[.int .u32 n, .int .u8 c] w fun e w' => e = .returned (.int .u32 (stp n c : Nat)) ∧ w = w' := by
  go_enter Try.func43, Try.ntmps43
  go_wp2
  go_loop [5, 6] (fun s i => ∃ k : Nat, k ≤ 8 ∧ i = .int .i64 k ∧ s = .int .u32 (turns k (n ^^^ c) : Nat)) (fun _ i => 8 - (intOf i).toNat)
  case atStart => exact ⟨0, by omega, rfl, by rw [low_int n c hn hc]; rfl⟩
  case round =>
    obtain ⟨k, hk, rfl, rfl⟩ := hrel
    by_cases hlt : k < 8
    · have ht := turns_lt (xor_lt32 hn (show c < 4294967296 by omega)) k
      have HT : Hid (turns (k + 1) (n ^^^ c) = turn (turns k (n ^^^ c))) := rfl
      generalize turns k (n ^^^ c) = t at ht HT ⊢
      by_cases ho : t % 2 = 1
      · have hb : ((t : Int) % 2 == 1) = true := by simp; omega
        have HO := Lib.hid ho
        clear ho
        go_wp2
        go_round
        case rel => exact ⟨k + 1, by omega, by go_num, by rw [HT.out, turn_odd ht HO.out]⟩
        case measure => simp [intOf]; omega
      · have hb : ((t : Int) % 2 == 1) = false := by simp; omega
        have HO := Lib.hid ho
        clear ho
        go_wp2
        go_round
        case rel => exact ⟨k + 1, by omega, by go_num, by rw [HT.out, turn_even HO.out]⟩
        case measure => simp [intOf]; omega
    · obtain rfl : k = 8 := by omega
      go_wp2
      go_ret
      exact ⟨rfl, rfl⟩
end Go.Proofs.Ytmebbggmdfejkaa
