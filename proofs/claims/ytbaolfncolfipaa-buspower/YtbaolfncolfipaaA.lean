/- Contracts of zone.within, zone.New, zone.pointer, zone.sound, code. -/
import Derived.Test.YtbaolfncolfipaaRows
import Derived.Test.YtbaolfncolfipaaWords
import Derived.Test.YtbaolfncolfipaaArg
import Derived.Test.YtbaolfncolfipaaOrb
import Derived.Lib.AppendZeros
namespace Go.Proofs.Ytbaolfncolfipaa
set_option linter.unusedVariables false
open Go.RowKit
open Go.RowKit (wrap64)

set_option maxHeartbeats 400000 in
theorem within_any (n a b : Int) (w : World) :
    Calls Try.prog 73 #[.int .i64 n, .int .i64 a, .int .i64 b] w fun e w' => e = .returned (.int .i64 (min (max n a) b)) ∧ w = w' := by
  go_enter Try.func73, Try.ntmps73
  go_wp2
  all_goals
    go_ret
    exact ⟨by simp; omega, rfl⟩

/-- A number from 1 to 4096. -/
def fit (n : Int) : Int := min (max n 1) 4096

set_option maxHeartbeats 400000 in
theorem new_exact (n m : Int) (w : World) :
    Calls Try.prog 64 #[.int .i64 n, .int .i64 m] w fun e w' => e = .returned (.agg #[.int .i64 (fit n), .int .i64 (fit m), .slice none 0 0, .int .i64 0, .bool false]) ∧ w.alloc (.cells #[.int .i64 (fit n), .int .i64 (fit m), .slice none 0 0, .int .i64 0, .bool false] 74) = w' := by
  go_enter Try.func64, Try.ntmps64
  go_wp2_with fail
  refine (within_any n 1 4096 _).mono ?_
  rintro e w' ⟨rfl, rfl⟩
  rw [show min (max n 1) 4096 = fit n from rfl]
  go_wp2_with fail
  refine (within_any m 1 4096 _).mono ?_
  rintro e w' ⟨rfl, rfl⟩
  rw [show min (max m 1) 4096 = fit m from rfl]
  go_wp2
  exact bodyPost_ret (v := .agg #[.int .i64 (fit n), .int .i64 (fit m), .slice none 0 0, .int .i64 0, .bool false]) (by simp [results, Try.results64, go_sem]) rfl ⟨rfl, rfl⟩
theorem new_any (n m : Int) (w : World) :
    Calls Try.prog 64 #[.int .i64 n, .int .i64 m] w fun e w' => e = .returned (.agg #[.int .i64 (fit n), .int .i64 (fit m), .slice none 0 0, .int .i64 0, .bool false]) ∧ Below w.heap.size w w' :=
  (new_exact n m w).mono (by rintro e w' ⟨rfl, rfl⟩; exact ⟨rfl, (Below.refl _ _).alloc (Nat.le_refl _) _⟩)

theorem fit_ok (n : Int) : 1 ≤ fit n ∧ fit n ≤ 4096 := by unfold fit; omega
theorem fit_id (n : Nat) (h1 : 1 ≤ n) (h2 : n ≤ 4096) : fit (n : Int) = (n : Int) := by unfold fit; omega

set_option maxHeartbeats 400000 in
theorem pointer_exact (cap : Int) (blk : Nat) (A : Option Addr) (n c : Nat) (safe : Int) (done : Bool) (w : World) (h1 : 1 ≤ blk) (h2 : blk ≤ 4096) (hn : n ≤ 100000000) :
    Calls Try.prog 69 #[.agg #[.int .i64 cap, .int .i64 (blk : Int), .slice A n c, .int .i64 safe, .bool done]] w fun e w' => e = .returned (.int .i64 ((n / blk : Nat) : Int)) ∧ w.alloc (.cells #[.int .i64 cap, .int .i64 (blk : Int), .slice A n c, .int .i64 safe, .bool done] 74) = w' := by
  have hq : n / blk ≤ n := Nat.div_le_self _ _
  have hd : (n : Int) / (blk : Int) = ((n / blk : Nat) : Int) := by simp
  have hq0 : 0 ≤ (n : Int) / (blk : Int) := by rw [hd]; exact Int.natCast_nonneg _
  have hq1 : (n : Int) / (blk : Int) ≤ 100000000 := by omega
  have hz : ((blk : Int) == 0) = false := by simp; omega
  clear hd
  go_enter Try.func69, Try.ntmps69
  go_wp2
  go_ret
  exact ⟨by simp, rfl⟩

theorem code_any (n : Int) (w : World) : Calls Try.prog 8 #[.int .i64 n] w fun e w' => e = .returned (.int .i64 n) ∧ w = w' := by
  go_enter Try.func8, Try.ntmps8
  go_wp2
  go_ret
  exact ⟨rfl, rfl⟩

set_option maxHeartbeats 1000000 in
theorem sound_exact (cap blk k : Nat) (A : Option Addr) (n c safe : Nat) (done : Bool) (w : World) (c1 : 1 ≤ cap) (c2 : cap ≤ 4096) (h1 : 1 ≤ blk) (h2 : blk ≤ 4096) (hk : n = k * blk) (hc : k ≤ cap) (hn : n ≤ 16777216) (hcn : n ≤ c) (hs : safe ≤ k) :
    Calls Try.prog 65 #[.agg #[.int .i64 (cap : Int), .int .i64 (blk : Int), .slice A n c, .int .i64 (safe : Int), .bool done]] w fun e w' => e = .returned (.agg #[.int .i64 (cap : Int), .int .i64 (blk : Int), .slice A n c, .int .i64 (safe : Int), .bool done]) ∧ ((((w.alloc (.cells #[.int .i64 (cap : Int), .int .i64 (blk : Int), .slice A n c, .int .i64 (safe : Int), .bool done] 74)).alloc (.cells #[.int .i64 (cap : Int), .int .i64 (blk : Int), .slice A n c, .int .i64 (safe : Int), .bool done] 74)).alloc (.cells #[.int .i64 (cap : Int), .int .i64 (blk : Int), .slice none 0 0, .int .i64 0, .bool false] 74)).alloc (.cells #[.int .i64 (cap : Int), .int .i64 (blk : Int), .slice A n c, .int .i64 (safe : Int), .bool done] 74)).drew = w' := by
  have hdn : n / blk = k := by rw [hk]; exact Nat.mul_div_cancel _ (by omega)
  have hd : (n : Int) / (blk : Int) = (k : Int) := by rw [← hdn]; simp
  have hq0 : 0 ≤ (n : Int) / (blk : Int) := by omega
  have hq1 : (n : Int) / (blk : Int) ≤ 100000000 := by omega
  have hz : ((blk : Int) == 0) = false := by simp; omega
  have hm : (k : Int) * (blk : Int) = (n : Int) := by rw [hk]; simp
  have hkc : min (k : Int) (cap : Int) = (k : Int) := by omega
  have hsk : min (max (safe : Int) 0) (k : Int) = (safe : Int) := by omega
  have hkc2 : (k : Int) ≤ (cap : Int) := by omega
  have HK := Lib.hid hk
  clear hk
  go_enter Try.func65, Try.ntmps65
  go_wp2_with fail
  refine (new_exact cap blk _).mono ?_
  rintro e w' ⟨rfl, rfl⟩
  rw [fit_id cap c1 c2, fit_id blk h1 h2]
  go_wp2_with fail
  go_region
  go_wp2_with fail
  refine (within_any safe 0 k _).mono ?_
  rintro e w' ⟨rfl, rfl⟩
  rw [hsk]
  go_wp2
  exact bodyPost_ret (v := .agg #[.int .i64 (cap : Int), .int .i64 (blk : Int), .slice A n c, .int .i64 (safe : Int), .bool done]) (by simp [results, Try.results65, go_sem]) rfl ⟨rfl, rfl⟩
end Go.Proofs.Ytbaolfncolfipaa
