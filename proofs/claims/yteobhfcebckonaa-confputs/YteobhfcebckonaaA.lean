/- Contracts of pack.grown, pack.putNumber, pack.Int. -/
import Derived.Test.YteobhfcebckonaaRows
import Derived.Test.YteobhfcebckonaaOrg
namespace Go.Proofs.Yteobhfcebckonaa
set_option linter.unusedVariables false
open Go.RowKit
open Go.RowKit (wrap64)

theorem Try.info5 : (Try.prog.info? 5).map (fun i => (i.zero, i.size, i.bytes)) = some (some (.int .u8 0), 1, 1) := by kernel_rfl
theorem Try.size5 : (Try.prog.info? 5).map (·.size) = some 1 := by kernel_rfl
set_option maxHeartbeats 400000 in
theorem grown_any (A : Option Addr) (c m : Nat) (l : List UInt8) (w : World) (hr : Rd w w.heap.size A l) (hl : l.length ≤ 1000000) (hm : m ≤ 1000000) :
    Calls Try.prog 37 #[.slice A l.length c, .int .i64 m] w fun e w' =>
      e = .returned (.slice (some ⟨w.heap.size, 0, none⟩) (l.length + m) (l.length + m)) ∧ w.alloc (.cells (cBs (l ++ zeros m)).toArray 5) = w' := by
  have hmk := run_make_row' (P := Try.prog) 32 5 (.int .u8 0) 1 Try.underlying32 Try.info5 rfl .i64 .i64 (l.length + m) (by omega) (by omega)
  have hcp := run_copy_new (P := Try.prog) w 32 32 3 5 A c m l Try.underlying32 Try.size5 hr
  rw [Int.natCast_add] at hmk
  go_enter Try.func37, Try.ntmps37
  go_wp2
  go_ret
  exact ⟨rfl, rfl⟩
theorem grown_of (A : Option Addr) (c m : Nat) (mi : Int) (l : List UInt8) (w : World) (hr : Rd w w.heap.size A l) (hl : l.length ≤ 1000000) (hm : m ≤ 1000000) (hmi : mi = (m : Int)) :
    Calls Try.prog 37 #[.slice A l.length c, .int .i64 mi] w fun e w' =>
      e = .returned (.slice (some ⟨w.heap.size, 0, none⟩) (l.length + m) (l.length + m)) ∧ w.alloc (.cells (cBs (l ++ zeros m)).toArray 5) = w' := by
  subst hmi
  exact grown_any A c m l w hr hl hm
set_option maxHeartbeats 400000 in
theorem putNumber_any (off k c : Nat) (v : Int) (l : List UInt8) (W : World) (hoff : off + 8 ≤ l.length) (hk : 8 ≤ k) :
    Calls Try.prog 38 #[.slice (some ⟨W.heap.size, off, none⟩) k c, .int .i64 v] (W.alloc (.cells (cBs l).toArray 5)) fun e w' =>
      e = .returned (.tuple #[]) ∧ W.alloc (.cells (cBs (splice l off (le8 v))).toArray 5) = w' := by
  go_enter Try.func38, Try.ntmps38
  go_wp2
  go_loopw [4, 8] (fun left i wr => ∃ k : Nat, k ≤ 8 ∧ i = .int .i64 k ∧ left = .int .u64 ((u64 v / 256 ^ k : Nat) : Int) ∧ wr = W.alloc (.cells (cBs (splice l off (leK (u64 v) k))).toArray 5))
    (fun _ i _ => 8 - (intOf i).toNat)
  case atStart => exact ⟨0, by omega, rfl, by rw [wrap_u64]; simp, by rw [show leK (u64 v) 0 = [] from rfl, splice_nil]⟩
  case round =>
    obtain ⟨j, hj, rfl, rfl, rfl⟩ := hrel
    by_cases hlt : j < 8
    · have hlen : off + j < (splice l off (leK (u64 v) j)).length := by rw [length_splice _ _ _ (by rw [leK_length]; omega)]; omega
      have hg := cBs_get _ _ hlen
      obtain ⟨u0, hu0⟩ : ∃ u0, cB (splice l off (leK (u64 v) j))[off + j] = u0 := ⟨_, rfl⟩
      rw [hu0] at hg
      clear hu0 hlen
      go_wp2
      go_roundw
      case rel => exact ⟨j + 1, by omega, by go_num, by rw [Nat.pow_succ, ← Nat.div_div_eq_div_mul]; simp, by rw [splice_step l off (u64 v) j (by omega)]⟩
      case measure => simp [intOf]; omega
    · obtain rfl : j = 8 := by omega
      go_wp2
      go_end0
      exact ⟨rfl, rfl⟩
set_option maxHeartbeats 400000 in
theorem int_any (A : Option Addr) (c : Nat) (v : Int) (l : List UInt8) (w : World) (hr : Rd w w.heap.size A l) (hl : l.length ≤ 1000000) :
    Calls Try.prog 29 #[.slice A l.length c, .int .i64 v] w fun e w' =>
      e = .returned (.slice (some ⟨w.heap.size, 0, none⟩) (l.length + 8) (l.length + 8)) ∧ w.alloc (.cells (cBs (l ++ le8 v)).toArray 5) = w' := by
  have hsp := splice_end l (le8 v) 8 (le8_length v)
  have H := Lib.hid hsp
  clear hsp
  go_enter Try.func29, Try.ntmps29
  go_wp2_with fail
  refine (grown_any A c 8 l w hr hl (by omega)).mono ?_
  rintro e w' ⟨rfl, rfl⟩
  go_wp2_with fail
  refine (putNumber_any l.length 8 8 v (l ++ zeros 8) w (by simp [zeros_length]) (by omega)).mono ?_
  rintro e w' ⟨rfl, rfl⟩
  rw [H.out]
  go_wp2
  go_ret
  exact ⟨rfl, rfl⟩
/-- 'string(b)' of a slice that reads as l. -/
theorem conv_any (A : Option Addr) (c B : Nat) (l : List UInt8) (w : World) (hr : Rd w B A l) : (convert 32 9 (.slice A l.length c)).run Try.prog w = .ok (.string ⟨l.toArray⟩) w :=
  run_conv w 32 9 5 Try.underlying32 Try.underlying5 Try.underlying9 A c B l hr
end Go.Proofs.Yteobhfcebckonaa
