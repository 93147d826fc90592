/- Contracts of zone.mayAppend, Look, Active. -/
import Derived.Test.YtbaolfncolfipaaC
namespace Go.Proofs.Ytbaolfncolfipaa
set_option linter.unusedVariables false
set_option linter.unusedSimpArgs false
open Go.RowKit
open Go.RowKit (wrap64)

theorem pointer_any (cap safe : Int) (blk k n : Nat) (A : Option Addr) (c : Nat) (done : Bool) (w : World) (h1 : 1 ≤ blk) (h2 : blk ≤ 4096) (hk : n = k * blk) (hn : n ≤ 16777216) :
    Calls Try.prog 69 #[.agg #[.int .i64 cap, .int .i64 (blk : Int), .slice A n c, .int .i64 safe, .bool done]] w fun e w' => e = .returned (.int .i64 (k : Int)) ∧ Below w.heap.size w w' := by
  refine (pointer_exact cap blk A n c safe done w h1 h2 (by omega)).mono ?_
  rintro e w' ⟨rfl, rfl⟩
  rw [show n / blk = k by rw [hk]; exact Nat.mul_div_cancel _ (by omega)]
  exact ⟨rfl, (Below.refl _ _).alloc (Nat.le_refl _) _⟩

/-- The error that an append of m bytes meets: 0 is none. -/
def appE (cap blk k m : Nat) (done : Bool) : Nat := if m = 0 ∨ m % blk ≠ 0 then 3 else if done = true ∨ cap < k + m / blk then 6 else 0

set_option maxHeartbeats 1000000 in
theorem may_any (cap blk k n : Nat) (safe : Int) (A B : Option Addr) (c m cb : Nat) (done : Bool) (w : World) (c2 : cap ≤ 4096) (h1 : 1 ≤ blk) (h2 : blk ≤ 4096) (hk : n = k * blk) (hkc : k ≤ cap) (hn : n ≤ 16777216) (hm : m ≤ maxLen) :
    Calls Try.prog 66 #[.agg #[.int .i64 (cap : Int), .int .i64 (blk : Int), .slice A n c, .int .i64 safe, .bool done], .slice B m cb] w fun e w' => e = .returned (.int .i64 (appE cap blk k m done : Nat)) ∧ Below w.heap.size w w' := by
  unfold maxLen at hm
  have HK := Lib.hid hk
  clear hk
  have hz : ((blk : Int) == 0) = false := by simp; omega
  by_cases m0 : m = 0
  · have he : appE cap blk k m done = 3 := by simp [appE, m0]
    have hm0 : ((m : Int) == 0) = true := by simp; omega
    rw [he]
    clear m0 he
    go_enter Try.func66, Try.ntmps66
    go_wp2
    go_ret
    exact ⟨rfl, (Below.refl _ _).alloc (Nat.le_refl _) _⟩
  have hm0 : ((m : Int) == 0) = false := by simp; omega
  have hr : (m : Int) % (blk : Int) = ((m % blk : Nat) : Int) := by simp
  have hr0 : 0 ≤ (m : Int) % (blk : Int) := by rw [hr]; exact Int.natCast_nonneg _
  have hr1 : (m : Int) % (blk : Int) ≤ 4096 := by have := Nat.mod_lt m (show 0 < blk by omega); omega
  by_cases r0 : m % blk = 0
  · have hrn : ((m : Int) % (blk : Int) != 0) = false := by rw [hr, r0]; rfl
    cases done
    · have hd : (m : Int) / (blk : Int) = ((m / blk : Nat) : Int) := by simp
      have hq := Nat.div_le_self m blk
      have HE : Hid ((cap < k + m / blk → appE cap blk k m false = 6) ∧ (¬ cap < k + m / blk → appE cap blk k m false = 0)) :=
        ⟨fun h => by simp [appE, m0, r0]; omega, fun h => by simp [appE, m0, r0]; omega⟩
      generalize appE cap blk k m false = E at HE ⊢
      have hd2 : IntKind.i64.wrap ((m : Int) / (blk : Int)) = ((m / blk : Nat) : Int) := by
        rw [hd]
        generalize m / blk = q at hq ⊢
        exact IntWalk.i64_in _ (by omega)
      have hb0 : ¬ blk = 0 := by omega
      clear hr m0 r0 hd
      generalize m / blk = q at hd2 hq HE ⊢
      have hsub : IntKind.i64.wrap ((cap : Int) - (k : Int)) = (cap : Int) - (k : Int) := IntWalk.i64_in _ (by omega)
      have HB0 : Hid (Below w.heap.size w (w.alloc (.cells #[.int .i64 (cap : Int), .int .i64 (blk : Int), .slice A n c, .int .i64 safe, .bool false] 74)).drew) := ((Below.refl _ _).alloc (Nat.le_refl _) _).drew
      have bx : Box (w.alloc (.cells #[.int .i64 (cap : Int), .int .i64 (blk : Int), .slice A n c, .int .i64 safe, .bool false] 74)).drew w.heap.size 74 _ := Box.fresh w 74 _
      go_enter Try.func66, Try.ntmps66
      go_wp2_with fail
      refine wpB_start (w.heap.size + 1) (by kernel_rfl) ?_
      rw [show w.heap.size + 1 = (w.alloc (.cells #[.int .i64 (cap : Int), .int .i64 (blk : Int), .slice A n c, .int .i64 safe, .bool false] 74)).drew.heap.size by simp]
      generalize (w.alloc (.cells #[.int .i64 (cap : Int), .int .i64 (blk : Int), .slice A n c, .int .i64 safe, .bool false] 74)).drew = w0 at HB0 bx ⊢
      have q0 : ∀ w', Below w0.heap.size w0 w' → w'.cell? ⟨w.heap.size, 0, none⟩ = some (.int .i64 (cap : Int)) := fun w' h => (box5 (bx.later h)).1.1
      have q1 : ∀ w', Below w0.heap.size w0 w' → w'.cell? ⟨w.heap.size, 1, none⟩ = some (.int .i64 (blk : Int)) := fun w' h => (box5 (bx.later h)).1.2.1
      have q2 : ∀ w', Below w0.heap.size w0 w' → w'.cell? ⟨w.heap.size, 2, none⟩ = some (.slice A n c) := fun w' h => (box5 (bx.later h)).1.2.2.1
      have q3 : ∀ w', Below w0.heap.size w0 w' → w'.cell? ⟨w.heap.size, 3, none⟩ = some (.int .i64 safe) := fun w' h => (box5 (bx.later h)).1.2.2.2.1
      have q4 : ∀ w', Below w0.heap.size w0 w' → w'.cell? ⟨w.heap.size, 4, none⟩ = some (.bool false) := fun w' h => (box5 (bx.later h)).1.2.2.2.2
      clear bx
      refine wpB_take (i := 0) (d := 20) (v := ?v4x0) rfl rfl (by kernel_rfl) (by kernel_rfl) (by kernel_rfl) (fun _ _ _ h => h) (by rfl) ?y4x0 ?r4x0
      case y4x0 => (intro w' hSw; go_simp; try (with_reducible rfl))
      simp only [Act.put, List.setIfInBounds_toArray, List.set_cons_zero, List.set_cons_succ]
      refine wpB_take (i := 1) (d := 21) (v := ?v4x1) rfl rfl (by kernel_rfl) (by kernel_rfl) (by kernel_rfl) (fun _ _ _ h => h) (by rfl) ?y4x1 ?r4x1
      case y4x1 => (intro w' hSw; go_simp; try (with_reducible rfl))
      simp only [Act.put, List.setIfInBounds_toArray, List.set_cons_zero, List.set_cons_succ]
      refine wpB_take (i := 2) (d := 22) (v := ?v4x2) rfl rfl (by kernel_rfl) (by kernel_rfl) (by kernel_rfl) (fun _ _ _ h => h) (by rfl) ?y4x2 ?r4x2
      case y4x2 => (intro w' hSw; go_simp; try (with_reducible rfl))
      simp only [Act.put, List.setIfInBounds_toArray, List.set_cons_zero, List.set_cons_succ]
      refine wpB_take (i := 3) (d := 23) (v := ?v4x3) rfl rfl (by kernel_rfl) (by kernel_rfl) (by kernel_rfl) (fun _ _ _ h => h) (by rfl) ?y4x3 ?r4x3
      case y4x3 => (intro w' hSw; go_simp; try (with_reducible rfl))
      simp only [Act.put, List.setIfInBounds_toArray, List.set_cons_zero, List.set_cons_succ]
      refine wpB_take (i := 4) (d := 24) (v := ?v4x4) rfl rfl (by kernel_rfl) (by kernel_rfl) (by kernel_rfl) (fun _ _ _ h => h) (by rfl) ?y4x4 ?r4x4
      case y4x4 => (intro w' hSw; go_simp; try (with_reducible rfl))
      simp only [Act.put, List.setIfInBounds_toArray, List.set_cons_zero, List.set_cons_succ]
      refine wpB_take (i := 5) (d := 25) (v := ?v4x5) rfl rfl (by kernel_rfl) (by kernel_rfl) (by kernel_rfl) (fun _ _ _ h => h) (by rfl) ?y4x5 ?r4x5
      case y4x5 => (intro w' hSw; go_simp; try (with_reducible rfl))
      simp only [Act.put, List.setIfInBounds_toArray, List.set_cons_zero, List.set_cons_succ]
      refine wpB_take (i := 6) (d := 26) (v := ?v4x6) rfl rfl (by kernel_rfl) (by kernel_rfl) (by kernel_rfl) (fun _ _ _ h => h) (by rfl) ?y4x6 ?r4x6
      case y4x6 => (intro w' hSw; go_simp; try (with_reducible rfl))
      simp only [Act.put, List.setIfInBounds_toArray, List.set_cons_zero, List.set_cons_succ]
      refine wpB_take (i := 7) (d := 27) (v := ?v4x7) rfl rfl (by kernel_rfl) (by kernel_rfl) (by kernel_rfl) (fun _ _ _ h => h) (by rfl) ?y4x7 ?r4x7
      case y4x7 => (intro w' hSw; go_simp; try (with_reducible rfl))
      simp only [Act.put, List.setIfInBounds_toArray, List.set_cons_zero, List.set_cons_succ]
      refine wpB_do (i := 8) (by kernel_rfl) rfl (by rfl) (fun K hK => ?_)
      go_simp
      refine (pointer_any (cap : Int) safe blk k n A c false w0 h1 h2 HK.out hn).mono ?_
      rintro e w3 ⟨rfl, hb3⟩
      have HB3 := Lib.hid (HB0.out.trans (hb3.mono HB0.out.size))
      refine hK.out _ _ _ hb3.size hb3 ?_
      clear hK K hb3 q0 q1 q2 q3 q4 HB0
      refine wpB_take (i := 9) (d := 29) (v := ?v4x9) rfl rfl (by kernel_rfl) (by kernel_rfl) (by kernel_rfl) (fun _ _ _ h => h) (by rfl) ?y4x9 ?r4x9
      case y4x9 => (intro w' hSw; go_simp; try (with_reducible rfl))
      simp only [Act.put, List.setIfInBounds_toArray, List.set_cons_zero, List.set_cons_succ]
      refine wpB_take (i := 10) (d := 30) (v := ?v4x10) rfl rfl (by kernel_rfl) (by kernel_rfl) (by kernel_rfl) (fun _ _ _ h => h) (by rfl) ?y4x10 ?r4x10
      case y4x10 => (intro w' hSw; go_simp; try (with_reducible rfl))
      simp only [Act.put, List.setIfInBounds_toArray, List.set_cons_zero, List.set_cons_succ]
      refine wpB_take (i := 11) (d := 19) (v := ?v4x11) rfl rfl (by kernel_rfl) (by kernel_rfl) (by kernel_rfl) (fun _ _ _ h => h) (by rfl) ?y4x11 ?r4x11
      case y4x11 => (intro w' hSw; go_simp; try (with_reducible rfl))
      simp only [Act.put, List.setIfInBounds_toArray, List.set_cons_zero, List.set_cons_succ]
      refine wpB_done (by kernel_rfl) ?_
      by_cases hgt : cap < k + q
      · have hg2 : (cap : Int) - (k : Int) < (q : Int) := by omega
        have HG := Lib.hid hgt
        clear hgt
        go_wp2
        go_ret
        exact ⟨by rw [HE.out.1 HG.out]; rfl, HB3.out⟩
      · have hg2 : ¬ ((cap : Int) - (k : Int) < (q : Int)) := by omega
        have HG := Lib.hid hgt
        clear hgt
        go_wp2
        go_ret
        exact ⟨by rw [HE.out.2 HG.out]; rfl, HB3.out⟩
    · have he : appE cap blk k m true = 6 := by simp [appE, m0, r0]
      rw [he]
      clear m0 he hr r0
      go_enter Try.func66, Try.ntmps66
      go_wp2
      go_ret
      exact ⟨rfl, (Below.refl _ _).alloc (Nat.le_refl _) _⟩
  · have hrn : ((m : Int) % (blk : Int) != 0) = true := by simp; omega
    have he : appE cap blk k m done = 3 := by simp [appE, r0]
    rw [he]
    clear m0 he hr r0
    go_enter Try.func66, Try.ntmps66
    go_wp2
    go_ret
    exact ⟨rfl, (Below.refl _ _).alloc (Nat.le_refl _) _⟩
end Go.Proofs.Ytbaolfncolfipaa
