/- Contracts of zone.Active, Reset, Finish, Append, Read. -/
import Derived.Test.YtbaolfncolfipaaF
import Derived.Deep.CutBlock
namespace Go.Proofs.Ytbaolfncolfipaa
set_option linter.unusedVariables false
set_option linter.unusedSimpArgs false
open Go.RowKit
open Go.RowKit (wrap64)

/-- A block of the call's own, and what came behind it. -/
theorem one_box {w w1 : World} {a : Array Value} {t : TypeId} {B : Nat} (hb : Below B (w.alloc (.cells a t)) w1) (hB : w.heap.size + 1 ≤ B) : Box w1 w.heap.size t a ∧ Below w.heap.size w w1 :=
  ⟨(Box.fresh w t a).under hb (by omega), ((Below.refl _ _).alloc (Nat.le_refl _) _).trans (hb.mono (by omega))⟩
/-- Five cells are written. -/
theorem put5 {w : World} {g : Nat} {t : TypeId} {a b c d e : Value} (h : Box w g t #[a, b, c, d, e]) (a' b' c' d' e' : Value) :
    Box (((((w.setCell ⟨g, 0, none⟩ a').setCell ⟨g, 1, none⟩ b').setCell ⟨g, 2, none⟩ c').setCell ⟨g, 3, none⟩ d').setCell ⟨g, 4, none⟩ e') g t #[a', b', c', d', e'] ∧
    Turn [g] w (((((w.setCell ⟨g, 0, none⟩ a').setCell ⟨g, 1, none⟩ b').setCell ⟨g, 2, none⟩ c').setCell ⟨g, 3, none⟩ d').setCell ⟨g, 4, none⟩ e') :=
  ⟨((((h.store 0 a').store 1 b').store 2 c').store 3 d').store 4 e', by repeat (first | with_reducible exact Turn.refl _ _ | with_reducible refine Turn.put ?_ (by simp) _ | with_reducible refine Turn.alloc ?_ _ | with_reducible refine Turn.drew ?_)⟩

set_option maxHeartbeats 1000000 in
theorem active_done {cap blk k safe n c : Nat} (A : Option Addr) (w : World) (z : Zok cap blk k safe n c) :
    Calls Try.prog 67 #[.agg #[.int .i64 (cap : Int), .int .i64 (blk : Int), .slice A n c, .int .i64 (safe : Int), .bool true]] w fun e w' => e = .returned (.bool false) ∧ Below w.heap.size w w' := by
  have HZ := Lib.hid z
  have hk12 : k ≤ 4096 := Nat.le_trans z.hc z.c2
  clear z
  go_enter Try.func67, Try.ntmps67
  go_wp2_with fail
  refine (sound_any A true _ HZ.out).mono ?_
  rintro e w1 ⟨rfl, hb1⟩
  obtain ⟨b1, hbw⟩ := one_box hb1 (by simp)
  obtain ⟨⟨q0, q1, q2, q3, q4⟩, f0, f1, f2, f3, f4⟩ := box5 b1
  obtain ⟨s0, s1, s2, s3, s4⟩ := self5 b1
  have HB1 := Lib.hid b1
  have HB := Lib.hid hbw
  clear hb1 hbw b1
  go_wp2_with fail
  refine wpB_start w1.drew.heap.size (by kernel_rfl) ?_
  have B1 : Box w1.drew w.heap.size 74 _ := HB1.out
  have BB : Hid (Below w.heap.size w w1.drew) := HB.out.drew
  clear HB1 HB q0 q1 q2 q3 q4 f0 f1 f2 f3 f4 s0 s1 s2 s3 s4
  generalize w1.drew = w0 at B1 BB ⊢
  have q0 : ∀ w', Below w0.heap.size w0 w' → w'.cell? ⟨w.heap.size, 0, none⟩ = some (.int .i64 (cap : Int)) := fun w' h => (box5 (B1.later h)).1.1
  have q1 : ∀ w', Below w0.heap.size w0 w' → w'.cell? ⟨w.heap.size, 1, none⟩ = some (.int .i64 (blk : Int)) := fun w' h => (box5 (B1.later h)).1.2.1
  have q2 : ∀ w', Below w0.heap.size w0 w' → w'.cell? ⟨w.heap.size, 2, none⟩ = some (.slice A n c) := fun w' h => (box5 (B1.later h)).1.2.2.1
  have q3 : ∀ w', Below w0.heap.size w0 w' → w'.cell? ⟨w.heap.size, 3, none⟩ = some (.int .i64 (safe : Int)) := fun w' h => (box5 (B1.later h)).1.2.2.2.1
  have q4 : ∀ w', Below w0.heap.size w0 w' → w'.cell? ⟨w.heap.size, 4, none⟩ = some (.bool true) := fun w' h => (box5 (B1.later h)).1.2.2.2.2
  have Bw0 := B1
  have BBw0 := BB
  clear B1 BB
  refine wpB_take (i := 0) (d := 5) (v := ?v2x0) rfl rfl (by kernel_rfl) (by kernel_rfl) (by kernel_rfl) (fun _ _ _ h => h) (by rfl) ?y2x0 ?r2x0
  case y2x0 => (intro w' hSw; go_simp; try (with_reducible rfl))
  simp only [Act.put, List.setIfInBounds_toArray, List.set_cons_zero, List.set_cons_succ]
  refine wpB_take (i := 1) (d := 6) (v := ?v2x1) rfl rfl (by kernel_rfl) (by kernel_rfl) (by kernel_rfl) (fun _ _ _ h => h) (by rfl) ?y2x1 ?r2x1
  case y2x1 => (intro w' hSw; go_simp; try (with_reducible rfl))
  simp only [Act.put, List.setIfInBounds_toArray, List.set_cons_zero, List.set_cons_succ]
  refine wpB_take (i := 2) (d := 7) (v := ?v2x2) rfl rfl (by kernel_rfl) (by kernel_rfl) (by kernel_rfl) (fun _ _ _ h => h) (by rfl) ?y2x2 ?r2x2
  case y2x2 => (intro w' hSw; go_simp; try (with_reducible rfl))
  simp only [Act.put, List.setIfInBounds_toArray, List.set_cons_zero, List.set_cons_succ]
  refine wpB_take (i := 3) (d := 8) (v := ?v2x3) rfl rfl (by kernel_rfl) (by kernel_rfl) (by kernel_rfl) (fun _ _ _ h => h) (by rfl) ?y2x3 ?r2x3
  case y2x3 => (intro w' hSw; go_simp; try (with_reducible rfl))
  simp only [Act.put, List.setIfInBounds_toArray, List.set_cons_zero, List.set_cons_succ]
  refine wpB_skip (i := 4) (d := 9) rfl rfl (by kernel_rfl) (by kernel_rfl) (by kernel_rfl) (fun _ _ _ h => h) (by rfl) ?_
  simp only [Act.put, List.setIfInBounds_toArray, List.set_cons_zero, List.set_cons_succ]
  refine wpB_skip (i := 5) (d := 10) rfl rfl (by kernel_rfl) (by kernel_rfl) (by kernel_rfl) (fun _ _ _ h => h) (by rfl) ?_
  simp only [Act.put, List.setIfInBounds_toArray, List.set_cons_zero, List.set_cons_succ]
  refine wpB_skip (i := 6) (d := 11) rfl rfl (by kernel_rfl) (by kernel_rfl) (by kernel_rfl) (fun _ _ _ h => h) (by rfl) ?_
  simp only [Act.put, List.setIfInBounds_toArray, List.set_cons_zero, List.set_cons_succ]
  refine wpB_take (i := 7) (d := 12) (v := ?v2x7) rfl rfl (by kernel_rfl) (by kernel_rfl) (by kernel_rfl) (fun _ _ _ h => h) (by rfl) ?y2x7 ?r2x7
  case y2x7 => (intro w' hSw; go_simp; try (with_reducible rfl))
  simp only [Act.put, List.setIfInBounds_toArray, List.set_cons_zero, List.set_cons_succ]
  refine wpB_take (i := 8) (d := 13) (v := ?v2x8) rfl rfl (by kernel_rfl) (by kernel_rfl) (by kernel_rfl) (fun _ _ _ h => h) (by rfl) ?y2x8 ?r2x8
  case y2x8 => (intro w' hSw; go_simp; try (with_reducible rfl))
  simp only [Act.put, List.setIfInBounds_toArray, List.set_cons_zero, List.set_cons_succ]
  refine wpB_skip (i := 9) (d := 14) rfl rfl (by kernel_rfl) (by kernel_rfl) (by kernel_rfl) (fun _ _ _ h => h) (by rfl) ?_
  simp only [Act.put, List.setIfInBounds_toArray, List.set_cons_zero, List.set_cons_succ]
  refine wpB_skip (i := 11) (d := 16) rfl rfl (by kernel_rfl) (by kernel_rfl) (by kernel_rfl) (fun _ _ _ h => h) (by rfl) ?_
  simp only [Act.put, List.setIfInBounds_toArray, List.set_cons_zero, List.set_cons_succ]
  refine wpB_skip (i := 12) (d := 17) rfl rfl (by kernel_rfl) (by kernel_rfl) (by kernel_rfl) (fun _ _ _ h => h) (by rfl) ?_
  simp only [Act.put, List.setIfInBounds_toArray, List.set_cons_zero, List.set_cons_succ]
  refine wpB_skip (i := 10) (d := 15) rfl rfl (by kernel_rfl) (by kernel_rfl) (by kernel_rfl) (fun _ _ _ h => h) (by rfl) ?_
  simp only [Act.put, List.setIfInBounds_toArray, List.set_cons_zero, List.set_cons_succ]
  refine wpB_skip (i := 13) (d := 18) rfl rfl (by kernel_rfl) (by kernel_rfl) (by kernel_rfl) (fun _ _ _ h => h) (by rfl) ?_
  simp only [Act.put, List.setIfInBounds_toArray, List.set_cons_zero, List.set_cons_succ]
  refine wpB_take (i := 14) (d := 19) (v := ?v2x14) rfl rfl (by kernel_rfl) (by kernel_rfl) (by kernel_rfl) (fun _ _ _ h => h) (by rfl) ?y2x14 ?r2x14
  case y2x14 => (intro w' hSw; go_simp; try (with_reducible rfl))
  simp only [Act.put, List.setIfInBounds_toArray, List.set_cons_zero, List.set_cons_succ]
  refine wpB_take (i := 15) (d := 2) (v := ?v2x15) rfl rfl (by kernel_rfl) (by kernel_rfl) (by kernel_rfl) (fun _ _ _ h => h) (by rfl) ?y2x15 ?r2x15
  case y2x15 => (intro w' hSw; go_simp; try (with_reducible rfl))
  simp only [Act.put, List.setIfInBounds_toArray, List.set_cons_zero, List.set_cons_succ]
  refine wpB_done (by kernel_rfl) ?_
  go_wp2
  go_ret
  exact ⟨by simp [*], BBw0.out⟩

set_option maxHeartbeats 1000000 in
theorem active_none {cap blk k safe n c : Nat} (A : Option Addr) (w : World) (z : Zok cap blk k safe n c) (h0 : k = 0) :
    Calls Try.prog 67 #[.agg #[.int .i64 (cap : Int), .int .i64 (blk : Int), .slice A n c, .int .i64 (safe : Int), .bool false]] w fun e w' => e = .returned (.bool false) ∧ Below w.heap.size w w' := by
  have HZ := Lib.hid z
  have hk12 : k ≤ 4096 := Nat.le_trans z.hc z.c2
  clear z
  go_enter Try.func67, Try.ntmps67
  go_wp2_with fail
  refine (sound_any A false _ HZ.out).mono ?_
  rintro e w1 ⟨rfl, hb1⟩
  obtain ⟨b1, hbw⟩ := one_box hb1 (by simp)
  obtain ⟨⟨q0, q1, q2, q3, q4⟩, f0, f1, f2, f3, f4⟩ := box5 b1
  obtain ⟨s0, s1, s2, s3, s4⟩ := self5 b1
  have HB1 := Lib.hid b1
  have HB := Lib.hid hbw
  clear hb1 hbw b1
  go_wp2_with fail
  refine wpB_start w1.drew.heap.size (by kernel_rfl) ?_
  have B1 : Box w1.drew w.heap.size 74 _ := HB1.out
  have BB : Hid (Below w.heap.size w w1.drew) := HB.out.drew
  clear HB1 HB q0 q1 q2 q3 q4 f0 f1 f2 f3 f4 s0 s1 s2 s3 s4
  generalize w1.drew = w0 at B1 BB ⊢
  have q0 : ∀ w', Below w0.heap.size w0 w' → w'.cell? ⟨w.heap.size, 0, none⟩ = some (.int .i64 (cap : Int)) := fun w' h => (box5 (B1.later h)).1.1
  have q1 : ∀ w', Below w0.heap.size w0 w' → w'.cell? ⟨w.heap.size, 1, none⟩ = some (.int .i64 (blk : Int)) := fun w' h => (box5 (B1.later h)).1.2.1
  have q2 : ∀ w', Below w0.heap.size w0 w' → w'.cell? ⟨w.heap.size, 2, none⟩ = some (.slice A n c) := fun w' h => (box5 (B1.later h)).1.2.2.1
  have q3 : ∀ w', Below w0.heap.size w0 w' → w'.cell? ⟨w.heap.size, 3, none⟩ = some (.int .i64 (safe : Int)) := fun w' h => (box5 (B1.later h)).1.2.2.2.1
  have q4 : ∀ w', Below w0.heap.size w0 w' → w'.cell? ⟨w.heap.size, 4, none⟩ = some (.bool false) := fun w' h => (box5 (B1.later h)).1.2.2.2.2
  have Bw0 := B1
  have BBw0 := BB
  clear B1 BB
  have hk0 : decide (0 < k) = false := by simp; omega
  clear h0
  refine wpB_take (i := 0) (d := 5) (v := ?v2x0) rfl rfl (by kernel_rfl) (by kernel_rfl) (by kernel_rfl) (fun _ _ _ h => h) (by rfl) ?y2x0 ?r2x0
  case y2x0 => (intro w' hSw; go_simp; try (with_reducible rfl))
  simp only [Act.put, List.setIfInBounds_toArray, List.set_cons_zero, List.set_cons_succ]
  refine wpB_take (i := 1) (d := 6) (v := ?v2x1) rfl rfl (by kernel_rfl) (by kernel_rfl) (by kernel_rfl) (fun _ _ _ h => h) (by rfl) ?y2x1 ?r2x1
  case y2x1 => (intro w' hSw; go_simp; try (with_reducible rfl))
  simp only [Act.put, List.setIfInBounds_toArray, List.set_cons_zero, List.set_cons_succ]
  refine wpB_take (i := 2) (d := 7) (v := ?v2x2) rfl rfl (by kernel_rfl) (by kernel_rfl) (by kernel_rfl) (fun _ _ _ h => h) (by rfl) ?y2x2 ?r2x2
  case y2x2 => (intro w' hSw; go_simp; try (with_reducible rfl))
  simp only [Act.put, List.setIfInBounds_toArray, List.set_cons_zero, List.set_cons_succ]
  refine wpB_take (i := 3) (d := 8) (v := ?v2x3) rfl rfl (by kernel_rfl) (by kernel_rfl) (by kernel_rfl) (fun _ _ _ h => h) (by rfl) ?y2x3 ?r2x3
  case y2x3 => (intro w' hSw; go_simp; try (with_reducible rfl))
  simp only [Act.put, List.setIfInBounds_toArray, List.set_cons_zero, List.set_cons_succ]
  refine wpB_take (i := 4) (d := 9) (v := ?v2x4) rfl rfl (by kernel_rfl) (by kernel_rfl) (by kernel_rfl) (fun _ _ _ h => h) (by rfl) ?y2x4 ?r2x4
  case y2x4 => (intro w' hSw; go_simp; try (with_reducible rfl))
  simp only [Act.put, List.setIfInBounds_toArray, List.set_cons_zero, List.set_cons_succ]
  refine wpB_do (i := 5) (by kernel_rfl) rfl (by rfl) (fun K hK => ?_)
  go_simp
  refine (pointer_any (cap : Int) (safe : Int) blk k n A c false w0 HZ.out.h1 HZ.out.h2 HZ.out.hk HZ.out.hn).mono ?_
  rintro e w3 ⟨rfl, hb3⟩
  have Bw3 := Bw0.later hb3
  have BBw3 := Lib.hid (BBw0.out.trans (hb3.mono BBw0.out.size))
  refine hK.out _ _ _ hb3.size hb3 ?_
  clear hK K hb3 q0 q1 q2 q3 q4 BBw0 Bw0
  refine wpB_take (i := 6) (d := 11) (v := ?v2x6) rfl rfl (by kernel_rfl) (by kernel_rfl) (by kernel_rfl) (fun _ _ _ h => h) (by rfl) ?y2x6 ?r2x6
  case y2x6 => (intro w' hSw; go_simp; try (with_reducible rfl))
  simp only [Act.put, List.setIfInBounds_toArray, List.set_cons_zero, List.set_cons_succ]
  refine wpB_take (i := 7) (d := 12) (v := ?v2x7) rfl rfl (by kernel_rfl) (by kernel_rfl) (by kernel_rfl) (fun _ _ _ h => h) (by rfl) ?y2x7 ?r2x7
  case y2x7 => (intro w' hSw; go_simp; try (with_reducible rfl))
  simp only [Act.put, List.setIfInBounds_toArray, List.set_cons_zero, List.set_cons_succ]
  refine wpB_take (i := 8) (d := 13) (v := ?v2x8) rfl rfl (by kernel_rfl) (by kernel_rfl) (by kernel_rfl) (fun _ _ _ h => h) (by rfl) ?y2x8 ?r2x8
  case y2x8 => (intro w' hSw; go_simp; try (with_reducible rfl))
  simp only [Act.put, List.setIfInBounds_toArray, List.set_cons_zero, List.set_cons_succ]
  refine wpB_skip (i := 9) (d := 14) rfl rfl (by kernel_rfl) (by kernel_rfl) (by kernel_rfl) (fun _ _ _ h => h) (by rfl) ?_
  simp only [Act.put, List.setIfInBounds_toArray, List.set_cons_zero, List.set_cons_succ]
  refine wpB_skip (i := 11) (d := 16) rfl rfl (by kernel_rfl) (by kernel_rfl) (by kernel_rfl) (fun _ _ _ h => h) (by rfl) ?_
  simp only [Act.put, List.setIfInBounds_toArray, List.set_cons_zero, List.set_cons_succ]
  refine wpB_skip (i := 12) (d := 17) rfl rfl (by kernel_rfl) (by kernel_rfl) (by kernel_rfl) (fun _ _ _ h => h) (by rfl) ?_
  simp only [Act.put, List.setIfInBounds_toArray, List.set_cons_zero, List.set_cons_succ]
  refine wpB_skip (i := 10) (d := 15) rfl rfl (by kernel_rfl) (by kernel_rfl) (by kernel_rfl) (fun _ _ _ h => h) (by rfl) ?_
  simp only [Act.put, List.setIfInBounds_toArray, List.set_cons_zero, List.set_cons_succ]
  refine wpB_skip (i := 13) (d := 18) rfl rfl (by kernel_rfl) (by kernel_rfl) (by kernel_rfl) (fun _ _ _ h => h) (by rfl) ?_
  simp only [Act.put, List.setIfInBounds_toArray, List.set_cons_zero, List.set_cons_succ]
  refine wpB_take (i := 14) (d := 19) (v := ?v2x14) rfl rfl (by kernel_rfl) (by kernel_rfl) (by kernel_rfl) (fun _ _ _ h => h) (by rfl) ?y2x14 ?r2x14
  case y2x14 => (intro w' hSw; go_simp; try (with_reducible rfl))
  simp only [Act.put, List.setIfInBounds_toArray, List.set_cons_zero, List.set_cons_succ]
  refine wpB_take (i := 15) (d := 2) (v := ?v2x15) rfl rfl (by kernel_rfl) (by kernel_rfl) (by kernel_rfl) (fun _ _ _ h => h) (by rfl) ?y2x15 ?r2x15
  case y2x15 => (intro w' hSw; go_simp; try (with_reducible rfl))
  simp only [Act.put, List.setIfInBounds_toArray, List.set_cons_zero, List.set_cons_succ]
  refine wpB_done (by kernel_rfl) ?_
  go_wp2
  go_ret
  exact ⟨by simp [*], BBw3.out⟩

set_option maxHeartbeats 1000000 in
theorem active_some {cap blk k safe n c : Nat} (A : Option Addr) (w : World) (z : Zok cap blk k safe n c) (h0 : 0 < k) :
    Calls Try.prog 67 #[.agg #[.int .i64 (cap : Int), .int .i64 (blk : Int), .slice A n c, .int .i64 (safe : Int), .bool false]] w fun e w' => e = .returned (.bool (decide (k < cap))) ∧ Below w.heap.size w w' := by
  have HZ := Lib.hid z
  have hk12 : k ≤ 4096 := Nat.le_trans z.hc z.c2
  clear z
  go_enter Try.func67, Try.ntmps67
  go_wp2_with fail
  refine (sound_any A false _ HZ.out).mono ?_
  rintro e w1 ⟨rfl, hb1⟩
  obtain ⟨b1, hbw⟩ := one_box hb1 (by simp)
  obtain ⟨⟨q0, q1, q2, q3, q4⟩, f0, f1, f2, f3, f4⟩ := box5 b1
  obtain ⟨s0, s1, s2, s3, s4⟩ := self5 b1
  have HB1 := Lib.hid b1
  have HB := Lib.hid hbw
  clear hb1 hbw b1
  go_wp2_with fail
  refine wpB_start w1.drew.heap.size (by kernel_rfl) ?_
  have B1 : Box w1.drew w.heap.size 74 _ := HB1.out
  have BB : Hid (Below w.heap.size w w1.drew) := HB.out.drew
  clear HB1 HB q0 q1 q2 q3 q4 f0 f1 f2 f3 f4 s0 s1 s2 s3 s4
  generalize w1.drew = w0 at B1 BB ⊢
  have q0 : ∀ w', Below w0.heap.size w0 w' → w'.cell? ⟨w.heap.size, 0, none⟩ = some (.int .i64 (cap : Int)) := fun w' h => (box5 (B1.later h)).1.1
  have q1 : ∀ w', Below w0.heap.size w0 w' → w'.cell? ⟨w.heap.size, 1, none⟩ = some (.int .i64 (blk : Int)) := fun w' h => (box5 (B1.later h)).1.2.1
  have q2 : ∀ w', Below w0.heap.size w0 w' → w'.cell? ⟨w.heap.size, 2, none⟩ = some (.slice A n c) := fun w' h => (box5 (B1.later h)).1.2.2.1
  have q3 : ∀ w', Below w0.heap.size w0 w' → w'.cell? ⟨w.heap.size, 3, none⟩ = some (.int .i64 (safe : Int)) := fun w' h => (box5 (B1.later h)).1.2.2.2.1
  have q4 : ∀ w', Below w0.heap.size w0 w' → w'.cell? ⟨w.heap.size, 4, none⟩ = some (.bool false) := fun w' h => (box5 (B1.later h)).1.2.2.2.2
  have Bw0 := B1
  have BBw0 := BB
  clear B1 BB
  have hk0 : (0 : Int) < (k : Int) := by omega
  refine wpB_take (i := 0) (d := 5) (v := ?v2x0) rfl rfl (by kernel_rfl) (by kernel_rfl) (by kernel_rfl) (fun _ _ _ h => h) (by rfl) ?y2x0 ?r2x0
  case y2x0 => (intro w' hSw; go_simp; try (with_reducible rfl))
  simp only [Act.put, List.setIfInBounds_toArray, List.set_cons_zero, List.set_cons_succ]
  refine wpB_take (i := 1) (d := 6) (v := ?v2x1) rfl rfl (by kernel_rfl) (by kernel_rfl) (by kernel_rfl) (fun _ _ _ h => h) (by rfl) ?y2x1 ?r2x1
  case y2x1 => (intro w' hSw; go_simp; try (with_reducible rfl))
  simp only [Act.put, List.setIfInBounds_toArray, List.set_cons_zero, List.set_cons_succ]
  refine wpB_take (i := 2) (d := 7) (v := ?v2x2) rfl rfl (by kernel_rfl) (by kernel_rfl) (by kernel_rfl) (fun _ _ _ h => h) (by rfl) ?y2x2 ?r2x2
  case y2x2 => (intro w' hSw; go_simp; try (with_reducible rfl))
  simp only [Act.put, List.setIfInBounds_toArray, List.set_cons_zero, List.set_cons_succ]
  refine wpB_take (i := 3) (d := 8) (v := ?v2x3) rfl rfl (by kernel_rfl) (by kernel_rfl) (by kernel_rfl) (fun _ _ _ h => h) (by rfl) ?y2x3 ?r2x3
  case y2x3 => (intro w' hSw; go_simp; try (with_reducible rfl))
  simp only [Act.put, List.setIfInBounds_toArray, List.set_cons_zero, List.set_cons_succ]
  refine wpB_take (i := 4) (d := 9) (v := ?v2x4) rfl rfl (by kernel_rfl) (by kernel_rfl) (by kernel_rfl) (fun _ _ _ h => h) (by rfl) ?y2x4 ?r2x4
  case y2x4 => (intro w' hSw; go_simp; try (with_reducible rfl))
  simp only [Act.put, List.setIfInBounds_toArray, List.set_cons_zero, List.set_cons_succ]
  refine wpB_do (i := 5) (by kernel_rfl) rfl (by rfl) (fun K hK => ?_)
  go_simp
  refine (pointer_any (cap : Int) (safe : Int) blk k n A c false w0 HZ.out.h1 HZ.out.h2 HZ.out.hk HZ.out.hn).mono ?_
  rintro e w3 ⟨rfl, hb3⟩
  have Bw3 := Bw0.later hb3
  have BBw3 := Lib.hid (BBw0.out.trans (hb3.mono BBw0.out.size))
  refine hK.out _ _ _ hb3.size hb3 ?_
  clear hK K hb3 q0 q1 q2 q3 q4 BBw0 Bw0
  have q0 : ∀ w', Below w3.heap.size w3 w' → w'.cell? ⟨w.heap.size, 0, none⟩ = some (.int .i64 (cap : Int)) := fun w' h => (box5 (Bw3.later h)).1.1
  have q1 : ∀ w', Below w3.heap.size w3 w' → w'.cell? ⟨w.heap.size, 1, none⟩ = some (.int .i64 (blk : Int)) := fun w' h => (box5 (Bw3.later h)).1.2.1
  have q2 : ∀ w', Below w3.heap.size w3 w' → w'.cell? ⟨w.heap.size, 2, none⟩ = some (.slice A n c) := fun w' h => (box5 (Bw3.later h)).1.2.2.1
  have q3 : ∀ w', Below w3.heap.size w3 w' → w'.cell? ⟨w.heap.size, 3, none⟩ = some (.int .i64 (safe : Int)) := fun w' h => (box5 (Bw3.later h)).1.2.2.2.1
  have q4 : ∀ w', Below w3.heap.size w3 w' → w'.cell? ⟨w.heap.size, 4, none⟩ = some (.bool false) := fun w' h => (box5 (Bw3.later h)).1.2.2.2.2
  refine wpB_take (i := 6) (d := 11) (v := ?v2x6) rfl rfl (by kernel_rfl) (by kernel_rfl) (by kernel_rfl) (fun _ _ _ h => h) (by rfl) ?y2x6 ?r2x6
  case y2x6 => (intro w' hSw; go_simp; try (with_reducible rfl))
  simp only [Act.put, List.setIfInBounds_toArray, List.set_cons_zero, List.set_cons_succ]
  refine wpB_take (i := 7) (d := 12) (v := ?v2x7) rfl rfl (by kernel_rfl) (by kernel_rfl) (by kernel_rfl) (fun _ _ _ h => h) (by rfl) ?y2x7 ?r2x7
  case y2x7 => (intro w' hSw; go_simp; try (with_reducible rfl))
  simp only [Act.put, List.setIfInBounds_toArray, List.set_cons_zero, List.set_cons_succ]
  refine wpB_take (i := 8) (d := 13) (v := ?v2x8) rfl rfl (by kernel_rfl) (by kernel_rfl) (by kernel_rfl) (fun _ _ _ h => h) (by rfl) ?y2x8 ?r2x8
  case y2x8 => (intro w' hSw; go_simp; try (with_reducible rfl))
  simp only [Act.put, List.setIfInBounds_toArray, List.set_cons_zero, List.set_cons_succ]
  refine wpB_take (i := 9) (d := 14) (v := ?v2x9) rfl rfl (by kernel_rfl) (by kernel_rfl) (by kernel_rfl) (fun _ _ _ h => h) (by rfl) ?y2x9 ?r2x9
  case y2x9 => (intro w' hSw; go_simp; try (with_reducible rfl))
  simp only [Act.put, List.setIfInBounds_toArray, List.set_cons_zero, List.set_cons_succ]
  refine wpB_take (i := 11) (d := 16) (v := ?v2x11) rfl rfl (by kernel_rfl) (by kernel_rfl) (by kernel_rfl) (fun _ _ _ h => h) (by rfl) ?y2x11 ?r2x11
  case y2x11 => (intro w' hSw; go_simp; try (with_reducible rfl))
  simp only [Act.put, List.setIfInBounds_toArray, List.set_cons_zero, List.set_cons_succ]
  refine wpB_take (i := 12) (d := 17) (v := ?v2x12) rfl rfl (by kernel_rfl) (by kernel_rfl) (by kernel_rfl) (fun _ _ _ h => h) (by rfl) ?y2x12 ?r2x12
  case y2x12 => (intro w' hSw; go_simp; try (with_reducible rfl))
  simp only [Act.put, List.setIfInBounds_toArray, List.set_cons_zero, List.set_cons_succ]
  refine wpB_do (i := 10) (by kernel_rfl) rfl (by rfl) (fun K hK => ?_)
  go_simp
  refine (pointer_any (cap : Int) (safe : Int) blk k n A c false w3 HZ.out.h1 HZ.out.h2 HZ.out.hk HZ.out.hn).mono ?_
  rintro e w4 ⟨rfl, hb3⟩
  have Bw4 := Bw3.later hb3
  have BBw4 := Lib.hid (BBw3.out.trans (hb3.mono BBw3.out.size))
  refine hK.out _ _ _ hb3.size hb3 ?_
  clear hK K hb3 q0 q1 q2 q3 q4 BBw3 Bw3
  refine wpB_take (i := 13) (d := 18) (v := ?v2x13) rfl rfl (by kernel_rfl) (by kernel_rfl) (by kernel_rfl) (fun _ _ _ h => h) (by rfl) ?y2x13 ?r2x13
  case y2x13 => (intro w' hSw; go_simp; try (with_reducible rfl))
  simp only [Act.put, List.setIfInBounds_toArray, List.set_cons_zero, List.set_cons_succ]
  refine wpB_take (i := 14) (d := 19) (v := ?v2x14) rfl rfl (by kernel_rfl) (by kernel_rfl) (by kernel_rfl) (fun _ _ _ h => h) (by rfl) ?y2x14 ?r2x14
  case y2x14 => (intro w' hSw; go_simp; try (with_reducible rfl))
  simp only [Act.put, List.setIfInBounds_toArray, List.set_cons_zero, List.set_cons_succ]
  refine wpB_take (i := 15) (d := 2) (v := ?v2x15) rfl rfl (by kernel_rfl) (by kernel_rfl) (by kernel_rfl) (fun _ _ _ h => h) (by rfl) ?y2x15 ?r2x15
  case y2x15 => (intro w' hSw; go_simp; try (with_reducible rfl))
  simp only [Act.put, List.setIfInBounds_toArray, List.set_cons_zero, List.set_cons_succ]
  refine wpB_done (by kernel_rfl) ?_
  go_wp2
  go_ret
  exact ⟨by simp [*], BBw4.out⟩

/-- Whether a zone is in use. -/
def actB (cap k : Nat) (done : Bool) : Bool := !done && decide (0 < k) && decide (k < cap)
theorem active_any {cap blk k safe n c : Nat} (A : Option Addr) (done : Bool) (w : World) (z : Zok cap blk k safe n c) :
    Calls Try.prog 67 #[.agg #[.int .i64 (cap : Int), .int .i64 (blk : Int), .slice A n c, .int .i64 (safe : Int), .bool done]] w fun e w' => e = .returned (.bool (actB cap k done)) ∧ Below w.heap.size w w' := by
  cases done
  · by_cases h0 : k = 0
    · have e : actB cap k false = false := by simp [actB, h0]
      rw [e]
      exact active_none A w z h0
    · have e : actB cap k false = decide (k < cap) := by simp [actB]; omega
      rw [e]
      exact active_some A w z (by omega)
  · exact active_done A w z

set_option maxHeartbeats 400000 in
theorem reset_any {cap blk k safe n c : Nat} (A : Option Addr) (done : Bool) (w : World) (z : Zok cap blk k safe n c) :
    Calls Try.prog 61 #[.agg #[.int .i64 (cap : Int), .int .i64 (blk : Int), .slice A n c, .int .i64 (safe : Int), .bool done]] w (GaveZ cap blk 0 false [] w) := by
  have HZ := Lib.hid z
  clear z
  go_enter Try.func61, Try.ntmps61
  go_wp2_with fail
  refine (new_exact cap blk _).mono ?_
  rintro e w' ⟨rfl, rfl⟩
  rw [fit_id cap HZ.out.c1 HZ.out.c2, fit_id blk HZ.out.h1 HZ.out.h2]
  go_wp2
  exact bodyPost_ret (v := .agg #[.int .i64 (cap : Int), .int .i64 (blk : Int), .slice none 0 0, .int .i64 0, .bool false]) (by simp [results, Try.results61, go_sem]) rfl ⟨none, 0, rfl, Mem.nil, Nat.le_refl _, (by repeat (first | with_reducible exact Below.refl _ _ | with_reducible refine Below.drew ?_ | with_reducible refine Below.alloc ?_ (by first | (simp; done) | (simp; omega)) _ | with_reducible refine Below.setCell ?_ (by first | (simp; done) | (simp; omega)) _))⟩

set_option maxHeartbeats 400000 in
theorem finish_any {cap blk k safe c : Nat} (A : Option Addr) (D : List UInt8) (done : Bool) (w : World) (z : Zok cap blk k safe D.length c) (hr : Mem 5 w A (cBs D)) :
    Calls Try.prog 62 #[.agg #[.int .i64 (cap : Int), .int .i64 (blk : Int), .slice A D.length c, .int .i64 (safe : Int), .bool done]] w (GaveZ cap blk k true D w) := by
  have HZ := Lib.hid z
  have HR := Lib.hid hr
  clear z hr
  go_enter Try.func62, Try.ntmps62
  go_wp2_with fail
  refine (flush_any A D done _ HZ.out ((HR.out.later ((Below.refl _ _).alloc (Nat.le_refl _) _)).later ((Below.refl _ _).alloc (Nat.le_refl _) _))).mono ?_
  rintro e w1 ⟨A1, c1, rfl, hr1, hc1, hb1⟩
  obtain ⟨b1, b2, hbw⟩ := two_boxes hb1 (by simp)
  obtain ⟨⟨q0, q1, q2, q3, q4⟩, f0, f1, f2, f3, f4⟩ := box5 b1
  obtain ⟨⟨p0, p1, p2, p3, p4⟩, g0, g1, g2, g3, g4⟩ := box5 b2
  have HM := Lib.hid (And.intro hr1 (And.intro hc1 (And.intro hbw (And.intro b1 b2))))
  clear hb1 hbw b1 b2 hr1 hc1
  go_upto_region 2 with fail
  have hp := put5 HM.out.2.2.2.1 (.int .i64 (cap : Int)) (.int .i64 (blk : Int)) (.slice A1 D.length c1) (.int .i64 (k : Int)) (.bool done)
  generalize (((((w1.setCell ⟨w.heap.size, 0, none⟩ (.int .i64 (cap : Int))).setCell ⟨w.heap.size, 1, none⟩ (.int .i64 (blk : Int))).setCell ⟨w.heap.size, 2, none⟩ (.slice A1 D.length c1)).setCell ⟨w.heap.size, 3, none⟩ (.int .i64 (k : Int))).setCell ⟨w.heap.size, 4, none⟩ (.bool done)) = w2 at hp ⊢
  have HM2 : Hid (Mem 5 w2 A1 (cBs D) ∧ D.length ≤ c1 ∧ Below w.heap.size w w2 ∧ Box w2 w.heap.size 74 _ ∧ Box w2 (w.heap.size + 1) 74 _) :=
    ⟨HM.out.1.turn hp.2 (fun g hg => by obtain rfl : g = w.heap.size := by simpa using hg
                                        exact HM.out.2.2.2.1.else_ (by decide)), HM.out.2.1, HM.out.2.2.1.trans (hp.2.below (by simp) HM.out.2.2.1.size), hp.1, HM.out.2.2.2.2.turn hp.2 (by simp)⟩
  clear hp HM q0 q1 q2 q3 q4 f0 f1 f2 f3 f4 p0 p1 p2 p3 p4 g0 g1 g2 g3 g4
  obtain ⟨⟨q0, q1, q2, q3, q4⟩, f0, f1, f2, f3, f4⟩ := box5 HM2.out.2.2.2.1
  obtain ⟨⟨p0, p1, p2, p3, p4⟩, g0, g1, g2, g3, g4⟩ := box5 HM2.out.2.2.2.2
  have hsz := HM2.out.2.2.2.2.lt
  go_wp2
  refine bodyPost_ret (v := .agg #[.int .i64 (cap : Int), .int .i64 (blk : Int), .slice A1 D.length c1, .int .i64 (k : Int), .bool true]) (by simp [results, Try.results62, go_sem, *]) rfl ?_
  refine ⟨A1, c1, rfl, HM2.out.1.turn (gs := [w.heap.size, w.heap.size + 1]) ?_ ?_, HM2.out.2.1, HM2.out.2.2.1.trans (by repeat (first | with_reducible exact Below.refl _ _ | with_reducible refine Below.drew ?_ | with_reducible refine Below.alloc ?_ (by first | (simp; done) | (simp; omega)) _ | with_reducible refine Below.setCell ?_ (by first | (simp; done) | (simp; omega)) _))⟩
  · repeat (first | with_reducible exact Turn.refl _ _ | with_reducible refine Turn.put ?_ (by simp) _ | with_reducible refine Turn.alloc ?_ _ | with_reducible refine Turn.drew ?_)
  · simp only [List.mem_cons, List.not_mem_nil, or_false]
    rintro g (rfl | rfl)
    · exact HM2.out.2.2.2.1.else_ (by decide)
    · exact HM2.out.2.2.2.2.else_ (by decide)
end Go.Proofs.Ytbaolfncolfipaa
