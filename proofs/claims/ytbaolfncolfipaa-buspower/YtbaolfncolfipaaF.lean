/- Contracts of zone.Crash, Active, Append, Read, Reset, Finish. -/
import Derived.Test.YtbaolfncolfipaaE
namespace Go.Proofs.Ytbaolfncolfipaa
set_option linter.unusedVariables false
set_option linter.unusedSimpArgs false
open Go.RowKit
open Go.RowKit (wrap64)

set_option maxHeartbeats 1000000 in
theorem crash_any {cap blk k safe c : Nat} (A : Option Addr) (D : List UInt8) (done : Bool) (keep : Int) (w : World) (z : Zok cap blk k safe D.length c) (hr : Mem 5 w A (cBs D)) :
    Calls Try.prog 51 #[.agg #[.int .i64 (cap : Int), .int .i64 (blk : Int), .slice A D.length c, .int .i64 (safe : Int), .bool done], .int .i64 keep] w (GaveZ cap blk (safe + keep.toNat % (k - safe + 1)) done (D.take ((safe + keep.toNat % (k - safe + 1)) * blk)) w) := by
  have HZ := Lib.hid z
  have HR := Lib.hid hr
  have hs := z.hs
  have hkb : k ≤ 4096 := Nat.le_trans z.hc z.c2
  obtain ⟨kp, hkp, hmx⟩ : ∃ kp : Nat, keep.toNat = kp ∧ (if keep < 0 then 0 else keep) = (kp : Int) := ⟨keep.toNat, rfl, by split <;> omega⟩
  obtain ⟨d1, hd1, hd2⟩ : ∃ d1 : Nat, d1 = k - safe + 1 ∧ 1 ≤ d1 := ⟨_, rfl, by omega⟩
  have hsub : IntKind.i64.wrap ((k : Int) - (safe : Int)) = ((k - safe : Nat) : Int) := by rw [IntWalk.i64_in _ (by omega)]; omega
  have hadd : IntKind.i64.wrap (((k - safe : Nat) : Int) + 1) = (d1 : Int) := by rw [IntWalk.i64_in _ (by omega)]; omega
  have hrem : (kp : Int) % (d1 : Int) = ((kp % d1 : Nat) : Int) := by simp
  have hre2 : (kp : Int).tmod (d1 : Int) = ((kp % d1 : Nat) : Int) := by rw [Int.tmod_eq_emod_of_nonneg (by omega)]; simp
  have hlt := Nat.mod_lt kp (show 0 < d1 by omega)
  have hd0 : ¬ d1 = 0 := by omega
  rw [hkp, ← hd1]
  generalize kp % d1 = r at hrem hre2 hlt ⊢
  have hsum : IntKind.i64.wrap ((safe : Int) + (r : Int)) = ((safe + r : Nat) : Int) := by rw [IntWalk.i64_in _ (by omega)]; omega
  have hjk : safe + r ≤ k := by omega
  have HJ : Hid ((safe + r) * blk ≤ D.length) := by
    show (safe + r) * blk ≤ D.length
    rw [z.hk]; exact Nat.mul_le_mul_right _ hjk
  generalize safe + r = j at hsum HJ ⊢
  generalize k - safe = d at hsub hadd
  clear z hr hkp hd1 hs hjk
  go_enter Try.func51, Try.ntmps51
  go_wp2_with fail
  refine (sound_any A done _ HZ.out).mono ?_
  rintro e w1 ⟨rfl, hb1⟩
  obtain ⟨b1, b2, hbw⟩ := two_boxes hb1 (by simp)
  obtain ⟨⟨q0, q1, q2, q3, q4⟩, f0, f1, f2, f3, f4⟩ := box5 b1
  obtain ⟨s0, s1, s2, s3, s4⟩ := self5 b1
  have HB1 := Lib.hid b1
  have HB2 := Lib.hid b2
  have HB := Lib.hid hbw
  clear hb1 hbw b1 b2
  go_wp2_with fail
  refine wpB_start (w.heap.size + 1) (by kernel_rfl) ?_
  have B1 : Box w1.drew w.heap.size 74 _ := HB1.out
  have B2 : Hid (Box w1.drew (w.heap.size + 1) 74 _) := HB2.out
  have BB : Hid (Below w.heap.size w w1.drew) := HB.out.drew
  clear HB1 HB2 HB q0 q1 q2 q3 q4 f0 f1 f2 f3 f4 s0 s1 s2 s3 s4
  generalize w1.drew = w0 at B1 B2 BB ⊢
  have q0 : ∀ w', Below (w.heap.size + 1) w0 w' → w'.cell? ⟨w.heap.size, 0, none⟩ = some (.int .i64 (cap : Int)) := fun w' h => (box5 (B1.under h (by omega))).1.1
  have q1 : ∀ w', Below (w.heap.size + 1) w0 w' → w'.cell? ⟨w.heap.size, 1, none⟩ = some (.int .i64 (blk : Int)) := fun w' h => (box5 (B1.under h (by omega))).1.2.1
  have q2 : ∀ w', Below (w.heap.size + 1) w0 w' → w'.cell? ⟨w.heap.size, 2, none⟩ = some (.slice A D.length c) := fun w' h => (box5 (B1.under h (by omega))).1.2.2.1
  have q3 : ∀ w', Below (w.heap.size + 1) w0 w' → w'.cell? ⟨w.heap.size, 3, none⟩ = some (.int .i64 (safe : Int)) := fun w' h => (box5 (B1.under h (by omega))).1.2.2.2.1
  have q4 : ∀ w', Below (w.heap.size + 1) w0 w' → w'.cell? ⟨w.heap.size, 4, none⟩ = some (.bool done) := fun w' h => (box5 (B1.under h (by omega))).1.2.2.2.2
  refine wpB_take (i := 0) (d := 8) (v := ?v2x0) rfl rfl (by kernel_rfl) (by kernel_rfl) (by kernel_rfl) (fun _ _ _ h => h) (by rfl) ?y2x0 ?r2x0
  case y2x0 => (intro w' hSw; go_simp; try (with_reducible rfl))
  simp only [Act.put, List.setIfInBounds_toArray, List.set_cons_zero, List.set_cons_succ]
  refine wpB_take (i := 2) (d := 10) (v := ?v2x2) rfl rfl (by kernel_rfl) (by kernel_rfl) (by kernel_rfl) (fun _ _ _ h => h) (by rfl) ?y2x2 ?r2x2
  case y2x2 => (intro w' hSw; go_simp; try (with_reducible rfl))
  simp only [Act.put, List.setIfInBounds_toArray, List.set_cons_zero, List.set_cons_succ]
  refine wpB_take (i := 3) (d := 11) (v := ?v2x3) rfl rfl (by kernel_rfl) (by kernel_rfl) (by kernel_rfl) (fun _ _ _ h => h) (by rfl) ?y2x3 ?r2x3
  case y2x3 => (intro w' hSw; go_simp; try (with_reducible rfl))
  simp only [Act.put, List.setIfInBounds_toArray, List.set_cons_zero, List.set_cons_succ]
  refine wpB_do (i := 1) (by kernel_rfl) rfl (by rfl) (fun K hK => ?_)
  go_simp
  refine (pointer_any (cap : Int) (safe : Int) blk k D.length A c done w0 HZ.out.h1 HZ.out.h2 HZ.out.hk HZ.out.hn).mono ?_
  rintro e w3 ⟨rfl, hb3⟩
  have B3 := Lib.hid (B2.out.later hb3)
  have B4 := Lib.hid (B1.later hb3)
  have hsz := B2.out.lt
  have BB3 := Lib.hid (BB.out.trans (hb3.mono BB.out.size))
  refine hK.out _ _ _ (Nat.le_refl _) (hb3.mono (by omega)) ?_
  clear hK K hb3 q0 q1 q2 q3 q4 BB B2 B1
  refine wpB_take (i := 4) (d := 12) (v := ?v2x4) rfl rfl (by kernel_rfl) (by kernel_rfl) (by kernel_rfl) (fun _ _ _ h => h) (by rfl) ?y2x4 ?r2x4
  case y2x4 => (intro w' hSw; go_simp; try (with_reducible rfl))
  simp only [Act.put, List.setIfInBounds_toArray, List.set_cons_zero, List.set_cons_succ]
  refine wpB_take (i := 5) (d := 5) (v := ?v2x5) rfl rfl (by kernel_rfl) (by kernel_rfl) (by kernel_rfl) (fun _ _ _ h => h) (by rfl) ?y2x5 ?r2x5
  case y2x5 => (intro w' hSw; go_simp; try (with_reducible rfl))
  simp only [Act.put, List.setIfInBounds_toArray, List.set_cons_zero, List.set_cons_succ]
  refine wpB_done (by kernel_rfl) ?_
  go_wp2_with fail
  refine wpB_start (w.heap.size + 1) (by kernel_rfl) ?_
  have B1 : Box w3.drew w.heap.size 74 _ := B4.out
  have B2 : Hid (Box w3.drew (w.heap.size + 1) 74 _) := B3.out
  have BB : Hid (Below w.heap.size w w3.drew) := BB3.out.drew
  clear B3 B4 BB3
  generalize w3.drew = w5 at B1 B2 BB ⊢
  have q0 : ∀ w', Below (w.heap.size + 1) w5 w' → w'.cell? ⟨w.heap.size, 0, none⟩ = some (.int .i64 (cap : Int)) := fun w' h => (box5 (B1.under h (by omega))).1.1
  have q1 : ∀ w', Below (w.heap.size + 1) w5 w' → w'.cell? ⟨w.heap.size, 1, none⟩ = some (.int .i64 (blk : Int)) := fun w' h => (box5 (B1.under h (by omega))).1.2.1
  have q2 : ∀ w', Below (w.heap.size + 1) w5 w' → w'.cell? ⟨w.heap.size, 2, none⟩ = some (.slice A D.length c) := fun w' h => (box5 (B1.under h (by omega))).1.2.2.1
  have q3 : ∀ w', Below (w.heap.size + 1) w5 w' → w'.cell? ⟨w.heap.size, 3, none⟩ = some (.int .i64 (safe : Int)) := fun w' h => (box5 (B1.under h (by omega))).1.2.2.2.1
  have q4 : ∀ w', Below (w.heap.size + 1) w5 w' → w'.cell? ⟨w.heap.size, 4, none⟩ = some (.bool done) := fun w' h => (box5 (B1.under h (by omega))).1.2.2.2.2
  clear B1
  refine wpB_take (i := 0) (d := 13) (v := ?v3x0) rfl rfl (by kernel_rfl) (by kernel_rfl) (by kernel_rfl) (fun _ _ _ h => h) (by rfl) ?y3x0 ?r3x0
  case y3x0 => (intro w' hSw; go_simp; try (with_reducible rfl))
  simp only [Act.put, List.setIfInBounds_toArray, List.set_cons_zero, List.set_cons_succ]
  refine wpB_take (i := 1) (d := 14) (v := ?v3x1) rfl rfl (by kernel_rfl) (by kernel_rfl) (by kernel_rfl) (fun _ _ _ h => h) (by rfl) ?y3x1 ?r3x1
  case y3x1 => (intro w' hSw; go_simp; try (with_reducible rfl))
  simp only [Act.put, List.setIfInBounds_toArray, List.set_cons_zero, List.set_cons_succ]
  refine wpB_take (i := 2) (d := 15) (v := ?v3x2) rfl rfl (by kernel_rfl) (by kernel_rfl) (by kernel_rfl) (fun _ _ _ h => h) (by rfl) ?y3x2 ?r3x2
  case y3x2 => (intro w' hSw; go_simp; try (with_reducible rfl))
  simp only [Act.put, List.setIfInBounds_toArray, List.set_cons_zero, List.set_cons_succ]
  refine wpB_take (i := 3) (d := 16) (v := ?v3x3) rfl rfl (by kernel_rfl) (by kernel_rfl) (by kernel_rfl) (fun _ _ _ h => h) (by rfl) ?y3x3 ?r3x3
  case y3x3 => (intro w' hSw; go_simp; try (with_reducible rfl))
  simp only [Act.put, List.setIfInBounds_toArray, List.set_cons_zero, List.set_cons_succ]
  refine wpB_take (i := 4) (d := 17) (v := ?v3x4) rfl rfl (by kernel_rfl) (by kernel_rfl) (by kernel_rfl) (fun _ _ _ h => h) (by rfl) ?y3x4 ?r3x4
  case y3x4 => (intro w' hSw; go_simp; try (with_reducible rfl))
  simp only [Act.put, List.setIfInBounds_toArray, List.set_cons_zero, List.set_cons_succ]
  refine wpB_take (i := 5) (d := 18) (v := ?v3x5) rfl rfl (by kernel_rfl) (by kernel_rfl) (by kernel_rfl) (fun _ _ _ h => h) (by rfl) ?y3x5 ?r3x5
  case y3x5 => (intro w' hSw; go_simp; try (with_reducible rfl))
  simp only [Act.put, List.setIfInBounds_toArray, List.set_cons_zero, List.set_cons_succ]
  refine wpB_take (i := 6) (d := 19) (v := ?v3x6) rfl rfl (by kernel_rfl) (by kernel_rfl) (by kernel_rfl) (fun _ _ _ h => h) (by rfl) ?y3x6 ?r3x6
  case y3x6 => (intro w' hSw; go_simp; try (with_reducible rfl))
  simp only [Act.put, List.setIfInBounds_toArray, List.set_cons_zero, List.set_cons_succ]
  refine wpB_take (i := 7) (d := 20) (v := ?v3x7) rfl rfl (by kernel_rfl) (by kernel_rfl) (by kernel_rfl) (fun _ _ _ h => h) (by rfl) ?y3x7 ?r3x7
  case y3x7 => (intro w' hSw; go_simp; try (with_reducible rfl))
  simp only [Act.put, List.setIfInBounds_toArray, List.set_cons_zero, List.set_cons_succ]
  refine wpB_take (i := 8) (d := 21) (v := ?v3x8) rfl rfl (by kernel_rfl) (by kernel_rfl) (by kernel_rfl) (fun _ _ _ h => h) (by rfl) ?y3x8 ?r3x8
  case y3x8 => (intro w' hSw; go_simp; try (with_reducible rfl))
  simp only [Act.put, List.setIfInBounds_toArray, List.set_cons_zero, List.set_cons_succ]
  refine wpB_do (i := 9) (by kernel_rfl) rfl (by rfl) (fun K hK => ?_)
  go_simp
  refine (settled_any (cap : Int) (safe : Int) blk j (j * blk) A D c done w5 HZ.out.h1 HZ.out.h2 rfl HJ.out HZ.out.hn HZ.out.hcn (HR.out.later BB.out)).mono ?_
  rintro e w4 ⟨A4, c4, rfl, hr4, hc4, hb4⟩
  have B4 := B2.out.later hb4
  have hsz4 := B2.out.lt
  obtain ⟨⟨p0, p1, p2, p3, p4⟩, g0, g1, g2, g3, g4⟩ := box5 B4
  have HM := Lib.hid (And.intro hr4 (And.intro hc4 (And.intro (BB.out.trans (hb4.mono BB.out.size)) B4)))
  refine hK.out _ _ _ (Nat.le_refl _) (hb4.mono (by omega)) ?_
  clear hK K hb4 hr4 hc4 BB B4 B2 q0 q1 q2 q3 q4
  refine wpB_do (i := 10) (by kernel_rfl) rfl (by rfl) (fun K hK => ?_)
  go_simp
  refine hK.out _ _ _ (Nat.le_refl _) (by repeat (first | with_reducible exact Below.refl _ _ | with_reducible refine Below.drew ?_ | with_reducible refine Below.alloc ?_ (by first | (simp; done) | (simp; omega)) _ | with_reducible refine Below.setCell ?_ (by first | (simp; done) | (simp; omega)) _)) ?_
  clear hK K
  refine wpB_done (by kernel_rfl) ?_
  go_wp2
  refine bodyPost_ret (v := .agg #[.int .i64 (cap : Int), .int .i64 (blk : Int), .slice A4 (D.take (j * blk)).length c4, .int .i64 (j : Int), .bool done]) (by simp [results, Try.results51, go_sem, *]) rfl ?_
  refine ⟨A4, c4, rfl, HM.out.1.turn (gs := [w.heap.size + 1]) ?_ ?_, HM.out.2.1, HM.out.2.2.1.trans (by repeat (first | with_reducible exact Below.refl _ _ | with_reducible refine Below.drew ?_ | with_reducible refine Below.alloc ?_ (by first | (simp; done) | (simp; omega)) _ | with_reducible refine Below.setCell ?_ (by first | (simp; done) | (simp; omega)) _))⟩
  · repeat (first | with_reducible exact Turn.refl _ _ | with_reducible refine Turn.put ?_ (by simp) _ | with_reducible refine Turn.alloc ?_ _ | with_reducible refine Turn.drew ?_)
  · intro g hg
    obtain rfl : g = w.heap.size + 1 := by simpa using hg
    exact HM.out.2.2.2.else_ (by decide)
end Go.Proofs.Ytbaolfncolfipaa
