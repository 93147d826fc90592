/- The contract of tooMany. -/
import Derived.Test.YtbaolfncolfipaaL
import Derived.Test.YtbaolfncolfipaaOrg
namespace Go.Proofs.Ytbaolfncolfipaa
set_option linter.unusedVariables false
set_option linter.unusedSimpArgs false
open Go.RowKit
open Go.RowKit (wrap64)

set_option maxHeartbeats 2000000 in
theorem tooMany_no {p zb cap blk : Nat} {limit : Int} {bad : Nat} {zs : List Zs} (i : Nat) (hi : i < zs.length) (nk nsafe nn nc : Nat) (nA : Option Addr) (ndone : Bool) (w : World) (h : DevAt w p zb cap blk limit bad zs) (hz : Zok cap blk nk nsafe nn nc) (ht : actB cap nk ndone = false) :
    Calls Try.prog 50 #[.pointer (some ⟨p, 0, none⟩), .int .i64 (i : Int), .agg #[.int .i64 (cap : Int), .int .i64 (blk : Int), .slice nA nn nc, .int .i64 (nsafe : Int), .bool ndone]] w fun e w' => e = .returned (.bool false) ∧ Below w.heap.size w w' := by
  have H := Lib.hid h
  have HZ := Lib.hid hz
  have hl := h.len
  have hn1 := nAct_le cap zs
  have HO := Lib.hid (h.ok zs[i] (List.getElem_mem hi))
  clear h hz
  go_enter Try.func50, Try.ntmps50
  go_wp2_with fail
  refine wpG_start [] (by kernel_rfl) ?_
  have bx : Box (w.alloc (.cells #[.int .i64 (cap : Int), .int .i64 (blk : Int), .slice nA nn nc, .int .i64 (nsafe : Int), .bool ndone] 74)).drew w.heap.size 74 _ := Box.fresh w 74 _
  have HBw0 : Hid (Below w.heap.size w (w.alloc (.cells #[.int .i64 (cap : Int), .int .i64 (blk : Int), .slice nA nn nc, .int .i64 (nsafe : Int), .bool ndone] 74)).drew) := ((Below.refl _ _).alloc (Nat.le_refl _) _).drew
  generalize (w.alloc (.cells #[.int .i64 (cap : Int), .int .i64 (blk : Int), .slice nA nn nc, .int .i64 (nsafe : Int), .bool ndone] 74)).drew = w0 at bx HBw0 ⊢
  have HDw0 := Lib.hid (H.out.later HBw0.out)
  clear H
  have HT := Lib.hid ht
  clear ht
  have q0 : ∀ w', Turn [] w0 w' → w'.cell? ⟨w.heap.size, 0, none⟩ = some (.int .i64 (cap : Int)) := fun w' h => (box5 (bx.turn h (by simp))).1.1
  have q1 : ∀ w', Turn [] w0 w' → w'.cell? ⟨w.heap.size, 1, none⟩ = some (.int .i64 (blk : Int)) := fun w' h => (box5 (bx.turn h (by simp))).1.2.1
  have q2 : ∀ w', Turn [] w0 w' → w'.cell? ⟨w.heap.size, 2, none⟩ = some (.slice nA nn nc) := fun w' h => (box5 (bx.turn h (by simp))).1.2.2.1
  have q3 : ∀ w', Turn [] w0 w' → w'.cell? ⟨w.heap.size, 3, none⟩ = some (.int .i64 (nsafe : Int)) := fun w' h => (box5 (bx.turn h (by simp))).1.2.2.2.1
  have q4 : ∀ w', Turn [] w0 w' → w'.cell? ⟨w.heap.size, 4, none⟩ = some (.bool ndone) := fun w' h => (box5 (bx.turn h (by simp))).1.2.2.2.2
  refine wpG_take (i := 0) (d := 7) (v := ?v1x0) rfl rfl (by kernel_rfl) (by kernel_rfl) (by kernel_rfl) (fun _ _ _ h => h) (by rfl) ?y1x0 ?r1x0
  case y1x0 => (intro w' hSw; go_simp; try (with_reducible rfl))
  simp only [Act.put, List.setIfInBounds_toArray, List.set_cons_zero, List.set_cons_succ]
  refine wpG_do (i := 1) (by kernel_rfl) rfl (by rfl) (fun K hK => ?_)
  go_simp
  refine (active_any nA ndone w0 HZ.out).mono ?_
  rintro e w1 ⟨rfl, hb⟩
  have HDw1 := Lib.hid (HDw0.out.later hb)
  have HBw1 := Lib.hid (HBw0.out.trans (hb.mono HBw0.out.size))
  refine hK.out _ _ (Turn.of_below hb (Nat.le_refl _)) ?_
  clear hK K hb q0 q1 q2 q3 q4 bx HBw0 HDw0
  rw [show actB cap nk ndone = false from HT.out]
  refine wpG_take (i := 2) (d := 9) (v := ?v1x2) rfl rfl (by kernel_rfl) (by kernel_rfl) (by kernel_rfl) (fun _ _ _ h => h) (by rfl) ?y1x2 ?r1x2
  case y1x2 => (intro w' hSw; go_simp; try (with_reducible rfl))
  simp only [Act.put, List.setIfInBounds_toArray, List.set_cons_zero, List.set_cons_succ]
  refine wpG_skip (i := 3) (d := 10) rfl rfl (by kernel_rfl) (by kernel_rfl) (by kernel_rfl) (fun _ _ _ h => h) (by rfl) ?_
  simp only [Act.put, List.setIfInBounds_toArray, List.set_cons_zero, List.set_cons_succ]
  refine wpG_skip (i := 4) (d := 11) rfl rfl (by kernel_rfl) (by kernel_rfl) (by kernel_rfl) (fun _ _ _ h => h) (by rfl) ?_
  simp only [Act.put, List.setIfInBounds_toArray, List.set_cons_zero, List.set_cons_succ]
  refine wpG_skip (i := 5) (d := 12) rfl rfl (by kernel_rfl) (by kernel_rfl) (by kernel_rfl) (fun _ _ _ h => h) (by rfl) ?_
  simp only [Act.put, List.setIfInBounds_toArray, List.set_cons_zero, List.set_cons_succ]
  refine wpG_skip (i := 6) (d := 13) rfl rfl (by kernel_rfl) (by kernel_rfl) (by kernel_rfl) (fun _ _ _ h => h) (by rfl) ?_
  simp only [Act.put, List.setIfInBounds_toArray, List.set_cons_zero, List.set_cons_succ]
  refine wpG_skip (i := 7) (d := 14) rfl rfl (by kernel_rfl) (by kernel_rfl) (by kernel_rfl) (fun _ _ _ h => h) (by rfl) ?_
  simp only [Act.put, List.setIfInBounds_toArray, List.set_cons_zero, List.set_cons_succ]
  refine wpG_skip (i := 8) (d := 15) rfl rfl (by kernel_rfl) (by kernel_rfl) (by kernel_rfl) (fun _ _ _ h => h) (by rfl) ?_
  simp only [Act.put, List.setIfInBounds_toArray, List.set_cons_zero, List.set_cons_succ]
  refine wpG_skip (i := 9) (d := 16) rfl rfl (by kernel_rfl) (by kernel_rfl) (by kernel_rfl) (fun _ _ _ h => h) (by rfl) ?_
  simp only [Act.put, List.setIfInBounds_toArray, List.set_cons_zero, List.set_cons_succ]
  refine wpG_skip (i := 10) (d := 17) rfl rfl (by kernel_rfl) (by kernel_rfl) (by kernel_rfl) (fun _ _ _ h => h) (by rfl) ?_
  simp only [Act.put, List.setIfInBounds_toArray, List.set_cons_zero, List.set_cons_succ]
  refine wpG_skip (i := 11) (d := 18) rfl rfl (by kernel_rfl) (by kernel_rfl) (by kernel_rfl) (fun _ _ _ h => h) (by rfl) ?_
  simp only [Act.put, List.setIfInBounds_toArray, List.set_cons_zero, List.set_cons_succ]
  refine wpG_take (i := 12) (d := 19) (v := ?v1x12) rfl rfl (by kernel_rfl) (by kernel_rfl) (by kernel_rfl) (fun _ _ _ h => h) (by rfl) ?y1x12 ?r1x12
  case y1x12 => (intro w' hSw; go_simp; try (with_reducible rfl))
  simp only [Act.put, List.setIfInBounds_toArray, List.set_cons_zero, List.set_cons_succ]
  refine wpG_take (i := 13) (d := 20) (v := ?v1x13) rfl rfl (by kernel_rfl) (by kernel_rfl) (by kernel_rfl) (fun _ _ _ h => h) (by rfl) ?y1x13 ?r1x13
  case y1x13 => (intro w' hSw; go_simp; try (with_reducible rfl))
  simp only [Act.put, List.setIfInBounds_toArray, List.set_cons_zero, List.set_cons_succ]
  refine wpG_skip (i := 14) (d := 21) rfl rfl (by kernel_rfl) (by kernel_rfl) (by kernel_rfl) (fun _ _ _ h => h) (by rfl) ?_
  simp only [Act.put, List.setIfInBounds_toArray, List.set_cons_zero, List.set_cons_succ]
  refine wpG_skip (i := 16) (d := 23) rfl rfl (by kernel_rfl) (by kernel_rfl) (by kernel_rfl) (fun _ _ _ h => h) (by rfl) ?_
  simp only [Act.put, List.setIfInBounds_toArray, List.set_cons_zero, List.set_cons_succ]
  refine wpG_skip (i := 17) (d := 24) rfl rfl (by kernel_rfl) (by kernel_rfl) (by kernel_rfl) (fun _ _ _ h => h) (by rfl) ?_
  simp only [Act.put, List.setIfInBounds_toArray, List.set_cons_zero, List.set_cons_succ]
  refine wpG_skip (i := 18) (d := 25) rfl rfl (by kernel_rfl) (by kernel_rfl) (by kernel_rfl) (fun _ _ _ h => h) (by rfl) ?_
  simp only [Act.put, List.setIfInBounds_toArray, List.set_cons_zero, List.set_cons_succ]
  refine wpG_skip (i := 19) (d := 26) rfl rfl (by kernel_rfl) (by kernel_rfl) (by kernel_rfl) (fun _ _ _ h => h) (by rfl) ?_
  simp only [Act.put, List.setIfInBounds_toArray, List.set_cons_zero, List.set_cons_succ]
  refine wpG_skip (i := 15) (d := 22) rfl rfl (by kernel_rfl) (by kernel_rfl) (by kernel_rfl) (fun _ _ _ h => h) (by rfl) ?_
  simp only [Act.put, List.setIfInBounds_toArray, List.set_cons_zero, List.set_cons_succ]
  refine wpG_skip (i := 20) (d := 27) rfl rfl (by kernel_rfl) (by kernel_rfl) (by kernel_rfl) (fun _ _ _ h => h) (by rfl) ?_
  simp only [Act.put, List.setIfInBounds_toArray, List.set_cons_zero, List.set_cons_succ]
  refine wpG_take (i := 21) (d := 28) (v := ?v1x21) rfl rfl (by kernel_rfl) (by kernel_rfl) (by kernel_rfl) (fun _ _ _ h => h) (by rfl) ?y1x21 ?r1x21
  case y1x21 => (intro w' hSw; go_simp; try (with_reducible rfl))
  simp only [Act.put, List.setIfInBounds_toArray, List.set_cons_zero, List.set_cons_succ]
  refine wpG_take (i := 22) (d := 6) (v := ?v1x22) rfl rfl (by kernel_rfl) (by kernel_rfl) (by kernel_rfl) (fun _ _ _ h => h) (by rfl) ?y1x22 ?r1x22
  case y1x22 => (intro w' hSw; go_simp; try (with_reducible rfl))
  simp only [Act.put, List.setIfInBounds_toArray, List.set_cons_zero, List.set_cons_succ]
  refine wpG_done (by kernel_rfl) ?_
  go_wp2
  go_ret
  exact ⟨rfl, HBw1.out⟩

set_option maxHeartbeats 2000000 in
theorem tooMany_was {p zb cap blk : Nat} {limit : Int} {bad : Nat} {zs : List Zs} (i : Nat) (hi : i < zs.length) (nk nsafe nn nc : Nat) (nA : Option Addr) (ndone : Bool) (w : World) (h : DevAt w p zb cap blk limit bad zs) (hz : Zok cap blk nk nsafe nn nc) (ht : actB cap nk ndone = true) (hu : actB cap zs[i].k zs[i].done = true) :
    Calls Try.prog 50 #[.pointer (some ⟨p, 0, none⟩), .int .i64 (i : Int), .agg #[.int .i64 (cap : Int), .int .i64 (blk : Int), .slice nA nn nc, .int .i64 (nsafe : Int), .bool ndone]] w fun e w' => e = .returned (.bool false) ∧ Below w.heap.size w w' := by
  have H := Lib.hid h
  have HZ := Lib.hid hz
  have hl := h.len
  have hn1 := nAct_le cap zs
  have HO := Lib.hid (h.ok zs[i] (List.getElem_mem hi))
  clear h hz
  go_enter Try.func50, Try.ntmps50
  go_wp2_with fail
  refine wpG_start [] (by kernel_rfl) ?_
  have bx : Box (w.alloc (.cells #[.int .i64 (cap : Int), .int .i64 (blk : Int), .slice nA nn nc, .int .i64 (nsafe : Int), .bool ndone] 74)).drew w.heap.size 74 _ := Box.fresh w 74 _
  have HBw0 : Hid (Below w.heap.size w (w.alloc (.cells #[.int .i64 (cap : Int), .int .i64 (blk : Int), .slice nA nn nc, .int .i64 (nsafe : Int), .bool ndone] 74)).drew) := ((Below.refl _ _).alloc (Nat.le_refl _) _).drew
  generalize (w.alloc (.cells #[.int .i64 (cap : Int), .int .i64 (blk : Int), .slice nA nn nc, .int .i64 (nsafe : Int), .bool ndone] 74)).drew = w0 at bx HBw0 ⊢
  have HDw0 := Lib.hid (H.out.later HBw0.out)
  clear H
  have HT := Lib.hid ht
  have HU := Lib.hid hu
  clear ht hu
  have q0 : ∀ w', Turn [] w0 w' → w'.cell? ⟨w.heap.size, 0, none⟩ = some (.int .i64 (cap : Int)) := fun w' h => (box5 (bx.turn h (by simp))).1.1
  have q1 : ∀ w', Turn [] w0 w' → w'.cell? ⟨w.heap.size, 1, none⟩ = some (.int .i64 (blk : Int)) := fun w' h => (box5 (bx.turn h (by simp))).1.2.1
  have q2 : ∀ w', Turn [] w0 w' → w'.cell? ⟨w.heap.size, 2, none⟩ = some (.slice nA nn nc) := fun w' h => (box5 (bx.turn h (by simp))).1.2.2.1
  have q3 : ∀ w', Turn [] w0 w' → w'.cell? ⟨w.heap.size, 3, none⟩ = some (.int .i64 (nsafe : Int)) := fun w' h => (box5 (bx.turn h (by simp))).1.2.2.2.1
  have q4 : ∀ w', Turn [] w0 w' → w'.cell? ⟨w.heap.size, 4, none⟩ = some (.bool ndone) := fun w' h => (box5 (bx.turn h (by simp))).1.2.2.2.2
  refine wpG_take (i := 0) (d := 7) (v := ?v1x0) rfl rfl (by kernel_rfl) (by kernel_rfl) (by kernel_rfl) (fun _ _ _ h => h) (by rfl) ?y1x0 ?r1x0
  case y1x0 => (intro w' hSw; go_simp; try (with_reducible rfl))
  simp only [Act.put, List.setIfInBounds_toArray, List.set_cons_zero, List.set_cons_succ]
  refine wpG_do (i := 1) (by kernel_rfl) rfl (by rfl) (fun K hK => ?_)
  go_simp
  refine (active_any nA ndone w0 HZ.out).mono ?_
  rintro e w1 ⟨rfl, hb⟩
  have HDw1 := Lib.hid (HDw0.out.later hb)
  have HBw1 := Lib.hid (HBw0.out.trans (hb.mono HBw0.out.size))
  refine hK.out _ _ (Turn.of_below hb (Nat.le_refl _)) ?_
  clear hK K hb q0 q1 q2 q3 q4 bx HBw0 HDw0
  rw [show actB cap nk ndone = true from HT.out]
  have p0 : ∀ w', Turn [] w1 w' → w'.cell? ⟨p, 0, none⟩ = some (.slice (some ⟨zb, 0, none⟩) zs.length zs.length) := fun w' h => (box4 (HDw1.out.turn h (by simp) (by simp) (by simp)).bp).1.1
  have p1 : ∀ w', Turn [] w1 w' → w'.cell? ⟨p, 1, none⟩ = some (.int .i64 limit) := fun w' h => (box4 (HDw1.out.turn h (by simp) (by simp) (by simp)).bp).1.2.1
  have c0 : ∀ w', Turn [] w1 w' → w'.cell? ⟨zb, i * 5, none⟩ = some (.int .i64 (cap : Int)) := fun w' h => ((HDw1.out.turn h (by simp) (by simp) (by simp)).zone hi).1.1
  have c1 : ∀ w', Turn [] w1 w' → w'.cell? ⟨zb, i * 5 + 1, none⟩ = some (.int .i64 (blk : Int)) := fun w' h => ((HDw1.out.turn h (by simp) (by simp) (by simp)).zone hi).1.2.1
  have c2 : ∀ w', Turn [] w1 w' → w'.cell? ⟨zb, i * 5 + 2, none⟩ = some (.slice zs[i].A zs[i].D.length zs[i].c) := fun w' h => ((HDw1.out.turn h (by simp) (by simp) (by simp)).zone hi).1.2.2.1
  have c3 : ∀ w', Turn [] w1 w' → w'.cell? ⟨zb, i * 5 + 3, none⟩ = some (.int .i64 (zs[i].safe : Int)) := fun w' h => ((HDw1.out.turn h (by simp) (by simp) (by simp)).zone hi).1.2.2.2.1
  have c4 : ∀ w', Turn [] w1 w' → w'.cell? ⟨zb, i * 5 + 4, none⟩ = some (.bool zs[i].done) := fun w' h => ((HDw1.out.turn h (by simp) (by simp) (by simp)).zone hi).1.2.2.2.2
  refine wpG_take (i := 2) (d := 9) (v := ?v1x2) rfl rfl (by kernel_rfl) (by kernel_rfl) (by kernel_rfl) (fun _ _ _ h => h) (by rfl) ?y1x2 ?r1x2
  case y1x2 => (intro w' hSw; go_simp; try (with_reducible rfl))
  simp only [Act.put, List.setIfInBounds_toArray, List.set_cons_zero, List.set_cons_succ]
  refine wpG_take (i := 3) (d := 10) (v := ?v1x3) rfl rfl (by kernel_rfl) (by kernel_rfl) (by kernel_rfl) (fun _ _ _ h => h) (by rfl) ?y1x3 ?r1x3
  case y1x3 => (intro w' hSw; go_simp; try (with_reducible rfl))
  simp only [Act.put, List.setIfInBounds_toArray, List.set_cons_zero, List.set_cons_succ]
  refine wpG_take (i := 4) (d := 11) (v := ?v1x4) rfl rfl (by kernel_rfl) (by kernel_rfl) (by kernel_rfl) (fun _ _ _ h => h) (by rfl) ?y1x4 ?r1x4
  case y1x4 => (intro w' hSw; go_simp; try (with_reducible rfl))
  simp only [Act.put, List.setIfInBounds_toArray, List.set_cons_zero, List.set_cons_succ]
  refine wpG_take (i := 5) (d := 12) (v := ?v1x5) rfl rfl (by kernel_rfl) (by kernel_rfl) (by kernel_rfl) (fun _ _ _ h => h) (by rfl) ?y1x5 ?r1x5
  case y1x5 => (intro w' hSw; go_simp; try (with_reducible rfl))
  simp only [Act.put, List.setIfInBounds_toArray, List.set_cons_zero, List.set_cons_succ]
  refine wpG_take (i := 6) (d := 13) (v := ?v1x6) rfl rfl (by kernel_rfl) (by kernel_rfl) (by kernel_rfl) (fun _ _ _ h => h) (by rfl) ?y1x6 ?r1x6
  case y1x6 => (intro w' hSw; go_simp; try (with_reducible rfl))
  simp only [Act.put, List.setIfInBounds_toArray, List.set_cons_zero, List.set_cons_succ]
  refine wpG_take (i := 7) (d := 14) (v := ?v1x7) rfl rfl (by kernel_rfl) (by kernel_rfl) (by kernel_rfl) (fun _ _ _ h => h) (by rfl) ?y1x7 ?r1x7
  case y1x7 => (intro w' hSw; go_simp; try (with_reducible rfl))
  simp only [Act.put, List.setIfInBounds_toArray, List.set_cons_zero, List.set_cons_succ]
  refine wpG_take (i := 8) (d := 15) (v := ?v1x8) rfl rfl (by kernel_rfl) (by kernel_rfl) (by kernel_rfl) (fun _ _ _ h => h) (by rfl) ?y1x8 ?r1x8
  case y1x8 => (intro w' hSw; go_simp; try (with_reducible rfl))
  simp only [Act.put, List.setIfInBounds_toArray, List.set_cons_zero, List.set_cons_succ]
  refine wpG_take (i := 9) (d := 16) (v := ?v1x9) rfl rfl (by kernel_rfl) (by kernel_rfl) (by kernel_rfl) (fun _ _ _ h => h) (by rfl) ?y1x9 ?r1x9
  case y1x9 => (intro w' hSw; go_simp; try (with_reducible rfl))
  simp only [Act.put, List.setIfInBounds_toArray, List.set_cons_zero, List.set_cons_succ]
  refine wpG_do (i := 10) (by kernel_rfl) rfl (by rfl) (fun K hK => ?_)
  go_simp
  refine (active_any zs[i].A zs[i].done w1 HO.out).mono ?_
  rintro e w2 ⟨rfl, hb⟩
  have HDw2 := Lib.hid (HDw1.out.later hb)
  have HBw2 := Lib.hid (HBw1.out.trans (hb.mono HBw1.out.size))
  refine hK.out _ _ (Turn.of_below hb (Nat.le_refl _)) ?_
  clear hK K hb p0 p1 c0 c1 c2 c3 c4 HBw1 HDw1
  rw [show actB cap zs[i].k zs[i].done = true from HU.out]
  refine wpG_take (i := 11) (d := 18) (v := ?v1x11) rfl rfl (by kernel_rfl) (by kernel_rfl) (by kernel_rfl) (fun _ _ _ h => h) (by rfl) ?y1x11 ?r1x11
  case y1x11 => (intro w' hSw; go_simp; try (with_reducible rfl))
  simp only [Act.put, List.setIfInBounds_toArray, List.set_cons_zero, List.set_cons_succ]
  refine wpG_take (i := 12) (d := 19) (v := ?v1x12) rfl rfl (by kernel_rfl) (by kernel_rfl) (by kernel_rfl) (fun _ _ _ h => h) (by rfl) ?y1x12 ?r1x12
  case y1x12 => (intro w' hSw; go_simp; try (with_reducible rfl))
  simp only [Act.put, List.setIfInBounds_toArray, List.set_cons_zero, List.set_cons_succ]
  refine wpG_take (i := 13) (d := 20) (v := ?v1x13) rfl rfl (by kernel_rfl) (by kernel_rfl) (by kernel_rfl) (fun _ _ _ h => h) (by rfl) ?y1x13 ?r1x13
  case y1x13 => (intro w' hSw; go_simp; try (with_reducible rfl))
  simp only [Act.put, List.setIfInBounds_toArray, List.set_cons_zero, List.set_cons_succ]
  refine wpG_skip (i := 14) (d := 21) rfl rfl (by kernel_rfl) (by kernel_rfl) (by kernel_rfl) (fun _ _ _ h => h) (by rfl) ?_
  simp only [Act.put, List.setIfInBounds_toArray, List.set_cons_zero, List.set_cons_succ]
  refine wpG_skip (i := 16) (d := 23) rfl rfl (by kernel_rfl) (by kernel_rfl) (by kernel_rfl) (fun _ _ _ h => h) (by rfl) ?_
  simp only [Act.put, List.setIfInBounds_toArray, List.set_cons_zero, List.set_cons_succ]
  refine wpG_skip (i := 17) (d := 24) rfl rfl (by kernel_rfl) (by kernel_rfl) (by kernel_rfl) (fun _ _ _ h => h) (by rfl) ?_
  simp only [Act.put, List.setIfInBounds_toArray, List.set_cons_zero, List.set_cons_succ]
  refine wpG_skip (i := 18) (d := 25) rfl rfl (by kernel_rfl) (by kernel_rfl) (by kernel_rfl) (fun _ _ _ h => h) (by rfl) ?_
  simp only [Act.put, List.setIfInBounds_toArray, List.set_cons_zero, List.set_cons_succ]
  refine wpG_skip (i := 19) (d := 26) rfl rfl (by kernel_rfl) (by kernel_rfl) (by kernel_rfl) (fun _ _ _ h => h) (by rfl) ?_
  simp only [Act.put, List.setIfInBounds_toArray, List.set_cons_zero, List.set_cons_succ]
  refine wpG_skip (i := 15) (d := 22) rfl rfl (by kernel_rfl) (by kernel_rfl) (by kernel_rfl) (fun _ _ _ h => h) (by rfl) ?_
  simp only [Act.put, List.setIfInBounds_toArray, List.set_cons_zero, List.set_cons_succ]
  refine wpG_skip (i := 20) (d := 27) rfl rfl (by kernel_rfl) (by kernel_rfl) (by kernel_rfl) (fun _ _ _ h => h) (by rfl) ?_
  simp only [Act.put, List.setIfInBounds_toArray, List.set_cons_zero, List.set_cons_succ]
  refine wpG_take (i := 21) (d := 28) (v := ?v1x21) rfl rfl (by kernel_rfl) (by kernel_rfl) (by kernel_rfl) (fun _ _ _ h => h) (by rfl) ?y1x21 ?r1x21
  case y1x21 => (intro w' hSw; go_simp; try (with_reducible rfl))
  simp only [Act.put, List.setIfInBounds_toArray, List.set_cons_zero, List.set_cons_succ]
  refine wpG_take (i := 22) (d := 6) (v := ?v1x22) rfl rfl (by kernel_rfl) (by kernel_rfl) (by kernel_rfl) (fun _ _ _ h => h) (by rfl) ?y1x22 ?r1x22
  case y1x22 => (intro w' hSw; go_simp; try (with_reducible rfl))
  simp only [Act.put, List.setIfInBounds_toArray, List.set_cons_zero, List.set_cons_succ]
  refine wpG_done (by kernel_rfl) ?_
  go_wp2
  go_ret
  exact ⟨rfl, HBw2.out⟩

set_option maxHeartbeats 2000000 in
theorem tooMany_more {p zb cap blk : Nat} {limit : Int} {bad : Nat} {zs : List Zs} (i : Nat) (hi : i < zs.length) (nk nsafe nn nc : Nat) (nA : Option Addr) (ndone : Bool) (w : World) (h : DevAt w p zb cap blk limit bad zs) (hz : Zok cap blk nk nsafe nn nc) (ht : actB cap nk ndone = true) (hu : actB cap zs[i].k zs[i].done = false) :
    Calls Try.prog 50 #[.pointer (some ⟨p, 0, none⟩), .int .i64 (i : Int), .agg #[.int .i64 (cap : Int), .int .i64 (blk : Int), .slice nA nn nc, .int .i64 (nsafe : Int), .bool ndone]] w fun e w' => e = .returned (.bool (decide (limit ≤ (nAct cap zs : Int)))) ∧ Below w.heap.size w w' := by
  have H := Lib.hid h
  have HZ := Lib.hid hz
  have hl := h.len
  have hn1 := nAct_le cap zs
  have HO := Lib.hid (h.ok zs[i] (List.getElem_mem hi))
  clear h hz
  go_enter Try.func50, Try.ntmps50
  go_wp2_with fail
  refine wpG_start [] (by kernel_rfl) ?_
  have bx : Box (w.alloc (.cells #[.int .i64 (cap : Int), .int .i64 (blk : Int), .slice nA nn nc, .int .i64 (nsafe : Int), .bool ndone] 74)).drew w.heap.size 74 _ := Box.fresh w 74 _
  have HBw0 : Hid (Below w.heap.size w (w.alloc (.cells #[.int .i64 (cap : Int), .int .i64 (blk : Int), .slice nA nn nc, .int .i64 (nsafe : Int), .bool ndone] 74)).drew) := ((Below.refl _ _).alloc (Nat.le_refl _) _).drew
  generalize (w.alloc (.cells #[.int .i64 (cap : Int), .int .i64 (blk : Int), .slice nA nn nc, .int .i64 (nsafe : Int), .bool ndone] 74)).drew = w0 at bx HBw0 ⊢
  have HDw0 := Lib.hid (H.out.later HBw0.out)
  clear H
  have HT := Lib.hid ht
  have HU := Lib.hid hu
  clear ht hu
  have q0 : ∀ w', Turn [] w0 w' → w'.cell? ⟨w.heap.size, 0, none⟩ = some (.int .i64 (cap : Int)) := fun w' h => (box5 (bx.turn h (by simp))).1.1
  have q1 : ∀ w', Turn [] w0 w' → w'.cell? ⟨w.heap.size, 1, none⟩ = some (.int .i64 (blk : Int)) := fun w' h => (box5 (bx.turn h (by simp))).1.2.1
  have q2 : ∀ w', Turn [] w0 w' → w'.cell? ⟨w.heap.size, 2, none⟩ = some (.slice nA nn nc) := fun w' h => (box5 (bx.turn h (by simp))).1.2.2.1
  have q3 : ∀ w', Turn [] w0 w' → w'.cell? ⟨w.heap.size, 3, none⟩ = some (.int .i64 (nsafe : Int)) := fun w' h => (box5 (bx.turn h (by simp))).1.2.2.2.1
  have q4 : ∀ w', Turn [] w0 w' → w'.cell? ⟨w.heap.size, 4, none⟩ = some (.bool ndone) := fun w' h => (box5 (bx.turn h (by simp))).1.2.2.2.2
  refine wpG_take (i := 0) (d := 7) (v := ?v1x0) rfl rfl (by kernel_rfl) (by kernel_rfl) (by kernel_rfl) (fun _ _ _ h => h) (by rfl) ?y1x0 ?r1x0
  case y1x0 => (intro w' hSw; go_simp; try (with_reducible rfl))
  simp only [Act.put, List.setIfInBounds_toArray, List.set_cons_zero, List.set_cons_succ]
  refine wpG_do (i := 1) (by kernel_rfl) rfl (by rfl) (fun K hK => ?_)
  go_simp
  refine (active_any nA ndone w0 HZ.out).mono ?_
  rintro e w1 ⟨rfl, hb⟩
  have HDw1 := Lib.hid (HDw0.out.later hb)
  have HBw1 := Lib.hid (HBw0.out.trans (hb.mono HBw0.out.size))
  refine hK.out _ _ (Turn.of_below hb (Nat.le_refl _)) ?_
  clear hK K hb q0 q1 q2 q3 q4 bx HBw0 HDw0
  rw [show actB cap nk ndone = true from HT.out]
  have p0 : ∀ w', Turn [] w1 w' → w'.cell? ⟨p, 0, none⟩ = some (.slice (some ⟨zb, 0, none⟩) zs.length zs.length) := fun w' h => (box4 (HDw1.out.turn h (by simp) (by simp) (by simp)).bp).1.1
  have p1 : ∀ w', Turn [] w1 w' → w'.cell? ⟨p, 1, none⟩ = some (.int .i64 limit) := fun w' h => (box4 (HDw1.out.turn h (by simp) (by simp) (by simp)).bp).1.2.1
  have c0 : ∀ w', Turn [] w1 w' → w'.cell? ⟨zb, i * 5, none⟩ = some (.int .i64 (cap : Int)) := fun w' h => ((HDw1.out.turn h (by simp) (by simp) (by simp)).zone hi).1.1
  have c1 : ∀ w', Turn [] w1 w' → w'.cell? ⟨zb, i * 5 + 1, none⟩ = some (.int .i64 (blk : Int)) := fun w' h => ((HDw1.out.turn h (by simp) (by simp) (by simp)).zone hi).1.2.1
  have c2 : ∀ w', Turn [] w1 w' → w'.cell? ⟨zb, i * 5 + 2, none⟩ = some (.slice zs[i].A zs[i].D.length zs[i].c) := fun w' h => ((HDw1.out.turn h (by simp) (by simp) (by simp)).zone hi).1.2.2.1
  have c3 : ∀ w', Turn [] w1 w' → w'.cell? ⟨zb, i * 5 + 3, none⟩ = some (.int .i64 (zs[i].safe : Int)) := fun w' h => ((HDw1.out.turn h (by simp) (by simp) (by simp)).zone hi).1.2.2.2.1
  have c4 : ∀ w', Turn [] w1 w' → w'.cell? ⟨zb, i * 5 + 4, none⟩ = some (.bool zs[i].done) := fun w' h => ((HDw1.out.turn h (by simp) (by simp) (by simp)).zone hi).1.2.2.2.2
  refine wpG_take (i := 2) (d := 9) (v := ?v1x2) rfl rfl (by kernel_rfl) (by kernel_rfl) (by kernel_rfl) (fun _ _ _ h => h) (by rfl) ?y1x2 ?r1x2
  case y1x2 => (intro w' hSw; go_simp; try (with_reducible rfl))
  simp only [Act.put, List.setIfInBounds_toArray, List.set_cons_zero, List.set_cons_succ]
  refine wpG_take (i := 3) (d := 10) (v := ?v1x3) rfl rfl (by kernel_rfl) (by kernel_rfl) (by kernel_rfl) (fun _ _ _ h => h) (by rfl) ?y1x3 ?r1x3
  case y1x3 => (intro w' hSw; go_simp; try (with_reducible rfl))
  simp only [Act.put, List.setIfInBounds_toArray, List.set_cons_zero, List.set_cons_succ]
  refine wpG_take (i := 4) (d := 11) (v := ?v1x4) rfl rfl (by kernel_rfl) (by kernel_rfl) (by kernel_rfl) (fun _ _ _ h => h) (by rfl) ?y1x4 ?r1x4
  case y1x4 => (intro w' hSw; go_simp; try (with_reducible rfl))
  simp only [Act.put, List.setIfInBounds_toArray, List.set_cons_zero, List.set_cons_succ]
  refine wpG_take (i := 5) (d := 12) (v := ?v1x5) rfl rfl (by kernel_rfl) (by kernel_rfl) (by kernel_rfl) (fun _ _ _ h => h) (by rfl) ?y1x5 ?r1x5
  case y1x5 => (intro w' hSw; go_simp; try (with_reducible rfl))
  simp only [Act.put, List.setIfInBounds_toArray, List.set_cons_zero, List.set_cons_succ]
  refine wpG_take (i := 6) (d := 13) (v := ?v1x6) rfl rfl (by kernel_rfl) (by kernel_rfl) (by kernel_rfl) (fun _ _ _ h => h) (by rfl) ?y1x6 ?r1x6
  case y1x6 => (intro w' hSw; go_simp; try (with_reducible rfl))
  simp only [Act.put, List.setIfInBounds_toArray, List.set_cons_zero, List.set_cons_succ]
  refine wpG_take (i := 7) (d := 14) (v := ?v1x7) rfl rfl (by kernel_rfl) (by kernel_rfl) (by kernel_rfl) (fun _ _ _ h => h) (by rfl) ?y1x7 ?r1x7
  case y1x7 => (intro w' hSw; go_simp; try (with_reducible rfl))
  simp only [Act.put, List.setIfInBounds_toArray, List.set_cons_zero, List.set_cons_succ]
  refine wpG_take (i := 8) (d := 15) (v := ?v1x8) rfl rfl (by kernel_rfl) (by kernel_rfl) (by kernel_rfl) (fun _ _ _ h => h) (by rfl) ?y1x8 ?r1x8
  case y1x8 => (intro w' hSw; go_simp; try (with_reducible rfl))
  simp only [Act.put, List.setIfInBounds_toArray, List.set_cons_zero, List.set_cons_succ]
  refine wpG_take (i := 9) (d := 16) (v := ?v1x9) rfl rfl (by kernel_rfl) (by kernel_rfl) (by kernel_rfl) (fun _ _ _ h => h) (by rfl) ?y1x9 ?r1x9
  case y1x9 => (intro w' hSw; go_simp; try (with_reducible rfl))
  simp only [Act.put, List.setIfInBounds_toArray, List.set_cons_zero, List.set_cons_succ]
  refine wpG_do (i := 10) (by kernel_rfl) rfl (by rfl) (fun K hK => ?_)
  go_simp
  refine (active_any zs[i].A zs[i].done w1 HO.out).mono ?_
  rintro e w2 ⟨rfl, hb⟩
  have HDw2 := Lib.hid (HDw1.out.later hb)
  have HBw2 := Lib.hid (HBw1.out.trans (hb.mono HBw1.out.size))
  refine hK.out _ _ (Turn.of_below hb (Nat.le_refl _)) ?_
  clear hK K hb p0 p1 c0 c1 c2 c3 c4 HBw1 HDw1
  rw [show actB cap zs[i].k zs[i].done = false from HU.out]
  have p0 : ∀ w', Turn [] w2 w' → w'.cell? ⟨p, 0, none⟩ = some (.slice (some ⟨zb, 0, none⟩) zs.length zs.length) := fun w' h => (box4 (HDw2.out.turn h (by simp) (by simp) (by simp)).bp).1.1
  have p1 : ∀ w', Turn [] w2 w' → w'.cell? ⟨p, 1, none⟩ = some (.int .i64 limit) := fun w' h => (box4 (HDw2.out.turn h (by simp) (by simp) (by simp)).bp).1.2.1
  have c0 : ∀ w', Turn [] w2 w' → w'.cell? ⟨zb, i * 5, none⟩ = some (.int .i64 (cap : Int)) := fun w' h => ((HDw2.out.turn h (by simp) (by simp) (by simp)).zone hi).1.1
  have c1 : ∀ w', Turn [] w2 w' → w'.cell? ⟨zb, i * 5 + 1, none⟩ = some (.int .i64 (blk : Int)) := fun w' h => ((HDw2.out.turn h (by simp) (by simp) (by simp)).zone hi).1.2.1
  have c2 : ∀ w', Turn [] w2 w' → w'.cell? ⟨zb, i * 5 + 2, none⟩ = some (.slice zs[i].A zs[i].D.length zs[i].c) := fun w' h => ((HDw2.out.turn h (by simp) (by simp) (by simp)).zone hi).1.2.2.1
  have c3 : ∀ w', Turn [] w2 w' → w'.cell? ⟨zb, i * 5 + 3, none⟩ = some (.int .i64 (zs[i].safe : Int)) := fun w' h => ((HDw2.out.turn h (by simp) (by simp) (by simp)).zone hi).1.2.2.2.1
  have c4 : ∀ w', Turn [] w2 w' → w'.cell? ⟨zb, i * 5 + 4, none⟩ = some (.bool zs[i].done) := fun w' h => ((HDw2.out.turn h (by simp) (by simp) (by simp)).zone hi).1.2.2.2.2
  refine wpG_take (i := 11) (d := 18) (v := ?v1x11) rfl rfl (by kernel_rfl) (by kernel_rfl) (by kernel_rfl) (fun _ _ _ h => h) (by rfl) ?y1x11 ?r1x11
  case y1x11 => (intro w' hSw; go_simp; try (with_reducible rfl))
  simp only [Act.put, List.setIfInBounds_toArray, List.set_cons_zero, List.set_cons_succ]
  refine wpG_take (i := 12) (d := 19) (v := ?v1x12) rfl rfl (by kernel_rfl) (by kernel_rfl) (by kernel_rfl) (fun _ _ _ h => h) (by rfl) ?y1x12 ?r1x12
  case y1x12 => (intro w' hSw; go_simp; try (with_reducible rfl))
  simp only [Act.put, List.setIfInBounds_toArray, List.set_cons_zero, List.set_cons_succ]
  refine wpG_take (i := 13) (d := 20) (v := ?v1x13) rfl rfl (by kernel_rfl) (by kernel_rfl) (by kernel_rfl) (fun _ _ _ h => h) (by rfl) ?y1x13 ?r1x13
  case y1x13 => (intro w' hSw; go_simp; try (with_reducible rfl))
  simp only [Act.put, List.setIfInBounds_toArray, List.set_cons_zero, List.set_cons_succ]
  refine wpG_take (i := 14) (d := 21) (v := ?v1x14) rfl rfl (by kernel_rfl) (by kernel_rfl) (by kernel_rfl) (fun _ _ _ h => h) (by rfl) ?y1x14 ?r1x14
  case y1x14 => (intro w' hSw; go_simp; try (with_reducible rfl))
  simp only [Act.put, List.setIfInBounds_toArray, List.set_cons_zero, List.set_cons_succ]
  refine wpG_take (i := 16) (d := 23) (v := ?v1x16) rfl rfl (by kernel_rfl) (by kernel_rfl) (by kernel_rfl) (fun _ _ _ h => h) (by rfl) ?y1x16 ?r1x16
  case y1x16 => (intro w' hSw; go_simp; try (with_reducible rfl))
  simp only [Act.put, List.setIfInBounds_toArray, List.set_cons_zero, List.set_cons_succ]
  refine wpG_take (i := 17) (d := 24) (v := ?v1x17) rfl rfl (by kernel_rfl) (by kernel_rfl) (by kernel_rfl) (fun _ _ _ h => h) (by rfl) ?y1x17 ?r1x17
  case y1x17 => (intro w' hSw; go_simp; try (with_reducible rfl))
  simp only [Act.put, List.setIfInBounds_toArray, List.set_cons_zero, List.set_cons_succ]
  refine wpG_take (i := 18) (d := 25) (v := ?v1x18) rfl rfl (by kernel_rfl) (by kernel_rfl) (by kernel_rfl) (fun _ _ _ h => h) (by rfl) ?y1x18 ?r1x18
  case y1x18 => (intro w' hSw; go_simp; try (with_reducible rfl))
  simp only [Act.put, List.setIfInBounds_toArray, List.set_cons_zero, List.set_cons_succ]
  refine wpG_take (i := 19) (d := 26) (v := ?v1x19) rfl rfl (by kernel_rfl) (by kernel_rfl) (by kernel_rfl) (fun _ _ _ h => h) (by rfl) ?y1x19 ?r1x19
  case y1x19 => (intro w' hSw; go_simp; try (with_reducible rfl))
  simp only [Act.put, List.setIfInBounds_toArray, List.set_cons_zero, List.set_cons_succ]
  refine wpG_do (i := 15) (by kernel_rfl) rfl (by rfl) (fun K hK => ?_)
  go_simp
  refine (active_dev w2 HDw2.out).mono ?_
  rintro e w3 ⟨rfl, hb⟩
  have HDw3 := Lib.hid (HDw2.out.later hb)
  have HBw3 := Lib.hid (HBw2.out.trans (hb.mono HBw2.out.size))
  refine hK.out _ _ (Turn.of_below hb (Nat.le_refl _)) ?_
  clear hK K hb p0 p1 c0 c1 c2 c3 c4 HBw2
  refine wpG_take (i := 20) (d := 27) (v := ?v1x20) rfl rfl (by kernel_rfl) (by kernel_rfl) (by kernel_rfl) (fun _ _ _ h => h) (by rfl) ?y1x20 ?r1x20
  case y1x20 => (intro w' hSw; go_simp; try (with_reducible rfl))
  simp only [Act.put, List.setIfInBounds_toArray, List.set_cons_zero, List.set_cons_succ]
  refine wpG_take (i := 21) (d := 28) (v := ?v1x21) rfl rfl (by kernel_rfl) (by kernel_rfl) (by kernel_rfl) (fun _ _ _ h => h) (by rfl) ?y1x21 ?r1x21
  case y1x21 => (intro w' hSw; go_simp; try (with_reducible rfl))
  simp only [Act.put, List.setIfInBounds_toArray, List.set_cons_zero, List.set_cons_succ]
  refine wpG_take (i := 22) (d := 6) (v := ?v1x22) rfl rfl (by kernel_rfl) (by kernel_rfl) (by kernel_rfl) (fun _ _ _ h => h) (by rfl) ?y1x22 ?r1x22
  case y1x22 => (intro w' hSw; go_simp; try (with_reducible rfl))
  simp only [Act.put, List.setIfInBounds_toArray, List.set_cons_zero, List.set_cons_succ]
  refine wpG_done (by kernel_rfl) ?_
  go_wp2
  go_ret
  exact ⟨by simp, HBw3.out⟩

/-- Whether a zone too many would be in use. -/
def tooB (cap : Nat) (limit : Int) (zs : List Zs) (k : Nat) (done : Bool) (z : Zs) : Bool := actB cap k done && !actB cap z.k z.done && decide (limit ≤ (nAct cap zs : Int))
theorem tooMany_dev {p zb cap blk : Nat} {limit : Int} {bad : Nat} {zs : List Zs} (i : Nat) (hi : i < zs.length) (nk nsafe nn nc : Nat) (nA : Option Addr) (ndone : Bool) (w : World) (h : DevAt w p zb cap blk limit bad zs) (hz : Zok cap blk nk nsafe nn nc) :
    Calls Try.prog 50 #[.pointer (some ⟨p, 0, none⟩), .int .i64 (i : Int), .agg #[.int .i64 (cap : Int), .int .i64 (blk : Int), .slice nA nn nc, .int .i64 (nsafe : Int), .bool ndone]] w fun e w' => e = .returned (.bool (tooB cap limit zs nk ndone zs[i])) ∧ Below w.heap.size w w' := by
  cases ht : actB cap nk ndone
  · have e : tooB cap limit zs nk ndone zs[i] = false := by simp [tooB, ht]
    rw [e]
    exact tooMany_no i hi nk nsafe nn nc nA ndone w h hz ht
  · cases hu : actB cap zs[i].k zs[i].done
    · have e : tooB cap limit zs nk ndone zs[i] = decide (limit ≤ (nAct cap zs : Int)) := by simp [tooB, ht, hu]
      rw [e]
      exact tooMany_more i hi nk nsafe nn nc nA ndone w h hz ht hu
    · have e : tooB cap limit zs nk ndone zs[i] = false := by simp [tooB, ht, hu]
      rw [e]
      exact tooMany_was i hi nk nsafe nn nc nA ndone w h hz ht hu
end Go.Proofs.Ytbaolfncolfipaa
