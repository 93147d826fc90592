/- The page's example. -/
import Derived.Test.YtcongcnoeklpjaaQ
namespace Go.Proofs.Ytcongcnoeklpjaa
set_option linter.unusedVariables false
set_option linter.unusedSimpArgs false
open Go.RowKit
open Go.RowKit (wrap64)

theorem rd_lit (w : World) (l : List UInt8) (us : Array Value) (g : Nat) (hg : g = w.heap.size) (h : us = (cBs l).toArray) : Rd (w.alloc (.cells us 5)) (w.alloc (.cells us 5)).heap.size (some ⟨g, 0, none⟩) l := by
  subst h
  subst hg
  exact (Rd.new w l 5).more (by simp)
theorem Turn.above {gs : List Nat} {a w : World} {B : Nat} {o : Obj} (h : Turn gs (a.alloc o) w) (hg : ∀ g ∈ gs, B ≤ g) (hB : B ≤ a.heap.size) : Below B a w :=
  ((Below.refl _ _).alloc hB o).trans (h.below hg (by simp; omega))

set_option maxHeartbeats 1000000 in
theorem live_any (w : World) : Calls Try.prog 8 #[] w fun e w' => e = .returned (.bool true) ∧ Below w.heap.size w w' := by
  go_enter Try.func8, Try.ntmps8
  go_wp2_with fail
  refine (newDev_any 2 4 1 1 w (by omega) (by omega) (by omega) (by omega) (by omega) (by omega) (by omega)).mono ?_
  rintro e w1 ⟨rfl, hd1, hb1⟩
  have HD := Lib.hid (And.intro hd1 hb1)
  clear hd1 hb1
  go_wp2_with fail
  refine (append_fits 0 (by simp) _ 1 [1] _ (HD.out.1.later ((Below.refl _ _).alloc (Nat.le_refl _) _)) (by simp [maxLen]) (rd_lit _ [1] _ _ (by simp) rfl) (by rfl) (by rfl)).mono ?_
  rintro e w2 ⟨A2, c2, rfl, hd2, ht2⟩
  have HE : Hid (DevAt w2 (w.heap.size + 1) w.heap.size 4 1 1 0 [⟨1, 0, false, [1], A2, c2⟩, zE] ∧ Below w.heap.size w w2) := ⟨hd2, HD.out.2.trans (ht2.above (by simp) HD.out.2.size)⟩
  clear hd2 ht2 HD
  go_wp2_with fail
  refine (append_many 1 (by simp) _ 1 [1] _ (HE.out.1.later ((Below.refl _ _).alloc (Nat.le_refl _) _)) (by omega) (by simp [maxLen]) (rd_lit _ [1] _ _ (by simp) rfl) (by rfl) (by rfl)).mono ?_
  rintro e w3 ⟨rfl, hd3, ht3⟩
  have HF : Hid (DevAt w3 (w.heap.size + 1) w.heap.size 4 1 1 1 [⟨1, 0, false, [1], A2, c2⟩, zE] ∧ Below w.heap.size w w3) := ⟨hd3, HE.out.2.trans (ht3.above (by simp) HE.out.2.size)⟩
  clear hd3 ht3 HE
  go_wp2_with fail
  refine (code_any 0 _).mono ?_
  rintro e w4 ⟨rfl, rfl⟩
  go_wp2_with fail
  refine (code_any 0 _).mono ?_
  rintro e w4 ⟨rfl, rfl⟩
  go_wp2_with fail
  refine (code_any 8 _).mono ?_
  rintro e w4 ⟨rfl, rfl⟩
  go_wp2_with fail
  refine (bad_dev _ HF.out.1.bp).mono ?_
  rintro e w4 ⟨rfl, rfl⟩
  go_wp2_with fail
  refine (active_dev _ HF.out.1).mono ?_
  rintro e w4 ⟨rfl, hb4⟩
  have HG := Lib.hid (HF.out.2.trans (hb4.mono HF.out.2.size))
  rw [show nAct 4 [⟨1, 0, false, [1], A2, c2⟩, zE] = 1 from rfl]
  clear hb4 HF
  go_wp2
  go_ret
  exact ⟨rfl, HG.out⟩
end Go.Proofs.Ytcongcnoeklpjaa
