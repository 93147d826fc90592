/- The contracts of span.read, settings. -/
import Derived.Test.YtaceaemombnhkaaGc
namespace Go.Proofs.Ytaceaemombnhkaa
set_option linter.unusedVariables false
set_option maxRecDepth 100000
set_option linter.unusedSimpArgs false
open Go.RowKit
open Go.RowKit (wrap64)

theorem read_any (l : List UInt8) (er lo hi : Int) (p : Nat) (w : World) (h : Rdr w p l er) :
    Calls Try.prog 79 #[(.agg #[.int .i64 lo, .int .i64 hi]), .pointer (some ⟨p, 0, none⟩)] w fun e w' => e = .returned (.int .i64 (rI l er lo hi).1) ∧ Rdr w' p (rI l er lo hi).2.1 (rI l er lo hi).2.2 ∧ w.grownBy w' (some p) := by
  have hp : p < w.heap.size := by
    obtain ⟨A, c, hb, _⟩ := h
    exact hb.lt
  have HR : Hid (Rdr (w.alloc (.cells #[.int .i64 lo, .int .i64 hi] 79)) p l er) := h.below (below_one w _) hp
  clear h
  go_enter Try.func79, Try.ntmps79
  go_wp2_with fail
  refine (rInt_any l er lo hi p _ HR.out).mono ?_
  rintro e w' ⟨rfl, hr, hg⟩
  have HQ : Hid (Rdr w' p (rI l er lo hi).2.1 (rI l er lo hi).2.2 ∧ w.grownBy w' (some p)) := ⟨hr, turned_trans (World.grownBy_alloc w _ (some p)) hg⟩
  clear hr hg
  go_wp2
  go_ret
  exact ⟨rfl, HQ.out.1, HQ.out.2⟩
end Go.Proofs.Ytaceaemombnhkaa
