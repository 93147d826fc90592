/- The contract of the example. -/
import Derived.Test.YtlefjllpeapomaaX
namespace Go.Proofs.Ytlefjllpeapomaa
set_option linter.unusedVariables false
set_option linter.unusedSimpArgs false
open Go.RowKit
open Go.RowKit (wrap64)

theorem plain_of : ofB plainC 7 = true ∧ (ofA plainC 7).s = 1 ∧ (ofA plainC 7).u = 0 ∧ (ofA plainC 7).i = 1 ∧ (ofA plainC 7).m = 2 ∧ (ofA plainC 7).p = 3 := by decide +kernel
set_option maxHeartbeats 2000000 in
theorem live_any (w : World) : Calls Try.prog 16 #[] w (Says w (.bool true)) := by
  have HP := Lib.hid plain_of
  go_enter Try.func16, Try.ntmps16
  go_wp2_with fail
  refine (plain_any w).mono ?_
  rintro e w1 ⟨rfl, hb⟩
  have HB := Lib.hid hb
  clear hb
  go_wp2_with fail
  refine (of_any plainC 7 w1).mono ?_
  rintro e w2 ⟨rfl, hb⟩
  have HB2 := Lib.hid (HB.out.trans (hb.mono HB.out.size))
  clear hb HB
  rw [HP.out.1, HP.out.2.1, HP.out.2.2.1, HP.out.2.2.2.1, HP.out.2.2.2.2.1, HP.out.2.2.2.2.2]
  go_wp2
  go_ret
  exact ⟨rfl, HB2.out.alloc HB2.out.size _⟩
end Go.Proofs.Ytlefjllpeapomaa
