/- Contracts of Plain, of the example. -/
import Derived.Test.YteobhfcebckonaaM
import Derived.Test.YteobhfcebckonaaC
namespace Go.Proofs.Yteobhfcebckonaa
set_option linter.unusedVariables false
set_option linter.unusedSimpArgs false
open Go.RowKit
open Go.RowKit (wrap64)

/-- P7.2: Plain. -/
def plainC : Cf := ⟨7, 4, 2, 64, 24, 3, 1, 3, 2, 3, 7⟩
set_option maxHeartbeats 1000000 in
theorem plain_any (w : World) : Calls Try.prog 27 #[] w (Says w (.agg #[.int .i64 7, .int .i64 4, .int .i64 2, .int .i64 64, .int .i64 24, .int .i64 3, .int .i64 1, .int .i64 3, .int .i64 2, .int .i64 3, .int .i64 7])) := by
  go_enter Try.func27, Try.ntmps27
  go_wp2
  exact bodyPost_ret (v := .agg #[.int .i64 7, .int .i64 4, .int .i64 2, .int .i64 64, .int .i64 24, .int .i64 3, .int .i64 1, .int .i64 3, .int .i64 2, .int .i64 3, .int .i64 7]) (by simp [results, Try.results27, go_sem, *]) rfl ⟨rfl, (by repeat (first | with_reducible exact Below.refl _ _ | with_reducible refine Below.drew ?_ | with_reducible refine Below.alloc ?_ (by first | (simp; done) | (simp; omega)) _ | with_reducible refine Below.setCell ?_ (by first | (simp; done) | (simp; omega)) _))⟩
theorem plain_check : checkC plainC = 0 := by decide +kernel
theorem plain_row : dataC plainC * plainC.u = 6 := by decide +kernel
theorem plain_stripes : stripesC plainC = 12 := by decide +kernel
theorem plain_size : stripesC plainC * (dataC plainC * plainC.u) = 72 := by decide +kernel
theorem plain_all : allC plainC = 7 := by decide +kernel
set_option maxHeartbeats 2000000 in
theorem live_any (w : World) : Calls Try.prog 17 #[] w (Says w (.bool true)) := by
  go_enter Try.func17, Try.ntmps17
  go_wp2_with fail
  refine (plain_any w).mono ?_
  rintro e w1 ⟨rfl, hb⟩
  have HB := Lib.hid hb
  clear hb
  go_wp2_with fail
  have HV1 : Hid (Box (w1.alloc (.cells #[.int .i64 7, .int .i64 4, .int .i64 2, .int .i64 64, .int .i64 24, .int .i64 3, .int .i64 1, .int .i64 3, .int .i64 2, .int .i64 3, .int .i64 7] 23)) w1.heap.size 23 #[.int .i64 7, .int .i64 4, .int .i64 2, .int .i64 64, .int .i64 24, .int .i64 3, .int .i64 1, .int .i64 3, .int .i64 2, .int .i64 3, .int .i64 7] ∧ Below w.heap.size w (w1.alloc (.cells #[.int .i64 7, .int .i64 4, .int .i64 2, .int .i64 64, .int .i64 24, .int .i64 3, .int .i64 1, .int .i64 3, .int .i64 2, .int .i64 3, .int .i64 7] 23))) := ⟨Box.fresh w1 23 _, HB.out.alloc HB.out.size _⟩
  generalize (w1.alloc (.cells #[.int .i64 7, .int .i64 4, .int .i64 2, .int .i64 64, .int .i64 24, .int .i64 3, .int .i64 1, .int .i64 3, .int .i64 2, .int .i64 3, .int .i64 7] 23)) = w2 at HV1 ⊢
  generalize w1.heap.size = g at HV1 ⊢
  clear HB
  refine (check_any plainC w2).mono ?_
  rintro e w3 ⟨rfl, hb⟩
  rw [plain_check]
  have HV2 : Hid (Box w3 g 23 #[.int .i64 7, .int .i64 4, .int .i64 2, .int .i64 64, .int .i64 24, .int .i64 3, .int .i64 1, .int .i64 3, .int .i64 2, .int .i64 3, .int .i64 7] ∧ Below w.heap.size w w3) := ⟨HV1.out.1.later hb, HV1.out.2.trans (hb.mono HV1.out.2.size)⟩
  clear hb HV1
  go_wp2_with fail
  refine (code_any 0 _).mono ?_
  rintro e w' ⟨rfl, rfl⟩
  obtain ⟨y0, y1, y2, y3, y4, y5, y6, y7, y8, y9, y10⟩ := box11 HV2.out.1
  go_wp2_with fail
  refine (row_any plainC w3).mono ?_
  rintro e w4 ⟨rfl, hb⟩
  rw [plain_row]
  have HV3 : Hid (Box w4 g 23 #[.int .i64 7, .int .i64 4, .int .i64 2, .int .i64 64, .int .i64 24, .int .i64 3, .int .i64 1, .int .i64 3, .int .i64 2, .int .i64 3, .int .i64 7] ∧ Below w.heap.size w w4) := ⟨HV2.out.1.later hb, HV2.out.2.trans (hb.mono HV2.out.2.size)⟩
  clear hb HV2 y0 y1 y2 y3 y4 y5 y6 y7 y8 y9 y10
  obtain ⟨y0, y1, y2, y3, y4, y5, y6, y7, y8, y9, y10⟩ := box11 HV3.out.1
  go_wp2_with fail
  refine (stripes_any plainC w4).mono ?_
  rintro e w5 ⟨rfl, hb⟩
  rw [plain_stripes]
  have HV4 : Hid (Box w5 g 23 #[.int .i64 7, .int .i64 4, .int .i64 2, .int .i64 64, .int .i64 24, .int .i64 3, .int .i64 1, .int .i64 3, .int .i64 2, .int .i64 3, .int .i64 7] ∧ Below w.heap.size w w5) := ⟨HV3.out.1.later hb, HV3.out.2.trans (hb.mono HV3.out.2.size)⟩
  clear hb HV3 y0 y1 y2 y3 y4 y5 y6 y7 y8 y9 y10
  obtain ⟨y0, y1, y2, y3, y4, y5, y6, y7, y8, y9, y10⟩ := box11 HV4.out.1
  go_wp2_with fail
  refine (size_any plainC w5).mono ?_
  rintro e w6 ⟨rfl, hb⟩
  rw [plain_size]
  have HV5 : Hid (Box w6 g 23 #[.int .i64 7, .int .i64 4, .int .i64 2, .int .i64 64, .int .i64 24, .int .i64 3, .int .i64 1, .int .i64 3, .int .i64 2, .int .i64 3, .int .i64 7] ∧ Below w.heap.size w w6) := ⟨HV4.out.1.later hb, HV4.out.2.trans (hb.mono HV4.out.2.size)⟩
  clear hb HV4 y0 y1 y2 y3 y4 y5 y6 y7 y8 y9 y10
  obtain ⟨y0, y1, y2, y3, y4, y5, y6, y7, y8, y9, y10⟩ := box11 HV5.out.1
  go_wp2_with fail
  refine (all_any plainC w6).mono ?_
  rintro e w7 ⟨rfl, hb⟩
  rw [plain_all]
  have HV6 : Hid (Box w7 g 23 #[.int .i64 7, .int .i64 4, .int .i64 2, .int .i64 64, .int .i64 24, .int .i64 3, .int .i64 1, .int .i64 3, .int .i64 2, .int .i64 3, .int .i64 7] ∧ Below w.heap.size w w7) := ⟨HV5.out.1.later hb, HV5.out.2.trans (hb.mono HV5.out.2.size)⟩
  clear hb HV5 y0 y1 y2 y3 y4 y5 y6 y7 y8 y9 y10
  go_wp2
  go_ret
  exact ⟨rfl, HV6.out.2⟩
end Go.Proofs.Yteobhfcebckonaa
