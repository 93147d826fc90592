/- The contract of Plain. -/
import Derived.Test.YtaceaemombnhkaaM
namespace Go.Proofs.Ytaceaemombnhkaa
set_option linter.unusedVariables false
set_option maxRecDepth 100000
set_option linter.unusedSimpArgs false
open Go.RowKit
open Go.RowKit (wrap64)

/-- P7.2: Plain. -/
def plainC : Cf := ⟨7, 4, 2, 64, 24, 3, 1, 3, 2, 3, 7⟩
set_option maxHeartbeats 1000000 in
theorem plain_any (w : World) : Calls Try.prog 23 #[] w (Says w (.agg #[.int .i64 7, .int .i64 4, .int .i64 2, .int .i64 64, .int .i64 24, .int .i64 3, .int .i64 1, .int .i64 3, .int .i64 2, .int .i64 3, .int .i64 7])) := by
  go_enter Try.func23, Try.ntmps23
  go_wp2
  exact bodyPost_ret (v := .agg #[.int .i64 7, .int .i64 4, .int .i64 2, .int .i64 64, .int .i64 24, .int .i64 3, .int .i64 1, .int .i64 3, .int .i64 2, .int .i64 3, .int .i64 7]) (by simp [results, Try.results23, go_sem, *]) rfl ⟨rfl, (by repeat (first | with_reducible exact Below.refl _ _ | with_reducible refine Below.drew ?_ | with_reducible refine Below.alloc ?_ (by first | (simp; done) | (simp; omega)) _ | with_reducible refine Below.setCell ?_ (by first | (simp; done) | (simp; omega)) _))⟩
theorem plain_check : checkC plainC = 0 := by decide +kernel
theorem plain_row : dataC plainC * plainC.u = 6 := by decide +kernel
theorem plain_stripes : stripesC plainC = 12 := by decide +kernel
theorem plain_size : stripesC plainC * (dataC plainC * plainC.u) = 72 := by decide +kernel
theorem plain_all : allC plainC = 7 := by decide +kernel
end Go.Proofs.Ytaceaemombnhkaa
