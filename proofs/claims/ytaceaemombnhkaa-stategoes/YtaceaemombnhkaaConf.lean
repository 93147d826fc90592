/- An argument that is settings, as plain data. -/
import Derived.Test.YtaceaemombnhkaaG
import Derived.ProofKit
import Derived.OpenShut
import Derived.ChangeOld
namespace Go.Proofs.Ytaceaemombnhkaa
set_option linter.unusedVariables false
set_option maxRecDepth 100000
set_option linter.unusedSimpArgs false
open Go.RowKit
open Go.RowKit (wrap64)

open Go.ChangeShapes Go.WideShapes Go.ChangeAt
theorem Try.cells23 : Try.prog.cellsOf 23 = 11 := by kernel_rfl
theorem Try.cells3 : Try.prog.cellsOf 3 = 1 := by kernel_rfl
/-- Each number fits an int. -/
def Cf.wf (c : Cf) : Prop := ∀ n ∈ c.list, (Lit.int .i64 n).wf = true
theorem conf_trod {H : Type} {enc : TypeId × Value → H} {w : World} {base : Nat} {spare : Nat → Bool} {held : Bool} {fuel : Nat} {cs : List Value} {x : DataW H × List MemPlace} (h : DataW.trod enc Try.prog w base spare held fuel 23 cs = some x) :
    ∃ c : Cf, cs = [.int .i64 c.id, .int .i64 c.m, .int .i64 c.u, .int .i64 c.b, .int .i64 c.cp, .int .i64 c.z, .int .i64 c.s, .int .i64 c.mt, .int .i64 c.o, .int .i64 c.a, .int .i64 c.l] ∧ c.wf := by
  obtain ⟨xs, n, _, _, hl, hxs, hF⟩ := DataW.trod_struct Try.underlying23 h
  rw [Try.cells23] at hl
  match cs, hl with
  | [v0, v1, v2, v3, v4, v5, v6, v7, v8, v9, v10], _ =>
    have f0 : DataW.trod enc Try.prog w base spare held n 3 (([v0, v1, v2, v3, v4, v5, v6, v7, v8, v9, v10].drop 0).take (Try.prog.cellsOf 3)) = xs[0]? := hF 0 _ rfl
    rw [Try.cells3] at f0
    have f1 : DataW.trod enc Try.prog w base spare held n 3 (([v0, v1, v2, v3, v4, v5, v6, v7, v8, v9, v10].drop 1).take (Try.prog.cellsOf 3)) = xs[1]? := hF 1 _ rfl
    rw [Try.cells3] at f1
    have f2 : DataW.trod enc Try.prog w base spare held n 3 (([v0, v1, v2, v3, v4, v5, v6, v7, v8, v9, v10].drop 2).take (Try.prog.cellsOf 3)) = xs[2]? := hF 2 _ rfl
    rw [Try.cells3] at f2
    have f3 : DataW.trod enc Try.prog w base spare held n 3 (([v0, v1, v2, v3, v4, v5, v6, v7, v8, v9, v10].drop 3).take (Try.prog.cellsOf 3)) = xs[3]? := hF 3 _ rfl
    rw [Try.cells3] at f3
    have f4 : DataW.trod enc Try.prog w base spare held n 3 (([v0, v1, v2, v3, v4, v5, v6, v7, v8, v9, v10].drop 4).take (Try.prog.cellsOf 3)) = xs[4]? := hF 4 _ rfl
    rw [Try.cells3] at f4
    have f5 : DataW.trod enc Try.prog w base spare held n 3 (([v0, v1, v2, v3, v4, v5, v6, v7, v8, v9, v10].drop 5).take (Try.prog.cellsOf 3)) = xs[5]? := hF 5 _ rfl
    rw [Try.cells3] at f5
    have f6 : DataW.trod enc Try.prog w base spare held n 3 (([v0, v1, v2, v3, v4, v5, v6, v7, v8, v9, v10].drop 6).take (Try.prog.cellsOf 3)) = xs[6]? := hF 6 _ rfl
    rw [Try.cells3] at f6
    have f7 : DataW.trod enc Try.prog w base spare held n 3 (([v0, v1, v2, v3, v4, v5, v6, v7, v8, v9, v10].drop 7).take (Try.prog.cellsOf 3)) = xs[7]? := hF 7 _ rfl
    rw [Try.cells3] at f7
    have f8 : DataW.trod enc Try.prog w base spare held n 3 (([v0, v1, v2, v3, v4, v5, v6, v7, v8, v9, v10].drop 8).take (Try.prog.cellsOf 3)) = xs[8]? := hF 8 _ rfl
    rw [Try.cells3] at f8
    have f9 : DataW.trod enc Try.prog w base spare held n 3 (([v0, v1, v2, v3, v4, v5, v6, v7, v8, v9, v10].drop 9).take (Try.prog.cellsOf 3)) = xs[9]? := hF 9 _ rfl
    rw [Try.cells3] at f9
    have f10 : DataW.trod enc Try.prog w base spare held n 3 (([v0, v1, v2, v3, v4, v5, v6, v7, v8, v9, v10].drop 10).take (Try.prog.cellsOf 3)) = xs[10]? := hF 10 _ rfl
    rw [Try.cells3] at f10
    match xs, hxs with
    | [y0, y1, y2, y3, y4, y5, y6, y7, y8, y9, y10], _ =>
      have g0 : DataW.trod enc Try.prog w base spare held n 3 [v0] = some y0 := f0
      obtain ⟨m0, e0, _, w0⟩ := DataW.trod_int Try.underlying3 g0
      simp only [List.cons.injEq, and_true] at e0
      subst e0
      have g1 : DataW.trod enc Try.prog w base spare held n 3 [v1] = some y1 := f1
      obtain ⟨m1, e1, _, w1⟩ := DataW.trod_int Try.underlying3 g1
      simp only [List.cons.injEq, and_true] at e1
      subst e1
      have g2 : DataW.trod enc Try.prog w base spare held n 3 [v2] = some y2 := f2
      obtain ⟨m2, e2, _, w2⟩ := DataW.trod_int Try.underlying3 g2
      simp only [List.cons.injEq, and_true] at e2
      subst e2
      have g3 : DataW.trod enc Try.prog w base spare held n 3 [v3] = some y3 := f3
      obtain ⟨m3, e3, _, w3⟩ := DataW.trod_int Try.underlying3 g3
      simp only [List.cons.injEq, and_true] at e3
      subst e3
      have g4 : DataW.trod enc Try.prog w base spare held n 3 [v4] = some y4 := f4
      obtain ⟨m4, e4, _, w4⟩ := DataW.trod_int Try.underlying3 g4
      simp only [List.cons.injEq, and_true] at e4
      subst e4
      have g5 : DataW.trod enc Try.prog w base spare held n 3 [v5] = some y5 := f5
      obtain ⟨m5, e5, _, w5⟩ := DataW.trod_int Try.underlying3 g5
      simp only [List.cons.injEq, and_true] at e5
      subst e5
      have g6 : DataW.trod enc Try.prog w base spare held n 3 [v6] = some y6 := f6
      obtain ⟨m6, e6, _, w6⟩ := DataW.trod_int Try.underlying3 g6
      simp only [List.cons.injEq, and_true] at e6
      subst e6
      have g7 : DataW.trod enc Try.prog w base spare held n 3 [v7] = some y7 := f7
      obtain ⟨m7, e7, _, w7⟩ := DataW.trod_int Try.underlying3 g7
      simp only [List.cons.injEq, and_true] at e7
      subst e7
      have g8 : DataW.trod enc Try.prog w base spare held n 3 [v8] = some y8 := f8
      obtain ⟨m8, e8, _, w8⟩ := DataW.trod_int Try.underlying3 g8
      simp only [List.cons.injEq, and_true] at e8
      subst e8
      have g9 : DataW.trod enc Try.prog w base spare held n 3 [v9] = some y9 := f9
      obtain ⟨m9, e9, _, w9⟩ := DataW.trod_int Try.underlying3 g9
      simp only [List.cons.injEq, and_true] at e9
      subst e9
      have g10 : DataW.trod enc Try.prog w base spare held n 3 [v10] = some y10 := f10
      obtain ⟨m10, e10, _, w10⟩ := DataW.trod_int Try.underlying3 g10
      simp only [List.cons.injEq, and_true] at e10
      subst e10
      refine ⟨⟨m0, m1, m2, m3, m4, m5, m6, m7, m8, m9, m10⟩, rfl, fun k hk => ?_⟩
      simp only [Cf.list, Cf.rest, List.mem_cons, List.not_mem_nil, or_false] at hk
      rcases hk with rfl | rfl | rfl | rfl | rfl | rfl | rfl | rfl | rfl | rfl | rfl <;> assumption
theorem open_conf {H : Type} {enc : TypeId × Value → H} {w : World} {base b0 : Nat} {spare : Nat → Bool} {held : Bool} {r : Reach} {v : Value} {d : DataW H} {p : List MemPlace} (hv : Value.okWide Try.prog w r b0 23 v) (h : DataW.Trod enc Try.prog w base spare held 23 v d p) :
    ∃ c : Cf, v = (.agg #[.int .i64 c.id, .int .i64 c.m, .int .i64 c.u, .int .i64 c.b, .int .i64 c.cp, .int .i64 c.z, .int .i64 c.s, .int .i64 c.mt, .int .i64 c.o, .int .i64 c.a, .int .i64 c.l]) ∧ c.wf := by
  obtain ⟨cs, rfl, hsz⟩ := okWide_struct Try.underlying23 hv
  obtain ⟨fuel, hf⟩ := h
  obtain ⟨c, hc, hw⟩ := conf_trod hf
  refine ⟨c, ?_, hw⟩
  rcases cs with ⟨l⟩
  simp only [Value.cells] at hc
  rw [hc]
end Go.Proofs.Ytaceaemombnhkaa
