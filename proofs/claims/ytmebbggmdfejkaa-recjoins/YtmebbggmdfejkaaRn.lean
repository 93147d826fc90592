/- Records as arguments, as plain data. -/
import Derived.Test.YtmebbggmdfejkaaRb
import Derived.SizedLaws
import Derived.Deep.Slices
import Derived.ProofKit
import Derived.OpenShut
import Derived.ChangeOld
namespace Go.Proofs.Ytmebbggmdfejkaa
set_option linter.unusedVariables false
set_option linter.unusedSimpArgs false
open Go.RowKit
open Go.RowKit (wrap64)

open Go.ChangeShapes Go.WideShapes Go.ChangeAt
theorem Try.cells24 : Try.prog.cellsOf 24 = 10 := by kernel_rfl
theorem Try.cells22 : Try.prog.cellsOf 22 = 1 := by kernel_rfl
theorem Try.cells3 : Try.prog.cellsOf 3 = 1 := by kernel_rfl
theorem Try.bytes5 : Try.prog.bytesOf 5 = 1 := by kernel_rfl
/-- Nine numbers by their places. -/
def nine (m0 m1 m2 m3 m4 m5 m6 m7 m8 : Int) : Nat → Int
  | 0 => m0
  | 1 => m1
  | 2 => m2
  | 3 => m3
  | 4 => m4
  | 5 => m5
  | 6 => m6
  | 7 => m7
  | 8 => m8
  | _ => 0
section
variable {H : Type} {enc : TypeId × Value → H}
theorem weights_mem_all {P : Program} {e : TypeId} : ∀ {l : List (DataW H)} {d : DataW H}, d ∈ l → ∀ n ∈ d.weights P e, n ∈ DataW.weightsAll P e l
  | d0 :: l, d, h, n, hn => by
    simp only [DataW.weightsAll, List.mem_append]
    rcases List.mem_cons.1 h with rfl | h
    · exact Or.inl hn
    · exact Or.inr (weights_mem_all h n hn)
  | [], _, h, _, _ => by cases h
/-- One block out of its reading. -/
theorem block_trod {w : World} {base : Nat} {spare : Nat → Bool} {held : Bool} {fuel : Nat} {v : Value} {D : DataW H} {Pl : List MemPlace}
    (h : DataW.trod enc Try.prog w base spare held fuel 22 [v] = some (D, Pl)) (hw : ∀ n ∈ D.weights Try.prog 22, n ≤ reachBytes) :
    ∃ X c, ∃ l : List UInt8, v = .slice X l.length c ∧ Rd w w.heap.size X l ∧ l.length ≤ c ∧ l.length ≤ 140737488351232 := by
  rcases open_ints Try.underlying22 Try.underlying5 (by kernel_rfl) h with ⟨hcs, _⟩ | ⟨x, l, c, zs, hcs, _, hl, hm, hz, hx, hcell, hwz⟩
  · simp at hcs
    subst hcs
    exact ⟨none, 0, [], rfl, Rd.nil, Nat.le_refl _, by simp⟩
  · simp at hcs
    subst hcs
    injection hx with hD _
    subst hD
    have hzl : l ≤ zs.length := by rw [hz]; split <;> omega
    have hb := hw ((((lits .u8 (zs.take l) : List (DataW H)).length) + (lits .u8 (zs.drop l) : List (DataW H)).length) * Try.prog.bytesOf 5) (by simp [DataW.weights, Try.underlying22])
    rw [Try.bytes5] at hb
    simp only [lits, List.length_map, List.length_take, List.length_drop, reachBytes] at hb
    refine ⟨some x, c, (zs.take l).map fun n => UInt8.ofNat n.toNat, ?_, fun h0 => ⟨x, rfl, ?_, fun j u hu => ?_⟩, by simp; omega, by simp; omega⟩
    · simp [Nat.min_eq_left hzl]
    · have h := hcell 0 (by simp at h0; omega)
      have hb : (x.add 0).block < w.heap.size := by
        rcases Nat.lt_or_ge (x.add 0).block w.heap.size with h1 | h1
        · exact h1
        · simp [World.cell?, Array.getElem?_eq_none h1] at h
      rwa [step_block] at hb
    · have hj : j < l := by
        have := (List.getElem?_eq_some_iff.1 hu).1
        simp [cBs] at this
        omega
      have hjz : j < zs.length := by omega
      have hb := bounds_u8 (hwz zs[j] (List.getElem_mem hjz))
      have hu' : u = .int .u8 zs[j] := by
        simp [cBs, cB, hj, hjz] at hu
        rw [← hu]
        congr 1
        omega
      rw [hcell j hjz, hu']
      simp [List.getD, hjz]
/-- One record out of its reading. -/
theorem rec_trod {w : World} {base : Nat} {spare : Nat → Bool} {held : Bool} {fuel : Nat} {cs : List Value} {D : DataW H} {Pl : List MemPlace}
    (h : DataW.trod enc Try.prog w base spare held fuel 24 cs = some (D, Pl)) (hw : ∀ n ∈ D.weights Try.prog 24, n ≤ reachBytes) :
    ∃ n : Nat → Int, ∃ X c, ∃ l : List UInt8, cs = [.int .i64 (n 0), .int .i64 (n 1), .int .i64 (n 2), .int .i64 (n 3), .int .i64 (n 4), .int .i64 (n 5), .int .i64 (n 6), .int .i64 (n 7), .int .i64 (n 8), .slice X l.length c] ∧ Rd w w.heap.size X l ∧ l.length ≤ c ∧ l.length ≤ 140737488351232 := by
  obtain ⟨xs, n, _, hx, hl, hxs, hf⟩ := DataW.trod_struct Try.underlying24 h
  rw [Try.cells24] at hl
  match cs, hl with
  | [v0, v1, v2, v3, v4, v5, v6, v7, v8, v9], _ =>
    have f0 : DataW.trod enc Try.prog w base spare held n 3 (([v0, v1, v2, v3, v4, v5, v6, v7, v8, v9].drop 0).take (Try.prog.cellsOf 3)) = xs[0]? := hf 0 _ rfl
    rw [Try.cells3] at f0
    have f1 : DataW.trod enc Try.prog w base spare held n 3 (([v0, v1, v2, v3, v4, v5, v6, v7, v8, v9].drop 1).take (Try.prog.cellsOf 3)) = xs[1]? := hf 1 _ rfl
    rw [Try.cells3] at f1
    have f2 : DataW.trod enc Try.prog w base spare held n 3 (([v0, v1, v2, v3, v4, v5, v6, v7, v8, v9].drop 2).take (Try.prog.cellsOf 3)) = xs[2]? := hf 2 _ rfl
    rw [Try.cells3] at f2
    have f3 : DataW.trod enc Try.prog w base spare held n 3 (([v0, v1, v2, v3, v4, v5, v6, v7, v8, v9].drop 3).take (Try.prog.cellsOf 3)) = xs[3]? := hf 3 _ rfl
    rw [Try.cells3] at f3
    have f4 : DataW.trod enc Try.prog w base spare held n 3 (([v0, v1, v2, v3, v4, v5, v6, v7, v8, v9].drop 4).take (Try.prog.cellsOf 3)) = xs[4]? := hf 4 _ rfl
    rw [Try.cells3] at f4
    have f5 : DataW.trod enc Try.prog w base spare held n 3 (([v0, v1, v2, v3, v4, v5, v6, v7, v8, v9].drop 5).take (Try.prog.cellsOf 3)) = xs[5]? := hf 5 _ rfl
    rw [Try.cells3] at f5
    have f6 : DataW.trod enc Try.prog w base spare held n 3 (([v0, v1, v2, v3, v4, v5, v6, v7, v8, v9].drop 6).take (Try.prog.cellsOf 3)) = xs[6]? := hf 6 _ rfl
    rw [Try.cells3] at f6
    have f7 : DataW.trod enc Try.prog w base spare held n 3 (([v0, v1, v2, v3, v4, v5, v6, v7, v8, v9].drop 7).take (Try.prog.cellsOf 3)) = xs[7]? := hf 7 _ rfl
    rw [Try.cells3] at f7
    have f8 : DataW.trod enc Try.prog w base spare held n 3 (([v0, v1, v2, v3, v4, v5, v6, v7, v8, v9].drop 8).take (Try.prog.cellsOf 3)) = xs[8]? := hf 8 _ rfl
    rw [Try.cells3] at f8
    have f9 : DataW.trod enc Try.prog w base spare held n 22 (([v0, v1, v2, v3, v4, v5, v6, v7, v8, v9].drop 9).take (Try.prog.cellsOf 22)) = xs[9]? := hf 9 _ rfl
    rw [Try.cells22] at f9
    match xs, hxs with
    | [y0, y1, y2, y3, y4, y5, y6, y7, y8, (D9, P9)], _ =>
      have g0 : DataW.trod enc Try.prog w base spare held n 3 [v0] = some y0 := f0
      obtain ⟨m0, e0, _, _⟩ := DataW.trod_int Try.underlying3 g0
      simp only [List.cons.injEq, and_true] at e0
      subst e0
      have g1 : DataW.trod enc Try.prog w base spare held n 3 [v1] = some y1 := f1
      obtain ⟨m1, e1, _, _⟩ := DataW.trod_int Try.underlying3 g1
      simp only [List.cons.injEq, and_true] at e1
      subst e1
      have g2 : DataW.trod enc Try.prog w base spare held n 3 [v2] = some y2 := f2
      obtain ⟨m2, e2, _, _⟩ := DataW.trod_int Try.underlying3 g2
      simp only [List.cons.injEq, and_true] at e2
      subst e2
      have g3 : DataW.trod enc Try.prog w base spare held n 3 [v3] = some y3 := f3
      obtain ⟨m3, e3, _, _⟩ := DataW.trod_int Try.underlying3 g3
      simp only [List.cons.injEq, and_true] at e3
      subst e3
      have g4 : DataW.trod enc Try.prog w base spare held n 3 [v4] = some y4 := f4
      obtain ⟨m4, e4, _, _⟩ := DataW.trod_int Try.underlying3 g4
      simp only [List.cons.injEq, and_true] at e4
      subst e4
      have g5 : DataW.trod enc Try.prog w base spare held n 3 [v5] = some y5 := f5
      obtain ⟨m5, e5, _, _⟩ := DataW.trod_int Try.underlying3 g5
      simp only [List.cons.injEq, and_true] at e5
      subst e5
      have g6 : DataW.trod enc Try.prog w base spare held n 3 [v6] = some y6 := f6
      obtain ⟨m6, e6, _, _⟩ := DataW.trod_int Try.underlying3 g6
      simp only [List.cons.injEq, and_true] at e6
      subst e6
      have g7 : DataW.trod enc Try.prog w base spare held n 3 [v7] = some y7 := f7
      obtain ⟨m7, e7, _, _⟩ := DataW.trod_int Try.underlying3 g7
      simp only [List.cons.injEq, and_true] at e7
      subst e7
      have g8 : DataW.trod enc Try.prog w base spare held n 3 [v8] = some y8 := f8
      obtain ⟨m8, e8, _, _⟩ := DataW.trod_int Try.underlying3 g8
      simp only [List.cons.injEq, and_true] at e8
      subst e8
      have g9 : DataW.trod enc Try.prog w base spare held n 22 [v9] = some (D9, P9) := f9
      injection hx with hD _
      obtain ⟨X, c, l, e9, h3, h4, h5⟩ := block_trod g9 (fun k hk => hw k (by
        subst hD
        simp only [DataW.weights, Try.underlying24, List.map_cons, List.map_nil, DataW.weightsEach, List.mem_append]
        exact Or.inr (Or.inr (Or.inr (Or.inr (Or.inr (Or.inr (Or.inr (Or.inr (Or.inr (Or.inl hk)))))))))))
      subst e9
      exact ⟨nine m0 m1 m2 m3 m4 m5 m6 m7 m8, X, c, l, rfl, h3, h4, h5⟩
theorem open_rec {w : World} {base b0 : Nat} {spare : Nat → Bool} {held : Bool} {r : Reach} {v : Value} {d : DataW H} {p : List MemPlace} (hv : Value.okWide Try.prog w r b0 24 v) (h : DataW.Trod enc Try.prog w base spare held 24 v d p) (hw : ∀ n ∈ d.weights Try.prog 24, n ≤ reachBytes) :
    ∃ n : Nat → Int, ∃ X c, ∃ l : List UInt8, v = .agg #[.int .i64 (n 0), .int .i64 (n 1), .int .i64 (n 2), .int .i64 (n 3), .int .i64 (n 4), .int .i64 (n 5), .int .i64 (n 6), .int .i64 (n 7), .int .i64 (n 8), .slice X l.length c] ∧ Rd w w.heap.size X l ∧ l.length ≤ c ∧ l.length ≤ 140737488351232 := by
  obtain ⟨cs, rfl, hsz⟩ := okWide_struct Try.underlying24 hv
  obtain ⟨fuel, hf⟩ := h
  obtain ⟨n, X, c, l, hc, h1, h2, h3⟩ := rec_trod hf hw
  refine ⟨n, X, c, l, ?_, h1, h2, h3⟩
  rcases cs with ⟨cl⟩
  simp only [Value.cells] at hc
  rw [hc]
/-- A slice of bytes out of its reading. -/
theorem open_bytes {w : World} {base : Nat} {spare : Nat → Bool} {held : Bool} {A : Option Addr} {len cap : Nat} {d : DataW H} {p : List MemPlace} (h : DataW.Trod enc Try.prog w base spare held 22 (.slice A len cap) d p) (hw : ∀ n ∈ d.weights Try.prog 22, n ≤ reachBytes) :
    ∃ l : List UInt8, l.length = len ∧ Rd w w.heap.size A l ∧ len ≤ cap ∧ len ≤ 140737488351232 := by
  obtain ⟨fuel, hf⟩ := h
  obtain ⟨X, c, l, e, h1, h2, h3⟩ := block_trod (by simpa [Value.cells] using hf) hw
  injection e with e1 e2 e3
  subst e1 e2 e3
  exact ⟨l, rfl, h1, h2, h3⟩
end
end Go.Proofs.Ytmebbggmdfejkaa
