/- Bytes as arguments, as plain data. -/
import Derived.Test.YtaceaemombnhkaaSb
import Derived.SizedLaws
import Derived.Deep.Slices
import Derived.ProofKit
import Derived.OpenShut
import Derived.ChangeOld
namespace Go.Proofs.Ytaceaemombnhkaa
set_option linter.unusedVariables false
set_option linter.unusedSimpArgs false
open Go.RowKit
open Go.RowKit (wrap64)

open Go.ChangeShapes Go.WideShapes Go.ChangeAt

theorem Try.cells30 : Try.prog.cellsOf 30 = 10 := by kernel_rfl
theorem Try.cells28 : Try.prog.cellsOf 28 = 1 := by kernel_rfl
theorem Try.cells3 : Try.prog.cellsOf 3 = 1 := by kernel_rfl
theorem Try.bytes5 : Try.prog.bytesOf 5 = 1 := by kernel_rfl
/-- Nine numbers by their places. -/
def nine (m0 m1 m2 m3 m4 m5 m6 m7 m8 : Int) : Nat → Int
  | 0 => m0
  | 1 => m1
  | 2 => m2
  | 3 => m3
  | 4 => m4
  | 5 => m5
  | 6 => m6
  | 7 => m7
  | 8 => m8
  | _ => 0
section
variable {H : Type} {enc : TypeId × Value → H}
theorem weights_mem_all {P : Program} {e : TypeId} : ∀ {l : List (DataW H)} {d : DataW H}, d ∈ l → ∀ n ∈ d.weights P e, n ∈ DataW.weightsAll P e l
  | d0 :: l, d, h, n, hn => by
    simp only [DataW.weightsAll, List.mem_append]
    rcases List.mem_cons.1 h with rfl | h
    · exact Or.inl hn
    · exact Or.inr (weights_mem_all h n hn)
  | [], _, h, _, _ => by cases h
/-- One block out of its reading. -/
theorem block_trod {w : World} {base : Nat} {spare : Nat → Bool} {held : Bool} {fuel : Nat} {v : Value} {D : DataW H} {Pl : List MemPlace}
    (h : DataW.trod enc Try.prog w base spare held fuel 28 [v] = some (D, Pl)) (hw : ∀ n ∈ D.weights Try.prog 28, n ≤ reachBytes) :
    ∃ X c, ∃ l : List UInt8, v = .slice X l.length c ∧ Rd w w.heap.size X l ∧ l.length ≤ c ∧ l.length ≤ 140737488351232 := by
  rcases open_ints Try.underlying28 Try.underlying5 (by kernel_rfl) h with ⟨hcs, _⟩ | ⟨x, l, c, zs, hcs, _, hl, hm, hz, hx, hcell, hwz⟩
  · simp at hcs
    subst hcs
    exact ⟨none, 0, [], rfl, Rd.nil, Nat.le_refl _, by simp⟩
  · simp at hcs
    subst hcs
    injection hx with hD _
    subst hD
    have hzl : l ≤ zs.length := by rw [hz]; split <;> omega
    have hb := hw ((((lits .u8 (zs.take l) : List (DataW H)).length) + (lits .u8 (zs.drop l) : List (DataW H)).length) * Try.prog.bytesOf 5) (by simp [DataW.weights, Try.underlying28])
    rw [Try.bytes5] at hb
    simp only [lits, List.length_map, List.length_take, List.length_drop, reachBytes] at hb
    refine ⟨some x, c, (zs.take l).map fun n => UInt8.ofNat n.toNat, ?_, fun h0 => ⟨x, rfl, ?_, fun j u hu => ?_⟩, by simp; omega, by simp; omega⟩
    · simp [Nat.min_eq_left hzl]
    · have h := hcell 0 (by simp at h0; omega)
      have hb : (x.add 0).block < w.heap.size := by
        rcases Nat.lt_or_ge (x.add 0).block w.heap.size with h1 | h1
        · exact h1
        · simp [World.cell?, Array.getElem?_eq_none h1] at h
      rwa [step_block] at hb
    · have hj : j < l := by
        have := (List.getElem?_eq_some_iff.1 hu).1
        simp [cBs] at this
        omega
      have hjz : j < zs.length := by omega
      have hb := bounds_u8 (hwz zs[j] (List.getElem_mem hjz))
      have hu' : u = .int .u8 zs[j] := by
        simp [cBs, cB, hj, hjz] at hu
        rw [← hu]
        congr 1
        omega
      rw [hcell j hjz, hu']
      simp [List.getD, hjz]
theorem open_bytes {w : World} {base : Nat} {spare : Nat → Bool} {held : Bool} {A : Option Addr} {len cap : Nat} {d : DataW H} {p : List MemPlace} (h : DataW.Trod enc Try.prog w base spare held 28 (.slice A len cap) d p) (hw : ∀ n ∈ d.weights Try.prog 28, n ≤ reachBytes) :
    ∃ l : List UInt8, l.length = len ∧ Rd w w.heap.size A l ∧ len ≤ cap ∧ len ≤ 140737488351232 := by
  obtain ⟨fuel, hf⟩ := h
  obtain ⟨X, c, l, e, h1, h2, h3⟩ := block_trod (by simpa [Value.cells] using hf) hw
  injection e with e1 e2 e3
  subst e1 e2 e3
  exact ⟨l, rfl, h1, h2, h3⟩
end
end Go.Proofs.Ytaceaemombnhkaa
