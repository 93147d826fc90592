/- Arguments that are byte slices, as bytes. -/
import Derived.Test.YtaceaemombnhkaaWords
import Derived.ChangeOld
import Derived.OpenShut
namespace Go.Proofs.Ytaceaemombnhkaa
open Go.RowKit
set_option linter.unusedVariables false

theorem Rd.later {w w' : World} {A : Option Addr} {l : List UInt8} (h : Rd w w.heap.size A l) (hb : Below w.heap.size w w') : Rd w' w'.heap.size A l := (h.below hb).more hb.size

/-- A slice of bytes that came in, as bytes. -/
theorem rd_of_ints {w : World} {x : Addr} {len cap : Nat} {zs : List Int} (hl : len ≤ cap) (hz : zs.length = cap) (hc : ∀ i, i < zs.length → w.cell? (x.add i) = some (.int .u8 (zs.getD i 0))) (hw : ∀ n ∈ zs, (Lit.int .u8 n).wf = true) :
    ∃ l : List UInt8, l.length = len ∧ Rd w w.heap.size (some x) l := by
  refine ⟨(zs.take len).map fun n => UInt8.ofNat n.toNat, by simp; omega, fun h0 => ⟨x, rfl, ?_, fun j u hu => ?_⟩⟩
  · have h := hc 0 (by simp at h0; omega)
    have hb : (x.add 0).block < w.heap.size := by
      rcases Nat.lt_or_ge (x.add 0).block w.heap.size with h1 | h1
      · exact h1
      · simp [World.cell?, Array.getElem?_eq_none h1] at h
    rwa [step_block] at hb
  · have hj : j < len := by
      have := (List.getElem?_eq_some_iff.1 hu).1
      simp [cBs] at this
      omega
    have hjz : j < zs.length := by omega
    have hb := bounds_u8 (hw zs[j] (List.getElem_mem hjz))
    have hu' : u = .int .u8 zs[j] := by
      simp [cBs, cB, hj, hjz] at hu
      rw [← hu]
      congr 1
      omega
    rw [hc j hjz, hu']
    simp [List.getD, hjz]

/-- A slice of bytes that came in: it reads as some bytes. -/
def IsBytes (w : World) (a : Option Addr) (len : Nat) : Prop := ∃ l : List UInt8, l.length = len ∧ Rd w w.heap.size a l
end Go.Proofs.Ytaceaemombnhkaa
