/- An argument that is a slice of byte slices, as lists of bytes. -/
import Derived.Test.YtkjdinlebpkimaaC
import Derived.SizedLaws
import Derived.Deep.Slices
import Derived.ProofKit
import Derived.OpenShut
import Derived.ChangeOld
namespace Go.Proofs.Ytkjdinlebpkimaa
open Go.ChangeShapes Go.WideShapes Go.ChangeAt Go.RowKit
set_option linter.unusedVariables false

theorem Try.cells23 : Try.prog.cellsOf 23 = 1 := by kernel_rfl
theorem Try.bytes5 : Try.prog.bytesOf 5 = 1 := by kernel_rfl

/-- Blocks out of their cells. -/
theorem pts_of {w : World} {a : Addr} {len : Nat} (h : ∀ i, i < len → ∃ X c, ∃ l : List UInt8, w.cell? (a.add i) = some (.slice X l.length c) ∧ Rd w w.heap.size X l ∧ l.length ≤ 140737488351232) :
    ∃ ps : List (List UInt8), ps.length = len ∧ Pts w w.heap.size (some a) ps ∧ ∀ l ∈ ps, l.length ≤ 140737488351232 := by
  have h' : ∀ i : Nat, ∃ l : List UInt8, i < len → ∃ X c, w.cell? (a.add i) = some (.slice X l.length c) ∧ Rd w w.heap.size X l ∧ l.length ≤ 140737488351232 := fun i => by
    by_cases hi : i < len
    · obtain ⟨X, c, l, h1⟩ := h i hi
      exact ⟨l, fun _ => ⟨X, c, h1⟩⟩
    · exact ⟨[], fun hl => absurd hl hi⟩
  obtain ⟨f, hf⟩ := Classical.axiomOfChoice h'
  refine ⟨(List.range len).map f, by simp, fun h0 => ?_, fun l hl => ?_⟩
  · have hlen : 0 < len := by simpa using h0
    obtain ⟨g, off, spot⟩ := a
    obtain ⟨X, c, hc, _⟩ := hf 0 hlen
    have hspot : spot = none := by simpa [Addr.add] using World.cell?_spot hc
    subst hspot
    have hadd : ∀ j, (⟨g, off, none⟩ : Addr).add j = ⟨g, off + j, none⟩ := fun j => by unfold Addr.add; split <;> simp_all
    have hg : g < w.heap.size := by
      rcases Nat.lt_or_ge g w.heap.size with h1 | h1
      · exact h1
      · rw [hadd] at hc
        simp [World.cell?, Array.getElem?_eq_none h1] at hc
    refine ⟨g, off, rfl, hg, fun j hj => ?_⟩
    have hj' : j < len := by simpa using hj
    obtain ⟨X, c, h1, h2, _⟩ := hf j hj'
    rw [hadd] at h1
    simp only [List.getElem_map, List.getElem_range]
    exact ⟨X, c, h1, h2⟩
  · obtain ⟨i, hi, rfl⟩ := List.mem_map.1 hl
    obtain ⟨X, c, _, _, h3⟩ := hf i (by simpa using hi)
    exact h3

section
variable {H : Type} {enc : TypeId × Value → H}

theorem weights_mem_all {P : Program} {e : TypeId} : ∀ {l : List (DataW H)} {d : DataW H}, d ∈ l → ∀ n ∈ d.weights P e, n ∈ DataW.weightsAll P e l
  | d0 :: l, d, h, n, hn => by
    simp only [DataW.weightsAll, List.mem_append]
    rcases List.mem_cons.1 h with rfl | h
    · exact Or.inl hn
    · exact Or.inr (weights_mem_all h n hn)
  | [], _, h, _, _ => by cases h

/-- One block out of its reading. -/
theorem block_trod {w : World} {base : Nat} {spare : Nat → Bool} {held : Bool} {fuel : Nat} {v : Value} {D : DataW H} {Pl : List MemPlace}
    (h : DataW.trod enc Try.prog w base spare held fuel 23 [v] = some (D, Pl)) (hw : ∀ n ∈ D.weights Try.prog 23, n ≤ reachBytes) :
    ∃ X c, ∃ l : List UInt8, v = .slice X l.length c ∧ Rd w w.heap.size X l ∧ l.length ≤ 140737488351232 := by
  rcases open_ints Try.underlying23 Try.underlying5 (by kernel_rfl) h with ⟨hcs, _⟩ | ⟨x, l, c, zs, hcs, _, hl, hm, hz, hx, hcell, hwz⟩
  · simp at hcs
    subst hcs
    exact ⟨none, 0, [], rfl, Rd.nil, by simp⟩
  · simp at hcs
    subst hcs
    injection hx with hD _
    subst hD
    have hzl : l ≤ zs.length := by rw [hz]; split <;> omega
    have hb := hw ((((lits .u8 (zs.take l) : List (DataW H)).length) + (lits .u8 (zs.drop l) : List (DataW H)).length) * Try.prog.bytesOf 5) (by simp [DataW.weights, Try.underlying23])
    rw [Try.bytes5] at hb
    simp only [lits, List.length_map, List.length_take, List.length_drop, reachBytes] at hb
    refine ⟨some x, c, (zs.take l).map fun n => UInt8.ofNat n.toNat, ?_, fun h0 => ⟨x, rfl, ?_, fun j u hu => ?_⟩, by simp; omega⟩
    · simp [Nat.min_eq_left hzl]
    · have h := hcell 0 (by simp at h0; omega)
      have hb : (x.add 0).block < w.heap.size := by
        rcases Nat.lt_or_ge (x.add 0).block w.heap.size with h1 | h1
        · exact h1
        · simp [World.cell?, Array.getElem?_eq_none h1] at h
      rwa [step_block] at hb
    · have hj : j < l := by
        have := (List.getElem?_eq_some_iff.1 hu).1
        simp [cBs] at this
        omega
      have hjz : j < zs.length := by omega
      have hb := bounds_u8 (hwz zs[j] (List.getElem_mem hjz))
      have hu' : u = .int .u8 zs[j] := by
        simp [cBs, cB, hj, hjz] at hu
        rw [← hu]
        congr 1
        omega
      rw [hcell j hjz, hu']
      simp [List.getD, hjz]

/-- What an argument of blocks is. -/
def AreBlocks (w : World) (a : Option Addr) (len : Nat) : Prop := ∃ ps : List (List UInt8), ps.length = len ∧ Pts w w.heap.size a ps ∧ ∀ l ∈ ps, l.length ≤ 140737488351232

theorem blocks_trod {w : World} {base : Nat} {spare : Nat → Bool} {held : Bool} {fuel : Nat} {a : Option Addr} {len cap : Nat} {D : DataW H} {Pl : List MemPlace}
    (h : DataW.trod enc Try.prog w base spare held fuel 22 [.slice a len cap] = some (D, Pl)) (hw : ∀ n ∈ D.weights Try.prog 22, n ≤ reachBytes) : AreBlocks w a len ∧ len ≤ maxLen := by
  rcases Go.Deep.open_slice1 Try.underlying22 Try.cells23 h with ⟨hcs, _⟩ | ⟨x, l, c, m, n, V, D', Pl', hcs, _, hl, hm, hmm, hx, hi⟩
  · simp at hcs
    obtain ⟨rfl, rfl, rfl⟩ := hcs
    exact ⟨⟨[], rfl, fun h => by simp at h, fun l hl => by cases hl⟩, Nat.zero_le _⟩
  · simp at hcs
    obtain ⟨rfl, rfl, rfl⟩ := hcs
    injection hx with hD _
    subst hD
    refine ⟨pts_of fun i hil => ?_, Nat.le_trans hl hm⟩
    obtain ⟨h1, h2⟩ := hi i (by rw [hmm]; split <;> omega)
    obtain ⟨X, c', bs, hV, h3, h4⟩ := block_trod h2 (fun k hk => hw k (by
      simp only [DataW.weights, Try.underlying22, List.mem_cons, List.mem_append]
      exact Or.inr (Or.inl (weights_mem_all (List.mem_map.2 ⟨i, by simpa using hil, rfl⟩) k hk))))
    exact ⟨X, c', bs, by rw [h1, hV], h3, h4⟩
end
end Go.Proofs.Ytkjdinlebpkimaa
