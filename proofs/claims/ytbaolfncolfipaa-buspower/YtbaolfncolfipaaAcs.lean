/- An argument that is a slice of acts (three numbers, bytes, two numbers), as plain data. -/
import Derived.Test.YtbaolfncolfipaaS
import Derived.SizedLaws
import Derived.Deep.Slices
import Derived.ProofKit
import Derived.OpenShut
import Derived.ChangeOld
namespace Go.Proofs.Ytbaolfncolfipaa
open Go.ChangeShapes Go.WideShapes Go.ChangeAt Go.RowKit
set_option linter.unusedVariables false

theorem Try.cells33 : Try.prog.cellsOf 33 = 6 := by kernel_rfl
theorem Try.cells31 : Try.prog.cellsOf 31 = 1 := by kernel_rfl
theorem Try.cells3 : Try.prog.cellsOf 3 = 1 := by kernel_rfl
theorem Try.bytes5 : Try.prog.bytesOf 5 = 1 := by kernel_rfl

/-- Acts out of their cells. -/
theorem acts_of {w : World} {a : Addr} {len : Nat} (h : ∀ i, i < len → ∃ d m z q n : Int, ∃ X c, ∃ l : List UInt8, w.cell? (a.add (i * 6)) = some (.int .i64 d) ∧ w.cell? (a.add (i * 6 + 1)) = some (.int .i64 m) ∧ w.cell? (a.add (i * 6 + 2)) = some (.int .i64 z) ∧ w.cell? (a.add (i * 6 + 3)) = some (.slice X l.length c) ∧ w.cell? (a.add (i * 6 + 4)) = some (.int .i64 q) ∧ w.cell? (a.add (i * 6 + 5)) = some (.int .i64 n) ∧ Rd w w.heap.size X l ∧ l.length ≤ c ∧ l.length ≤ 140737488351232) :
    ∃ acs : List Ac, acs.length = len ∧ Acts w w.heap.size (some a) acs := by
  have h' : ∀ i : Nat, ∃ t : Ac, i < len → ∃ X c, w.cell? (a.add (i * 6)) = some (.int .i64 t.d) ∧ w.cell? (a.add (i * 6 + 1)) = some (.int .i64 t.m) ∧ w.cell? (a.add (i * 6 + 2)) = some (.int .i64 t.z) ∧ w.cell? (a.add (i * 6 + 3)) = some (.slice X t.b.length c) ∧ w.cell? (a.add (i * 6 + 4)) = some (.int .i64 t.at_) ∧ w.cell? (a.add (i * 6 + 5)) = some (.int .i64 t.n) ∧ Rd w w.heap.size X t.b ∧ t.b.length ≤ c ∧ t.b.length ≤ 140737488351232 := fun i => by
    by_cases hi : i < len
    · obtain ⟨d, m, z, q, n, X, c, l, h1⟩ := h i hi
      exact ⟨⟨d, m, z, l, q, n⟩, fun _ => ⟨X, c, h1⟩⟩
    · exact ⟨⟨0, 0, 0, [], 0, 0⟩, fun hl => absurd hl hi⟩
  obtain ⟨f, hf⟩ := Classical.axiomOfChoice h'
  refine ⟨(List.range len).map f, by simp, fun h0 => ?_⟩
  have hlen : 0 < len := by simpa using h0
  obtain ⟨g, off, spot⟩ := a
  obtain ⟨X, c, hc, _⟩ := hf 0 hlen
  have hspot : spot = none := by simpa [Addr.add] using World.cell?_spot hc
  subst hspot
  have hadd : ∀ j, (⟨g, off, none⟩ : Addr).add j = ⟨g, off + j, none⟩ := fun j => by unfold Addr.add; split <;> simp_all
  have hg : g < w.heap.size := by
    rcases Nat.lt_or_ge g w.heap.size with h1 | h1
    · exact h1
    · rw [hadd] at hc
      simp [World.cell?, Array.getElem?_eq_none h1] at hc
  refine ⟨g, off, rfl, hg, fun j hj => ?_⟩
  have hj' : j < len := by simpa using hj
  obtain ⟨X, c, h1, h2, h3, h4, h5, h6, h7⟩ := hf j hj'
  rw [hadd] at h1 h2 h3 h4 h5 h6
  simp only [List.getElem_map, List.getElem_range]
  exact ⟨X, c, h1, h2, h3, h4, h5, h6, h7⟩

section
variable {H : Type} {enc : TypeId × Value → H}

theorem weights_mem_all {P : Program} {e : TypeId} : ∀ {l : List (DataW H)} {d : DataW H}, d ∈ l → ∀ n ∈ d.weights P e, n ∈ DataW.weightsAll P e l
  | d0 :: l, d, h, n, hn => by
    simp only [DataW.weightsAll, List.mem_append]
    rcases List.mem_cons.1 h with rfl | h
    · exact Or.inl hn
    · exact Or.inr (weights_mem_all h n hn)
  | [], _, h, _, _ => by cases h

/-- One block out of its reading. -/
theorem block_trod {w : World} {base : Nat} {spare : Nat → Bool} {held : Bool} {fuel : Nat} {v : Value} {D : DataW H} {Pl : List MemPlace}
    (h : DataW.trod enc Try.prog w base spare held fuel 31 [v] = some (D, Pl)) (hw : ∀ n ∈ D.weights Try.prog 31, n ≤ reachBytes) :
    ∃ X c, ∃ l : List UInt8, v = .slice X l.length c ∧ Rd w w.heap.size X l ∧ l.length ≤ c ∧ l.length ≤ 140737488351232 := by
  rcases open_ints Try.underlying31 Try.underlying5 (by kernel_rfl) h with ⟨hcs, _⟩ | ⟨x, l, c, zs, hcs, _, hl, hm, hz, hx, hcell, hwz⟩
  · simp at hcs
    subst hcs
    exact ⟨none, 0, [], rfl, Rd.nil, Nat.le_refl _, by simp⟩
  · simp at hcs
    subst hcs
    injection hx with hD _
    subst hD
    have hzl : l ≤ zs.length := by rw [hz]; split <;> omega
    have hb := hw ((((lits .u8 (zs.take l) : List (DataW H)).length) + (lits .u8 (zs.drop l) : List (DataW H)).length) * Try.prog.bytesOf 5) (by simp [DataW.weights, Try.underlying31])
    rw [Try.bytes5] at hb
    simp only [lits, List.length_map, List.length_take, List.length_drop, reachBytes] at hb
    refine ⟨some x, c, (zs.take l).map fun n => UInt8.ofNat n.toNat, ?_, fun h0 => ⟨x, rfl, ?_, fun j u hu => ?_⟩, by simp; omega, by simp; omega⟩
    · simp [Nat.min_eq_left hzl]
    · have h := hcell 0 (by simp at h0; omega)
      have hb : (x.add 0).block < w.heap.size := by
        rcases Nat.lt_or_ge (x.add 0).block w.heap.size with h1 | h1
        · exact h1
        · simp [World.cell?, Array.getElem?_eq_none h1] at h
      rwa [step_block] at hb
    · have hj : j < l := by
        have := (List.getElem?_eq_some_iff.1 hu).1
        simp [cBs] at this
        omega
      have hjz : j < zs.length := by omega
      have hb := bounds_u8 (hwz zs[j] (List.getElem_mem hjz))
      have hu' : u = .int .u8 zs[j] := by
        simp [cBs, cB, hj, hjz] at hu
        rw [← hu]
        congr 1
        omega
      rw [hcell j hjz, hu']
      simp [List.getD, hjz]

/-- One act out of its reading. -/
theorem act_trod {w : World} {base : Nat} {spare : Nat → Bool} {held : Bool} {fuel : Nat} {a : Addr} {cs : List Value} {D : DataW H} {Pl : List MemPlace}
    (hc : w.cells? base a 6 = some cs) (h : DataW.trod enc Try.prog w base spare held fuel 33 cs = some (D, Pl)) (hw : ∀ n ∈ D.weights Try.prog 33, n ≤ reachBytes) :
    ∃ d m z q n : Int, ∃ X c, ∃ l : List UInt8, w.cell? a = some (.int .i64 d) ∧ w.cell? (a.add 1) = some (.int .i64 m) ∧ w.cell? (a.add 2) = some (.int .i64 z) ∧ w.cell? (a.add 3) = some (.slice X l.length c) ∧ w.cell? (a.add 4) = some (.int .i64 q) ∧ w.cell? (a.add 5) = some (.int .i64 n) ∧ Rd w w.heap.size X l ∧ l.length ≤ c ∧ l.length ≤ 140737488351232 := by
  obtain ⟨_, hl, hat⟩ := World.cells?_some hc
  obtain ⟨xs, n, _, hx, _, hxs, hf⟩ := DataW.trod_struct Try.underlying33 h
  match cs, hl with
  | [v0, v1, v2, v3, v4, v5], _ =>
    have f0 : DataW.trod enc Try.prog w base spare held n 3 (([v0, v1, v2, v3, v4, v5].drop 0).take (Try.prog.cellsOf 3)) = xs[0]? := hf 0 _ rfl
    have f1 : DataW.trod enc Try.prog w base spare held n 3 (([v0, v1, v2, v3, v4, v5].drop 1).take (Try.prog.cellsOf 3)) = xs[1]? := hf 1 _ rfl
    have f2 : DataW.trod enc Try.prog w base spare held n 3 (([v0, v1, v2, v3, v4, v5].drop 2).take (Try.prog.cellsOf 3)) = xs[2]? := hf 2 _ rfl
    have f3 : DataW.trod enc Try.prog w base spare held n 31 (([v0, v1, v2, v3, v4, v5].drop 3).take (Try.prog.cellsOf 31)) = xs[3]? := hf 3 _ rfl
    have f4 : DataW.trod enc Try.prog w base spare held n 3 (([v0, v1, v2, v3, v4, v5].drop 4).take (Try.prog.cellsOf 3)) = xs[4]? := hf 4 _ rfl
    have f5 : DataW.trod enc Try.prog w base spare held n 3 (([v0, v1, v2, v3, v4, v5].drop 5).take (Try.prog.cellsOf 3)) = xs[5]? := hf 5 _ rfl
    match xs, hxs with
    | [y0, y1, y2, (D3, P3), y4, y5], _ =>
      have g0 : DataW.trod enc Try.prog w base spare held n 3 [v0] = some y0 := by rw [Try.cells3] at f0; exact f0
      have g1 : DataW.trod enc Try.prog w base spare held n 3 [v1] = some y1 := by rw [Try.cells3] at f1; exact f1
      have g2 : DataW.trod enc Try.prog w base spare held n 3 [v2] = some y2 := by rw [Try.cells3] at f2; exact f2
      have g3 : DataW.trod enc Try.prog w base spare held n 31 [v3] = some (D3, P3) := by rw [Try.cells31] at f3; exact f3
      have g4 : DataW.trod enc Try.prog w base spare held n 3 [v4] = some y4 := by rw [Try.cells3] at f4; exact f4
      have g5 : DataW.trod enc Try.prog w base spare held n 3 [v5] = some y5 := by rw [Try.cells3] at f5; exact f5
      injection hx with hD _
      obtain ⟨d, e0, _, _⟩ := DataW.trod_int Try.underlying3 g0
      obtain ⟨m, e1, _, _⟩ := DataW.trod_int Try.underlying3 g1
      obtain ⟨z, e2, _, _⟩ := DataW.trod_int Try.underlying3 g2
      obtain ⟨q, e4, _, _⟩ := DataW.trod_int Try.underlying3 g4
      obtain ⟨nn, e5, _, _⟩ := DataW.trod_int Try.underlying3 g5
      obtain ⟨X, c, l, e3, h3, h4, h5⟩ := block_trod g3 (fun k hk => hw k (by
        subst hD
        simp only [DataW.weights, Try.underlying33, List.map_cons, List.map_nil, DataW.weightsEach, List.mem_append]
        exact Or.inr (Or.inr (Or.inr (Or.inl hk)))))
      simp at e0 e1 e2 e4 e5
      subst e0 e1 e2 e3 e4 e5
      have c0 := hat 0 (by omega)
      have c1 := hat 1 (by omega)
      have c2 := hat 2 (by omega)
      have c3 := hat 3 (by omega)
      have c4 := hat 4 (by omega)
      have c5 := hat 5 (by omega)
      have ha0 : a.add 0 = a := by simp [Addr.add]
      rw [ha0] at c0
      exact ⟨d, m, z, q, nn, X, c, l, c0, c1, c2, c3, c4, c5, h3, h4, h5⟩

/-- What an argument of acts is. -/
def AreActs (w : World) (a : Option Addr) (len : Nat) : Prop := ∃ acs : List Ac, acs.length = len ∧ Acts w w.heap.size a acs

theorem acts_trod {w : World} {base : Nat} {spare : Nat → Bool} {held : Bool} {fuel : Nat} {a : Option Addr} {len cap : Nat} {D : DataW H} {Pl : List MemPlace}
    (h : DataW.trod enc Try.prog w base spare held fuel 22 [.slice a len cap] = some (D, Pl)) (hw : ∀ n ∈ D.weights Try.prog 22, n ≤ reachBytes) : AreActs w a len ∧ len ≤ maxLen := by
  rcases Go.Deep.open_slice Try.underlying22 h with ⟨hcs, _⟩ | ⟨x, l, c, m, n, V, Pl', hcs, _, hl, hm, hmm, hx, hi⟩
  · simp at hcs
    obtain ⟨rfl, rfl, rfl⟩ := hcs
    exact ⟨⟨[], rfl, fun h => by simp at h⟩, Nat.zero_le _⟩
  · simp at hcs
    obtain ⟨rfl, rfl, rfl⟩ := hcs
    injection hx with hD _
    subst hD
    refine ⟨acts_of fun i hil => ?_, Nat.le_trans hl hm⟩
    obtain ⟨cs', h1, h2⟩ := hi i (by rw [hmm]; split <;> omega)
    rw [Try.cells33] at h1
    obtain ⟨d, mm, zz, q, nn, X, c', bs, z1, z2, z3, z4, z5, z6, h3⟩ := act_trod h1 h2 (fun k hk => hw k (by
      simp only [DataW.weights, Try.underlying22, List.mem_cons, List.mem_append]
      exact Or.inr (Or.inl (weights_mem_all (List.mem_map.2 ⟨i, by simpa using hil, rfl⟩) k hk))))
    rw [step_step] at z2 z3 z4 z5 z6
    exact ⟨d, mm, zz, q, nn, X, c', bs, z1, z2, z3, z4, z5, z6, h3⟩
end
end Go.Proofs.Ytbaolfncolfipaa
