/- A slice of records as an argument; the contract of Join. -/
import Derived.Test.YtmebbggmdfejkaaRn
import Derived.Test.YtmebbggmdfejkaaRo
import Derived.Deep.DeepCutAuto
namespace Go.Proofs.Ytmebbggmdfejkaa
set_option linter.unusedVariables false
set_option linter.unusedSimpArgs false
open Go.RowKit
open Go.RowKit (wrap64)

open Go.ChangeShapes Go.WideShapes Go.ChangeAt
/-- Records at A. -/
def Recs (w : World) (B : Nat) (A : Option Addr) (xs : List ((Nat → Int) × List UInt8)) : Prop :=
  0 < xs.length → ∃ g off, A = some ⟨g, off, none⟩ ∧ g < B ∧ ∀ j (hj : j < xs.length), ∃ X c, (∀ i, i < 9 → w.cell? ⟨g, off + j * 10 + i, none⟩ = some (.int .i64 (xs[j].1 i))) ∧ w.cell? ⟨g, off + j * 10 + 9, none⟩ = some (.slice X xs[j].2.length c) ∧ Rd w B X xs[j].2 ∧ xs[j].2.length ≤ c ∧ xs[j].2.length ≤ 140737488351232
theorem Recs.below {w w' : World} {B : Nat} {A : Option Addr} {xs : List ((Nat → Int) × List UInt8)} (h : Recs w B A xs) (hb : Below B w w') : Recs w' B A xs := fun h0 => by
  obtain ⟨g, off, rfl, hg, hc⟩ := h h0
  refine ⟨g, off, rfl, hg, fun j hj => ?_⟩
  obtain ⟨X, c, h1, h2, h3, h4, h5⟩ := hc j hj
  exact ⟨X, c, fun i hi => (hb.cell (p := ⟨g, off + j * 10 + i, none⟩) hg).trans (h1 i hi), (hb.cell (p := ⟨g, off + j * 10 + 9, none⟩) hg).trans h2, h3.below hb, h4, h5⟩
theorem recs_of {w : World} {a : Addr} {len : Nat} (h : ∀ i, i < len → ∃ n : Nat → Int, ∃ X c, ∃ l : List UInt8, (∀ q, q < 9 → w.cell? (a.add (i * 10 + q)) = some (.int .i64 (n q))) ∧ w.cell? (a.add (i * 10 + 9)) = some (.slice X l.length c) ∧ Rd w w.heap.size X l ∧ l.length ≤ c ∧ l.length ≤ 140737488351232) :
    ∃ xs : List ((Nat → Int) × List UInt8), xs.length = len ∧ Recs w w.heap.size (some a) xs := by
  have h' : ∀ i : Nat, ∃ t : (Nat → Int) × List UInt8, i < len → ∃ X c, (∀ q, q < 9 → w.cell? (a.add (i * 10 + q)) = some (.int .i64 (t.1 q))) ∧ w.cell? (a.add (i * 10 + 9)) = some (.slice X t.2.length c) ∧ Rd w w.heap.size X t.2 ∧ t.2.length ≤ c ∧ t.2.length ≤ 140737488351232 := fun i => by
    by_cases hi : i < len
    · obtain ⟨n, X, c, l, h1⟩ := h i hi
      exact ⟨(n, l), fun _ => ⟨X, c, h1⟩⟩
    · exact ⟨(fun _ => 0, []), fun hl => absurd hl hi⟩
  obtain ⟨f, hf⟩ := Classical.axiomOfChoice h'
  refine ⟨(List.range len).map f, by simp, fun h0 => ?_⟩
  have hlen : 0 < len := by simpa using h0
  obtain ⟨g, off, spot⟩ := a
  obtain ⟨X, c, hc, _⟩ := hf 0 hlen
  have hc := hc 0 (by omega)
  have hspot : spot = none := by simpa [Addr.add] using World.cell?_spot hc
  subst hspot
  have hadd : ∀ j, (⟨g, off, none⟩ : Addr).add j = ⟨g, off + j, none⟩ := fun j => by unfold Addr.add; split <;> simp_all
  have hg : g < w.heap.size := by
    rcases Nat.lt_or_ge g w.heap.size with h1 | h1
    · exact h1
    · rw [hadd] at hc
      simp [World.cell?, Array.getElem?_eq_none h1] at hc
  refine ⟨g, off, rfl, hg, fun j hj => ?_⟩
  have hj' : j < len := by simpa using hj
  obtain ⟨X, c, h1, h2, h3⟩ := hf j hj'
  rw [hadd] at h2
  simp only [List.getElem_map, List.getElem_range]
  exact ⟨X, c, fun i hi => by have h := h1 i hi; rw [hadd] at h; rw [Nat.add_assoc]; exact h, by rw [Nat.add_assoc]; exact h2, h3⟩
section
variable {H : Type} {enc : TypeId × Value → H}
theorem rec_cells {w : World} {base : Nat} {spare : Nat → Bool} {held : Bool} {fuel : Nat} {a : Addr} {cs : List Value} {D : DataW H} {Pl : List MemPlace}
    (hc : w.cells? base a 10 = some cs) (h : DataW.trod enc Try.prog w base spare held fuel 24 cs = some (D, Pl)) (hw : ∀ n ∈ D.weights Try.prog 24, n ≤ reachBytes) :
    ∃ n : Nat → Int, ∃ X c, ∃ l : List UInt8, (∀ q, q < 9 → w.cell? (a.add q) = some (.int .i64 (n q))) ∧ w.cell? (a.add 9) = some (.slice X l.length c) ∧ Rd w w.heap.size X l ∧ l.length ≤ c ∧ l.length ≤ 140737488351232 := by
  obtain ⟨_, hl, hat⟩ := World.cells?_some hc
  obtain ⟨n, X, c, l, rfl, h1, h2, h3⟩ := rec_trod h hw
  refine ⟨n, X, c, l, fun q hq => ?_, hat 9 (by omega), h1, h2, h3⟩
  have hq2 := hat q (by omega)
  match q, hq, hq2 with
  | 0, _, hq2 => exact hq2
  | 1, _, hq2 => exact hq2
  | 2, _, hq2 => exact hq2
  | 3, _, hq2 => exact hq2
  | 4, _, hq2 => exact hq2
  | 5, _, hq2 => exact hq2
  | 6, _, hq2 => exact hq2
  | 7, _, hq2 => exact hq2
  | 8, _, hq2 => exact hq2
  | q + 9, hq, _ => omega
theorem open_recs {w : World} {base : Nat} {spare : Nat → Bool} {held : Bool} {A : Option Addr} {len cap : Nat} {d : DataW H} {p : List MemPlace} (h : DataW.Trod enc Try.prog w base spare held 39 (.slice A len cap) d p) (hw : ∀ n ∈ d.weights Try.prog 39, n ≤ reachBytes) :
    ∃ xs : List ((Nat → Int) × List UInt8), xs.length = len ∧ Recs w w.heap.size A xs ∧ len ≤ maxLen := by
  obtain ⟨fuel, hf⟩ := h
  have h : DataW.trod enc Try.prog w base spare held fuel 39 [.slice A len cap] = some (d, p) := by simpa [Value.cells] using hf
  rcases Go.Deep.open_slice Try.underlying39 h with ⟨hcs, _⟩ | ⟨x, l, c, m, n, V, Pl', hcs, _, hl, hm, hmm, hx, hi⟩
  · simp at hcs
    obtain ⟨rfl, rfl, rfl⟩ := hcs
    exact ⟨[], rfl, fun h => by simp at h, Nat.zero_le _⟩
  · simp at hcs
    obtain ⟨rfl, rfl, rfl⟩ := hcs
    injection hx with hD _
    subst hD
    have hR : ∃ xs : List ((Nat → Int) × List UInt8), xs.length = len ∧ Recs w w.heap.size (some x) xs := recs_of fun i hil => by
      obtain ⟨cs', h1, h2⟩ := hi i (by rw [hmm]; split <;> omega)
      rw [Try.cells24] at h1
      obtain ⟨nn, X, c', bs, z1, z2, h3⟩ := rec_cells h1 h2 (fun k hk => hw k (by
        simp only [DataW.weights, Try.underlying39, List.mem_cons, List.mem_append]
        exact Or.inr (Or.inl (weights_mem_all (List.mem_map.2 ⟨i, by simpa using hil, rfl⟩) k hk))))
      rw [step_step] at z2
      exact ⟨nn, X, c', bs, fun q hq => by have h := z1 q hq; rw [step_step] at h; exact h, z2, h3⟩
    obtain ⟨xs, h1, h2⟩ := hR
    exact ⟨xs, h1, h2, Nat.le_trans hl hm⟩
end
theorem putsL_snoc (bl : Int) : ∀ (l : List ((Nat → Int) × List UInt8)) (x : (Nat → Int) × List UInt8), putsL bl (l ++ [x]) = putsL bl l ++ putL x.1 x.2 bl
  | [], x => by simp [putsL]
  | y :: l, x => by
    show putL y.1 y.2 bl ++ putsL bl (l ++ [x]) = (putL y.1 y.2 bl ++ putsL bl l) ++ putL x.1 x.2 bl
    rw [putsL_snoc bl l x, List.append_assoc]
theorem putL_le (n : Nat → Int) (l : List UInt8) (bl : Int) : (putL n l bl).length ≤ 4300 + l.length ∧ (putL n l bl).length ≤ 1100000 := by
  by_cases h : (rightB n l.length && mayB bl) = true
  · rw [Bool.and_eq_true] at h
    have h1 := putL_length h.1 h.2
    have h2 := (rightB_iff.1 h.1).2
    have h3 := mayB_iff.1 h.2
    have h4 : spanN (80 + l.length) bl.toNat * bl.toNat ≤ 16 + (80 + l.length) + bl.toNat - 1 := Nat.div_mul_le_self _ _
    rw [← h1] at h4
    omega
  · unfold putL
    rw [if_neg h]
    simp
theorem putsL_le (bl : Int) : ∀ (l : List ((Nat → Int) × List UInt8)), (putsL bl l).length ≤ 1100000 * l.length
  | [] => by simp [putsL]
  | y :: l => by
    show (putL y.1 y.2 bl ++ putsL bl l).length ≤ 1100000 * (l.length + 1)
    have h1 := (putL_le y.1 y.2 bl).2
    have h2 := putsL_le bl l
    rw [List.length_append]
    omega
theorem putsL_small (bl : Int) : ∀ (l : List ((Nat → Int) × List UInt8)), (∀ x ∈ l, x.2.length ≤ 300) → (putsL bl l).length ≤ 4600 * l.length
  | [], _ => by simp [putsL]
  | y :: l, h => by
    show (putL y.1 y.2 bl ++ putsL bl l).length ≤ 4600 * (l.length + 1)
    have h1 := (putL_le y.1 y.2 bl).1
    have h2 := putsL_small bl l (fun x hx => h x (List.mem_cons_of_mem _ hx))
    have h3 := h y List.mem_cons_self
    rw [List.length_append]
    omega
theorem putsL_take (bl : Int) (xs : List ((Nat → Int) × List UInt8)) (k : Nat) (hk : k < xs.length) : putsL bl (xs.take (k + 1)) = putsL bl (xs.take k) ++ putL xs[k].1 xs[k].2 bl := by
  rw [List.take_succ_eq_append_getElem hk, putsL_snoc]
set_option maxRecDepth 100000 in
set_option maxHeartbeats 4000000 in
theorem join_any (A : Option Addr) (c : Nat) (xs : List ((Nat → Int) × List UInt8)) (bl : Int) (w : World) (hr : Recs w w.heap.size A xs) (hn : xs.length ≤ 50) : Calls Try.prog 20 #[.int .i64 bl, .slice A xs.length c] w (GaveB w (putsL bl xs)) := by
  obtain ⟨i0, hi, hz0, hz1, hz2⟩ := info_parts Try.info5
  have H1 := Lib.hid hi
  have H2 := Lib.hid hz0
  have H3 := Lib.hid hz1
  have H4 := Lib.hid hz2
  clear hi hz0 hz1 hz2
  have HA : Hid (∀ w', Below w.heap.size w w' → Recs w' w.heap.size A xs) := fun w' h => hr.below h
  clear hr
  go_enter Try.func20, Try.ntmps20
  go_wp2
  go_loopw [5, 10] (fun b i wr => ∃ k : Nat, k ≤ xs.length ∧ i = .int .i64 k ∧ Own wr w.heap.size 5 b (putsL bl (xs.take k)) ∧ Below w.heap.size w wr) (fun _ i _ => xs.length - (intOf i).toNat)
  case atStart => exact ⟨0, by omega, rfl, World.ownsRow_nil _ _ _ _, Below.refl _ _⟩
  case round =>
    obtain ⟨k, hk, rfl, ho, hb⟩ := hrel
    have HW := Lib.hid (And.intro ho hb)
    clear ho hb
    by_cases hlt : k < xs.length
    · obtain ⟨g, off, rfl, hg, hcc⟩ := HA.out wr HW.out.2 (by omega)
      obtain ⟨X, cx, hnn, hbd, hX, hcx, hlx⟩ := hcc k hlt
      have HPT := Lib.hid (putsL_take bl xs k hlt)
      have HPL := Lib.hid (putsL_le bl (xs.take k))
      have HTL : Hid ((xs.take k).length = k) := by
        show _ = k
        rw [List.length_take]
        omega
      obtain ⟨n, hn9⟩ : ∃ n, xs[k].1 = n := ⟨_, rfl⟩
      obtain ⟨l, hl9⟩ : ∃ l, xs[k].2 = l := ⟨_, rfl⟩
      rw [hn9] at hnn HPT
      rw [hl9] at hbd hX hcx hlx HPT
      have y0 : wr.cell? ⟨g, off + k * 10, none⟩ = some (.int .i64 (n 0)) := hnn 0 (by omega)
      have y1 : wr.cell? ⟨g, off + k * 10 + 1, none⟩ = some (.int .i64 (n 1)) := hnn 1 (by omega)
      have y2 : wr.cell? ⟨g, off + k * 10 + 2, none⟩ = some (.int .i64 (n 2)) := hnn 2 (by omega)
      have y3 : wr.cell? ⟨g, off + k * 10 + 3, none⟩ = some (.int .i64 (n 3)) := hnn 3 (by omega)
      have y4 : wr.cell? ⟨g, off + k * 10 + 4, none⟩ = some (.int .i64 (n 4)) := hnn 4 (by omega)
      have y5 : wr.cell? ⟨g, off + k * 10 + 5, none⟩ = some (.int .i64 (n 5)) := hnn 5 (by omega)
      have y6 : wr.cell? ⟨g, off + k * 10 + 6, none⟩ = some (.int .i64 (n 6)) := hnn 6 (by omega)
      have y7 : wr.cell? ⟨g, off + k * 10 + 7, none⟩ = some (.int .i64 (n 7)) := hnn 7 (by omega)
      have y8 : wr.cell? ⟨g, off + k * 10 + 8, none⟩ = some (.int .i64 (n 8)) := hnn 8 (by omega)
      have HX := Lib.hid hX
      clear hn9 hl9 hcc hnn hX
      generalize putsL bl (xs.take k) = L at HW HPT HPL ⊢
      go_upto_region 5 with fail
      have HV : Hid (RecAt (wr.alloc (.cells #[.int .i64 (n 0), .int .i64 (n 1), .int .i64 (n 2), .int .i64 (n 3), .int .i64 (n 4), .int .i64 (n 5), .int .i64 (n 6), .int .i64 (n 7), .int .i64 (n 8), .slice X l.length cx] 24)) wr.heap.size n (.slice X l.length cx) ∧ Own (wr.alloc (.cells #[.int .i64 (n 0), .int .i64 (n 1), .int .i64 (n 2), .int .i64 (n 3), .int .i64 (n 4), .int .i64 (n 5), .int .i64 (n 6), .int .i64 (n 7), .int .i64 (n 8), .slice X l.length cx] 24)) w.heap.size 5 u5 L ∧ Below w.heap.size w (wr.alloc (.cells #[.int .i64 (n 0), .int .i64 (n 1), .int .i64 (n 2), .int .i64 (n 3), .int .i64 (n 4), .int .i64 (n 5), .int .i64 (n 6), .int .i64 (n 7), .int .i64 (n 8), .slice X l.length cx] 24)) ∧ Rd (wr.alloc (.cells #[.int .i64 (n 0), .int .i64 (n 1), .int .i64 (n 2), .int .i64 (n 3), .int .i64 (n 4), .int .i64 (n 5), .int .i64 (n 6), .int .i64 (n 7), .int .i64 (n 8), .slice X l.length cx] 24)) (wr.alloc (.cells #[.int .i64 (n 0), .int .i64 (n 1), .int .i64 (n 2), .int .i64 (n 3), .int .i64 (n 4), .int .i64 (n 5), .int .i64 (n 6), .int .i64 (n 7), .int .i64 (n 8), .slice X l.length cx] 24)).heap.size X l) := by
        have hb : Below wr.heap.size wr (wr.alloc (.cells #[.int .i64 (n 0), .int .i64 (n 1), .int .i64 (n 2), .int .i64 (n 3), .int .i64 (n 4), .int .i64 (n 5), .int .i64 (n 6), .int .i64 (n 7), .int .i64 (n 8), .slice X l.length cx] 24)) := (Below.refl _ _).alloc (Nat.le_refl _) _
        exact ⟨Box.fresh wr 24 _, HW.out.1.later hb, HW.out.2.trans (hb.mono HW.out.2.size), (HX.out.more HW.out.2.size).later hb⟩
      generalize (wr.alloc (.cells #[.int .i64 (n 0), .int .i64 (n 1), .int .i64 (n 2), .int .i64 (n 3), .int .i64 (n 4), .int .i64 (n 5), .int .i64 (n 6), .int .i64 (n 7), .int .i64 (n 8), .slice X l.length cx] 24)) = w2 at HV ⊢
      generalize wr.heap.size = g2 at HV ⊢
      clear HW HX hbd y0 y1 y2 y3 y4 y5 y6 y7 y8
      obtain ⟨z0, z1, z2, z3, z4, z5, z6, z7, z8, z9⟩ := box10 HV.out.1
      go_wp2_with fail
      refine (put_any n X cx l bl w2 HV.out.2.2.2 (by unfold maxLen; omega)).mono ?_
      rintro e w3 ⟨E, ce, rfl, hE, hce, hb⟩
      have HV3 : Hid (Own w3 w.heap.size 5 u5 L ∧ Below w.heap.size w w3 ∧ Rd w3 w3.heap.size E (putL n l bl)) := ⟨HV.out.2.1.later hb, HV.out.2.2.1.trans (hb.mono HV.out.2.2.1.size), hE⟩
      have HP1 := Lib.hid (putL_le n l bl).2
      clear hb hE hce HV z0 z1 z2 z3 z4 z5 z6 z7 z8 z9
      generalize putL n l bl = Q at HV3 HPT HP1 ⊢
      have hs3 := HV3.out.2.1.size
      go_wp2_with (at_builtin; refine wpList_app _ rfl (.tmp 14) (.tmp 17) 22 rfl w.heap.size 5 i0 Try.underlying22 H1.out H2.out H3.out H4.out _ L rfl HV3.out.1 w3.heap.size E ce Q rfl HV3.out.2.2 (by have h1 := HPL.out; have h2 := HP1.out; rw [HTL.out] at h1; omega) hs3 ?_; intro v' w4 ho' hg' hb')
      have HQ : Hid (Own w4 w.heap.size 5 v' (putsL bl (xs.take (k + 1))) ∧ Below w.heap.size w w4) := by
        rw [HPT.out]
        exact ⟨ho', HV3.out.2.1.trans (own_below HV3.out.1 hg' hs3)⟩
      clear ho' hg' hb' HV3 HPL HTL HPT
      go_wp2
      go_roundw
      case rel => exact ⟨k + 1, by omega, by go_num, HQ.out.1, HQ.out.2⟩
      case measure => simp [intOf]; omega
    · obtain rfl : k = xs.length := by omega
      obtain ⟨E, ce, hv, hE, hce, _⟩ := HW.out.1.rd
      subst hv
      rw [List.take_length] at hE hce HW ⊢
      have HQ := Lib.hid (And.intro hE (And.intro hce HW.out.2))
      clear hE hce HW
      generalize hP : putsL bl xs = P at HQ ⊢
      have HP := Lib.hid hP
      clear hP
      go_wp2
      go_ret
      rw [HP.out]
      exact ⟨E, ce, rfl, HQ.out.1, HQ.out.2.1, HQ.out.2.2⟩
end Go.Proofs.Ytmebbggmdfejkaa
