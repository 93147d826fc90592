/- The contract of New. -/
import Derived.Test.YtaceaemombnhkaaSi
namespace Go.Proofs.Ytaceaemombnhkaa
set_option linter.unusedVariables false
set_option maxRecDepth 100000
set_option linter.unusedSimpArgs false
open Go.RowKit
open Go.RowKit (wrap64)

section
variable {P : Program} {ops : Array Oper} {Q : Exit → Act → World → Prop} {md : Region.Mode} {B : Nat}
theorem wpB_three {i j k : Nat} {oi oj ok : Oper} {fuel : Nat} {listed : Array Bool} {a : Act} {w : World} (hr : Region.ready md ops listed = [i, j, k]) (hi : ops[i]? = some oi) (hj : ops[j]? = some oj) (hk : ops[k]? = some ok)
    (hwi : Region.wanted oi (yielded ops a.tmps) = true) (hwj : Region.wanted oj (yielded ops a.tmps) = true) (hwk : Region.wanted ok (yielded ops a.tmps) = true)
    (h1 : ∀ K : Act → World → Prop, Shut (Goes P md ops Q B fuel (listed.setIfInBounds i true) w K) → Oper.wp P oi a w K Q)
    (h2 : ∀ K : Act → World → Prop, Shut (Goes P md ops Q B fuel (listed.setIfInBounds j true) w K) → Oper.wp P oj a w K Q)
    (h3 : ∀ K : Act → World → Prop, Shut (Goes P md ops Q B fuel (listed.setIfInBounds k true) w K) → Oper.wp P ok a w K Q) : wpB P md ops Q B (fuel + 1) listed a w := by
  refine wpAnyH_all hr (by simp) fun m hm => ?_
  have hm' : m = i ∨ m = j ∨ m = k := by simpa using hm
  rcases hm' with rfl | rfl | rfl
  · refine wpOp_step hi fun K hK => ?_
    rw [if_pos hwi]
    exact h1 K (goes_held hK)
  · refine wpOp_step hj fun K hK => ?_
    rw [if_pos hwj]
    exact h2 K (goes_held hK)
  · refine wpOp_step hk fun K hK => ?_
    rw [if_pos hwk]
    exact h3 K (goes_held hK)
end
/-- What a call that makes a state answers. -/
def GotS (w : World) (s : St) (er : Int) (e : Ending) (w' : World) : Prop := ∃ A k D d, e = .returned (.tuple #[(.agg #[.int .i64 s.c.id, .int .i64 s.c.m, .int .i64 s.c.u, .int .i64 s.c.b, .int .i64 s.c.cp, .int .i64 s.c.z, .int .i64 s.c.s, .int .i64 s.c.mt, .int .i64 s.c.o, .int .i64 s.c.a, .int .i64 s.c.l, .int .i64 s.ep, .int .i64 s.sq, .slice A s.st.length k, .slice D s.zs.length d]), .int .i64 er]) ∧ StAt w' (LT w'.heap.size) A s.st k D s.zs d ∧ Below w.heap.size w w'
/-- The row of zones at the beginning, q of them without a slot. -/
def nzc (q i : Nat) : Value := if i % 6 = 0 then .int .i64 0 else if i % 6 = 1 then .int .i64 (if i / 6 < q then -1 else 0) else if i % 6 = 2 then .bool false else if i % 6 = 3 then .int .i64 0 else if i % 6 = 4 then .bool false else .slice none 0 0
def nzRow (n q : Nat) : List Value := (List.range (n * 6)).map (nzc q)
theorem nzRow_length (n q : Nat) : (nzRow n q).length = n * 6 := by simp [nzRow]
theorem nzRow_at {n q i : Nat} (h : i < n * 6) : (nzRow n q)[i]? = some (nzc q i) := by simp [nzRow, h]
theorem nzRow_made (n : Nat) : madeCells #[.int .i64 0, .int .i64 0, .bool false, .int .i64 0, .bool false, .slice none 0 0] (n * 6) = (nzRow n 0).toArray := by
  apply Array.ext_getElem?
  intro i
  by_cases hi : i < n * 6
  · rw [show (nzRow n 0).toArray[i]? = (nzRow n 0)[i]? by simp, nzRow_at hi]
    have h6 : i % 6 < 6 := Nat.mod_lt _ (by omega)
    have h : i % 6 = 0 ∨ i % 6 = 1 ∨ i % 6 = 2 ∨ i % 6 = 3 ∨ i % 6 = 4 ∨ i % 6 = 5 := by omega
    rcases h with h | h | h | h | h | h <;> simp [madeCells, nzc, hi, h]
  · rw [show (nzRow n 0).toArray[i]? = (nzRow n 0)[i]? by simp, List.getElem?_eq_none (by rw [nzRow_length]; omega)]
    simp [madeCells, hi]
theorem nzRow_set {n q : Nat} (h : q < n) : (nzRow n q).set (q * 6 + 1) (.int .i64 (-1)) = nzRow n (q + 1) := by
  apply List.ext_getElem?
  intro i
  by_cases hi : i < n * 6
  · rw [List.getElem?_set, nzRow_length, nzRow_at hi, nzRow_at hi]
    by_cases he : q * 6 + 1 = i
    · subst he
      have h1 : (q * 6 + 1) % 6 = 1 := by omega
      have h2 : (q * 6 + 1) / 6 = q := by omega
      simp [nzc, h1, h2, hi]
    · rw [if_neg he]
      unfold nzc
      by_cases h1 : i % 6 = 1
      · have e : (i / 6 < q) ↔ (i / 6 < q + 1) := by omega
        simp only [e]
      · simp [h1]
  · rw [List.getElem?_eq_none (by rw [List.length_set, nzRow_length]; omega), List.getElem?_eq_none (by rw [nzRow_length]; omega)]
theorem nzRow_zones {w : World} {g n : Nat} {S : Nat → Prop} (h : Box w g 51 (nzRow n n).toArray) (hS : S g) : ZnsAt w S (some ⟨g, 0, none⟩) (List.replicate n ⟨0, -1, false, 0, false, []⟩) := fun _ => by
  refine ⟨g, 0, rfl, hS, fun j hj => ?_⟩
  rw [List.length_replicate] at hj
  rw [List.getElem_replicate, Nat.zero_add]
  have hc : ∀ k, k < 6 → w.cell? ⟨g, j * 6 + k, none⟩ = some (nzc n (j * 6 + k)) := fun k hk => by
    rw [h.cell, List.getElem?_toArray, nzRow_at (by omega)]
  refine ⟨none, 0, ?_, ?_, ?_, ?_, ?_, ?_, PrsAt.nil, by simp, by simp⟩
  · have h := hc 0 (by omega); rw [Nat.add_zero] at h; rw [h]; simp [nzc]
  · rw [hc 1 (by omega)]; have h1 : (j * 6 + 1) % 6 = 1 := by omega
    have h2 : (j * 6 + 1) / 6 < n := by omega
    simp [nzc, h1, h2]
  · rw [hc 2 (by omega)]; have h1 : (j * 6 + 2) % 6 = 2 := by omega
    simp [nzc, h1]
  · rw [hc 3 (by omega)]; have h1 : (j * 6 + 3) % 6 = 3 := by omega
    simp [nzc, h1]
  · rw [hc 4 (by omega)]; have h1 : (j * 6 + 4) % 6 = 4 := by omega
    simp [nzc, h1]
  · rw [hc 5 (by omega)]; have h1 : (j * 6 + 5) % 6 = 5 := by omega
    simp [nzc, h1]
theorem Try.info51 : (Try.prog.info? 51).map (fun i => (i.zero, i.size, i.bytes)) = some (some (.agg #[.int .i64 0, .int .i64 0, .bool false, .int .i64 0, .bool false, .slice none 0 0]), 6, 64) := by kernel_rfl
def zintRow (n : Nat) : List Value := (List.replicate n (0 : Int)).map (Value.int .i64)
theorem zints_made (n : Nat) : madeCells #[.int .i64 0] n = (zintRow n).toArray := by
  apply Array.toList_inj.1
  rw [toList_madeCells_one]
  simp [zintRow]
theorem zints_at {w : World} {g n : Nat} {S : Nat → Prop} (h : Box w g 3 (zintRow n).toArray) (hS : S g) : IntsAt w S (some ⟨g, 0, none⟩) (List.replicate n 0) := fun _ => by
  refine ⟨g, 0, rfl, hS, fun j hj => ?_⟩
  rw [Nat.zero_add, h.cell, List.getElem?_toArray]
  simp only [List.length_replicate] at hj
  simp [zintRow, hj]
theorem boxes3 (w : World) (t u v : TypeId) (a b d : Array Value) : Box (((w.alloc (.cells a t)).alloc (.cells b u)).alloc (.cells d v)) w.heap.size t a ∧ Box (((w.alloc (.cells a t)).alloc (.cells b u)).alloc (.cells d v)) (w.heap.size + 1) u b ∧ Box (((w.alloc (.cells a t)).alloc (.cells b u)).alloc (.cells d v)) (w.heap.size + 1 + 1) v d ∧ Below w.heap.size w (((w.alloc (.cells a t)).alloc (.cells b u)).alloc (.cells d v)) := by
  have h1 : Box (w.alloc (.cells a t)) w.heap.size t a := Box.fresh w t a
  have h2 : Box ((w.alloc (.cells a t)).alloc (.cells b u)) (w.heap.size + 1) u b := by have h := Box.fresh (w.alloc (.cells a t)) u b; simpa using h
  have h3 : Box (((w.alloc (.cells a t)).alloc (.cells b u)).alloc (.cells d v)) (w.heap.size + 1 + 1) v d := by have h := Box.fresh ((w.alloc (.cells a t)).alloc (.cells b u)) v d; simpa using h
  exact ⟨(h1.later (below_one _ _)).later (below_one _ _), h2.later (below_one _ _), h3, ((below_one _ _).alloc (by simp) _).alloc (by simp; omega) _⟩
/-- What New's region leaves. -/
def NewIn (c : Cf) (m n : Nat) (w : World) (gS gZ gB : Nat) (w1 : World) : Prop := Box w1 gS 3 (zintRow m).toArray ∧ Box w1 gZ 51 (nzRow n 0).toArray ∧ Box w1 gB 27 #[.int .i64 0, .int .i64 0, .int .i64 0, .int .i64 0, .int .i64 0, .int .i64 0, .int .i64 0, .int .i64 0, .int .i64 0, .int .i64 0, .int .i64 0, .int .i64 0, .int .i64 0, .slice none 0 0, .slice none 0 0] ∧ Below w.heap.size w w1 ∧ w.heap.size ≤ gS ∧ w.heap.size ≤ gZ ∧ w.heap.size < gB
theorem join3 {C F : Nat → Nat → Nat → World → Prop} {G : Prop} (main : (∀ a b c w, F a b c w → C a b c w) → G) (J : ∀ a b c w, F a b c w → C a b c w) : G := main J
set_option maxHeartbeats 4000000 in
theorem new_ok (c : Cf) (w : World) (hc : checkC c = 0) : Calls Try.prog 18 #[(.agg #[.int .i64 c.id, .int .i64 c.m, .int .i64 c.u, .int .i64 c.b, .int .i64 c.cp, .int .i64 c.z, .int .i64 c.s, .int .i64 c.mt, .int .i64 c.o, .int .i64 c.a, .int .i64 c.l])] w (GotS w (newS c) 0) := by
  have hgd := check_good0 hc
  obtain ⟨m, hm⟩ : ∃ m : Nat, c.m = (m : Int) := ⟨c.m.toNat, by have := hgd.2.2.1; omega⟩
  obtain ⟨n, hn⟩ : ∃ n : Nat, c.z = (n : Int) := ⟨c.z.toNat, by unfold Good at hgd; omega⟩
  have hm2 : m ≤ 64 := by unfold Good at hgd; omega
  have hn2 : n ≤ 64 := by unfold Good at hgd; omega
  have HNS : Hid (newS c = ⟨c, 1, 0, List.replicate m 0, List.replicate n ⟨0, -1, false, 0, false, []⟩⟩) := by
    show newS c = _
    unfold newS
    rw [hm, hn, Int.toNat_natCast, Int.toNat_natCast]
  have hmk1 : ∀ w, (Instr.makeSlice 24 (.int .i64 c.m) (.int .i64 c.m)).run Try.prog w = .ok (.slice (some ⟨w.heap.size, 0, none⟩) m m) (w.alloc (.cells (zintRow m).toArray 3)) := fun w => by
    rw [hm]
    have h := run_make_row' (P := Try.prog) 24 3 (.int .i64 0) 8 Try.underlying24 Try.info3 rfl .i64 .i64 m (by omega) (by omega) w
    rw [zints_made] at h
    exact h
  have hmk2 : ∀ w, (Instr.makeSlice 25 (.int .i64 c.z) (.int .i64 c.z)).run Try.prog w = .ok (.slice (some ⟨w.heap.size, 0, none⟩) n n) (w.alloc (.cells (nzRow n 0).toArray 51)) := fun w => by
    obtain ⟨i0, hi, hz0, hz1, hz2⟩ := info_parts Try.info51
    rw [hn]
    have h := run_make (P := Try.prog) w 25 51 i0 _ Try.underlying25 hi hz0 .i64 .i64 n n (by omega) (by omega) (by rw [hz2]; omega) (by omega)
    rw [h, hz1, Int.toNat_natCast, ← nzRow_made n]
    rfl
  have HC := Lib.hid hc
  clear hc hgd hm hn
  go_enter Try.func18, Try.ntmps18
  go_upto_region 1 with fail
  have HV : Hid (Box ((w.alloc (.cells #[.int .i64 c.id, .int .i64 c.m, .int .i64 c.u, .int .i64 c.b, .int .i64 c.cp, .int .i64 c.z, .int .i64 c.s, .int .i64 c.mt, .int .i64 c.o, .int .i64 c.a, .int .i64 c.l] 23)).alloc (.cells #[.int .i64 0, .int .i64 0, .int .i64 0, .int .i64 0, .int .i64 0, .int .i64 0, .int .i64 0, .int .i64 0, .int .i64 0, .int .i64 0, .int .i64 0, .int .i64 0, .int .i64 0, .slice none 0 0, .slice none 0 0] 27)) w.heap.size 23 #[.int .i64 c.id, .int .i64 c.m, .int .i64 c.u, .int .i64 c.b, .int .i64 c.cp, .int .i64 c.z, .int .i64 c.s, .int .i64 c.mt, .int .i64 c.o, .int .i64 c.a, .int .i64 c.l] ∧ Box ((w.alloc (.cells #[.int .i64 c.id, .int .i64 c.m, .int .i64 c.u, .int .i64 c.b, .int .i64 c.cp, .int .i64 c.z, .int .i64 c.s, .int .i64 c.mt, .int .i64 c.o, .int .i64 c.a, .int .i64 c.l] 23)).alloc (.cells #[.int .i64 0, .int .i64 0, .int .i64 0, .int .i64 0, .int .i64 0, .int .i64 0, .int .i64 0, .int .i64 0, .int .i64 0, .int .i64 0, .int .i64 0, .int .i64 0, .int .i64 0, .slice none 0 0, .slice none 0 0] 27)) (w.heap.size + 1) 27 #[.int .i64 0, .int .i64 0, .int .i64 0, .int .i64 0, .int .i64 0, .int .i64 0, .int .i64 0, .int .i64 0, .int .i64 0, .int .i64 0, .int .i64 0, .int .i64 0, .int .i64 0, .slice none 0 0, .slice none 0 0] ∧ Below w.heap.size w ((w.alloc (.cells #[.int .i64 c.id, .int .i64 c.m, .int .i64 c.u, .int .i64 c.b, .int .i64 c.cp, .int .i64 c.z, .int .i64 c.s, .int .i64 c.mt, .int .i64 c.o, .int .i64 c.a, .int .i64 c.l] 23)).alloc (.cells #[.int .i64 0, .int .i64 0, .int .i64 0, .int .i64 0, .int .i64 0, .int .i64 0, .int .i64 0, .int .i64 0, .int .i64 0, .int .i64 0, .int .i64 0, .int .i64 0, .int .i64 0, .slice none 0 0, .slice none 0 0] 27)) ∧ ((w.alloc (.cells #[.int .i64 c.id, .int .i64 c.m, .int .i64 c.u, .int .i64 c.b, .int .i64 c.cp, .int .i64 c.z, .int .i64 c.s, .int .i64 c.mt, .int .i64 c.o, .int .i64 c.a, .int .i64 c.l] 23)).alloc (.cells #[.int .i64 0, .int .i64 0, .int .i64 0, .int .i64 0, .int .i64 0, .int .i64 0, .int .i64 0, .int .i64 0, .int .i64 0, .int .i64 0, .int .i64 0, .int .i64 0, .int .i64 0, .slice none 0 0, .slice none 0 0] 27)).heap.size = w.heap.size + 2) := two_boxes' w 23 27 #[.int .i64 c.id, .int .i64 c.m, .int .i64 c.u, .int .i64 c.b, .int .i64 c.cp, .int .i64 c.z, .int .i64 c.s, .int .i64 c.mt, .int .i64 c.o, .int .i64 c.a, .int .i64 c.l] #[.int .i64 0, .int .i64 0, .int .i64 0, .int .i64 0, .int .i64 0, .int .i64 0, .int .i64 0, .int .i64 0, .int .i64 0, .int .i64 0, .int .i64 0, .int .i64 0, .int .i64 0, .slice none 0 0, .slice none 0 0]
  generalize ((w.alloc (.cells #[.int .i64 c.id, .int .i64 c.m, .int .i64 c.u, .int .i64 c.b, .int .i64 c.cp, .int .i64 c.z, .int .i64 c.s, .int .i64 c.mt, .int .i64 c.o, .int .i64 c.a, .int .i64 c.l] 23)).alloc (.cells #[.int .i64 0, .int .i64 0, .int .i64 0, .int .i64 0, .int .i64 0, .int .i64 0, .int .i64 0, .int .i64 0, .int .i64 0, .int .i64 0, .int .i64 0, .int .i64 0, .int .i64 0, .slice none 0 0, .slice none 0 0] 27)) = w0 at HV ⊢
  obtain ⟨y0, y1, y2, y3, y4, y5, y6, y7, y8, y9, y10⟩ := box11 HV.out.1
  go_wp2_with fail
  refine (check_any c w0).mono ?_
  rintro e w1 ⟨rfl, hb⟩
  rw [HC.out]
  have HV1 : Hid (Box w1 w.heap.size 23 #[.int .i64 c.id, .int .i64 c.m, .int .i64 c.u, .int .i64 c.b, .int .i64 c.cp, .int .i64 c.z, .int .i64 c.s, .int .i64 c.mt, .int .i64 c.o, .int .i64 c.a, .int .i64 c.l] ∧ Box w1 (w.heap.size + 1) 27 #[.int .i64 0, .int .i64 0, .int .i64 0, .int .i64 0, .int .i64 0, .int .i64 0, .int .i64 0, .int .i64 0, .int .i64 0, .int .i64 0, .int .i64 0, .int .i64 0, .int .i64 0, .slice none 0 0, .slice none 0 0] ∧ Below w.heap.size w w1 ∧ w.heap.size + 2 ≤ w1.heap.size) := ⟨HV.out.1.later hb, HV.out.2.1.later hb, HV.out.2.2.1.trans (hb.mono HV.out.2.2.1.size), Nat.le_trans (Nat.le_of_eq HV.out.2.2.2.symm) hb.size⟩
  clear hb HV y0 y1 y2 y3 y4 y5 y6 y7 y8 y9 y10
  go_upto_region 4 with fail
  refine wpB_start (w.heap.size + 2) (by kernel_rfl) ?_
  have HV2 : Hid (Box w1.drew w.heap.size 23 #[.int .i64 c.id, .int .i64 c.m, .int .i64 c.u, .int .i64 c.b, .int .i64 c.cp, .int .i64 c.z, .int .i64 c.s, .int .i64 c.mt, .int .i64 c.o, .int .i64 c.a, .int .i64 c.l] ∧ Box w1.drew (w.heap.size + 1) 27 #[.int .i64 0, .int .i64 0, .int .i64 0, .int .i64 0, .int .i64 0, .int .i64 0, .int .i64 0, .int .i64 0, .int .i64 0, .int .i64 0, .int .i64 0, .int .i64 0, .int .i64 0, .slice none 0 0, .slice none 0 0] ∧ Below w.heap.size w w1.drew ∧ w.heap.size + 2 ≤ w1.drew.heap.size) := ⟨HV1.out.1, HV1.out.2.1, HV1.out.2.2.1.drew, HV1.out.2.2.2⟩
  generalize w1.drew = w2 at HV2 ⊢
  clear HV1
  have hsz := HV2.out.2.2.2
  have y0 := Box.at_ (B := (w.heap.size + 2)) HV2.out.1 (by omega) (i := 0) rfl
  have y1 := Box.at_ (B := (w.heap.size + 2)) HV2.out.1 (by omega) (i := 1) rfl
  have y2 := Box.at_ (B := (w.heap.size + 2)) HV2.out.1 (by omega) (i := 2) rfl
  have y3 := Box.at_ (B := (w.heap.size + 2)) HV2.out.1 (by omega) (i := 3) rfl
  have y4 := Box.at_ (B := (w.heap.size + 2)) HV2.out.1 (by omega) (i := 4) rfl
  have y5 := Box.at_ (B := (w.heap.size + 2)) HV2.out.1 (by omega) (i := 5) rfl
  have y6 := Box.at_ (B := (w.heap.size + 2)) HV2.out.1 (by omega) (i := 6) rfl
  have y7 := Box.at_ (B := (w.heap.size + 2)) HV2.out.1 (by omega) (i := 7) rfl
  have y8 := Box.at_ (B := (w.heap.size + 2)) HV2.out.1 (by omega) (i := 8) rfl
  have y9 := Box.at_ (B := (w.heap.size + 2)) HV2.out.1 (by omega) (i := 9) rfl
  have y10 := Box.at_ (B := (w.heap.size + 2)) HV2.out.1 (by omega) (i := 10) rfl
  refine wpB_take (i := 0) (d := 13) (v := ?v4x0) rfl rfl (by kernel_rfl) (by kernel_rfl) (by kernel_rfl) (fun _ _ _ h => h) (by rfl) ?y4x0 ?r4x0
  case y4x0 => (intro w' hSw; go_simp; try (with_reducible rfl))
  simp only [Act.put, List.setIfInBounds_toArray, List.set_cons_zero, List.set_cons_succ]
  refine wpB_take (i := 1) (d := 14) (v := ?v4x1) rfl rfl (by kernel_rfl) (by kernel_rfl) (by kernel_rfl) (fun _ _ _ h => h) (by rfl) ?y4x1 ?r4x1
  case y4x1 => (intro w' hSw; go_simp; try (with_reducible rfl))
  simp only [Act.put, List.setIfInBounds_toArray, List.set_cons_zero, List.set_cons_succ]
  refine wpB_take (i := 2) (d := 15) (v := ?v4x2) rfl rfl (by kernel_rfl) (by kernel_rfl) (by kernel_rfl) (fun _ _ _ h => h) (by rfl) ?y4x2 ?r4x2
  case y4x2 => (intro w' hSw; go_simp; try (with_reducible rfl))
  simp only [Act.put, List.setIfInBounds_toArray, List.set_cons_zero, List.set_cons_succ]
  refine wpB_take (i := 4) (d := 17) (v := ?v4x4) rfl rfl (by kernel_rfl) (by kernel_rfl) (by kernel_rfl) (fun _ _ _ h => h) (by rfl) ?y4x4 ?r4x4
  case y4x4 => (intro w' hSw; go_simp; try (with_reducible rfl))
  simp only [Act.put, List.setIfInBounds_toArray, List.set_cons_zero, List.set_cons_succ]
  refine wpB_take (i := 5) (d := 18) (v := ?v4x5) rfl rfl (by kernel_rfl) (by kernel_rfl) (by kernel_rfl) (fun _ _ _ h => h) (by rfl) ?y4x5 ?r4x5
  case y4x5 => (intro w' hSw; go_simp; try (with_reducible rfl))
  simp only [Act.put, List.setIfInBounds_toArray, List.set_cons_zero, List.set_cons_succ]
  clear y0 y1 y2 y3 y4 y5 y6 y7 y8 y9 y10
  apply join3 (F := fun a b d wx => NewIn c m n w a b d wx ∧ Box wx (w.heap.size + 1) 27 #[.int .i64 0, .int .i64 0, .int .i64 0, .int .i64 0, .int .i64 0, .int .i64 0, .int .i64 0, .int .i64 0, .int .i64 0, .int .i64 0, .int .i64 0, .int .i64 0, .int .i64 0, .slice none 0 0, .slice none 0 0] ∧ w.heap.size + 2 ≤ a ∧ w.heap.size + 2 ≤ b ∧ w.heap.size + 2 ≤ d)
  case main =>
    intro J
    refine wpB_three (i := 3) (j := 6) (k := 8) (by kernel_rfl) rfl rfl rfl (by rfl) (by rfl) (by rfl) (fun K hK => ?_) (fun K hK => ?_) (fun K hK => ?_)
    · go_simp
      refine hK.out (w.heap.size + 2) _ _ (Nat.le_refl _) ((Below.refl _ _).alloc (by exact hsz) _) ?_
      clear hK
      refine wpB_two (i := 6) (j := 8) (by kernel_rfl) rfl rfl (by rfl) (by rfl) (fun K hK => ?_) (fun K hK => ?_)
      · go_simp
        refine hK.out (w.heap.size + 2) _ _ (Nat.le_refl _) ((Below.refl _ _).alloc (by simp; omega) _) ?_
        clear hK
        refine wpB_take (i := 7) (d := 20) (v := ?v4p36x7) rfl rfl (by kernel_rfl) (by kernel_rfl) (by kernel_rfl) (fun _ _ _ h => h) (by rfl) ?y4p36x7 ?r4p36x7
        case y4p36x7 => (intro w' hSw; go_simp; try (with_reducible rfl))
        simp only [Act.put, List.setIfInBounds_toArray, List.set_cons_zero, List.set_cons_succ]
        refine wpB_do (i := 8) (by kernel_rfl) rfl (by rfl) (fun K hK => ?_)
        go_simp
        refine hK.out (w.heap.size + 2) _ _ (Nat.le_refl _) ((Below.refl _ _).alloc (by simp; omega) _) ?_
        clear hK
        obtain ⟨h1, h2, h3, h4⟩ := boxes3 w2 3 51 27 (zintRow m).toArray (nzRow n 0).toArray #[.int .i64 0, .int .i64 0, .int .i64 0, .int .i64 0, .int .i64 0, .int .i64 0, .int .i64 0, .int .i64 0, .int .i64 0, .int .i64 0, .int .i64 0, .int .i64 0, .int .i64 0, .slice none 0 0, .slice none 0 0]
        have HN : NewIn c m n w w2.heap.size (w2.heap.size + 1) (w2.heap.size + 1 + 1) (((w2.alloc (.cells (zintRow m).toArray 3)).alloc (.cells (nzRow n 0).toArray 51)).alloc (.cells #[.int .i64 0, .int .i64 0, .int .i64 0, .int .i64 0, .int .i64 0, .int .i64 0, .int .i64 0, .int .i64 0, .int .i64 0, .int .i64 0, .int .i64 0, .int .i64 0, .int .i64 0, .slice none 0 0, .slice none 0 0] 27)) ∧ Box (((w2.alloc (.cells (zintRow m).toArray 3)).alloc (.cells (nzRow n 0).toArray 51)).alloc (.cells #[.int .i64 0, .int .i64 0, .int .i64 0, .int .i64 0, .int .i64 0, .int .i64 0, .int .i64 0, .int .i64 0, .int .i64 0, .int .i64 0, .int .i64 0, .int .i64 0, .int .i64 0, .slice none 0 0, .slice none 0 0] 27)) (w.heap.size + 1) 27 #[.int .i64 0, .int .i64 0, .int .i64 0, .int .i64 0, .int .i64 0, .int .i64 0, .int .i64 0, .int .i64 0, .int .i64 0, .int .i64 0, .int .i64 0, .int .i64 0, .int .i64 0, .slice none 0 0, .slice none 0 0] ∧ w.heap.size + 2 ≤ w2.heap.size ∧ w.heap.size + 2 ≤ (w2.heap.size + 1) ∧ w.heap.size + 2 ≤ (w2.heap.size + 1 + 1) := ⟨⟨h1, h2, h3, HV2.out.2.2.1.trans (h4.mono (by omega)), by omega, by omega, by omega⟩, HV2.out.2.1.later h4, by omega, by omega, by omega⟩
        clear h1 h2 h3 h4
        try simp only [Act.put, List.setIfInBounds_toArray, List.set_cons_zero, List.set_cons_succ]
        generalize (((w2.alloc (.cells (zintRow m).toArray 3)).alloc (.cells (nzRow n 0).toArray 51)).alloc (.cells #[.int .i64 0, .int .i64 0, .int .i64 0, .int .i64 0, .int .i64 0, .int .i64 0, .int .i64 0, .int .i64 0, .int .i64 0, .int .i64 0, .int .i64 0, .int .i64 0, .int .i64 0, .slice none 0 0, .slice none 0 0] 27)) = w3 at HN ⊢
        generalize (w2.heap.size + 1 + 1) = gB at HN ⊢
        generalize (w2.heap.size + 1) = gZ at HN ⊢
        generalize w2.heap.size = gS at HN ⊢
        change wpB _ _ _ _ _ _ #[true, true, true, true, true, true, true, true, true, false] _ _
        exact J gS gZ gB w3 HN
      · go_simp
        refine hK.out (w.heap.size + 2) _ _ (Nat.le_refl _) ((Below.refl _ _).alloc (by simp; omega) _) ?_
        clear hK
        refine wpB_do (i := 6) (by kernel_rfl) rfl (by rfl) (fun K hK => ?_)
        go_simp
        refine hK.out (w.heap.size + 2) _ _ (Nat.le_refl _) ((Below.refl _ _).alloc (by simp; omega) _) ?_
        clear hK
        refine wpB_take (i := 7) (d := 20) (v := ?v4p386x7) rfl rfl (by kernel_rfl) (by kernel_rfl) (by kernel_rfl) (fun _ _ _ h => h) (by rfl) ?y4p386x7 ?r4p386x7
        case y4p386x7 => (intro w' hSw; go_simp; try (with_reducible rfl))
        simp only [Act.put, List.setIfInBounds_toArray, List.set_cons_zero, List.set_cons_succ]
        obtain ⟨h1, h2, h3, h4⟩ := boxes3 w2 3 27 51 (zintRow m).toArray #[.int .i64 0, .int .i64 0, .int .i64 0, .int .i64 0, .int .i64 0, .int .i64 0, .int .i64 0, .int .i64 0, .int .i64 0, .int .i64 0, .int .i64 0, .int .i64 0, .int .i64 0, .slice none 0 0, .slice none 0 0] (nzRow n 0).toArray
        have HN : NewIn c m n w w2.heap.size (w2.heap.size + 1 + 1) (w2.heap.size + 1) (((w2.alloc (.cells (zintRow m).toArray 3)).alloc (.cells #[.int .i64 0, .int .i64 0, .int .i64 0, .int .i64 0, .int .i64 0, .int .i64 0, .int .i64 0, .int .i64 0, .int .i64 0, .int .i64 0, .int .i64 0, .int .i64 0, .int .i64 0, .slice none 0 0, .slice none 0 0] 27)).alloc (.cells (nzRow n 0).toArray 51)) ∧ Box (((w2.alloc (.cells (zintRow m).toArray 3)).alloc (.cells #[.int .i64 0, .int .i64 0, .int .i64 0, .int .i64 0, .int .i64 0, .int .i64 0, .int .i64 0, .int .i64 0, .int .i64 0, .int .i64 0, .int .i64 0, .int .i64 0, .int .i64 0, .slice none 0 0, .slice none 0 0] 27)).alloc (.cells (nzRow n 0).toArray 51)) (w.heap.size + 1) 27 #[.int .i64 0, .int .i64 0, .int .i64 0, .int .i64 0, .int .i64 0, .int .i64 0, .int .i64 0, .int .i64 0, .int .i64 0, .int .i64 0, .int .i64 0, .int .i64 0, .int .i64 0, .slice none 0 0, .slice none 0 0] ∧ w.heap.size + 2 ≤ w2.heap.size ∧ w.heap.size + 2 ≤ (w2.heap.size + 1 + 1) ∧ w.heap.size + 2 ≤ (w2.heap.size + 1) := ⟨⟨h1, h3, h2, HV2.out.2.2.1.trans (h4.mono (by omega)), by omega, by omega, by omega⟩, HV2.out.2.1.later h4, by omega, by omega, by omega⟩
        clear h1 h2 h3 h4
        try simp only [Act.put, List.setIfInBounds_toArray, List.set_cons_zero, List.set_cons_succ]
        generalize (((w2.alloc (.cells (zintRow m).toArray 3)).alloc (.cells #[.int .i64 0, .int .i64 0, .int .i64 0, .int .i64 0, .int .i64 0, .int .i64 0, .int .i64 0, .int .i64 0, .int .i64 0, .int .i64 0, .int .i64 0, .int .i64 0, .int .i64 0, .slice none 0 0, .slice none 0 0] 27)).alloc (.cells (nzRow n 0).toArray 51)) = w3 at HN ⊢
        generalize (w2.heap.size + 1 + 1) = gZ at HN ⊢
        generalize (w2.heap.size + 1) = gB at HN ⊢
        generalize w2.heap.size = gS at HN ⊢
        change wpB _ _ _ _ _ _ #[true, true, true, true, true, true, true, true, true, false] _ _
        exact J gS gZ gB w3 HN
    · go_simp
      refine hK.out (w.heap.size + 2) _ _ (Nat.le_refl _) ((Below.refl _ _).alloc (by exact hsz) _) ?_
      clear hK
      refine wpB_two (i := 3) (j := 8) (by kernel_rfl) rfl rfl (by rfl) (by rfl) (fun K hK => ?_) (fun K hK => ?_)
      · go_simp
        refine hK.out (w.heap.size + 2) _ _ (Nat.le_refl _) ((Below.refl _ _).alloc (by simp; omega) _) ?_
        clear hK
        refine wpB_take (i := 7) (d := 20) (v := ?v4p63x7) rfl rfl (by kernel_rfl) (by kernel_rfl) (by kernel_rfl) (fun _ _ _ h => h) (by rfl) ?y4p63x7 ?r4p63x7
        case y4p63x7 => (intro w' hSw; go_simp; try (with_reducible rfl))
        simp only [Act.put, List.setIfInBounds_toArray, List.set_cons_zero, List.set_cons_succ]
        refine wpB_do (i := 8) (by kernel_rfl) rfl (by rfl) (fun K hK => ?_)
        go_simp
        refine hK.out (w.heap.size + 2) _ _ (Nat.le_refl _) ((Below.refl _ _).alloc (by simp; omega) _) ?_
        clear hK
        obtain ⟨h1, h2, h3, h4⟩ := boxes3 w2 51 3 27 (nzRow n 0).toArray (zintRow m).toArray #[.int .i64 0, .int .i64 0, .int .i64 0, .int .i64 0, .int .i64 0, .int .i64 0, .int .i64 0, .int .i64 0, .int .i64 0, .int .i64 0, .int .i64 0, .int .i64 0, .int .i64 0, .slice none 0 0, .slice none 0 0]
        have HN : NewIn c m n w (w2.heap.size + 1) w2.heap.size (w2.heap.size + 1 + 1) (((w2.alloc (.cells (nzRow n 0).toArray 51)).alloc (.cells (zintRow m).toArray 3)).alloc (.cells #[.int .i64 0, .int .i64 0, .int .i64 0, .int .i64 0, .int .i64 0, .int .i64 0, .int .i64 0, .int .i64 0, .int .i64 0, .int .i64 0, .int .i64 0, .int .i64 0, .int .i64 0, .slice none 0 0, .slice none 0 0] 27)) ∧ Box (((w2.alloc (.cells (nzRow n 0).toArray 51)).alloc (.cells (zintRow m).toArray 3)).alloc (.cells #[.int .i64 0, .int .i64 0, .int .i64 0, .int .i64 0, .int .i64 0, .int .i64 0, .int .i64 0, .int .i64 0, .int .i64 0, .int .i64 0, .int .i64 0, .int .i64 0, .int .i64 0, .slice none 0 0, .slice none 0 0] 27)) (w.heap.size + 1) 27 #[.int .i64 0, .int .i64 0, .int .i64 0, .int .i64 0, .int .i64 0, .int .i64 0, .int .i64 0, .int .i64 0, .int .i64 0, .int .i64 0, .int .i64 0, .int .i64 0, .int .i64 0, .slice none 0 0, .slice none 0 0] ∧ w.heap.size + 2 ≤ (w2.heap.size + 1) ∧ w.heap.size + 2 ≤ w2.heap.size ∧ w.heap.size + 2 ≤ (w2.heap.size + 1 + 1) := ⟨⟨h2, h1, h3, HV2.out.2.2.1.trans (h4.mono (by omega)), by omega, by omega, by omega⟩, HV2.out.2.1.later h4, by omega, by omega, by omega⟩
        clear h1 h2 h3 h4
        try simp only [Act.put, List.setIfInBounds_toArray, List.set_cons_zero, List.set_cons_succ]
        generalize (((w2.alloc (.cells (nzRow n 0).toArray 51)).alloc (.cells (zintRow m).toArray 3)).alloc (.cells #[.int .i64 0, .int .i64 0, .int .i64 0, .int .i64 0, .int .i64 0, .int .i64 0, .int .i64 0, .int .i64 0, .int .i64 0, .int .i64 0, .int .i64 0, .int .i64 0, .int .i64 0, .slice none 0 0, .slice none 0 0] 27)) = w3 at HN ⊢
        generalize (w2.heap.size + 1 + 1) = gB at HN ⊢
        generalize (w2.heap.size + 1) = gS at HN ⊢
        generalize w2.heap.size = gZ at HN ⊢
        change wpB _ _ _ _ _ _ #[true, true, true, true, true, true, true, true, true, false] _ _
        exact J gS gZ gB w3 HN
      · go_simp
        refine hK.out (w.heap.size + 2) _ _ (Nat.le_refl _) ((Below.refl _ _).alloc (by simp; omega) _) ?_
        clear hK
        refine wpB_do (i := 3) (by kernel_rfl) rfl (by rfl) (fun K hK => ?_)
        go_simp
        refine hK.out (w.heap.size + 2) _ _ (Nat.le_refl _) ((Below.refl _ _).alloc (by simp; omega) _) ?_
        clear hK
        refine wpB_take (i := 7) (d := 20) (v := ?v4p683x7) rfl rfl (by kernel_rfl) (by kernel_rfl) (by kernel_rfl) (fun _ _ _ h => h) (by rfl) ?y4p683x7 ?r4p683x7
        case y4p683x7 => (intro w' hSw; go_simp; try (with_reducible rfl))
        simp only [Act.put, List.setIfInBounds_toArray, List.set_cons_zero, List.set_cons_succ]
        obtain ⟨h1, h2, h3, h4⟩ := boxes3 w2 51 27 3 (nzRow n 0).toArray #[.int .i64 0, .int .i64 0, .int .i64 0, .int .i64 0, .int .i64 0, .int .i64 0, .int .i64 0, .int .i64 0, .int .i64 0, .int .i64 0, .int .i64 0, .int .i64 0, .int .i64 0, .slice none 0 0, .slice none 0 0] (zintRow m).toArray
        have HN : NewIn c m n w (w2.heap.size + 1 + 1) w2.heap.size (w2.heap.size + 1) (((w2.alloc (.cells (nzRow n 0).toArray 51)).alloc (.cells #[.int .i64 0, .int .i64 0, .int .i64 0, .int .i64 0, .int .i64 0, .int .i64 0, .int .i64 0, .int .i64 0, .int .i64 0, .int .i64 0, .int .i64 0, .int .i64 0, .int .i64 0, .slice none 0 0, .slice none 0 0] 27)).alloc (.cells (zintRow m).toArray 3)) ∧ Box (((w2.alloc (.cells (nzRow n 0).toArray 51)).alloc (.cells #[.int .i64 0, .int .i64 0, .int .i64 0, .int .i64 0, .int .i64 0, .int .i64 0, .int .i64 0, .int .i64 0, .int .i64 0, .int .i64 0, .int .i64 0, .int .i64 0, .int .i64 0, .slice none 0 0, .slice none 0 0] 27)).alloc (.cells (zintRow m).toArray 3)) (w.heap.size + 1) 27 #[.int .i64 0, .int .i64 0, .int .i64 0, .int .i64 0, .int .i64 0, .int .i64 0, .int .i64 0, .int .i64 0, .int .i64 0, .int .i64 0, .int .i64 0, .int .i64 0, .int .i64 0, .slice none 0 0, .slice none 0 0] ∧ w.heap.size + 2 ≤ (w2.heap.size + 1 + 1) ∧ w.heap.size + 2 ≤ w2.heap.size ∧ w.heap.size + 2 ≤ (w2.heap.size + 1) := ⟨⟨h3, h1, h2, HV2.out.2.2.1.trans (h4.mono (by omega)), by omega, by omega, by omega⟩, HV2.out.2.1.later h4, by omega, by omega, by omega⟩
        clear h1 h2 h3 h4
        try simp only [Act.put, List.setIfInBounds_toArray, List.set_cons_zero, List.set_cons_succ]
        generalize (((w2.alloc (.cells (nzRow n 0).toArray 51)).alloc (.cells #[.int .i64 0, .int .i64 0, .int .i64 0, .int .i64 0, .int .i64 0, .int .i64 0, .int .i64 0, .int .i64 0, .int .i64 0, .int .i64 0, .int .i64 0, .int .i64 0, .int .i64 0, .slice none 0 0, .slice none 0 0] 27)).alloc (.cells (zintRow m).toArray 3)) = w3 at HN ⊢
        generalize (w2.heap.size + 1 + 1) = gS at HN ⊢
        generalize (w2.heap.size + 1) = gB at HN ⊢
        generalize w2.heap.size = gZ at HN ⊢
        change wpB _ _ _ _ _ _ #[true, true, true, true, true, true, true, true, true, false] _ _
        exact J gS gZ gB w3 HN
    · go_simp
      refine hK.out (w.heap.size + 2) _ _ (Nat.le_refl _) ((Below.refl _ _).alloc (by exact hsz) _) ?_
      clear hK
      refine wpB_two (i := 3) (j := 6) (by kernel_rfl) rfl rfl (by rfl) (by rfl) (fun K hK => ?_) (fun K hK => ?_)
      · go_simp
        refine hK.out (w.heap.size + 2) _ _ (Nat.le_refl _) ((Below.refl _ _).alloc (by simp; omega) _) ?_
        clear hK
        refine wpB_do (i := 6) (by kernel_rfl) rfl (by rfl) (fun K hK => ?_)
        go_simp
        refine hK.out (w.heap.size + 2) _ _ (Nat.le_refl _) ((Below.refl _ _).alloc (by simp; omega) _) ?_
        clear hK
        refine wpB_take (i := 7) (d := 20) (v := ?v4p836x7) rfl rfl (by kernel_rfl) (by kernel_rfl) (by kernel_rfl) (fun _ _ _ h => h) (by rfl) ?y4p836x7 ?r4p836x7
        case y4p836x7 => (intro w' hSw; go_simp; try (with_reducible rfl))
        simp only [Act.put, List.setIfInBounds_toArray, List.set_cons_zero, List.set_cons_succ]
        obtain ⟨h1, h2, h3, h4⟩ := boxes3 w2 27 3 51 #[.int .i64 0, .int .i64 0, .int .i64 0, .int .i64 0, .int .i64 0, .int .i64 0, .int .i64 0, .int .i64 0, .int .i64 0, .int .i64 0, .int .i64 0, .int .i64 0, .int .i64 0, .slice none 0 0, .slice none 0 0] (zintRow m).toArray (nzRow n 0).toArray
        have HN : NewIn c m n w (w2.heap.size + 1) (w2.heap.size + 1 + 1) w2.heap.size (((w2.alloc (.cells #[.int .i64 0, .int .i64 0, .int .i64 0, .int .i64 0, .int .i64 0, .int .i64 0, .int .i64 0, .int .i64 0, .int .i64 0, .int .i64 0, .int .i64 0, .int .i64 0, .int .i64 0, .slice none 0 0, .slice none 0 0] 27)).alloc (.cells (zintRow m).toArray 3)).alloc (.cells (nzRow n 0).toArray 51)) ∧ Box (((w2.alloc (.cells #[.int .i64 0, .int .i64 0, .int .i64 0, .int .i64 0, .int .i64 0, .int .i64 0, .int .i64 0, .int .i64 0, .int .i64 0, .int .i64 0, .int .i64 0, .int .i64 0, .int .i64 0, .slice none 0 0, .slice none 0 0] 27)).alloc (.cells (zintRow m).toArray 3)).alloc (.cells (nzRow n 0).toArray 51)) (w.heap.size + 1) 27 #[.int .i64 0, .int .i64 0, .int .i64 0, .int .i64 0, .int .i64 0, .int .i64 0, .int .i64 0, .int .i64 0, .int .i64 0, .int .i64 0, .int .i64 0, .int .i64 0, .int .i64 0, .slice none 0 0, .slice none 0 0] ∧ w.heap.size + 2 ≤ (w2.heap.size + 1) ∧ w.heap.size + 2 ≤ (w2.heap.size + 1 + 1) ∧ w.heap.size + 2 ≤ w2.heap.size := ⟨⟨h2, h3, h1, HV2.out.2.2.1.trans (h4.mono (by omega)), by omega, by omega, by omega⟩, HV2.out.2.1.later h4, by omega, by omega, by omega⟩
        clear h1 h2 h3 h4
        try simp only [Act.put, List.setIfInBounds_toArray, List.set_cons_zero, List.set_cons_succ]
        generalize (((w2.alloc (.cells #[.int .i64 0, .int .i64 0, .int .i64 0, .int .i64 0, .int .i64 0, .int .i64 0, .int .i64 0, .int .i64 0, .int .i64 0, .int .i64 0, .int .i64 0, .int .i64 0, .int .i64 0, .slice none 0 0, .slice none 0 0] 27)).alloc (.cells (zintRow m).toArray 3)).alloc (.cells (nzRow n 0).toArray 51)) = w3 at HN ⊢
        generalize (w2.heap.size + 1 + 1) = gZ at HN ⊢
        generalize (w2.heap.size + 1) = gS at HN ⊢
        generalize w2.heap.size = gB at HN ⊢
        change wpB _ _ _ _ _ _ #[true, true, true, true, true, true, true, true, true, false] _ _
        exact J gS gZ gB w3 HN
      · go_simp
        refine hK.out (w.heap.size + 2) _ _ (Nat.le_refl _) ((Below.refl _ _).alloc (by simp; omega) _) ?_
        clear hK
        refine wpB_do (i := 3) (by kernel_rfl) rfl (by rfl) (fun K hK => ?_)
        go_simp
        refine hK.out (w.heap.size + 2) _ _ (Nat.le_refl _) ((Below.refl _ _).alloc (by simp; omega) _) ?_
        clear hK
        refine wpB_take (i := 7) (d := 20) (v := ?v4p863x7) rfl rfl (by kernel_rfl) (by kernel_rfl) (by kernel_rfl) (fun _ _ _ h => h) (by rfl) ?y4p863x7 ?r4p863x7
        case y4p863x7 => (intro w' hSw; go_simp; try (with_reducible rfl))
        simp only [Act.put, List.setIfInBounds_toArray, List.set_cons_zero, List.set_cons_succ]
        obtain ⟨h1, h2, h3, h4⟩ := boxes3 w2 27 51 3 #[.int .i64 0, .int .i64 0, .int .i64 0, .int .i64 0, .int .i64 0, .int .i64 0, .int .i64 0, .int .i64 0, .int .i64 0, .int .i64 0, .int .i64 0, .int .i64 0, .int .i64 0, .slice none 0 0, .slice none 0 0] (nzRow n 0).toArray (zintRow m).toArray
        have HN : NewIn c m n w (w2.heap.size + 1 + 1) (w2.heap.size + 1) w2.heap.size (((w2.alloc (.cells #[.int .i64 0, .int .i64 0, .int .i64 0, .int .i64 0, .int .i64 0, .int .i64 0, .int .i64 0, .int .i64 0, .int .i64 0, .int .i64 0, .int .i64 0, .int .i64 0, .int .i64 0, .slice none 0 0, .slice none 0 0] 27)).alloc (.cells (nzRow n 0).toArray 51)).alloc (.cells (zintRow m).toArray 3)) ∧ Box (((w2.alloc (.cells #[.int .i64 0, .int .i64 0, .int .i64 0, .int .i64 0, .int .i64 0, .int .i64 0, .int .i64 0, .int .i64 0, .int .i64 0, .int .i64 0, .int .i64 0, .int .i64 0, .int .i64 0, .slice none 0 0, .slice none 0 0] 27)).alloc (.cells (nzRow n 0).toArray 51)).alloc (.cells (zintRow m).toArray 3)) (w.heap.size + 1) 27 #[.int .i64 0, .int .i64 0, .int .i64 0, .int .i64 0, .int .i64 0, .int .i64 0, .int .i64 0, .int .i64 0, .int .i64 0, .int .i64 0, .int .i64 0, .int .i64 0, .int .i64 0, .slice none 0 0, .slice none 0 0] ∧ w.heap.size + 2 ≤ (w2.heap.size + 1 + 1) ∧ w.heap.size + 2 ≤ (w2.heap.size + 1) ∧ w.heap.size + 2 ≤ w2.heap.size := ⟨⟨h3, h2, h1, HV2.out.2.2.1.trans (h4.mono (by omega)), by omega, by omega, by omega⟩, HV2.out.2.1.later h4, by omega, by omega, by omega⟩
        clear h1 h2 h3 h4
        try simp only [Act.put, List.setIfInBounds_toArray, List.set_cons_zero, List.set_cons_succ]
        generalize (((w2.alloc (.cells #[.int .i64 0, .int .i64 0, .int .i64 0, .int .i64 0, .int .i64 0, .int .i64 0, .int .i64 0, .int .i64 0, .int .i64 0, .int .i64 0, .int .i64 0, .int .i64 0, .int .i64 0, .slice none 0 0, .slice none 0 0] 27)).alloc (.cells (nzRow n 0).toArray 51)).alloc (.cells (zintRow m).toArray 3)) = w3 at HN ⊢
        generalize (w2.heap.size + 1 + 1) = gS at HN ⊢
        generalize (w2.heap.size + 1) = gZ at HN ⊢
        generalize w2.heap.size = gB at HN ⊢
        change wpB _ _ _ _ _ _ #[true, true, true, true, true, true, true, true, true, false] _ _
        exact J gS gZ gB w3 HN
  case J =>
    intro gS gZ gB w3 HN0
    obtain ⟨hN1, hret, hgS, hgZ, hgB⟩ := HN0
    obtain ⟨hS, hZ, hB, hbel, _⟩ := hN1
    have HN := Lib.hid (And.intro hS (And.intro hZ (And.intro hB (And.intro hbel hret))))
    clear hS hZ hB hbel hret HV2 hsz
    obtain ⟨y0, y1, y2, y3, y4, y5, y6, y7, y8, y9, y10, y11, y12, y13, y14⟩ := box15 HN.out.2.2.1
    obtain ⟨f0, f1, f2, f3, f4, f5, f6, f7, f8, f9, f10, f11, f12, f13, f14⟩ := froz15 HN.out.2.2.1
    refine wpB_do (i := 9) (by kernel_rfl) rfl (by rfl) (fun K hK => ?_)
    go_simp
    have h1 := sets_box0 [.int .i64 c.id, .int .i64 c.m, .int .i64 c.u, .int .i64 c.b, .int .i64 c.cp, .int .i64 c.z, .int .i64 c.s, .int .i64 c.mt, .int .i64 c.o, .int .i64 c.a, .int .i64 c.l, .int .i64 1, .int .i64 0, .slice (some ⟨gS, 0, none⟩) m m, .slice (some ⟨gZ, 0, none⟩) n n] HN.out.2.2.1 rfl
    have h2 := sets_below (B := w.heap.size + 2) [.int .i64 c.id, .int .i64 c.m, .int .i64 c.u, .int .i64 c.b, .int .i64 c.cp, .int .i64 c.z, .int .i64 c.s, .int .i64 c.mt, .int .i64 c.o, .int .i64 c.a, .int .i64 c.l, .int .i64 1, .int .i64 0, .slice (some ⟨gS, 0, none⟩) m m, .slice (some ⟨gZ, 0, none⟩) n n] 0 w3 (Below.refl _ _) hgB
    have h3 := sets_turn (g := gB) (gs := [gB]) [.int .i64 c.id, .int .i64 c.m, .int .i64 c.u, .int .i64 c.b, .int .i64 c.cp, .int .i64 c.z, .int .i64 c.s, .int .i64 c.mt, .int .i64 c.o, .int .i64 c.a, .int .i64 c.l, .int .i64 1, .int .i64 0, .slice (some ⟨gS, 0, none⟩) m m, .slice (some ⟨gZ, 0, none⟩) n n] 0 w3 (Turn.refl _ _) (by simp)
    simp only [sets, Nat.zero_add, Nat.reduceAdd] at h1 h2 h3
    refine hK.out (w.heap.size + 2) _ _ (Nat.le_refl _) h2 ?_
    have HM : Hid (Box (((((((((((((((w3.setCell ⟨gB, 0, none⟩ (.int .i64 c.id)).setCell ⟨gB, 1, none⟩ (.int .i64 c.m)).setCell ⟨gB, 2, none⟩ (.int .i64 c.u)).setCell ⟨gB, 3, none⟩ (.int .i64 c.b)).setCell ⟨gB, 4, none⟩ (.int .i64 c.cp)).setCell ⟨gB, 5, none⟩ (.int .i64 c.z)).setCell ⟨gB, 6, none⟩ (.int .i64 c.s)).setCell ⟨gB, 7, none⟩ (.int .i64 c.mt)).setCell ⟨gB, 8, none⟩ (.int .i64 c.o)).setCell ⟨gB, 9, none⟩ (.int .i64 c.a)).setCell ⟨gB, 10, none⟩ (.int .i64 c.l)).setCell ⟨gB, 11, none⟩ (.int .i64 1)).setCell ⟨gB, 12, none⟩ (.int .i64 0)).setCell ⟨gB, 13, none⟩ (.slice (some ⟨gS, 0, none⟩) m m)).setCell ⟨gB, 14, none⟩ (.slice (some ⟨gZ, 0, none⟩) n n)) gS 3 (zintRow m).toArray ∧ Box (((((((((((((((w3.setCell ⟨gB, 0, none⟩ (.int .i64 c.id)).setCell ⟨gB, 1, none⟩ (.int .i64 c.m)).setCell ⟨gB, 2, none⟩ (.int .i64 c.u)).setCell ⟨gB, 3, none⟩ (.int .i64 c.b)).setCell ⟨gB, 4, none⟩ (.int .i64 c.cp)).setCell ⟨gB, 5, none⟩ (.int .i64 c.z)).setCell ⟨gB, 6, none⟩ (.int .i64 c.s)).setCell ⟨gB, 7, none⟩ (.int .i64 c.mt)).setCell ⟨gB, 8, none⟩ (.int .i64 c.o)).setCell ⟨gB, 9, none⟩ (.int .i64 c.a)).setCell ⟨gB, 10, none⟩ (.int .i64 c.l)).setCell ⟨gB, 11, none⟩ (.int .i64 1)).setCell ⟨gB, 12, none⟩ (.int .i64 0)).setCell ⟨gB, 13, none⟩ (.slice (some ⟨gS, 0, none⟩) m m)).setCell ⟨gB, 14, none⟩ (.slice (some ⟨gZ, 0, none⟩) n n)) gZ 51 (nzRow n 0).toArray ∧ Box (((((((((((((((w3.setCell ⟨gB, 0, none⟩ (.int .i64 c.id)).setCell ⟨gB, 1, none⟩ (.int .i64 c.m)).setCell ⟨gB, 2, none⟩ (.int .i64 c.u)).setCell ⟨gB, 3, none⟩ (.int .i64 c.b)).setCell ⟨gB, 4, none⟩ (.int .i64 c.cp)).setCell ⟨gB, 5, none⟩ (.int .i64 c.z)).setCell ⟨gB, 6, none⟩ (.int .i64 c.s)).setCell ⟨gB, 7, none⟩ (.int .i64 c.mt)).setCell ⟨gB, 8, none⟩ (.int .i64 c.o)).setCell ⟨gB, 9, none⟩ (.int .i64 c.a)).setCell ⟨gB, 10, none⟩ (.int .i64 c.l)).setCell ⟨gB, 11, none⟩ (.int .i64 1)).setCell ⟨gB, 12, none⟩ (.int .i64 0)).setCell ⟨gB, 13, none⟩ (.slice (some ⟨gS, 0, none⟩) m m)).setCell ⟨gB, 14, none⟩ (.slice (some ⟨gZ, 0, none⟩) n n)) gB 27 #[.int .i64 c.id, .int .i64 c.m, .int .i64 c.u, .int .i64 c.b, .int .i64 c.cp, .int .i64 c.z, .int .i64 c.s, .int .i64 c.mt, .int .i64 c.o, .int .i64 c.a, .int .i64 c.l, .int .i64 1, .int .i64 0, .slice (some ⟨gS, 0, none⟩) m m, .slice (some ⟨gZ, 0, none⟩) n n] ∧ Below w.heap.size w (((((((((((((((w3.setCell ⟨gB, 0, none⟩ (.int .i64 c.id)).setCell ⟨gB, 1, none⟩ (.int .i64 c.m)).setCell ⟨gB, 2, none⟩ (.int .i64 c.u)).setCell ⟨gB, 3, none⟩ (.int .i64 c.b)).setCell ⟨gB, 4, none⟩ (.int .i64 c.cp)).setCell ⟨gB, 5, none⟩ (.int .i64 c.z)).setCell ⟨gB, 6, none⟩ (.int .i64 c.s)).setCell ⟨gB, 7, none⟩ (.int .i64 c.mt)).setCell ⟨gB, 8, none⟩ (.int .i64 c.o)).setCell ⟨gB, 9, none⟩ (.int .i64 c.a)).setCell ⟨gB, 10, none⟩ (.int .i64 c.l)).setCell ⟨gB, 11, none⟩ (.int .i64 1)).setCell ⟨gB, 12, none⟩ (.int .i64 0)).setCell ⟨gB, 13, none⟩ (.slice (some ⟨gS, 0, none⟩) m m)).setCell ⟨gB, 14, none⟩ (.slice (some ⟨gZ, 0, none⟩) n n)) ∧ Box (((((((((((((((w3.setCell ⟨gB, 0, none⟩ (.int .i64 c.id)).setCell ⟨gB, 1, none⟩ (.int .i64 c.m)).setCell ⟨gB, 2, none⟩ (.int .i64 c.u)).setCell ⟨gB, 3, none⟩ (.int .i64 c.b)).setCell ⟨gB, 4, none⟩ (.int .i64 c.cp)).setCell ⟨gB, 5, none⟩ (.int .i64 c.z)).setCell ⟨gB, 6, none⟩ (.int .i64 c.s)).setCell ⟨gB, 7, none⟩ (.int .i64 c.mt)).setCell ⟨gB, 8, none⟩ (.int .i64 c.o)).setCell ⟨gB, 9, none⟩ (.int .i64 c.a)).setCell ⟨gB, 10, none⟩ (.int .i64 c.l)).setCell ⟨gB, 11, none⟩ (.int .i64 1)).setCell ⟨gB, 12, none⟩ (.int .i64 0)).setCell ⟨gB, 13, none⟩ (.slice (some ⟨gS, 0, none⟩) m m)).setCell ⟨gB, 14, none⟩ (.slice (some ⟨gZ, 0, none⟩) n n)) (w.heap.size + 1) 27 #[.int .i64 0, .int .i64 0, .int .i64 0, .int .i64 0, .int .i64 0, .int .i64 0, .int .i64 0, .int .i64 0, .int .i64 0, .int .i64 0, .int .i64 0, .int .i64 0, .int .i64 0, .slice none 0 0, .slice none 0 0]) := by
      refine ⟨HN.out.1.turn h3 ?_, HN.out.2.1.turn h3 ?_, h1, HN.out.2.2.2.1.trans (h2.mono (by omega)), HN.out.2.2.2.2.turn h3 ?_⟩
      · simpa using Box.apart HN.out.1 HN.out.2.2.1 (by decide)
      · simpa using Box.apart HN.out.2.1 HN.out.2.2.1 (by decide)
      · simp; omega
    generalize (((((((((((((((w3.setCell ⟨gB, 0, none⟩ (.int .i64 c.id)).setCell ⟨gB, 1, none⟩ (.int .i64 c.m)).setCell ⟨gB, 2, none⟩ (.int .i64 c.u)).setCell ⟨gB, 3, none⟩ (.int .i64 c.b)).setCell ⟨gB, 4, none⟩ (.int .i64 c.cp)).setCell ⟨gB, 5, none⟩ (.int .i64 c.z)).setCell ⟨gB, 6, none⟩ (.int .i64 c.s)).setCell ⟨gB, 7, none⟩ (.int .i64 c.mt)).setCell ⟨gB, 8, none⟩ (.int .i64 c.o)).setCell ⟨gB, 9, none⟩ (.int .i64 c.a)).setCell ⟨gB, 10, none⟩ (.int .i64 c.l)).setCell ⟨gB, 11, none⟩ (.int .i64 1)).setCell ⟨gB, 12, none⟩ (.int .i64 0)).setCell ⟨gB, 13, none⟩ (.slice (some ⟨gS, 0, none⟩) m m)).setCell ⟨gB, 14, none⟩ (.slice (some ⟨gZ, 0, none⟩) n n)) = w4 at HM ⊢
    clear h1 h2 h3 hK HN y0 y1 y2 y3 y4 y5 y6 y7 y8 y9 y10 y11 y12 y13 y14 f0 f1 f2 f3 f4 f5 f6 f7 f8 f9 f10 f11 f12 f13 f14
    refine wpB_done (by kernel_rfl) ?_
    obtain ⟨y0, y1, y2, y3, y4, y5, y6, y7, y8, y9, y10, y11, y12, y13, y14⟩ := box15 HM.out.2.2.1
    go_wp2
    clear y0 y1 y2 y3 y4 y5 y6 y7 y8 y9 y10 y11 y12 y13 y14
    have hne1 : gS ≠ gZ := Box.apart HM.out.1 HM.out.2.1 (by decide)
    have hne2 : gB ≠ gZ := Box.apart HM.out.2.2.1 HM.out.2.1 (by decide)
    have HNE : Hid (gS ≠ gZ ∧ gB ≠ gZ ∧ w.heap.size + 1 ≠ gZ ∧ w.heap.size + 1 ≠ gB ∧ w.heap.size + 1 ≠ gS) := ⟨hne1, hne2, by omega, by omega, by omega⟩
    clear hne1 hne2
    go_loopw [6, 24] (fun _ i wr => ∃ q : Nat, q ≤ n ∧ i = .int .i64 q ∧ Box wr gZ 51 (nzRow n q).toArray ∧ Turn [gZ] w4 wr) (fun _ i _ => n - (intOf i).toNat)
    case atStart => exact ⟨0, by omega, rfl, HM.out.2.1, Turn.refl _ _⟩
    case round =>
      obtain ⟨q, hq, rfl, hbx, htn⟩ := hrel
      have HB := Lib.hid (And.intro hbx htn)
      clear hbx htn
      obtain ⟨y0, y1, y2, y3, y4, y5, y6, y7, y8, y9, y10, y11, y12, y13, y14⟩ := box15 (HM.out.2.2.1.turn HB.out.2 (by simpa using HNE.out.2.1))
      by_cases hlt : q < n
      · have hcell : wr.cell? ⟨gZ, q * 6 + 1, none⟩ = some (nzc q (q * 6 + 1)) := by
          rw [HB.out.1.cell, List.getElem?_toArray]
          exact nzRow_at (by omega)
        have hfz := HB.out.1.frozen (q * 6 + 1)
        have HB3 : Hid (Box (wr.setCell ⟨gZ, q * 6 + 1, none⟩ (.int .i64 (-1))) gZ 51 (nzRow n (q + 1)).toArray ∧ Turn [gZ] w4 (wr.setCell ⟨gZ, q * 6 + 1, none⟩ (.int .i64 (-1)))) := by
          refine ⟨?_, HB.out.2.put (Or.inl (by simp)) _⟩
          have h := HB.out.1.store (q * 6 + 1) (.int .i64 (-1))
          rw [← nzRow_set hlt]
          simpa using h
        generalize nzc q (q * 6 + 1) = old at hcell
        go_wp2
        go_roundw
        case rel => exact ⟨q + 1, by omega, by go_num, HB3.out.1, HB3.out.2⟩
        case measure => simp [intOf]; omega
      · obtain rfl : n = q := by omega
        obtain ⟨z0, z1, z2, z3, z4, z5, z6, z7, z8, z9, z10, z11, z12, z13, z14⟩ := box15 (HM.out.2.2.2.2.turn HB.out.2 (by simpa using HNE.out.2.2.1))
        obtain ⟨f0, f1, f2, f3, f4, f5, f6, f7, f8, f9, f10, f11, f12, f13, f14⟩ := froz15 (HM.out.2.2.2.2.turn HB.out.2 (by simpa using HNE.out.2.2.1))
        have h1 := sets_box0 [.int .i64 c.id, .int .i64 c.m, .int .i64 c.u, .int .i64 c.b, .int .i64 c.cp, .int .i64 c.z, .int .i64 c.s, .int .i64 c.mt, .int .i64 c.o, .int .i64 c.a, .int .i64 c.l, .int .i64 1, .int .i64 0, .slice (some ⟨gS, 0, none⟩) m m, .slice (some ⟨gZ, 0, none⟩) n n] (HM.out.2.2.2.2.turn HB.out.2 (by simpa using HNE.out.2.2.1)) rfl
        have h3 := sets_turn (g := w.heap.size + 1) (gs := [w.heap.size + 1]) [.int .i64 c.id, .int .i64 c.m, .int .i64 c.u, .int .i64 c.b, .int .i64 c.cp, .int .i64 c.z, .int .i64 c.s, .int .i64 c.mt, .int .i64 c.o, .int .i64 c.a, .int .i64 c.l, .int .i64 1, .int .i64 0, .slice (some ⟨gS, 0, none⟩) m m, .slice (some ⟨gZ, 0, none⟩) n n] 0 wr (Turn.refl _ _) (by simp)
        simp only [sets, Nat.zero_add, Nat.reduceAdd] at h1 h3
        have HR : Hid (Box (((((((((((((((wr.setCell ⟨w.heap.size + 1, 0, none⟩ (.int .i64 c.id)).setCell ⟨w.heap.size + 1, 1, none⟩ (.int .i64 c.m)).setCell ⟨w.heap.size + 1, 2, none⟩ (.int .i64 c.u)).setCell ⟨w.heap.size + 1, 3, none⟩ (.int .i64 c.b)).setCell ⟨w.heap.size + 1, 4, none⟩ (.int .i64 c.cp)).setCell ⟨w.heap.size + 1, 5, none⟩ (.int .i64 c.z)).setCell ⟨w.heap.size + 1, 6, none⟩ (.int .i64 c.s)).setCell ⟨w.heap.size + 1, 7, none⟩ (.int .i64 c.mt)).setCell ⟨w.heap.size + 1, 8, none⟩ (.int .i64 c.o)).setCell ⟨w.heap.size + 1, 9, none⟩ (.int .i64 c.a)).setCell ⟨w.heap.size + 1, 10, none⟩ (.int .i64 c.l)).setCell ⟨w.heap.size + 1, 11, none⟩ (.int .i64 1)).setCell ⟨w.heap.size + 1, 12, none⟩ (.int .i64 0)).setCell ⟨w.heap.size + 1, 13, none⟩ (.slice (some ⟨gS, 0, none⟩) m m)).setCell ⟨w.heap.size + 1, 14, none⟩ (.slice (some ⟨gZ, 0, none⟩) n n)) (w.heap.size + 1) 27 #[.int .i64 c.id, .int .i64 c.m, .int .i64 c.u, .int .i64 c.b, .int .i64 c.cp, .int .i64 c.z, .int .i64 c.s, .int .i64 c.mt, .int .i64 c.o, .int .i64 c.a, .int .i64 c.l, .int .i64 1, .int .i64 0, .slice (some ⟨gS, 0, none⟩) m m, .slice (some ⟨gZ, 0, none⟩) n n] ∧ Box (((((((((((((((wr.setCell ⟨w.heap.size + 1, 0, none⟩ (.int .i64 c.id)).setCell ⟨w.heap.size + 1, 1, none⟩ (.int .i64 c.m)).setCell ⟨w.heap.size + 1, 2, none⟩ (.int .i64 c.u)).setCell ⟨w.heap.size + 1, 3, none⟩ (.int .i64 c.b)).setCell ⟨w.heap.size + 1, 4, none⟩ (.int .i64 c.cp)).setCell ⟨w.heap.size + 1, 5, none⟩ (.int .i64 c.z)).setCell ⟨w.heap.size + 1, 6, none⟩ (.int .i64 c.s)).setCell ⟨w.heap.size + 1, 7, none⟩ (.int .i64 c.mt)).setCell ⟨w.heap.size + 1, 8, none⟩ (.int .i64 c.o)).setCell ⟨w.heap.size + 1, 9, none⟩ (.int .i64 c.a)).setCell ⟨w.heap.size + 1, 10, none⟩ (.int .i64 c.l)).setCell ⟨w.heap.size + 1, 11, none⟩ (.int .i64 1)).setCell ⟨w.heap.size + 1, 12, none⟩ (.int .i64 0)).setCell ⟨w.heap.size + 1, 13, none⟩ (.slice (some ⟨gS, 0, none⟩) m m)).setCell ⟨w.heap.size + 1, 14, none⟩ (.slice (some ⟨gZ, 0, none⟩) n n)) gS 3 (zintRow m).toArray ∧ Box (((((((((((((((wr.setCell ⟨w.heap.size + 1, 0, none⟩ (.int .i64 c.id)).setCell ⟨w.heap.size + 1, 1, none⟩ (.int .i64 c.m)).setCell ⟨w.heap.size + 1, 2, none⟩ (.int .i64 c.u)).setCell ⟨w.heap.size + 1, 3, none⟩ (.int .i64 c.b)).setCell ⟨w.heap.size + 1, 4, none⟩ (.int .i64 c.cp)).setCell ⟨w.heap.size + 1, 5, none⟩ (.int .i64 c.z)).setCell ⟨w.heap.size + 1, 6, none⟩ (.int .i64 c.s)).setCell ⟨w.heap.size + 1, 7, none⟩ (.int .i64 c.mt)).setCell ⟨w.heap.size + 1, 8, none⟩ (.int .i64 c.o)).setCell ⟨w.heap.size + 1, 9, none⟩ (.int .i64 c.a)).setCell ⟨w.heap.size + 1, 10, none⟩ (.int .i64 c.l)).setCell ⟨w.heap.size + 1, 11, none⟩ (.int .i64 1)).setCell ⟨w.heap.size + 1, 12, none⟩ (.int .i64 0)).setCell ⟨w.heap.size + 1, 13, none⟩ (.slice (some ⟨gS, 0, none⟩) m m)).setCell ⟨w.heap.size + 1, 14, none⟩ (.slice (some ⟨gZ, 0, none⟩) n n)) gZ 51 (nzRow n n).toArray ∧ Below w.heap.size w (((((((((((((((wr.setCell ⟨w.heap.size + 1, 0, none⟩ (.int .i64 c.id)).setCell ⟨w.heap.size + 1, 1, none⟩ (.int .i64 c.m)).setCell ⟨w.heap.size + 1, 2, none⟩ (.int .i64 c.u)).setCell ⟨w.heap.size + 1, 3, none⟩ (.int .i64 c.b)).setCell ⟨w.heap.size + 1, 4, none⟩ (.int .i64 c.cp)).setCell ⟨w.heap.size + 1, 5, none⟩ (.int .i64 c.z)).setCell ⟨w.heap.size + 1, 6, none⟩ (.int .i64 c.s)).setCell ⟨w.heap.size + 1, 7, none⟩ (.int .i64 c.mt)).setCell ⟨w.heap.size + 1, 8, none⟩ (.int .i64 c.o)).setCell ⟨w.heap.size + 1, 9, none⟩ (.int .i64 c.a)).setCell ⟨w.heap.size + 1, 10, none⟩ (.int .i64 c.l)).setCell ⟨w.heap.size + 1, 11, none⟩ (.int .i64 1)).setCell ⟨w.heap.size + 1, 12, none⟩ (.int .i64 0)).setCell ⟨w.heap.size + 1, 13, none⟩ (.slice (some ⟨gS, 0, none⟩) m m)).setCell ⟨w.heap.size + 1, 14, none⟩ (.slice (some ⟨gZ, 0, none⟩) n n))) := by
          have hb1 := HM.out.2.2.2.1.trans (HB.out.2.below (B := w.heap.size) (fun g hg => by simp at hg; omega) HM.out.2.2.2.1.size)
          have hb2 := hb1.trans (h3.below (B := w.heap.size) (fun g hg => by simp at hg; omega) hb1.size)
          refine ⟨h1, (HM.out.1.turn HB.out.2 (by simpa using HNE.out.1)).turn h3 ?_, HB.out.1.turn h3 ?_, hb2⟩
          · have := HNE.out.2.2.2.2; simp; omega
          · have := HNE.out.2.2.1; simp; omega
        clear h1 h3
        go_wp2
        generalize (((((((((((((((wr.setCell ⟨w.heap.size + 1, 0, none⟩ (.int .i64 c.id)).setCell ⟨w.heap.size + 1, 1, none⟩ (.int .i64 c.m)).setCell ⟨w.heap.size + 1, 2, none⟩ (.int .i64 c.u)).setCell ⟨w.heap.size + 1, 3, none⟩ (.int .i64 c.b)).setCell ⟨w.heap.size + 1, 4, none⟩ (.int .i64 c.cp)).setCell ⟨w.heap.size + 1, 5, none⟩ (.int .i64 c.z)).setCell ⟨w.heap.size + 1, 6, none⟩ (.int .i64 c.s)).setCell ⟨w.heap.size + 1, 7, none⟩ (.int .i64 c.mt)).setCell ⟨w.heap.size + 1, 8, none⟩ (.int .i64 c.o)).setCell ⟨w.heap.size + 1, 9, none⟩ (.int .i64 c.a)).setCell ⟨w.heap.size + 1, 10, none⟩ (.int .i64 c.l)).setCell ⟨w.heap.size + 1, 11, none⟩ (.int .i64 1)).setCell ⟨w.heap.size + 1, 12, none⟩ (.int .i64 0)).setCell ⟨w.heap.size + 1, 13, none⟩ (.slice (some ⟨gS, 0, none⟩) m m)).setCell ⟨w.heap.size + 1, 14, none⟩ (.slice (some ⟨gZ, 0, none⟩) n n)) = w5 at HR ⊢
        obtain ⟨y0, y1, y2, y3, y4, y5, y6, y7, y8, y9, y10, y11, y12, y13, y14⟩ := box15 HR.out.1
        rw [HNS.out]
        refine bodyPost_ret (v := .tuple #[.agg #[.int .i64 c.id, .int .i64 c.m, .int .i64 c.u, .int .i64 c.b, .int .i64 c.cp, .int .i64 c.z, .int .i64 c.s, .int .i64 c.mt, .int .i64 c.o, .int .i64 c.a, .int .i64 c.l, .int .i64 1, .int .i64 0, .slice (some ⟨gS, 0, none⟩) m m, .slice (some ⟨gZ, 0, none⟩) n n], .int .i64 0]) (by simp [results, Try.results18, go_sem, *]) rfl ⟨some ⟨gS, 0, none⟩, m, some ⟨gZ, 0, none⟩, n, by simp, ⟨zints_at HR.out.2.1 HR.out.2.1.lt, nzRow_zones HR.out.2.2.1 HR.out.2.2.1.lt, by simp, by simp⟩, HR.out.2.2.2⟩
end Go.Proofs.Ytaceaemombnhkaa
