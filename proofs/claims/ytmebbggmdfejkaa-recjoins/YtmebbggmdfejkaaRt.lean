/- A string as bytes, and an append onto it. -/
import Derived.Test.YtmebbggmdfejkaaRo
import Derived.Lib.ConvBytes
import Derived.Laws.IdiomCopy
namespace Go.Proofs.Ytmebbggmdfejkaa
set_option linter.unusedVariables false
set_option linter.unusedSimpArgs false
open Go.RowKit
open Go.RowKit (wrap64)

/-- The row of a conversion: its bytes, the room behind them. -/
structure MarkAt (w : World) (g : Nat) (l : List UInt8) (cap : Nat) : Prop where
  lt : g < w.heap.size
  fits : l.length ≤ cap
  cells : ∀ j (hj : j < l.length), w.cell? ⟨g, j, none⟩ = some (cB l[j])
  room : ∀ j, j < cap → (w.cell? ⟨g, j, none⟩).isSome = true ∧ w.frozen? ⟨g, j, none⟩ = false
theorem conv_row (l : List UInt8) (w : World) : ∃ cap w', (convert 9 22 (.string ⟨l.toArray⟩)).run Try.prog w = .ok (.slice (some ⟨w.heap.size, 0, none⟩) l.length cap) w' ∧ MarkAt w' w.heap.size l cap ∧ Below w.heap.size w w' := by
  have hrun := Lib.run_convert_string_bytes (P := Try.prog) w 9 22 5 ⟨l.toArray⟩ Try.underlying9 Try.underlying22 Try.underlying5
  have hs : (⟨l.toArray⟩ : ByteArray).size = l.length := rfl
  have hge := grownCap_ge w l.length 0 5
  have hsz : (Lib.bytesCells w 5 ⟨l.toArray⟩).size = grownCap w l.length 0 5 := by
    unfold Lib.bytesCells
    rw [hs]
    simp
    omega
  have hat := Lib.bytesWorld_at_new w 5 ⟨l.toArray⟩
  refine ⟨_, _, hrun, ⟨by rw [Lib.bytesWorld_size]; omega, hge, fun j hj => ?_, fun j hj => ⟨?_, ?_⟩⟩, ⟨?_, ?_, ?_, ?_, fun k hk => Lib.bytesWorld_at_old w 5 _ k hk⟩⟩
  · have h := Lib.bytesWorld_cell w 5 ⟨l.toArray⟩ j (by rw [hs]; exact hj)
    rw [h]
    simp [cB, hj]
  · rw [cell_of_row _ _ j _ 5 _ hat]
    simp
    rw [hsz]
    exact hj
  · simp only [World.frozen?, hat]
    rw [hsz]
    have : ¬ grownCap w l.length 0 5 ≤ j := by
      rw [hs] at hj
      omega
    simp [this]
  · rfl
  · rfl
  · rfl
  · rw [Lib.bytesWorld_size]; omega
theorem below_setCells {B : Nat} {a : World} (g : Nat) (hB : B ≤ g) : ∀ (vs : List Value) (o : Nat) (w : World), Below B a w → Below B a (w.setCells g o vs)
  | [], _, _, h => h
  | v :: r, o, w, h => below_setCells g hB r (o + 1) _ (h.setCell (p := ⟨g, o, none⟩) hB v)
theorem size_setCells (g : Nat) : ∀ (vs : List Value) (o : Nat) (w : World), (w.setCells g o vs).heap.size = w.heap.size
  | [], _, _ => rfl
  | v :: r, o, w => by
    rw [World.setCells, size_setCells g r (o + 1)]
    simp
theorem rd_joined {w : World} {g : Nat} {l y : List UInt8} (hlt : g < w.heap.size) (h1 : ∀ j (hj : j < l.length), w.cell? ⟨g, j, none⟩ = some (cB l[j])) (h2 : ∀ j (hj : j < y.length), w.cell? ⟨g, l.length + j, none⟩ = some (cB y[j])) : Rd w w.heap.size (some ⟨g, 0, none⟩) (l ++ y) := fun _ =>
  ⟨_, rfl, hlt, fun j u hu => by
    have hadd : (⟨g, 0, none⟩ : Addr).add j = ⟨g, j, none⟩ := by unfold Addr.add; split <;> simp_all
    rw [hadd]
    rw [cBs_append] at hu
    rcases Nat.lt_or_ge j l.length with h | h
    · rw [List.getElem?_append_left (by rw [cBs_length]; exact h), cBs_get l j h] at hu
      rw [h1 j h]
      exact hu
    · rw [List.getElem?_append_right (by rw [cBs_length]; exact h), cBs_length] at hu
      have hj : j - l.length < y.length := by
        have := (List.getElem?_eq_some_iff.1 hu).1
        rw [cBs_length] at this
        exact this
      rw [cBs_get y _ hj] at hu
      have e : j = l.length + (j - l.length) := by omega
      rw [e, h2 _ hj]
      exact hu⟩
theorem run_appM (ty : TypeId) (w : World) (base g cap c : Nat) (l y : List UInt8) (Y : Option Addr) (hm : MarkAt w g l cap) (hbase : base ≤ g) (hy : Rd w w.heap.size Y y) (hl : l.length + y.length ≤ 10000000) :
    ∃ X cx w', (Builtin.append_ #[22, 22] ty #[.slice (some ⟨g, 0, none⟩) l.length cap, .slice Y y.length c]).run Try.prog w = .ok (.slice X (l ++ y).length cx) w' ∧ Rd w' w'.heap.size X (l ++ y) ∧ (l ++ y).length ≤ cx ∧ Below base w w' := by
  obtain ⟨i0, hi, hz0, hz1, hz2⟩ := info_parts Try.info5
  have hll : (l ++ y).length = l.length + y.length := List.length_append
  have hfit := hm.fits
  have hlt := hm.lt
  by_cases h0 : y.length = 0
  · have hnil : y = [] := List.eq_nil_of_length_eq_zero h0
    subst hnil
    refine ⟨some ⟨g, 0, none⟩, cap, w, ?_, ?_, by rw [hll]; simpa using hfit, Below.refl _ _⟩
    · simp only [List.length_nil, List.append_nil]
      cases Y <;> simp [Builtin.append_, run_underlying Try.underlying22, sizeOf, typeInfo, hi, Builtin.lenOf, Builtin.firstCells, loadCells, loadCellsFrom, hfit, storeCells, hz1]
    · exact rd_joined hlt hm.cells (fun j hj => absurd hj (by simp))
  · obtain ⟨ad, rfl, hx, hcy⟩ := hy (by omega)
    have hnews : ∀ j u, (cBs y)[j]? = some u → w.cell? (ad.add j) = some u := hcy
    have hlen : (cBs y).length = y.length * i0.size := by rw [cBs_length, hz1]; omega
    by_cases hroom : l.length + y.length ≤ cap
    · have hf := run_firstCells_some (P := Try.prog) w i0.size y.length ad y.length c (cBs y) hlen hnews
      have hst := run_storeCells_cells (P := Try.prog) g l.length (cBs y) 0 w (fun j hj => by rw [cBs_length] at hj; exact (hm.room _ (by omega)).1) (fun j hj => by rw [cBs_length] at hj; exact (hm.room _ (by omega)).2) (cBs_one y)
      refine ⟨some ⟨g, 0, none⟩, cap, w.setCells g (l.length + 0) (cBs y), ?_, ?_, by rw [hll]; exact hroom, below_setCells g hbase _ _ _ (Below.refl _ _)⟩
      · rw [hll]
        rw [hz1] at hf
        simp [Builtin.append_, run_underlying Try.underlying22, sizeOf, typeInfo, hi, hz1, Builtin.lenOf, hroom, hf, Addr.add_lit, hst]
      · refine rd_joined (by rw [size_setCells]; exact hlt) (fun j hj => ?_) (fun j hj => ?_)
        · rw [World.cell?_setCells_out g _ _ w ⟨g, j, none⟩ (fun _ _ => Or.inl (by simp; omega))]
          exact hm.cells j hj
        · have h := World.cell?_setCells_in g (cBs y) (l.length + 0) w (fun i hi' => by rw [cBs_length] at hi'; exact (hm.room _ (by omega)).1) j (by rw [cBs_length]; exact hj)
          rw [Nat.add_zero] at h
          rw [Nat.add_zero, h]
          congr 1
          simp [cBs]
    · have holds : ∀ j v, (cBs l)[j]? = some v → w.cell? ((⟨g, 0, none⟩ : Addr).add j) = some v := fun j v hv => by
        have hadd : (⟨g, 0, none⟩ : Addr).add j = ⟨g, j, none⟩ := by unfold Addr.add; split <;> simp_all
        have hj : j < l.length := by
          have := (List.getElem?_eq_some_iff.1 hv).1
          rw [cBs_length] at this
          exact this
        rw [hadd, hm.cells j hj, ← cBs_get l j hj]
        exact hv
      have hlo : (cBs l).length = l.length * i0.size := by rw [cBs_length, hz1]; omega
      have hr := run_append_grow (P := Try.prog) w 22 ty 5 i0 (.int .u8 0) Try.underlying22 hi hz0 ⟨g, 0, none⟩ l.length cap (cBs l) hlo holds ad y.length c (cBs y) hlen hnews (by omega) (by omega) (growslice_fits (by omega) (by rw [hz2]; omega))
      have hge := grownCap_ge w (l.length + y.length) cap 5
      refine ⟨_, _, _, by rw [hll]; exact hr, ?_, by rw [hll]; exact hge, (Below.refl _ _).drew.alloc (by show base ≤ w.heap.size; omega) _⟩
      have hat : (w.drew.alloc (.cells ((cBs l).toArray ++ (cBs y).toArray ++ Builtin.zeroCells (Value.int .u8 0).cells (grownCap w (l.length + y.length) cap 5 - (l.length + y.length))) 5)).heap[w.heap.size]? = _ := heap_alloc_new w.drew _
      refine rd_joined (by simp) (fun j hj => ?_) (fun j hj => ?_)
      · rw [cell_of_row _ _ j _ 5 (0, 0) hat, Array.getElem?_append_left (by simp [cBs]; omega), Array.getElem?_append_left (by simp [cBs]; omega), List.getElem?_toArray]
        exact cBs_get l j hj
      · rw [cell_of_row _ _ _ _ 5 (0, 0) hat, Array.getElem?_append_left (by simp [cBs]; omega), Array.getElem?_append_right (by simp [cBs])]
        simp only [List.size_toArray, cBs_length, Nat.add_sub_cancel_left, List.getElem?_toArray]
        exact cBs_get y j hj
theorem wpList_appM (w : World) {ops : Array Oper} {rest : List Oper} {o : Oper} {a : Act} {Q : Exit → Act → World → Prop} (hgd : o.guard = none) (s x : Operand)
    (ho : o.op = .call { callee := .builtin .append, args := #[s, x], argTypes := #[22, 22] }) (base g cap c : Nat) (l y : List UInt8) (Y : Option Addr) (hs : a.eval s = .slice (some ⟨g, 0, none⟩) l.length cap) (hx : a.eval x = .slice Y y.length c) (hm : MarkAt w g l cap) (hbase : base ≤ g) (hy : Rd w w.heap.size Y y) (hl : l.length + y.length ≤ 10000000)
    (h : ∀ X cx w', Rd w' w'.heap.size X (l ++ y) → (l ++ y).length ≤ cx → Below base w w' → wpList Try.prog ops Q rest (a.put o.dst (.slice X (l ++ y).length cx)) w') : wpList Try.prog ops Q (o :: rest) a w := by
  obtain ⟨X, cx, w', hrun, h1, h2, h3⟩ := run_appM o.type w base g cap c l y Y hm hbase hy hl
  exact wpList_plain hgd fun K hK => oper_app s x 22 ho _ _ _ _ hs hx hrun (hK _ _ (h X cx w' h1 h2 h3))
end Go.Proofs.Ytmebbggmdfejkaa
