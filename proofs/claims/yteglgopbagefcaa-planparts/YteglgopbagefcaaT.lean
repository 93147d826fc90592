/- The contract of Needs. -/
import Derived.Test.YteglgopbagefcaaS
namespace Go.Proofs.Yteglgopbagefcaa
set_option linter.unusedVariables false
set_option linter.unusedSimpArgs false
open Go.RowKit
open Go.RowKit (wrap64)

theorem Try.info3 : (Try.prog.info? 3).map (fun i => (i.zero, i.size, i.bytes)) = some (some (.int .i64 0), 1, 8) := by kernel_rfl
/-- The first k of M numbers are there. -/
def rowN (f : Int → Int) (M k : Nat) : List Value := (List.range M).map fun i => .int .i64 (if i < k then f i else 0)
theorem rowN_length (f : Int → Int) (M k : Nat) : (rowN f M k).length = M := by simp [rowN]
theorem rowN_at {f : Int → Int} {M k i : Nat} (h : i < M) : (rowN f M k)[i]? = some (.int .i64 (if i < k then f i else 0)) := by simp [rowN, h]
theorem rowN_made (f : Int → Int) (M : Nat) : madeCells #[.int .i64 0] M = (rowN f M 0).toArray := by
  apply Array.ext_getElem?
  intro j
  simp only [madeCells, Array.getElem?_map, List.getElem?_toArray]
  by_cases h : j < M
  · rw [rowN_at h, if_neg (by omega)]
    simp [h, Nat.mod_one]
  · rw [List.getElem?_eq_none (by rw [rowN_length]; omega)]
    have hr : (Array.range M)[j]? = none := by simp; omega
    rw [hr]
    rfl
theorem rowN_set (f : Int → Int) (M k : Nat) (h : k < M) : (rowN f M k).set k (.int .i64 (f k)) = rowN f M (k + 1) := by
  apply List.ext_getElem?
  intro j
  by_cases hj : j < M
  · rw [rowN_at hj, List.getElem?_set]
    by_cases e : k = j
    · subst e
      rw [if_pos rfl, if_pos (by rw [rowN_length]; exact h), if_pos (by omega)]
    · rw [if_neg e, rowN_at hj]
      by_cases h2 : j < k
      · rw [if_pos h2, if_pos (by omega)]
      · rw [if_neg h2, if_neg (by omega)]
  · rw [List.getElem?_eq_none (by rw [List.length_set, rowN_length]; omega), List.getElem?_eq_none (by rw [rowN_length]; omega)]
/-- P8.3: Needs gave new memory with the need of each member. -/
def GaveN (c : Cf) (n : Int) (M : Nat) (w : World) (e : Ending) (w' : World) : Prop := ∃ g, e = .returned (.slice (some ⟨g, 0, none⟩) M M) ∧ Box w' g 3 (rowN (fun m => nedC c m (wriC c n)) M M).toArray ∧ Below w.heap.size w w'
/-- The settings' block, and the row that is being filled. -/
def AtN (c : Cf) (f : Int → Int) (M k g : Nat) (w w' : World) : Prop := At c w w' ∧ Box w' g 3 (rowN f M k).toArray ∧ w.heap.size + 1 ≤ g
theorem AtN.later {c : Cf} {f : Int → Int} {M k g : Nat} {w w' w2 : World} (h : AtN c f M k g w w') (hb : Below w'.heap.size w' w2) : AtN c f M k g w w2 := ⟨h.1.later hb, h.2.1.later hb, h.2.2⟩
theorem AtN.put {c : Cf} {f : Int → Int} {M k g : Nat} {w w' : World} (h : AtN c f M k g w w') (hk : k < M) : AtN c f M (k + 1) g w (w'.setCell ⟨g, k, none⟩ (.int .i64 (f k))) := by
  have hb : Below (w.heap.size + 1) w' (w'.setCell ⟨g, k, none⟩ (.int .i64 (f k))) := Below.setCell (Below.refl _ _) (by simpa using h.2.2) _
  refine ⟨⟨h.1.below hb, h.1.2.1.trans (hb.mono (by omega)), Nat.le_trans h.1.2.2 hb.size⟩, ?_, h.2.2⟩
  have h5 := h.2.1.store k (.int .i64 (f k))
  simp only [List.setIfInBounds_toArray] at h5
  rw [rowN_set f M k hk] at h5
  exact h5
set_option maxHeartbeats 2000000 in
theorem needs_yes (c : Cf) (n : Int) (M : Nat) (w : World) (hc : checkC c = 0) (hM : c.m = (M : Int)) : Calls Try.prog 43 #[(.agg #[.int .i64 c.id, .int .i64 c.m, .int .i64 c.u, .int .i64 c.b, .int .i64 c.cp, .int .i64 c.z, .int .i64 c.s, .int .i64 c.mt, .int .i64 c.o, .int .i64 c.a, .int .i64 c.l]), .int .i64 n] w (GaveN c n M w) := by
  have HC := Lib.hid hc
  have HO := Lib.hid (ok_of hc)
  have HW := Lib.hid (wri_in hc n)
  have o1 := HO.out.m1
  have o2 := HO.out.m2
  have b1 : 3 ≤ M ∧ M ≤ 16 := by omega
  have HM := Lib.hid hM
  clear o1 o2 hM
  have hmk : ∀ w, (Instr.makeSlice 37 (.int .i64 (M : Int)) (.int .i64 (M : Int))).run Try.prog w = .ok (.slice (some ⟨w.heap.size, 0, none⟩) M M) (w.alloc (.cells (rowN (fun m => nedC c m (wriC c n)) M 0).toArray 3)) := fun w => by
    have h := run_make_row' (P := Try.prog) 37 3 (.int .i64 0) 8 Try.underlying37 Try.info3 rfl .i64 .i64 M (by omega) (by omega) w
    rw [rowN_made (fun m => nedC c m (wriC c n))] at h
    exact h
  have HK := Lib.hid hmk
  clear hmk
  go_enter Try.func43, Try.ntmps43
  go_wp2_with fail
  have HV0 := Lib.hid (At.new c w)
  generalize (w.alloc (.cells #[.int .i64 c.id, .int .i64 c.m, .int .i64 c.u, .int .i64 c.b, .int .i64 c.cp, .int .i64 c.z, .int .i64 c.s, .int .i64 c.mt, .int .i64 c.o, .int .i64 c.a, .int .i64 c.l] 23)) = w0 at HV0 ⊢
  obtain ⟨y0, y1, y2, y3, y4, y5, y6, y7, y8, y9, y10⟩ := box11 HV0.out.1
  refine (check_any c w0).mono ?_
  rintro e w1 ⟨rfl, hb⟩
  rw [hc]
  clear hc
  have HV1 := Lib.hid (HV0.out.later hb)
  clear hb HV0 y0 y1 y2 y3 y4 y5 y6 y7 y8 y9 y10
  obtain ⟨y0, y1, y2, y3, y4, y5, y6, y7, y8, y9, y10⟩ := box11 HV1.out.1
  go_wp2_with fail
  refine (wri_any c n w1).mono ?_
  rintro e w2 ⟨rfl, hb⟩
  have HV2 := Lib.hid (HV1.out.later hb)
  clear hb HV1 y0 y1 y2 y3 y4 y5 y6 y7 y8 y9 y10
  obtain ⟨y0, y1, y2, y3, y4, y5, y6, y7, y8, y9, y10⟩ := box11 HV2.out.1
  rw [HM.out] at y1
  have hmk := HK.out
  go_upto_region 5 with fail
  clear hmk HK
  have S0 : Hid (AtN c (fun m => nedC c m (wriC c n)) M 0 w2.heap.size w (w2.alloc (.cells (rowN (fun m => nedC c m (wriC c n)) M 0).toArray 3))) := by
    exact ⟨HV2.out.alloc _, Box.fresh w2 3 _, HV2.out.2.2⟩
  generalize (w2.alloc (.cells (rowN (fun m => nedC c m (wriC c n)) M 0).toArray 3)) = w3 at S0 ⊢
  generalize w2.heap.size = g at S0 ⊢
  clear HV2 y0 y1 y2 y3 y4 y5 y6 y7 y8 y9 y10
  obtain ⟨y0, y1, y2, y3, y4, y5, y6, y7, y8, y9, y10⟩ := box11 S0.out.1.1
  rw [HM.out] at y1
  go_wp2
  go_loopw [18] (fun i wr => ∃ k : Nat, k ≤ M ∧ i = .int .i64 k ∧ AtN c (fun m => nedC c m (wriC c n)) M k g w wr) (fun i _ => M - (intOf i).toNat)
  case atStart => exact ⟨0, by omega, rfl, S0.out⟩
  case round =>
    clear S0 y0 y1 y2 y3 y4 y5 y6 y7 y8 y9 y10
    obtain ⟨k, hk, rfl, hat⟩ := hrel
    by_cases hlt : k < M
    · have HV3 := Lib.hid hat
      clear hat
      obtain ⟨y0, y1, y2, y3, y4, y5, y6, y7, y8, y9, y10⟩ := box11 HV3.out.1.1
      go_wp2_with fail
      refine (ned_any c k (wriC c n) wr HC.out HW.out.1 HW.out.2.1 (by omega) (by rw [HM.out]; omega)).mono ?_
      rintro e w4 ⟨rfl, hb⟩
      have HV4 := Lib.hid (HV3.out.later hb)
      clear hb HV3 y0 y1 y2 y3 y4 y5 y6 y7 y8 y9 y10
      have s0 : w4.cell? ⟨g, k, none⟩ = some (.int .i64 0) := by rw [HV4.out.2.1.cell, List.getElem?_toArray, rowN_at hlt, if_neg (by omega)]
      have f0 : w4.frozen? ⟨g, k, none⟩ = false := HV4.out.2.1.frozen _
      go_wp2
      go_roundw
      case rel => exact ⟨k + 1, by omega, by go_num, HV4.out.put hlt⟩
      case measure => simp [intOf]; omega
    · obtain rfl : k = M := by omega
      have HV3 := Lib.hid hat
      clear hat
      go_wp2
      go_ret
      exact ⟨g, rfl, HV3.out.2.1, HV3.out.1.2.1⟩
set_option maxHeartbeats 1000000 in
theorem needs_no (c : Cf) (n : Int) (w : World) (hc : ¬ checkC c = 0) : Calls Try.prog 43 #[(.agg #[.int .i64 c.id, .int .i64 c.m, .int .i64 c.u, .int .i64 c.b, .int .i64 c.cp, .int .i64 c.z, .int .i64 c.s, .int .i64 c.mt, .int .i64 c.o, .int .i64 c.a, .int .i64 c.l]), .int .i64 n] w (Says w (.slice none 0 0)) := by
  go_enter Try.func43, Try.ntmps43
  go_wp2_with fail
  have HV0 := Lib.hid (At.new c w)
  generalize (w.alloc (.cells #[.int .i64 c.id, .int .i64 c.m, .int .i64 c.u, .int .i64 c.b, .int .i64 c.cp, .int .i64 c.z, .int .i64 c.s, .int .i64 c.mt, .int .i64 c.o, .int .i64 c.a, .int .i64 c.l] 23)) = w0 at HV0 ⊢
  obtain ⟨y0, y1, y2, y3, y4, y5, y6, y7, y8, y9, y10⟩ := box11 HV0.out.1
  refine (check_any c w0).mono ?_
  rintro e w1 ⟨rfl, hb⟩
  generalize checkC c = x at hc ⊢
  have e1 : (x == 0) = false := by simpa using hc
  have HV1 := Lib.hid (HV0.out.later hb)
  clear hb HV0 y0 y1 y2 y3 y4 y5 y6 y7 y8 y9 y10
  obtain ⟨y0, y1, y2, y3, y4, y5, y6, y7, y8, y9, y10⟩ := box11 HV1.out.1
  go_wp2
  go_ret
  exact ⟨rfl, HV1.out.2.1⟩
end Go.Proofs.Yteglgopbagefcaa
