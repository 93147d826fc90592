/- The reference's Get: what ends it early. -/
import Derived.Test.YtmebbggmdfejkaaRk
import Derived.Test.YtmebbggmdfejkaaG
import Derived.Deep.DeepCutAuto
namespace Go.Proofs.Ytmebbggmdfejkaa
set_option linter.unusedVariables false
set_option linter.unusedSimpArgs false
open Go.RowKit
open Go.RowKit (wrap64)

theorem getE_part {b : List UInt8} {bl er : Int} (h : partE b bl = er) (h0 : ¬ er = 0) : getE b bl = er := by
  unfold getE
  rw [h, if_neg h0]
set_option maxRecDepth 100000 in
set_option maxHeartbeats 4000000 in
theorem rget_low (A : Option Addr) (c : Nat) (b : List UInt8) (bl : Int) (w : World) (hr : Rd w w.heap.size A b) (hc : b.length ≤ c) (hl : b.length ≤ 10000000) (hm : bl < 1) : Calls Try.prog 17 #[.slice A b.length c, .int .i64 bl] w (GetG w (getN b bl) (getD b bl) (getK b bl) (getE b bl)) := by
  have HE : Hid (getE b bl = 1) := getE_part (by unfold partE; rw [if_neg (by rw [mayB_iff]; omega)]) (by decide)
  clear hr
  go_enter Try.func17, Try.ntmps17
  go_upto_region 2 with fail
  have HV0 : Hid (RecAt (w.alloc (.cells #[.int .i64 0, .int .i64 0, .int .i64 0, .int .i64 0, .int .i64 0, .int .i64 0, .int .i64 0, .int .i64 0, .int .i64 0, .slice none 0 0] 24)) w.heap.size (fun _ => 0) (.slice none 0 0) ∧ Below w.heap.size w (w.alloc (.cells #[.int .i64 0, .int .i64 0, .int .i64 0, .int .i64 0, .int .i64 0, .int .i64 0, .int .i64 0, .int .i64 0, .int .i64 0, .slice none 0 0] 24))) := ⟨Box.fresh w 24 _, (Below.refl _ _).alloc (Nat.le_refl _) _⟩
  generalize (w.alloc (.cells #[.int .i64 0, .int .i64 0, .int .i64 0, .int .i64 0, .int .i64 0, .int .i64 0, .int .i64 0, .int .i64 0, .int .i64 0, .slice none 0 0] 24)) = w0 at HV0 ⊢
  obtain ⟨z0, z1, z2, z3, z4, z5, z6, z7, z8, z9⟩ := box10 HV0.out.1
  obtain ⟨f0, f1, f2, f3, f4, f5, f6, f7, f8, f9⟩ := froz10 HV0.out.1
  go_wp2
  exact bodyPost_ret (v := .tuple #[.agg #[.int .i64 0, .int .i64 0, .int .i64 0, .int .i64 0, .int .i64 0, .int .i64 0, .int .i64 0, .int .i64 0, .int .i64 0, .slice none 0 0], .int .i64 0, .int .i64 1]) (by simp [results, Try.results17, go_sem, *]) rfl (getG_err HE.out (by decide) ⟨none, 0, rfl, Rd.nil, Below.trans HV0.out.2 (by repeat (first | with_reducible exact Below.refl _ _ | with_reducible refine Below.drew ?_ | with_reducible refine Below.alloc ?_ (by first | (simp; done) | (simp; omega)) _ | with_reducible refine Below.setCell ?_ (by first | (simp; done) | (simp; omega)) _))⟩)
set_option maxRecDepth 100000 in
set_option maxHeartbeats 4000000 in
theorem rget_high (A : Option Addr) (c : Nat) (b : List UInt8) (bl : Int) (w : World) (hr : Rd w w.heap.size A b) (hc : b.length ≤ c) (hl : b.length ≤ 10000000) (hm : ¬ bl < 1) (hm2 : 4096 < bl) : Calls Try.prog 17 #[.slice A b.length c, .int .i64 bl] w (GetG w (getN b bl) (getD b bl) (getK b bl) (getE b bl)) := by
  have HE : Hid (getE b bl = 1) := getE_part (by unfold partE; rw [if_neg (by rw [mayB_iff]; omega)]) (by decide)
  clear hr
  go_enter Try.func17, Try.ntmps17
  go_upto_region 2 with fail
  have HV0 : Hid (RecAt (w.alloc (.cells #[.int .i64 0, .int .i64 0, .int .i64 0, .int .i64 0, .int .i64 0, .int .i64 0, .int .i64 0, .int .i64 0, .int .i64 0, .slice none 0 0] 24)) w.heap.size (fun _ => 0) (.slice none 0 0) ∧ Below w.heap.size w (w.alloc (.cells #[.int .i64 0, .int .i64 0, .int .i64 0, .int .i64 0, .int .i64 0, .int .i64 0, .int .i64 0, .int .i64 0, .int .i64 0, .slice none 0 0] 24))) := ⟨Box.fresh w 24 _, (Below.refl _ _).alloc (Nat.le_refl _) _⟩
  generalize (w.alloc (.cells #[.int .i64 0, .int .i64 0, .int .i64 0, .int .i64 0, .int .i64 0, .int .i64 0, .int .i64 0, .int .i64 0, .int .i64 0, .slice none 0 0] 24)) = w0 at HV0 ⊢
  obtain ⟨z0, z1, z2, z3, z4, z5, z6, z7, z8, z9⟩ := box10 HV0.out.1
  obtain ⟨f0, f1, f2, f3, f4, f5, f6, f7, f8, f9⟩ := froz10 HV0.out.1
  go_wp2
  exact bodyPost_ret (v := .tuple #[.agg #[.int .i64 0, .int .i64 0, .int .i64 0, .int .i64 0, .int .i64 0, .int .i64 0, .int .i64 0, .int .i64 0, .int .i64 0, .slice none 0 0], .int .i64 0, .int .i64 1]) (by simp [results, Try.results17, go_sem, *]) rfl (getG_err HE.out (by decide) ⟨none, 0, rfl, Rd.nil, Below.trans HV0.out.2 (by repeat (first | with_reducible exact Below.refl _ _ | with_reducible refine Below.drew ?_ | with_reducible refine Below.alloc ?_ (by first | (simp; done) | (simp; omega)) _ | with_reducible refine Below.setCell ?_ (by first | (simp; done) | (simp; omega)) _))⟩)
set_option maxRecDepth 100000 in
set_option maxHeartbeats 4000000 in
theorem rget_few (A : Option Addr) (c : Nat) (b : List UInt8) (bl : Int) (w : World) (hr : Rd w w.heap.size A b) (hc : b.length ≤ c) (hl : b.length ≤ 10000000) (hm : ¬ bl < 1) (hm2 : ¬ 4096 < bl) (h16 : b.length < 16) : Calls Try.prog 17 #[.slice A b.length c, .int .i64 bl] w (GetG w (getN b bl) (getD b bl) (getK b bl) (getE b bl)) := by
  have HE : Hid (getE b bl = 14) := getE_part (by unfold partE; rw [if_pos (by rw [mayB_iff]; omega), if_pos h16]) (by decide)
  clear hr
  go_enter Try.func17, Try.ntmps17
  go_upto_region 4 with fail
  have HV0 : Hid (RecAt (w.alloc (.cells #[.int .i64 0, .int .i64 0, .int .i64 0, .int .i64 0, .int .i64 0, .int .i64 0, .int .i64 0, .int .i64 0, .int .i64 0, .slice none 0 0] 24)) w.heap.size (fun _ => 0) (.slice none 0 0) ∧ Below w.heap.size w (w.alloc (.cells #[.int .i64 0, .int .i64 0, .int .i64 0, .int .i64 0, .int .i64 0, .int .i64 0, .int .i64 0, .int .i64 0, .int .i64 0, .slice none 0 0] 24))) := ⟨Box.fresh w 24 _, (Below.refl _ _).alloc (Nat.le_refl _) _⟩
  generalize (w.alloc (.cells #[.int .i64 0, .int .i64 0, .int .i64 0, .int .i64 0, .int .i64 0, .int .i64 0, .int .i64 0, .int .i64 0, .int .i64 0, .slice none 0 0] 24)) = w0 at HV0 ⊢
  obtain ⟨z0, z1, z2, z3, z4, z5, z6, z7, z8, z9⟩ := box10 HV0.out.1
  obtain ⟨f0, f1, f2, f3, f4, f5, f6, f7, f8, f9⟩ := froz10 HV0.out.1
  go_wp2
  exact bodyPost_ret (v := .tuple #[.agg #[.int .i64 0, .int .i64 0, .int .i64 0, .int .i64 0, .int .i64 0, .int .i64 0, .int .i64 0, .int .i64 0, .int .i64 0, .slice none 0 0], .int .i64 0, .int .i64 14]) (by simp [results, Try.results17, go_sem, *]) rfl (getG_err HE.out (by decide) ⟨none, 0, rfl, Rd.nil, Below.trans HV0.out.2 (by repeat (first | with_reducible exact Below.refl _ _ | with_reducible refine Below.drew ?_ | with_reducible refine Below.alloc ?_ (by first | (simp; done) | (simp; omega)) _ | with_reducible refine Below.setCell ?_ (by first | (simp; done) | (simp; omega)) _))⟩)
theorem ref_start (A : Option Addr) (b : List UInt8) (c : Nat) (lo hi : Int) (w : World) (hr : Rd w w.heap.size A b) (hb : b.length ≤ 10000000) (hc : b.length ≤ c) : Calls Try.prog 36 #[.agg #[.slice A b.length c, .int .i64 0, .int .i64 0], .int .i64 lo, .int .i64 hi] w (GotI A b c (rI b 0 lo hi) w) :=
  refReadInt_any A b c 0 0 lo hi w hr (Nat.zero_le _) hb hc
theorem rdr_all {w0 : World} {g : Nat} {t : TypeId} {a b c : Value} (h : Box w0 g t #[a, b, c]) (x y z : Value) : Box (((w0.setCell ⟨g, 0, none⟩ (x)).setCell ⟨g, 1, none⟩ (y)).setCell ⟨g, 2, none⟩ (z)) g t #[x, y, z] := by
  have h9 := ((Box.store h 0 x).store 1 y).store 2 z
  simp only [List.setIfInBounds_toArray, List.set_cons_zero, List.set_cons_succ] at h9
  exact h9
theorem froz3 {w : World} {g : Nat} {t : TypeId} {cs : Array Value} (h : Box w g t cs) : w.frozen? ⟨g, 0, none⟩ = false ∧ w.frozen? ⟨g, 1, none⟩ = false ∧ w.frozen? ⟨g, 2, none⟩ = false := ⟨h.frozen _, h.frozen _, h.frozen _⟩
theorem rec_far3 {w0 : World} {g h : Nat} {n : Nat → Int} {v : Value} (hr : RecAt w0 g n v) (hne : g ≠ h) (x y z : Value) : RecAt (((w0.setCell ⟨h, 0, none⟩ (x)).setCell ⟨h, 1, none⟩ (y)).setCell ⟨h, 2, none⟩ (z)) g n v := box_far3 hr hne x y z
set_option maxRecDepth 100000 in
set_option maxHeartbeats 4000000 in
theorem rget_form (A : Option Addr) (c : Nat) (b : List UInt8) (bl : Int) (w : World) (hr : Rd w w.heap.size A b) (hc : b.length ≤ c) (hl : b.length ≤ 10000000) (hm : ¬ bl < 1) (hm2 : ¬ 4096 < bl) (h16 : ¬ b.length < 16) (hf : num8 b < 0 ∨ 1048656 < num8 b) : Calls Try.prog 17 #[.slice A b.length c, .int .i64 bl] w (GetG w (getN b bl) (getD b bl) (getK b bl) (getE b bl)) := by
  have HE : Hid (getE b bl = 13) := getE_part (by unfold partE; rw [if_pos (by rw [mayB_iff]; omega), if_neg h16, if_pos hf]) (by decide)
  have HI : Hid (rI b 0 0 1048656 = (0, b.drop 8, 13)) := by
    show _ = _
    rw [rI_of 0 1048656 (by omega), if_pos hf]
  clear hf
  go_enter Try.func17, Try.ntmps17
  go_wp2_with fail
  have HV1 : Hid (RecAt ((w.alloc (.cells #[.int .i64 0, .int .i64 0, .int .i64 0, .int .i64 0, .int .i64 0, .int .i64 0, .int .i64 0, .int .i64 0, .int .i64 0, .slice none 0 0] 24)).alloc (.cells #[.slice A b.length c, .int .i64 0, .int .i64 0] 66)) w.heap.size (fun _ => 0) (.slice none 0 0) ∧ Box ((w.alloc (.cells #[.int .i64 0, .int .i64 0, .int .i64 0, .int .i64 0, .int .i64 0, .int .i64 0, .int .i64 0, .int .i64 0, .int .i64 0, .slice none 0 0] 24)).alloc (.cells #[.slice A b.length c, .int .i64 0, .int .i64 0] 66)) (w.heap.size + 1) 66 #[.slice A b.length c, .int .i64 0, .int .i64 0] ∧ Below w.heap.size w ((w.alloc (.cells #[.int .i64 0, .int .i64 0, .int .i64 0, .int .i64 0, .int .i64 0, .int .i64 0, .int .i64 0, .int .i64 0, .int .i64 0, .slice none 0 0] 24)).alloc (.cells #[.slice A b.length c, .int .i64 0, .int .i64 0] 66))) := by
    obtain ⟨h1, h2, h3, _⟩ := two_boxes' w 24 66 #[.int .i64 0, .int .i64 0, .int .i64 0, .int .i64 0, .int .i64 0, .int .i64 0, .int .i64 0, .int .i64 0, .int .i64 0, .slice none 0 0] #[.slice A b.length c, .int .i64 0, .int .i64 0]
    exact ⟨h1, h2, h3⟩
  generalize ((w.alloc (.cells #[.int .i64 0, .int .i64 0, .int .i64 0, .int .i64 0, .int .i64 0, .int .i64 0, .int .i64 0, .int .i64 0, .int .i64 0, .slice none 0 0] 24)).alloc (.cells #[.slice A b.length c, .int .i64 0, .int .i64 0] 66)) = w1 at HV1 ⊢
  have hr1 := (hr.below HV1.out.2.2).more HV1.out.2.2.size
  refine (ref_start A b c 0 1048656 w1 hr1 hl hc).mono ?_
  rintro e w2 ⟨at1, rfl, hle, hdr, hb⟩
  rw [HI.out] at hdr ⊢
  simp only at hdr ⊢
  have HV2 : Hid (RecAt w2 w.heap.size (fun _ => 0) (.slice none 0 0) ∧ Box w2 (w.heap.size + 1) 66 #[.slice A b.length c, .int .i64 0, .int .i64 0] ∧ Below w.heap.size w w2) := ⟨HV1.out.1.later hb, HV1.out.2.1.later hb, HV1.out.2.2.trans (hb.mono HV1.out.2.2.size)⟩
  have HDr := Lib.hid hdr
  clear hb hdr HV1 hr1
  obtain ⟨y0, y1, y2⟩ := box3 HV2.out.2.1
  obtain ⟨k0, k1, k2⟩ := froz3 HV2.out.2.1
  go_upto_region 7 with fail
  have HV3 : Hid (RecAt (((w2.setCell ⟨(w.heap.size + 1), 0, none⟩ (.slice A b.length c)).setCell ⟨(w.heap.size + 1), 1, none⟩ (.int .i64 (at1 : Int))).setCell ⟨(w.heap.size + 1), 2, none⟩ (.int .i64 13)) w.heap.size (fun _ => 0) (.slice none 0 0) ∧ Box (((w2.setCell ⟨(w.heap.size + 1), 0, none⟩ (.slice A b.length c)).setCell ⟨(w.heap.size + 1), 1, none⟩ (.int .i64 (at1 : Int))).setCell ⟨(w.heap.size + 1), 2, none⟩ (.int .i64 13)) (w.heap.size + 1) 66 #[.slice A b.length c, .int .i64 (at1 : Int), .int .i64 13] ∧ Below w.heap.size w (((w2.setCell ⟨(w.heap.size + 1), 0, none⟩ (.slice A b.length c)).setCell ⟨(w.heap.size + 1), 1, none⟩ (.int .i64 (at1 : Int))).setCell ⟨(w.heap.size + 1), 2, none⟩ (.int .i64 13))) := ⟨rec_far3 HV2.out.1 (by omega) _ _ _, rdr_all HV2.out.2.1 _ _ _, below_far3 HV2.out.2.2 (by omega) _ _ _⟩
  generalize (((w2.setCell ⟨(w.heap.size + 1), 0, none⟩ (.slice A b.length c)).setCell ⟨(w.heap.size + 1), 1, none⟩ (.int .i64 (at1 : Int))).setCell ⟨(w.heap.size + 1), 2, none⟩ (.int .i64 13)) = w3 at HV3 ⊢
  clear HV2 y0 y1 y2 k0 k1 k2
  obtain ⟨y0, y1, y2⟩ := box3 HV3.out.2.1
  obtain ⟨k0, k1, k2⟩ := froz3 HV3.out.2.1
  obtain ⟨z0, z1, z2, z3, z4, z5, z6, z7, z8, z9⟩ := box10 HV3.out.1
  obtain ⟨f0, f1, f2, f3, f4, f5, f6, f7, f8, f9⟩ := froz10 HV3.out.1
  go_wp2
  exact bodyPost_ret (v := .tuple #[.agg #[.int .i64 0, .int .i64 0, .int .i64 0, .int .i64 0, .int .i64 0, .int .i64 0, .int .i64 0, .int .i64 0, .int .i64 0, .slice none 0 0], .int .i64 0, .int .i64 13]) (by simp [results, Try.results17, go_sem, *]) rfl (getG_err HE.out (by decide) ⟨none, 0, rfl, Rd.nil, Below.trans HV3.out.2.2 (by repeat (first | with_reducible exact Below.refl _ _ | with_reducible refine Below.drew ?_ | with_reducible refine Below.alloc ?_ (by first | (simp; done) | (simp; omega)) _ | with_reducible refine Below.setCell ?_ (by first | (simp; done) | (simp; omega)) _))⟩)
end Go.Proofs.Ytmebbggmdfejkaa
