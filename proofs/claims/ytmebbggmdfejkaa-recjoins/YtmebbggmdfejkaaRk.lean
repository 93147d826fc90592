/- The contract of Get. -/
import Derived.Test.YtmebbggmdfejkaaRj
import Derived.Deep.DeepCutAuto
import Derived.BigQuiet
namespace Go.Proofs.Ytmebbggmdfejkaa
set_option linter.unusedVariables false
set_option linter.unusedSimpArgs false
open Go.RowKit
open Go.RowKit (wrap64)

theorem setCell_self {w : World} {g i : Nat} {t : TypeId} {cs : Array Value} {u : Value} (h : Box w g t cs) (hi : cs[i]? = some u) : w.setCell ⟨g, i, none⟩ u = w := by
  have h' : w.heap[g]? = some (.cells cs t (0, 0)) := h
  have hcs : cs.setIfInBounds i u = cs := by
    apply Array.ext_getElem?
    intro k
    rw [Array.getElem?_setIfInBounds]
    split
    · rename_i hk; subst hk; rw [hi]; simp [(Array.getElem?_eq_some_iff.1 hi).1]
    · rfl
  unfold World.setCell
  cases w with
  | mk _ _ _ _ =>
    congr 1
    apply Array.ext_getElem?
    intro k
    rw [Array.getElem?_modify]
    split
    · rename_i hk
      subst hk
      rw [h']
      simp [hcs]
    · rfl
theorem self10 {w : World} {g : Nat} {n : Nat → Int} {v : Value} (h : RecAt w g n v) :
    w.setCell ⟨g, 0, none⟩ (Value.int .i64 (n 0)) = w ∧ w.setCell ⟨g, 1, none⟩ (Value.int .i64 (n 1)) = w ∧ w.setCell ⟨g, 2, none⟩ (Value.int .i64 (n 2)) = w ∧ w.setCell ⟨g, 3, none⟩ (Value.int .i64 (n 3)) = w ∧ w.setCell ⟨g, 4, none⟩ (Value.int .i64 (n 4)) = w ∧ w.setCell ⟨g, 5, none⟩ (Value.int .i64 (n 5)) = w ∧ w.setCell ⟨g, 6, none⟩ (Value.int .i64 (n 6)) = w ∧ w.setCell ⟨g, 7, none⟩ (Value.int .i64 (n 7)) = w ∧ w.setCell ⟨g, 8, none⟩ (Value.int .i64 (n 8)) = w ∧ w.setCell ⟨g, 9, none⟩ (v) = w :=
  ⟨setCell_self h rfl, setCell_self h rfl, setCell_self h rfl, setCell_self h rfl, setCell_self h rfl, setCell_self h rfl, setCell_self h rfl, setCell_self h rfl, setCell_self h rfl, setCell_self h rfl⟩
/-- What Get answers. -/
def GetG (w : World) (n : Nat → Int) (d : List UInt8) (k : Nat) (er : Int) (e : Ending) (w' : World) : Prop :=
  ∃ A c, e = .returned (.tuple #[.agg #[.int .i64 (n 0), .int .i64 (n 1), .int .i64 (n 2), .int .i64 (n 3), .int .i64 (n 4), .int .i64 (n 5), .int .i64 (n 6), .int .i64 (n 7), .int .i64 (n 8), .slice A d.length c], .int .i64 (k : Int), .int .i64 er]) ∧ Rd w' w'.heap.size A d ∧ Below w.heap.size w w'
theorem rec_all {w0 : World} {g : Nat} {m : Nat → Int} {u : Value} (h : RecAt w0 g m u) (n : Nat → Int) (v : Value) : RecAt ((((((((((w0.setCell ⟨g, 0, none⟩ (.int .i64 (n 0))).setCell ⟨g, 1, none⟩ (.int .i64 (n 1))).setCell ⟨g, 2, none⟩ (.int .i64 (n 2))).setCell ⟨g, 3, none⟩ (.int .i64 (n 3))).setCell ⟨g, 4, none⟩ (.int .i64 (n 4))).setCell ⟨g, 5, none⟩ (.int .i64 (n 5))).setCell ⟨g, 6, none⟩ (.int .i64 (n 6))).setCell ⟨g, 7, none⟩ (.int .i64 (n 7))).setCell ⟨g, 8, none⟩ (.int .i64 (n 8))).setCell ⟨g, 9, none⟩ (v)) g n v := by
  have h0 := Box.store h 0 (.int .i64 (n 0))
  have h1 := h0.store 1 (.int .i64 (n 1))
  have h2 := h1.store 2 (.int .i64 (n 2))
  have h3 := h2.store 3 (.int .i64 (n 3))
  have h4 := h3.store 4 (.int .i64 (n 4))
  have h5 := h4.store 5 (.int .i64 (n 5))
  have h6 := h5.store 6 (.int .i64 (n 6))
  have h7 := h6.store 7 (.int .i64 (n 7))
  have h8 := h7.store 8 (.int .i64 (n 8))
  have h9 := h8.store 9 v
  simp only [List.setIfInBounds_toArray, List.set_cons_zero, List.set_cons_succ] at h9
  exact h9
theorem rd_all {w0 : World} {g B : Nat} {m : Nat → Int} {u v : Value} {A : Option Addr} {l : List UInt8} (h : Rd w0 B A l) (hr : RecAt w0 g m u) (hu : noByte u = true) (n : Nat → Int) : Rd ((((((((((w0.setCell ⟨g, 0, none⟩ (.int .i64 (n 0))).setCell ⟨g, 1, none⟩ (.int .i64 (n 1))).setCell ⟨g, 2, none⟩ (.int .i64 (n 2))).setCell ⟨g, 3, none⟩ (.int .i64 (n 3))).setCell ⟨g, 4, none⟩ (.int .i64 (n 4))).setCell ⟨g, 5, none⟩ (.int .i64 (n 5))).setCell ⟨g, 6, none⟩ (.int .i64 (n 6))).setCell ⟨g, 7, none⟩ (.int .i64 (n 7))).setCell ⟨g, 8, none⟩ (.int .i64 (n 8))).setCell ⟨g, 9, none⟩ (v)) B A l := fun h0 => by
  have ho := h.apart h0 hr (RecAt.noBytes hu)
  exact (((((((((((h.put ho 0 _).put ho 1 _).put ho 2 _).put ho 3 _).put ho 4 _).put ho 5 _).put ho 6 _).put ho 7 _).put ho 8 _).put ho 9 _)) h0
theorem payO_le (b : List UInt8) : (payO b).length ≤ b.length := by
  unfold payO
  exact Nat.le_trans (List.length_take_le' _ _) (by rw [List.length_drop]; exact Nat.sub_le _ _)
theorem fillO_le (b : List UInt8) (bl : Int) : (fillO b bl).length ≤ b.length := by
  unfold fillO
  exact Nat.le_trans (List.length_take_le' _ _) (by rw [List.length_drop]; exact Nat.sub_le _ _)
set_option maxRecDepth 100000 in
set_option maxHeartbeats 4000000 in
theorem get_err (A : Option Addr) (c : Nat) (b : List UInt8) (bl : Int) (w : World) (hr : Rd w w.heap.size A b) (hc : b.length ≤ c) (hl : b.length ≤ 10000000) (er : Int) (he : partE b bl = er) (he0 : ¬ er = 0) : Calls Try.prog 14 #[.slice A b.length c, .int .i64 bl] w (GetG w (fun _ => 0) [] 0 er) := by
  have HPt : Hid (∀ w', Below w.heap.size w w' → Calls Try.prog 33 #[.slice A b.length c, .int .i64 bl] w' (PartP w' b bl)) := fun w' hb => part_any A c b bl w' ((hr.below hb).more hb.size) hc hl
  clear hr
  go_enter Try.func14, Try.ntmps14
  go_wp2_with fail
  have HV0 : Hid (RecAt (w.alloc (.cells #[.int .i64 0, .int .i64 0, .int .i64 0, .int .i64 0, .int .i64 0, .int .i64 0, .int .i64 0, .int .i64 0, .int .i64 0, .slice none 0 0] 24)) w.heap.size (fun _ => 0) (.slice none 0 0) ∧ Below w.heap.size w (w.alloc (.cells #[.int .i64 0, .int .i64 0, .int .i64 0, .int .i64 0, .int .i64 0, .int .i64 0, .int .i64 0, .int .i64 0, .int .i64 0, .slice none 0 0] 24))) := ⟨Box.fresh w 24 _, (Below.refl _ _).alloc (Nat.le_refl _) _⟩
  generalize (w.alloc (.cells #[.int .i64 0, .int .i64 0, .int .i64 0, .int .i64 0, .int .i64 0, .int .i64 0, .int .i64 0, .int .i64 0, .int .i64 0, .slice none 0 0] 24)) = w0 at HV0 ⊢
  with_reducible refine (HPt.out w0 HV0.out.2).mono ?_
  rintro e w1 h
  obtain ⟨X, cx, Y, cy, rfl, _, _, _, hb⟩ := h.2 (by rw [he]; exact he0)
  have HV1 : Hid (RecAt w1 w.heap.size (fun _ => 0) (.slice none 0 0) ∧ Below w.heap.size w w1) := ⟨HV0.out.1.later hb, HV0.out.2.trans (hb.mono HV0.out.2.size)⟩
  have he2 : (er != 0) = true := by simpa using he0
  rw [he]
  clear h hb HV0 HPt he he0
  obtain ⟨z0, z1, z2, z3, z4, z5, z6, z7, z8, z9⟩ := box10 HV1.out.1
  obtain ⟨f0, f1, f2, f3, f4, f5, f6, f7, f8, f9⟩ := froz10 HV1.out.1
  go_wp2
  exact bodyPost_ret (v := .tuple #[.agg #[.int .i64 0, .int .i64 0, .int .i64 0, .int .i64 0, .int .i64 0, .int .i64 0, .int .i64 0, .int .i64 0, .int .i64 0, .slice none 0 0], .int .i64 0, .int .i64 er]) (by simp [results, Try.results14, go_sem, *]) rfl ⟨none, 0, rfl, Rd.nil, HV1.out.2.trans (by repeat (first | with_reducible exact Below.refl _ _ | with_reducible refine Below.drew ?_ | with_reducible refine Below.alloc ?_ (by first | (simp; done) | (simp; omega)) _ | with_reducible refine Below.setCell ?_ (by first | (simp; done) | (simp; omega)) _))⟩
set_option maxRecDepth 100000 in
set_option maxHeartbeats 4000000 in
theorem get_bad1 (A : Option Addr) (c : Nat) (b : List UInt8) (bl : Int) (w : World) (hr : Rd w w.heap.size A b) (hc : b.length ≤ c) (hl : b.length ≤ 10000000) (hp : partE b bl = 0) (hq : readB (payO b) = false) : Calls Try.prog 14 #[.slice A b.length c, .int .i64 bl] w (GetG w (fun _ => 0) [] 0 13) := by
  have HPt : Hid (∀ w', Below w.heap.size w w' → Calls Try.prog 33 #[.slice A b.length c, .int .i64 bl] w' (PartP w' b bl)) := fun w' hb => part_any A c b bl w' ((hr.below hb).more hb.size) hc hl
  clear hr
  go_enter Try.func14, Try.ntmps14
  go_wp2_with fail
  have HV0 : Hid (RecAt (w.alloc (.cells #[.int .i64 0, .int .i64 0, .int .i64 0, .int .i64 0, .int .i64 0, .int .i64 0, .int .i64 0, .int .i64 0, .int .i64 0, .slice none 0 0] 24)) w.heap.size (fun _ => 0) (.slice none 0 0) ∧ Below w.heap.size w (w.alloc (.cells #[.int .i64 0, .int .i64 0, .int .i64 0, .int .i64 0, .int .i64 0, .int .i64 0, .int .i64 0, .int .i64 0, .int .i64 0, .slice none 0 0] 24))) := ⟨Box.fresh w 24 _, (Below.refl _ _).alloc (Nat.le_refl _) _⟩
  generalize (w.alloc (.cells #[.int .i64 0, .int .i64 0, .int .i64 0, .int .i64 0, .int .i64 0, .int .i64 0, .int .i64 0, .int .i64 0, .int .i64 0, .slice none 0 0] 24)) = w0 at HV0 ⊢
  with_reducible refine (HPt.out w0 HV0.out.2).mono ?_
  rintro e w1 h
  obtain ⟨X, cx, Y, cy, rfl, hX, hY, hcx, hb⟩ := h.1 hp
  have HV1 : Hid (RecAt w1 w.heap.size (fun _ => 0) (.slice none 0 0) ∧ Below w.heap.size w w1 ∧ Rd w1 w1.heap.size X (payO b) ∧ Rd w1 w1.heap.size Y (fillO b bl)) := ⟨HV0.out.1.later hb, HV0.out.2.trans (hb.mono HV0.out.2.size), hX, hY⟩
  have HPL := Lib.hid (payO_le b)
  have HFL := Lib.hid (fillO_le b bl)
  clear h hb HV0 HPt hX hY hcx hp
  generalize payO b = P at hq HV1 HPL ⊢
  generalize fillO b bl = F at HV1 HFL ⊢
  go_wp2_with fail
  refine (read_walk X cx P w1 HV1.out.2.2.1 (Nat.le_trans HPL.out hl)).mono ?_
  rintro e w2 h
  obtain ⟨D, cd, rfl, hD, hb⟩ := h.2 hq
  have HV2 : Hid (RecAt w2 w.heap.size (fun _ => 0) (.slice none 0 0) ∧ Below w.heap.size w w2 ∧ Rd w2 w2.heap.size Y F) := ⟨HV1.out.1.later hb, HV1.out.2.1.trans (hb.mono HV1.out.2.1.size), HV1.out.2.2.2.later hb⟩
  clear h hb HV1 hD hq
  obtain ⟨z0, z1, z2, z3, z4, z5, z6, z7, z8, z9⟩ := box10 HV2.out.1
  obtain ⟨f0, f1, f2, f3, f4, f5, f6, f7, f8, f9⟩ := froz10 HV2.out.1
  go_upto_region 6 with fail
  have HV3 : Hid (RecAt ((((((((((w2.setCell ⟨w.heap.size, 0, none⟩ (.int .i64 0)).setCell ⟨w.heap.size, 1, none⟩ (.int .i64 0)).setCell ⟨w.heap.size, 2, none⟩ (.int .i64 0)).setCell ⟨w.heap.size, 3, none⟩ (.int .i64 0)).setCell ⟨w.heap.size, 4, none⟩ (.int .i64 0)).setCell ⟨w.heap.size, 5, none⟩ (.int .i64 0)).setCell ⟨w.heap.size, 6, none⟩ (.int .i64 0)).setCell ⟨w.heap.size, 7, none⟩ (.int .i64 0)).setCell ⟨w.heap.size, 8, none⟩ (.int .i64 0)).setCell ⟨w.heap.size, 9, none⟩ (.slice D 0 cd)) w.heap.size (fun _ => 0) (.slice D 0 cd) ∧ Below w.heap.size w ((((((((((w2.setCell ⟨w.heap.size, 0, none⟩ (.int .i64 0)).setCell ⟨w.heap.size, 1, none⟩ (.int .i64 0)).setCell ⟨w.heap.size, 2, none⟩ (.int .i64 0)).setCell ⟨w.heap.size, 3, none⟩ (.int .i64 0)).setCell ⟨w.heap.size, 4, none⟩ (.int .i64 0)).setCell ⟨w.heap.size, 5, none⟩ (.int .i64 0)).setCell ⟨w.heap.size, 6, none⟩ (.int .i64 0)).setCell ⟨w.heap.size, 7, none⟩ (.int .i64 0)).setCell ⟨w.heap.size, 8, none⟩ (.int .i64 0)).setCell ⟨w.heap.size, 9, none⟩ (.slice D 0 cd))) := ⟨rec_all HV2.out.1 (fun _ => 0) (.slice D 0 cd), HV2.out.2.1.trans (by repeat (first | with_reducible exact Below.refl _ _ | with_reducible refine Below.drew ?_ | with_reducible refine Below.alloc ?_ (by first | (simp; done) | (simp; omega)) _ | with_reducible refine Below.setCell ?_ (by first | (simp; done) | (simp; omega)) _))⟩
  generalize ((((((((((w2.setCell ⟨w.heap.size, 0, none⟩ (.int .i64 0)).setCell ⟨w.heap.size, 1, none⟩ (.int .i64 0)).setCell ⟨w.heap.size, 2, none⟩ (.int .i64 0)).setCell ⟨w.heap.size, 3, none⟩ (.int .i64 0)).setCell ⟨w.heap.size, 4, none⟩ (.int .i64 0)).setCell ⟨w.heap.size, 5, none⟩ (.int .i64 0)).setCell ⟨w.heap.size, 6, none⟩ (.int .i64 0)).setCell ⟨w.heap.size, 7, none⟩ (.int .i64 0)).setCell ⟨w.heap.size, 8, none⟩ (.int .i64 0)).setCell ⟨w.heap.size, 9, none⟩ (.slice D 0 cd)) = w3 at HV3 ⊢
  clear HV2 z0 z1 z2 z3 z4 z5 z6 z7 z8 z9 f0 f1 f2 f3 f4 f5 f6 f7 f8 f9
  obtain ⟨z0, z1, z2, z3, z4, z5, z6, z7, z8, z9⟩ := box10 HV3.out.1
  obtain ⟨f0, f1, f2, f3, f4, f5, f6, f7, f8, f9⟩ := froz10 HV3.out.1
  go_wp2
  exact bodyPost_ret (v := .tuple #[.agg #[.int .i64 0, .int .i64 0, .int .i64 0, .int .i64 0, .int .i64 0, .int .i64 0, .int .i64 0, .int .i64 0, .int .i64 0, .slice none 0 0], .int .i64 0, .int .i64 13]) (by simp [results, Try.results14, go_sem, *]) rfl ⟨none, 0, rfl, Rd.nil, HV3.out.2.trans (by repeat (first | with_reducible exact Below.refl _ _ | with_reducible refine Below.drew ?_ | with_reducible refine Below.alloc ?_ (by first | (simp; done) | (simp; omega)) _ | with_reducible refine Below.setCell ?_ (by first | (simp; done) | (simp; omega)) _))⟩
set_option maxRecDepth 100000 in
set_option maxHeartbeats 4000000 in
theorem get_bad2 (A : Option Addr) (c : Nat) (b : List UInt8) (bl : Int) (w : World) (hr : Rd w w.heap.size A b) (hc : b.length ≤ c) (hl : b.length ≤ 10000000) (n : Nat → Int) (d : List UInt8) (hp : partE b bl = 0) (hq : readB (payO b) = true) (hn : rV (payO b) = n) (hd : (rY (payO b)).1 = d) (hz : zeroL (fillO b bl) = false) : Calls Try.prog 14 #[.slice A b.length c, .int .i64 bl] w (GetG w (fun _ => 0) [] 0 13) := by
  have HPt : Hid (∀ w', Below w.heap.size w w' → Calls Try.prog 33 #[.slice A b.length c, .int .i64 bl] w' (PartP w' b bl)) := fun w' hb => part_any A c b bl w' ((hr.below hb).more hb.size) hc hl
  clear hr
  go_enter Try.func14, Try.ntmps14
  go_wp2_with fail
  have HV0 : Hid (RecAt (w.alloc (.cells #[.int .i64 0, .int .i64 0, .int .i64 0, .int .i64 0, .int .i64 0, .int .i64 0, .int .i64 0, .int .i64 0, .int .i64 0, .slice none 0 0] 24)) w.heap.size (fun _ => 0) (.slice none 0 0) ∧ Below w.heap.size w (w.alloc (.cells #[.int .i64 0, .int .i64 0, .int .i64 0, .int .i64 0, .int .i64 0, .int .i64 0, .int .i64 0, .int .i64 0, .int .i64 0, .slice none 0 0] 24))) := ⟨Box.fresh w 24 _, (Below.refl _ _).alloc (Nat.le_refl _) _⟩
  generalize (w.alloc (.cells #[.int .i64 0, .int .i64 0, .int .i64 0, .int .i64 0, .int .i64 0, .int .i64 0, .int .i64 0, .int .i64 0, .int .i64 0, .slice none 0 0] 24)) = w0 at HV0 ⊢
  with_reducible refine (HPt.out w0 HV0.out.2).mono ?_
  rintro e w1 h
  obtain ⟨X, cx, Y, cy, rfl, hX, hY, hcx, hb⟩ := h.1 hp
  have HV1 : Hid (RecAt w1 w.heap.size (fun _ => 0) (.slice none 0 0) ∧ Below w.heap.size w w1 ∧ Rd w1 w1.heap.size X (payO b) ∧ Rd w1 w1.heap.size Y (fillO b bl)) := ⟨HV0.out.1.later hb, HV0.out.2.trans (hb.mono HV0.out.2.size), hX, hY⟩
  have HPL := Lib.hid (payO_le b)
  have HFL := Lib.hid (fillO_le b bl)
  clear h hb HV0 HPt hX hY hcx hp
  generalize payO b = P at hq hn hd HV1 HPL ⊢
  generalize fillO b bl = F at hz HV1 HFL ⊢
  go_wp2_with fail
  refine (read_walk X cx P w1 HV1.out.2.2.1 (Nat.le_trans HPL.out hl)).mono ?_
  rintro e w2 h
  obtain ⟨D, cd, rfl, hD, hb⟩ := h.1 hq
  rw [hd] at hD
  rw [hn, hd]
  have HV2 : Hid (RecAt w2 w.heap.size (fun _ => 0) (.slice none 0 0) ∧ Below w.heap.size w w2 ∧ Rd w2 w2.heap.size Y F) := ⟨HV1.out.1.later hb, HV1.out.2.1.trans (hb.mono HV1.out.2.1.size), HV1.out.2.2.2.later hb⟩
  have HD2 := Lib.hid hD
  clear h hb HV1 hD hq hn hd
  obtain ⟨z0, z1, z2, z3, z4, z5, z6, z7, z8, z9⟩ := box10 HV2.out.1
  obtain ⟨f0, f1, f2, f3, f4, f5, f6, f7, f8, f9⟩ := froz10 HV2.out.1
  go_upto_region 5 with fail
  have HV3 : Hid (RecAt ((((((((((w2.setCell ⟨w.heap.size, 0, none⟩ (.int .i64 (n 0))).setCell ⟨w.heap.size, 1, none⟩ (.int .i64 (n 1))).setCell ⟨w.heap.size, 2, none⟩ (.int .i64 (n 2))).setCell ⟨w.heap.size, 3, none⟩ (.int .i64 (n 3))).setCell ⟨w.heap.size, 4, none⟩ (.int .i64 (n 4))).setCell ⟨w.heap.size, 5, none⟩ (.int .i64 (n 5))).setCell ⟨w.heap.size, 6, none⟩ (.int .i64 (n 6))).setCell ⟨w.heap.size, 7, none⟩ (.int .i64 (n 7))).setCell ⟨w.heap.size, 8, none⟩ (.int .i64 (n 8))).setCell ⟨w.heap.size, 9, none⟩ (.slice D d.length cd)) w.heap.size n (.slice D d.length cd) ∧ Below w.heap.size w ((((((((((w2.setCell ⟨w.heap.size, 0, none⟩ (.int .i64 (n 0))).setCell ⟨w.heap.size, 1, none⟩ (.int .i64 (n 1))).setCell ⟨w.heap.size, 2, none⟩ (.int .i64 (n 2))).setCell ⟨w.heap.size, 3, none⟩ (.int .i64 (n 3))).setCell ⟨w.heap.size, 4, none⟩ (.int .i64 (n 4))).setCell ⟨w.heap.size, 5, none⟩ (.int .i64 (n 5))).setCell ⟨w.heap.size, 6, none⟩ (.int .i64 (n 6))).setCell ⟨w.heap.size, 7, none⟩ (.int .i64 (n 7))).setCell ⟨w.heap.size, 8, none⟩ (.int .i64 (n 8))).setCell ⟨w.heap.size, 9, none⟩ (.slice D d.length cd)) ∧ Rd ((((((((((w2.setCell ⟨w.heap.size, 0, none⟩ (.int .i64 (n 0))).setCell ⟨w.heap.size, 1, none⟩ (.int .i64 (n 1))).setCell ⟨w.heap.size, 2, none⟩ (.int .i64 (n 2))).setCell ⟨w.heap.size, 3, none⟩ (.int .i64 (n 3))).setCell ⟨w.heap.size, 4, none⟩ (.int .i64 (n 4))).setCell ⟨w.heap.size, 5, none⟩ (.int .i64 (n 5))).setCell ⟨w.heap.size, 6, none⟩ (.int .i64 (n 6))).setCell ⟨w.heap.size, 7, none⟩ (.int .i64 (n 7))).setCell ⟨w.heap.size, 8, none⟩ (.int .i64 (n 8))).setCell ⟨w.heap.size, 9, none⟩ (.slice D d.length cd)) w2.heap.size Y F ∧ Rd ((((((((((w2.setCell ⟨w.heap.size, 0, none⟩ (.int .i64 (n 0))).setCell ⟨w.heap.size, 1, none⟩ (.int .i64 (n 1))).setCell ⟨w.heap.size, 2, none⟩ (.int .i64 (n 2))).setCell ⟨w.heap.size, 3, none⟩ (.int .i64 (n 3))).setCell ⟨w.heap.size, 4, none⟩ (.int .i64 (n 4))).setCell ⟨w.heap.size, 5, none⟩ (.int .i64 (n 5))).setCell ⟨w.heap.size, 6, none⟩ (.int .i64 (n 6))).setCell ⟨w.heap.size, 7, none⟩ (.int .i64 (n 7))).setCell ⟨w.heap.size, 8, none⟩ (.int .i64 (n 8))).setCell ⟨w.heap.size, 9, none⟩ (.slice D d.length cd)) w2.heap.size D d ∧ ((((((((((w2.setCell ⟨w.heap.size, 0, none⟩ (.int .i64 (n 0))).setCell ⟨w.heap.size, 1, none⟩ (.int .i64 (n 1))).setCell ⟨w.heap.size, 2, none⟩ (.int .i64 (n 2))).setCell ⟨w.heap.size, 3, none⟩ (.int .i64 (n 3))).setCell ⟨w.heap.size, 4, none⟩ (.int .i64 (n 4))).setCell ⟨w.heap.size, 5, none⟩ (.int .i64 (n 5))).setCell ⟨w.heap.size, 6, none⟩ (.int .i64 (n 6))).setCell ⟨w.heap.size, 7, none⟩ (.int .i64 (n 7))).setCell ⟨w.heap.size, 8, none⟩ (.int .i64 (n 8))).setCell ⟨w.heap.size, 9, none⟩ (.slice D d.length cd)).heap.size = w2.heap.size) := ⟨rec_all HV2.out.1 n (.slice D d.length cd), HV2.out.2.1.trans (by repeat (first | with_reducible exact Below.refl _ _ | with_reducible refine Below.drew ?_ | with_reducible refine Below.alloc ?_ (by first | (simp; done) | (simp; omega)) _ | with_reducible refine Below.setCell ?_ (by first | (simp; done) | (simp; omega)) _)), rd_all HV2.out.2.2 HV2.out.1 rfl n, rd_all HD2.out HV2.out.1 rfl n, by simp⟩
  generalize ((((((((((w2.setCell ⟨w.heap.size, 0, none⟩ (.int .i64 (n 0))).setCell ⟨w.heap.size, 1, none⟩ (.int .i64 (n 1))).setCell ⟨w.heap.size, 2, none⟩ (.int .i64 (n 2))).setCell ⟨w.heap.size, 3, none⟩ (.int .i64 (n 3))).setCell ⟨w.heap.size, 4, none⟩ (.int .i64 (n 4))).setCell ⟨w.heap.size, 5, none⟩ (.int .i64 (n 5))).setCell ⟨w.heap.size, 6, none⟩ (.int .i64 (n 6))).setCell ⟨w.heap.size, 7, none⟩ (.int .i64 (n 7))).setCell ⟨w.heap.size, 8, none⟩ (.int .i64 (n 8))).setCell ⟨w.heap.size, 9, none⟩ (.slice D d.length cd)) = w3 at HV3 ⊢
  clear HV2 HD2 z0 z1 z2 z3 z4 z5 z6 z7 z8 z9 f0 f1 f2 f3 f4 f5 f6 f7 f8 f9
  go_wp2_with fail
  refine (zero_any Y cy _ F w3 HV3.out.2.2.1 (Nat.le_trans HFL.out hl)).mono ?_
  rintro e w' ⟨rfl, rfl⟩
  rw [hz]
  have HV4 : Hid (RecAt w3 w.heap.size n (.slice D d.length cd) ∧ Below w.heap.size w w3) := ⟨HV3.out.1, HV3.out.2.1⟩
  clear HV3 hz
  obtain ⟨z0, z1, z2, z3, z4, z5, z6, z7, z8, z9⟩ := box10 HV4.out.1
  obtain ⟨f0, f1, f2, f3, f4, f5, f6, f7, f8, f9⟩ := froz10 HV4.out.1
  go_wp2
  exact bodyPost_ret (v := .tuple #[.agg #[.int .i64 0, .int .i64 0, .int .i64 0, .int .i64 0, .int .i64 0, .int .i64 0, .int .i64 0, .int .i64 0, .int .i64 0, .slice none 0 0], .int .i64 0, .int .i64 13]) (by simp [results, Try.results14, go_sem, *]) rfl ⟨none, 0, rfl, Rd.nil, HV4.out.2.trans (by repeat (first | with_reducible exact Below.refl _ _ | with_reducible refine Below.drew ?_ | with_reducible refine Below.alloc ?_ (by first | (simp; done) | (simp; omega)) _ | with_reducible refine Below.setCell ?_ (by first | (simp; done) | (simp; omega)) _))⟩
set_option maxRecDepth 100000 in
set_option maxHeartbeats 4000000 in
theorem get_ok (A : Option Addr) (c : Nat) (b : List UInt8) (m : Nat) (w : World) (hr : Rd w w.heap.size A b) (hc : b.length ≤ c) (hl : b.length ≤ 10000000) (n : Nat → Int) (d : List UInt8) (hp : partE b (m : Int) = 0) (hq : readB (payO b) = true) (hn : rV (payO b) = n) (hd : (rY (payO b)).1 = d) (hz : zeroL (fillO b (m : Int)) = true) (hm1 : 1 ≤ m) (hm2 : m ≤ 4096) (hP : (payO b).length ≤ 1048656) : Calls Try.prog 14 #[.slice A b.length c, .int .i64 (m : Int)] w (GetG w n d (spanN (payO b).length m) 0) := by
  obtain ⟨kk, hK⟩ : ∃ kk, spanN (payO b).length m = kk := ⟨_, rfl⟩
  rw [hK]
  have HK := Lib.hid hK
  clear hK
  have HPt : Hid (∀ w', Below w.heap.size w w' → Calls Try.prog 33 #[.slice A b.length c, .int .i64 (m : Int)] w' (PartP w' b (m : Int))) := fun w' hb => part_any A c b (m : Int) w' ((hr.below hb).more hb.size) hc hl
  clear hr
  go_enter Try.func14, Try.ntmps14
  go_wp2_with fail
  have HV0 : Hid (RecAt (w.alloc (.cells #[.int .i64 0, .int .i64 0, .int .i64 0, .int .i64 0, .int .i64 0, .int .i64 0, .int .i64 0, .int .i64 0, .int .i64 0, .slice none 0 0] 24)) w.heap.size (fun _ => 0) (.slice none 0 0) ∧ Below w.heap.size w (w.alloc (.cells #[.int .i64 0, .int .i64 0, .int .i64 0, .int .i64 0, .int .i64 0, .int .i64 0, .int .i64 0, .int .i64 0, .int .i64 0, .slice none 0 0] 24))) := ⟨Box.fresh w 24 _, (Below.refl _ _).alloc (Nat.le_refl _) _⟩
  generalize (w.alloc (.cells #[.int .i64 0, .int .i64 0, .int .i64 0, .int .i64 0, .int .i64 0, .int .i64 0, .int .i64 0, .int .i64 0, .int .i64 0, .slice none 0 0] 24)) = w0 at HV0 ⊢
  with_reducible refine (HPt.out w0 HV0.out.2).mono ?_
  rintro e w1 h
  obtain ⟨X, cx, Y, cy, rfl, hX, hY, hcx, hb⟩ := h.1 hp
  have HV1 : Hid (RecAt w1 w.heap.size (fun _ => 0) (.slice none 0 0) ∧ Below w.heap.size w w1 ∧ Rd w1 w1.heap.size X (payO b) ∧ Rd w1 w1.heap.size Y (fillO b (m : Int))) := ⟨HV0.out.1.later hb, HV0.out.2.trans (hb.mono HV0.out.2.size), hX, hY⟩
  have HPL := Lib.hid (payO_le b)
  have HFL := Lib.hid (fillO_le b (m : Int))
  clear h hb HV0 HPt hX hY hcx hp
  generalize payO b = P at hq hn hd hP HK HV1 HPL ⊢
  generalize fillO b (m : Int) = F at hz HV1 HFL ⊢
  go_wp2_with fail
  refine (read_walk X cx P w1 HV1.out.2.2.1 (Nat.le_trans HPL.out hl)).mono ?_
  rintro e w2 h
  obtain ⟨D, cd, rfl, hD, hb⟩ := h.1 hq
  rw [hd] at hD
  rw [hn, hd]
  have HV2 : Hid (RecAt w2 w.heap.size (fun _ => 0) (.slice none 0 0) ∧ Below w.heap.size w w2 ∧ Rd w2 w2.heap.size Y F) := ⟨HV1.out.1.later hb, HV1.out.2.1.trans (hb.mono HV1.out.2.1.size), HV1.out.2.2.2.later hb⟩
  have HD2 := Lib.hid hD
  clear h hb HV1 hD hq hn hd
  obtain ⟨z0, z1, z2, z3, z4, z5, z6, z7, z8, z9⟩ := box10 HV2.out.1
  obtain ⟨f0, f1, f2, f3, f4, f5, f6, f7, f8, f9⟩ := froz10 HV2.out.1
  go_upto_region 5 with fail
  have HV3 : Hid (RecAt ((((((((((w2.setCell ⟨w.heap.size, 0, none⟩ (.int .i64 (n 0))).setCell ⟨w.heap.size, 1, none⟩ (.int .i64 (n 1))).setCell ⟨w.heap.size, 2, none⟩ (.int .i64 (n 2))).setCell ⟨w.heap.size, 3, none⟩ (.int .i64 (n 3))).setCell ⟨w.heap.size, 4, none⟩ (.int .i64 (n 4))).setCell ⟨w.heap.size, 5, none⟩ (.int .i64 (n 5))).setCell ⟨w.heap.size, 6, none⟩ (.int .i64 (n 6))).setCell ⟨w.heap.size, 7, none⟩ (.int .i64 (n 7))).setCell ⟨w.heap.size, 8, none⟩ (.int .i64 (n 8))).setCell ⟨w.heap.size, 9, none⟩ (.slice D d.length cd)) w.heap.size n (.slice D d.length cd) ∧ Below w.heap.size w ((((((((((w2.setCell ⟨w.heap.size, 0, none⟩ (.int .i64 (n 0))).setCell ⟨w.heap.size, 1, none⟩ (.int .i64 (n 1))).setCell ⟨w.heap.size, 2, none⟩ (.int .i64 (n 2))).setCell ⟨w.heap.size, 3, none⟩ (.int .i64 (n 3))).setCell ⟨w.heap.size, 4, none⟩ (.int .i64 (n 4))).setCell ⟨w.heap.size, 5, none⟩ (.int .i64 (n 5))).setCell ⟨w.heap.size, 6, none⟩ (.int .i64 (n 6))).setCell ⟨w.heap.size, 7, none⟩ (.int .i64 (n 7))).setCell ⟨w.heap.size, 8, none⟩ (.int .i64 (n 8))).setCell ⟨w.heap.size, 9, none⟩ (.slice D d.length cd)) ∧ Rd ((((((((((w2.setCell ⟨w.heap.size, 0, none⟩ (.int .i64 (n 0))).setCell ⟨w.heap.size, 1, none⟩ (.int .i64 (n 1))).setCell ⟨w.heap.size, 2, none⟩ (.int .i64 (n 2))).setCell ⟨w.heap.size, 3, none⟩ (.int .i64 (n 3))).setCell ⟨w.heap.size, 4, none⟩ (.int .i64 (n 4))).setCell ⟨w.heap.size, 5, none⟩ (.int .i64 (n 5))).setCell ⟨w.heap.size, 6, none⟩ (.int .i64 (n 6))).setCell ⟨w.heap.size, 7, none⟩ (.int .i64 (n 7))).setCell ⟨w.heap.size, 8, none⟩ (.int .i64 (n 8))).setCell ⟨w.heap.size, 9, none⟩ (.slice D d.length cd)) w2.heap.size Y F ∧ Rd ((((((((((w2.setCell ⟨w.heap.size, 0, none⟩ (.int .i64 (n 0))).setCell ⟨w.heap.size, 1, none⟩ (.int .i64 (n 1))).setCell ⟨w.heap.size, 2, none⟩ (.int .i64 (n 2))).setCell ⟨w.heap.size, 3, none⟩ (.int .i64 (n 3))).setCell ⟨w.heap.size, 4, none⟩ (.int .i64 (n 4))).setCell ⟨w.heap.size, 5, none⟩ (.int .i64 (n 5))).setCell ⟨w.heap.size, 6, none⟩ (.int .i64 (n 6))).setCell ⟨w.heap.size, 7, none⟩ (.int .i64 (n 7))).setCell ⟨w.heap.size, 8, none⟩ (.int .i64 (n 8))).setCell ⟨w.heap.size, 9, none⟩ (.slice D d.length cd)) w2.heap.size D d ∧ ((((((((((w2.setCell ⟨w.heap.size, 0, none⟩ (.int .i64 (n 0))).setCell ⟨w.heap.size, 1, none⟩ (.int .i64 (n 1))).setCell ⟨w.heap.size, 2, none⟩ (.int .i64 (n 2))).setCell ⟨w.heap.size, 3, none⟩ (.int .i64 (n 3))).setCell ⟨w.heap.size, 4, none⟩ (.int .i64 (n 4))).setCell ⟨w.heap.size, 5, none⟩ (.int .i64 (n 5))).setCell ⟨w.heap.size, 6, none⟩ (.int .i64 (n 6))).setCell ⟨w.heap.size, 7, none⟩ (.int .i64 (n 7))).setCell ⟨w.heap.size, 8, none⟩ (.int .i64 (n 8))).setCell ⟨w.heap.size, 9, none⟩ (.slice D d.length cd)).heap.size = w2.heap.size) := ⟨rec_all HV2.out.1 n (.slice D d.length cd), HV2.out.2.1.trans (by repeat (first | with_reducible exact Below.refl _ _ | with_reducible refine Below.drew ?_ | with_reducible refine Below.alloc ?_ (by first | (simp; done) | (simp; omega)) _ | with_reducible refine Below.setCell ?_ (by first | (simp; done) | (simp; omega)) _)), rd_all HV2.out.2.2 HV2.out.1 rfl n, rd_all HD2.out HV2.out.1 rfl n, by simp⟩
  generalize ((((((((((w2.setCell ⟨w.heap.size, 0, none⟩ (.int .i64 (n 0))).setCell ⟨w.heap.size, 1, none⟩ (.int .i64 (n 1))).setCell ⟨w.heap.size, 2, none⟩ (.int .i64 (n 2))).setCell ⟨w.heap.size, 3, none⟩ (.int .i64 (n 3))).setCell ⟨w.heap.size, 4, none⟩ (.int .i64 (n 4))).setCell ⟨w.heap.size, 5, none⟩ (.int .i64 (n 5))).setCell ⟨w.heap.size, 6, none⟩ (.int .i64 (n 6))).setCell ⟨w.heap.size, 7, none⟩ (.int .i64 (n 7))).setCell ⟨w.heap.size, 8, none⟩ (.int .i64 (n 8))).setCell ⟨w.heap.size, 9, none⟩ (.slice D d.length cd)) = w3 at HV3 ⊢
  clear HV2 HD2 z0 z1 z2 z3 z4 z5 z6 z7 z8 z9 f0 f1 f2 f3 f4 f5 f6 f7 f8 f9
  go_wp2_with fail
  refine (zero_any Y cy _ F w3 HV3.out.2.2.1 (Nat.le_trans HFL.out hl)).mono ?_
  rintro e w' ⟨rfl, rfl⟩
  rw [hz]
  have HPm := Lib.hid hP
  clear hP hz
  go_upto_region 7 with fail
  refine wpG_start [] (by kernel_rfl) ?_
  have HV4 : Hid (RecAt w3.drew w.heap.size n (.slice D d.length cd) ∧ Below w.heap.size w w3.drew ∧ Rd w3.drew w3.drew.heap.size D d) := ⟨HV3.out.1, HV3.out.2.1.drew, HV3.out.2.2.2.1.more (Nat.le_of_eq HV3.out.2.2.2.2.symm)⟩
  generalize w3.drew = w4 at HV4 ⊢
  clear HV3
  have q0 : ∀ w', Turn [] w4 w' → w'.cell? ⟨w.heap.size, 0, none⟩ = some (.int .i64 (n 0)) := fun w' h => (box10 (Box.turn HV4.out.1 h (by simp))).1
  have q1 : ∀ w', Turn [] w4 w' → w'.cell? ⟨w.heap.size, 1, none⟩ = some (.int .i64 (n 1)) := fun w' h => (box10 (Box.turn HV4.out.1 h (by simp))).2.1
  have q2 : ∀ w', Turn [] w4 w' → w'.cell? ⟨w.heap.size, 2, none⟩ = some (.int .i64 (n 2)) := fun w' h => (box10 (Box.turn HV4.out.1 h (by simp))).2.2.1
  have q3 : ∀ w', Turn [] w4 w' → w'.cell? ⟨w.heap.size, 3, none⟩ = some (.int .i64 (n 3)) := fun w' h => (box10 (Box.turn HV4.out.1 h (by simp))).2.2.2.1
  have q4 : ∀ w', Turn [] w4 w' → w'.cell? ⟨w.heap.size, 4, none⟩ = some (.int .i64 (n 4)) := fun w' h => (box10 (Box.turn HV4.out.1 h (by simp))).2.2.2.2.1
  have q5 : ∀ w', Turn [] w4 w' → w'.cell? ⟨w.heap.size, 5, none⟩ = some (.int .i64 (n 5)) := fun w' h => (box10 (Box.turn HV4.out.1 h (by simp))).2.2.2.2.2.1
  have q6 : ∀ w', Turn [] w4 w' → w'.cell? ⟨w.heap.size, 6, none⟩ = some (.int .i64 (n 6)) := fun w' h => (box10 (Box.turn HV4.out.1 h (by simp))).2.2.2.2.2.2.1
  have q7 : ∀ w', Turn [] w4 w' → w'.cell? ⟨w.heap.size, 7, none⟩ = some (.int .i64 (n 7)) := fun w' h => (box10 (Box.turn HV4.out.1 h (by simp))).2.2.2.2.2.2.2.1
  have q8 : ∀ w', Turn [] w4 w' → w'.cell? ⟨w.heap.size, 8, none⟩ = some (.int .i64 (n 8)) := fun w' h => (box10 (Box.turn HV4.out.1 h (by simp))).2.2.2.2.2.2.2.2.1
  have q9 : ∀ w', Turn [] w4 w' → w'.cell? ⟨w.heap.size, 9, none⟩ = some (.slice D d.length cd) := fun w' h => (box10 (Box.turn HV4.out.1 h (by simp))).2.2.2.2.2.2.2.2.2
  refine wpG_take (i := 0) (d := 34) (v := ?v7x0) rfl rfl (by kernel_rfl) (by kernel_rfl) (by kernel_rfl) (fun _ _ _ h => h) (by rfl) ?y7x0 ?r7x0
  case y7x0 => (intro w' hSw; go_simp; try (with_reducible rfl))
  simp only [Act.put, List.setIfInBounds_toArray, List.set_cons_zero, List.set_cons_succ]
  refine wpG_take (i := 1) (d := 35) (v := ?v7x1) rfl rfl (by kernel_rfl) (by kernel_rfl) (by kernel_rfl) (fun _ _ _ h => h) (by rfl) ?y7x1 ?r7x1
  case y7x1 => (intro w' hSw; go_simp; try (with_reducible rfl))
  simp only [Act.put, List.setIfInBounds_toArray, List.set_cons_zero, List.set_cons_succ]
  refine wpG_take (i := 2) (d := 36) (v := ?v7x2) rfl rfl (by kernel_rfl) (by kernel_rfl) (by kernel_rfl) (fun _ _ _ h => h) (by rfl) ?y7x2 ?r7x2
  case y7x2 => (intro w' hSw; go_simp; try (with_reducible rfl))
  simp only [Act.put, List.setIfInBounds_toArray, List.set_cons_zero, List.set_cons_succ]
  refine wpG_take (i := 3) (d := 37) (v := ?v7x3) rfl rfl (by kernel_rfl) (by kernel_rfl) (by kernel_rfl) (fun _ _ _ h => h) (by rfl) ?y7x3 ?r7x3
  case y7x3 => (intro w' hSw; go_simp; try (with_reducible rfl))
  simp only [Act.put, List.setIfInBounds_toArray, List.set_cons_zero, List.set_cons_succ]
  refine wpG_do (i := 4) (by kernel_rfl) rfl (by rfl) (fun K hK => ?_)
  go_simp
  refine (span_any P.length m w4 (Nat.le_trans HPm.out (by omega)) hm1 hm2).mono ?_
  rintro e w' ⟨rfl, rfl⟩
  rw [HK.out]
  go_simp
  refine hK.out _ _ (Turn.refl _ _) ?_
  clear hK
  obtain ⟨s0, s1, s2, s3, s4, s5, s6, s7, s8, s9⟩ := self10 HV4.out.1
  obtain ⟨z0, z1, z2, z3, z4, z5, z6, z7, z8, z9⟩ := box10 HV4.out.1
  obtain ⟨f0, f1, f2, f3, f4, f5, f6, f7, f8, f9⟩ := froz10 HV4.out.1
  clear q0 q1 q2 q3 q4 q5 q6 q7 q8 q9
  refine wpG_do (i := 5) (by kernel_rfl) rfl (by rfl) (fun K hK => ?_)
  go_simp
  refine hK.out _ _ (Turn.refl _ _) ?_
  clear hK
  refine wpG_take (i := 6) (d := 5) (v := ?v7x6) rfl rfl (by kernel_rfl) (by kernel_rfl) (by kernel_rfl) (fun _ _ _ h => h) (by rfl) ?y7x6 ?r7x6
  case y7x6 => (intro w' hSw; go_simp; try (with_reducible rfl))
  simp only [Act.put, List.setIfInBounds_toArray, List.set_cons_zero, List.set_cons_succ]
  refine wpG_take (i := 7) (d := 6) (v := ?v7x7) rfl rfl (by kernel_rfl) (by kernel_rfl) (by kernel_rfl) (fun _ _ _ h => h) (by rfl) ?y7x7 ?r7x7
  case y7x7 => (intro w' hSw; go_simp; try (with_reducible rfl))
  simp only [Act.put, List.setIfInBounds_toArray, List.set_cons_zero, List.set_cons_succ]
  refine wpG_done (by kernel_rfl) ?_
  clear s0 s1 s2 s3 s4 s5 s6 s7 s8 s9 f0 f1 f2 f3 f4 f5 f6 f7 f8 f9
  go_wp2
  exact bodyPost_ret (v := .tuple #[.agg #[.int .i64 (n 0), .int .i64 (n 1), .int .i64 (n 2), .int .i64 (n 3), .int .i64 (n 4), .int .i64 (n 5), .int .i64 (n 6), .int .i64 (n 7), .int .i64 (n 8), .slice D d.length cd], .int .i64 (kk : Int), .int .i64 0]) (by simp [results, Try.results14, go_sem, *]) rfl ⟨D, cd, rfl, HV4.out.2.2, HV4.out.2.1⟩
theorem getG_err {w : World} {b : List UInt8} {bl er : Int} (he : getE b bl = er) (h0 : ¬ er = 0) {e : Ending} {w' : World} (h : GetG w (fun _ => 0) [] 0 er e w') : GetG w (getN b bl) (getD b bl) (getK b bl) (getE b bl) e w' := by
  have h1 : ¬ getE b bl = 0 := by rw [he]; exact h0
  unfold getN getD getK
  rw [if_neg h1, if_neg h1, if_neg h1, he]
  exact h
theorem payO_len {b : List UInt8} {bl : Int} (h : partE b bl = 0) : (payO b).length = (num8 b).toNat ∧ (num8 b).toNat ≤ 1048656 ∧ 1 ≤ bl ∧ bl ≤ 4096 := by
  unfold partE at h
  split at h
  · rename_i hm
    have hb := mayB_iff.1 hm
    split at h
    · exact absurd h (by decide)
    · split at h
      · exact absurd h (by decide)
      · split at h
        · exact absurd h (by decide)
        · rename_i h16 hf hx
          have hg := span_ge (num8 b).toNat bl.toNat (by omega)
          generalize spanN (num8 b).toNat bl.toNat * bl.toNat = E at hg hx
          refine ⟨?_, by omega, hb⟩
          unfold payO
          rw [List.length_take, List.length_drop]
          omega
  · exact absurd h (by decide)
theorem get_any (A : Option Addr) (c : Nat) (b : List UInt8) (bl : Int) (w : World) (hr : Rd w w.heap.size A b) (hc : b.length ≤ c) (hl : b.length ≤ 10000000) : Calls Try.prog 14 #[.slice A b.length c, .int .i64 bl] w (GetG w (getN b bl) (getD b bl) (getK b bl) (getE b bl)) := by
  by_cases hp : partE b bl = 0
  · obtain ⟨hl1, hl2, hb1, hb2⟩ := payO_len hp
    cases hq : readB (payO b)
    · have e : getE b bl = 13 := by unfold getE; rw [if_pos hp, hq, Bool.false_and]; rfl
      exact (get_bad1 A c b bl w hr hc hl hp hq).mono fun ee w' h => getG_err e (by decide) h
    · cases hz : zeroL (fillO b bl)
      · have e : getE b bl = 13 := by unfold getE; rw [if_pos hp, hz, Bool.and_false]; rfl
        exact (get_bad2 A c b bl w hr hc hl _ _ hp hq rfl rfl hz).mono fun ee w' h => getG_err e (by decide) h
      · have e : getE b bl = 0 := by unfold getE; rw [if_pos hp, hq, hz]; rfl
        have e1 : bl = (bl.toNat : Int) := by omega
        have h := get_ok A c b bl.toNat w hr hc hl (rV (payO b)) (rY (payO b)).1 (by rw [← e1]; exact hp) hq rfl rfl (by rw [← e1]; exact hz) (by omega) (by omega) (by omega)
        rw [← e1, hl1] at h
        unfold getN getD getK
        rw [if_pos e, if_pos e, if_pos e, e]
        exact h
  · have e : getE b bl = partE b bl := by unfold getE; rw [if_neg hp]
    exact (get_err A c b bl w hr hc hl _ rfl hp).mono fun ee w' h => getG_err e hp h
end Go.Proofs.Ytmebbggmdfejkaa
