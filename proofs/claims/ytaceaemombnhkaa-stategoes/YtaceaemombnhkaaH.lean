/- Contracts of Data, Stripes, Slots, Room, Row, Size, All. -/
import Derived.Test.YtaceaemombnhkaaG
namespace Go.Proofs.Ytaceaemombnhkaa
set_option linter.unusedVariables false
set_option maxRecDepth 100000
set_option linter.unusedSimpArgs false
open Go.RowKit
open Go.RowKit (wrap64)

theorem wrap_in {n : Int} (h1 : -9223372036854775808 ≤ n) (h2 : n ≤ 9223372036854775807) : wrap64 n = n := by unfold wrap64; omega
theorem wrapk_in {n : Int} (h1 : -9223372036854775808 ≤ n) (h2 : n ≤ 9223372036854775807) : IntKind.i64.wrap n = n := by refine IntWalk.i64_in _ ?_; omega
theorem mul_in {a b A B : Int} (ha : 0 ≤ a) (hA : a ≤ A) (hb : 0 ≤ b) (hB : b ≤ B) : 0 ≤ a * b ∧ a * b ≤ A * B :=
  ⟨Int.mul_nonneg ha hb, Int.mul_le_mul hA hB hb (Int.le_trans ha hA)⟩
theorem ret_i64 {n m : Int} (h : n = m) : Ending.returned (.int .i64 n) = .returned (.int .i64 m) := by rw [h]
theorem div_in {a b : Int} (ha : 0 ≤ a) (hb : 1 ≤ b) : 0 ≤ a / b ∧ a / b ≤ a := by
  refine ⟨Int.ediv_nonneg ha (by omega), ?_⟩
  exact Int.ediv_le_self _ ha
/-- How large the numbers of a checkpoint's room are. -/
theorem room_in {c : Cf} (hs : c.sane = true) : (0 ≤ (c.z + 1) * c.u ∧ (c.z + 1) * c.u ≤ 1099512676352) ∧ (0 ≤ (c.z + 1) * c.u * c.b ∧ (c.z + 1) * c.u * c.b ≤ 1152922604118474752) := by
  obtain ⟨hm, hu, hb, hcp, hz, _⟩ := (sane_iff c).1 hs
  have h1 := mul_in (a := c.z + 1) (b := c.u) (A := 1048577) (B := 1048576) (by omega) (by omega) (by omega) (by omega)
  have h2 := mul_in (a := (c.z + 1) * c.u) (b := c.b) (A := 1099512676352) (B := 1048576) h1.1 (by omega) (by omega) (by omega)
  exact ⟨⟨h1.1, by omega⟩, h2.1, by omega⟩
theorem room_wraps {c : Cf} (hs : c.sane = true) : wrap64 (wrap64 ((wrap64 (wrap64 (wrap64 (320 + 8 * c.m + 48 * c.z + wrap64 (wrap64 ((c.z + 1) * c.u) * c.b)) + c.b) - 1)).tdiv c.b) + 2) = (320 + 8 * c.m + 48 * c.z + (c.z + 1) * c.u * c.b + c.b - 1) / c.b + 2 := by
  have h := room_in hs
  obtain ⟨hm, hu, hb, hcp, hz, _⟩ := (sane_iff c).1 hs
  rw [wrap_in (n := (c.z + 1) * c.u) (by omega) (by omega), wrap_in (n := (c.z + 1) * c.u * c.b) (by omega) (by omega)]
  obtain ⟨_, h3, h4⟩ := h
  generalize (c.z + 1) * c.u * c.b = X at h3 h4 ⊢
  rw [wrap_in (n := 320 + 8 * c.m + 48 * c.z + X) (by omega) (by omega), wrap_in (n := 320 + 8 * c.m + 48 * c.z + X + c.b) (by omega) (by omega), wrap_in (n := 320 + 8 * c.m + 48 * c.z + X + c.b - 1) (by omega) (by omega)]
  rw [Int.tdiv_eq_ediv_of_nonneg (by omega)]
  have h5 := div_in (a := 320 + 8 * c.m + 48 * c.z + X + c.b - 1) (b := c.b) (by omega) (by omega)
  rw [wrap_in (n := (320 + 8 * c.m + 48 * c.z + X + c.b - 1) / c.b) (by omega) (by omega), wrap_in (by omega) (by omega)]

set_option maxHeartbeats 1000000 in
theorem data_yes (c : Cf) (w : World) (hs : c.sane = true) : Calls Try.prog 101 #[(.agg #[.int .i64 c.id, .int .i64 c.m, .int .i64 c.u, .int .i64 c.b, .int .i64 c.cp, .int .i64 c.z, .int .i64 c.s, .int .i64 c.mt, .int .i64 c.o, .int .i64 c.a, .int .i64 c.l])] w (Says w (.int .i64 (c.m - 1))) := by
  have HS := Lib.hid ((sane_iff c).1 hs)
  go_enter Try.func101, Try.ntmps101
  go_wp2_with fail
  refine (known_any c _).mono ?_
  rintro e w1 ⟨rfl, hb⟩
  rw [hs]
  have hx := box11 ((Box.fresh w 23 #[.int .i64 c.id, .int .i64 c.m, .int .i64 c.u, .int .i64 c.b, .int .i64 c.cp, .int .i64 c.z, .int .i64 c.s, .int .i64 c.mt, .int .i64 c.o, .int .i64 c.a, .int .i64 c.l]).later hb)
  have HB := Lib.hid (below_of_alloc hb (by simp))
  clear hb hs
  obtain ⟨y0, y1, y2, y3, y4, y5, y6, y7, y8, y9, y10⟩ := hx
  have b1 := HS.out.1
  go_wp2
  go_ret
  exact ⟨rfl, HB.out⟩
theorem data_no (c : Cf) (w : World) (hs : c.sane = false) : Calls Try.prog 101 #[(.agg #[.int .i64 c.id, .int .i64 c.m, .int .i64 c.u, .int .i64 c.b, .int .i64 c.cp, .int .i64 c.z, .int .i64 c.s, .int .i64 c.mt, .int .i64 c.o, .int .i64 c.a, .int .i64 c.l])] w (Says w (.int .i64 0)) := by
  go_enter Try.func101, Try.ntmps101
  go_wp2_with fail
  refine (known_any c _).mono ?_
  rintro e w1 ⟨rfl, hb⟩
  rw [hs]
  have hx := box11 ((Box.fresh w 23 #[.int .i64 c.id, .int .i64 c.m, .int .i64 c.u, .int .i64 c.b, .int .i64 c.cp, .int .i64 c.z, .int .i64 c.s, .int .i64 c.mt, .int .i64 c.o, .int .i64 c.a, .int .i64 c.l]).later hb)
  have HB := Lib.hid (below_of_alloc hb (by simp))
  clear hb hs
  obtain ⟨y0, y1, y2, y3, y4, y5, y6, y7, y8, y9, y10⟩ := hx
  go_wp2
  go_ret
  exact ⟨rfl, HB.out⟩
/-- P7.1: data. -/
def dataC (c : Cf) : Int := if c.sane then c.m - 1 else 0
theorem data_any (c : Cf) (w : World) : Calls Try.prog 101 #[(.agg #[.int .i64 c.id, .int .i64 c.m, .int .i64 c.u, .int .i64 c.b, .int .i64 c.cp, .int .i64 c.z, .int .i64 c.s, .int .i64 c.mt, .int .i64 c.o, .int .i64 c.a, .int .i64 c.l])] w (Says w (.int .i64 (dataC c))) := by
  unfold dataC
  by_cases hs : c.sane = true
  · rw [if_pos hs]
    exact data_yes c w hs
  · rw [if_neg hs]
    exact data_no c w (by simpa using hs)
set_option maxHeartbeats 1000000 in
theorem stripes_yes (c : Cf) (w : World) (hs : c.sane = true) : Calls Try.prog 91 #[(.agg #[.int .i64 c.id, .int .i64 c.m, .int .i64 c.u, .int .i64 c.b, .int .i64 c.cp, .int .i64 c.z, .int .i64 c.s, .int .i64 c.mt, .int .i64 c.o, .int .i64 c.a, .int .i64 c.l])] w (Says w (.int .i64 (c.cp / c.u))) := by
  have HS := Lib.hid ((sane_iff c).1 hs)
  go_enter Try.func91, Try.ntmps91
  go_wp2_with fail
  refine (known_any c _).mono ?_
  rintro e w1 ⟨rfl, hb⟩
  rw [hs]
  have hx := box11 ((Box.fresh w 23 #[.int .i64 c.id, .int .i64 c.m, .int .i64 c.u, .int .i64 c.b, .int .i64 c.cp, .int .i64 c.z, .int .i64 c.s, .int .i64 c.mt, .int .i64 c.o, .int .i64 c.a, .int .i64 c.l]).later hb)
  have HB := Lib.hid (below_of_alloc hb (by simp))
  clear hb hs
  obtain ⟨y0, y1, y2, y3, y4, y5, y6, y7, y8, y9, y10⟩ := hx
  have b1 := HS.out.2.1
  have b2 := HS.out.2.2.2.1
  go_wp2
  go_ret
  exact ⟨rfl, HB.out⟩
theorem stripes_no (c : Cf) (w : World) (hs : c.sane = false) : Calls Try.prog 91 #[(.agg #[.int .i64 c.id, .int .i64 c.m, .int .i64 c.u, .int .i64 c.b, .int .i64 c.cp, .int .i64 c.z, .int .i64 c.s, .int .i64 c.mt, .int .i64 c.o, .int .i64 c.a, .int .i64 c.l])] w (Says w (.int .i64 0)) := by
  go_enter Try.func91, Try.ntmps91
  go_wp2_with fail
  refine (known_any c _).mono ?_
  rintro e w1 ⟨rfl, hb⟩
  rw [hs]
  have hx := box11 ((Box.fresh w 23 #[.int .i64 c.id, .int .i64 c.m, .int .i64 c.u, .int .i64 c.b, .int .i64 c.cp, .int .i64 c.z, .int .i64 c.s, .int .i64 c.mt, .int .i64 c.o, .int .i64 c.a, .int .i64 c.l]).later hb)
  have HB := Lib.hid (below_of_alloc hb (by simp))
  clear hb hs
  obtain ⟨y0, y1, y2, y3, y4, y5, y6, y7, y8, y9, y10⟩ := hx
  go_wp2
  go_ret
  exact ⟨rfl, HB.out⟩
/-- P7.1: stripes. -/
def stripesC (c : Cf) : Int := if c.sane then c.cp / c.u else 0
theorem stripes_any (c : Cf) (w : World) : Calls Try.prog 91 #[(.agg #[.int .i64 c.id, .int .i64 c.m, .int .i64 c.u, .int .i64 c.b, .int .i64 c.cp, .int .i64 c.z, .int .i64 c.s, .int .i64 c.mt, .int .i64 c.o, .int .i64 c.a, .int .i64 c.l])] w (Says w (.int .i64 (stripesC c))) := by
  unfold stripesC
  by_cases hs : c.sane = true
  · rw [if_pos hs]
    exact stripes_yes c w hs
  · rw [if_neg hs]
    exact stripes_no c w (by simpa using hs)
set_option maxHeartbeats 1000000 in
theorem slots_yes (c : Cf) (w : World) (hs : c.sane = true) : Calls Try.prog 78 #[(.agg #[.int .i64 c.id, .int .i64 c.m, .int .i64 c.u, .int .i64 c.b, .int .i64 c.cp, .int .i64 c.z, .int .i64 c.s, .int .i64 c.mt, .int .i64 c.o, .int .i64 c.a, .int .i64 c.l])] w (Says w (.int .i64 (c.z + c.s))) := by
  have HS := Lib.hid ((sane_iff c).1 hs)
  go_enter Try.func78, Try.ntmps78
  go_wp2_with fail
  refine (known_any c _).mono ?_
  rintro e w1 ⟨rfl, hb⟩
  rw [hs]
  have hx := box11 ((Box.fresh w 23 #[.int .i64 c.id, .int .i64 c.m, .int .i64 c.u, .int .i64 c.b, .int .i64 c.cp, .int .i64 c.z, .int .i64 c.s, .int .i64 c.mt, .int .i64 c.o, .int .i64 c.a, .int .i64 c.l]).later hb)
  have HB := Lib.hid (below_of_alloc hb (by simp))
  clear hb hs
  obtain ⟨y0, y1, y2, y3, y4, y5, y6, y7, y8, y9, y10⟩ := hx
  have b1 := HS.out.2.2.2.2.1
  have b2 := HS.out.2.2.2.2.2.1
  go_wp2
  go_ret
  exact ⟨rfl, HB.out⟩
theorem slots_no (c : Cf) (w : World) (hs : c.sane = false) : Calls Try.prog 78 #[(.agg #[.int .i64 c.id, .int .i64 c.m, .int .i64 c.u, .int .i64 c.b, .int .i64 c.cp, .int .i64 c.z, .int .i64 c.s, .int .i64 c.mt, .int .i64 c.o, .int .i64 c.a, .int .i64 c.l])] w (Says w (.int .i64 0)) := by
  go_enter Try.func78, Try.ntmps78
  go_wp2_with fail
  refine (known_any c _).mono ?_
  rintro e w1 ⟨rfl, hb⟩
  rw [hs]
  have hx := box11 ((Box.fresh w 23 #[.int .i64 c.id, .int .i64 c.m, .int .i64 c.u, .int .i64 c.b, .int .i64 c.cp, .int .i64 c.z, .int .i64 c.s, .int .i64 c.mt, .int .i64 c.o, .int .i64 c.a, .int .i64 c.l]).later hb)
  have HB := Lib.hid (below_of_alloc hb (by simp))
  clear hb hs
  obtain ⟨y0, y1, y2, y3, y4, y5, y6, y7, y8, y9, y10⟩ := hx
  go_wp2
  go_ret
  exact ⟨rfl, HB.out⟩
/-- P7.1: slots. -/
def slotsC (c : Cf) : Int := if c.sane then c.z + c.s else 0
theorem slots_any (c : Cf) (w : World) : Calls Try.prog 78 #[(.agg #[.int .i64 c.id, .int .i64 c.m, .int .i64 c.u, .int .i64 c.b, .int .i64 c.cp, .int .i64 c.z, .int .i64 c.s, .int .i64 c.mt, .int .i64 c.o, .int .i64 c.a, .int .i64 c.l])] w (Says w (.int .i64 (slotsC c))) := by
  unfold slotsC
  by_cases hs : c.sane = true
  · rw [if_pos hs]
    exact slots_yes c w hs
  · rw [if_neg hs]
    exact slots_no c w (by simpa using hs)
set_option maxHeartbeats 1000000 in
theorem room_yes (c : Cf) (w : World) (hs : c.sane = true) : Calls Try.prog 83 #[(.agg #[.int .i64 c.id, .int .i64 c.m, .int .i64 c.u, .int .i64 c.b, .int .i64 c.cp, .int .i64 c.z, .int .i64 c.s, .int .i64 c.mt, .int .i64 c.o, .int .i64 c.a, .int .i64 c.l])] w (Says w (.int .i64 ((320 + 8 * c.m + 48 * c.z + (c.z + 1) * c.u * c.b + c.b - 1) / c.b + 2))) := by
  have HR := Lib.hid hs
  have HS := Lib.hid ((sane_iff c).1 hs)
  go_enter Try.func83, Try.ntmps83
  go_wp2_with fail
  refine (known_any c _).mono ?_
  rintro e w1 ⟨rfl, hb⟩
  rw [hs]
  have hx := box11 ((Box.fresh w 23 #[.int .i64 c.id, .int .i64 c.m, .int .i64 c.u, .int .i64 c.b, .int .i64 c.cp, .int .i64 c.z, .int .i64 c.s, .int .i64 c.mt, .int .i64 c.o, .int .i64 c.a, .int .i64 c.l]).later hb)
  have HB := Lib.hid (below_of_alloc hb (by simp))
  clear hb hs
  obtain ⟨y0, y1, y2, y3, y4, y5, y6, y7, y8, y9, y10⟩ := hx
  have b1 := HS.out.1
  have b2 := HS.out.2.1
  have b3 := HS.out.2.2.1
  have b5 := HS.out.2.2.2.2.1
  go_wp2
  go_ret
  exact ⟨ret_i64 (room_wraps HR.out), HB.out⟩
theorem room_no (c : Cf) (w : World) (hs : c.sane = false) : Calls Try.prog 83 #[(.agg #[.int .i64 c.id, .int .i64 c.m, .int .i64 c.u, .int .i64 c.b, .int .i64 c.cp, .int .i64 c.z, .int .i64 c.s, .int .i64 c.mt, .int .i64 c.o, .int .i64 c.a, .int .i64 c.l])] w (Says w (.int .i64 0)) := by
  go_enter Try.func83, Try.ntmps83
  go_wp2_with fail
  refine (known_any c _).mono ?_
  rintro e w1 ⟨rfl, hb⟩
  rw [hs]
  have hx := box11 ((Box.fresh w 23 #[.int .i64 c.id, .int .i64 c.m, .int .i64 c.u, .int .i64 c.b, .int .i64 c.cp, .int .i64 c.z, .int .i64 c.s, .int .i64 c.mt, .int .i64 c.o, .int .i64 c.a, .int .i64 c.l]).later hb)
  have HB := Lib.hid (below_of_alloc hb (by simp))
  clear hb hs
  obtain ⟨y0, y1, y2, y3, y4, y5, y6, y7, y8, y9, y10⟩ := hx
  go_wp2
  go_ret
  exact ⟨rfl, HB.out⟩
/-- P7.1: room. -/
def roomC (c : Cf) : Int := if c.sane then (320 + 8 * c.m + 48 * c.z + (c.z + 1) * c.u * c.b + c.b - 1) / c.b + 2 else 0
theorem room_any (c : Cf) (w : World) : Calls Try.prog 83 #[(.agg #[.int .i64 c.id, .int .i64 c.m, .int .i64 c.u, .int .i64 c.b, .int .i64 c.cp, .int .i64 c.z, .int .i64 c.s, .int .i64 c.mt, .int .i64 c.o, .int .i64 c.a, .int .i64 c.l])] w (Says w (.int .i64 (roomC c))) := by
  unfold roomC
  by_cases hs : c.sane = true
  · rw [if_pos hs]
    exact room_yes c w hs
  · rw [if_neg hs]
    exact room_no c w (by simpa using hs)
theorem data_in (c : Cf) : 0 ≤ dataC c ∧ dataC c ≤ 1048575 := by
  unfold dataC
  split
  · rename_i hs
    have h := ((sane_iff c).1 hs).1
    omega
  · omega
theorem row_in (c : Cf) : 0 ≤ dataC c * c.u ∧ dataC c * c.u ≤ 1099510579200 := by
  by_cases hs : c.sane = true
  · have h := (sane_iff c).1 hs
    have hd := data_in c
    have h2 := mul_in (a := dataC c) (b := c.u) (A := 1048575) (B := 1048576) hd.1 hd.2 (by omega) (by omega)
    exact ⟨h2.1, by omega⟩
  · have e : dataC c = 0 := by unfold dataC; rw [if_neg hs]
    rw [e]
    omega
set_option maxHeartbeats 2000000 in
theorem row_any (c : Cf) (w : World) : Calls Try.prog 92 #[(.agg #[.int .i64 c.id, .int .i64 c.m, .int .i64 c.u, .int .i64 c.b, .int .i64 c.cp, .int .i64 c.z, .int .i64 c.s, .int .i64 c.mt, .int .i64 c.o, .int .i64 c.a, .int .i64 c.l])] w (Says w (.int .i64 (dataC c * c.u))) := by
  have HR := Lib.hid (row_in c)
  go_enter Try.func92, Try.ntmps92
  go_wp2_with fail
  refine wpB_start (w.heap.size + 1) (by kernel_rfl) ?_
  have HV : Hid (Box (w.alloc (.cells #[.int .i64 c.id, .int .i64 c.m, .int .i64 c.u, .int .i64 c.b, .int .i64 c.cp, .int .i64 c.z, .int .i64 c.s, .int .i64 c.mt, .int .i64 c.o, .int .i64 c.a, .int .i64 c.l] 23)).drew w.heap.size 23 #[.int .i64 c.id, .int .i64 c.m, .int .i64 c.u, .int .i64 c.b, .int .i64 c.cp, .int .i64 c.z, .int .i64 c.s, .int .i64 c.mt, .int .i64 c.o, .int .i64 c.a, .int .i64 c.l] ∧ Below w.heap.size w (w.alloc (.cells #[.int .i64 c.id, .int .i64 c.m, .int .i64 c.u, .int .i64 c.b, .int .i64 c.cp, .int .i64 c.z, .int .i64 c.s, .int .i64 c.mt, .int .i64 c.o, .int .i64 c.a, .int .i64 c.l] 23)).drew ∧ (w.alloc (.cells #[.int .i64 c.id, .int .i64 c.m, .int .i64 c.u, .int .i64 c.b, .int .i64 c.cp, .int .i64 c.z, .int .i64 c.s, .int .i64 c.mt, .int .i64 c.o, .int .i64 c.a, .int .i64 c.l] 23)).drew.heap.size = w.heap.size + 1) :=
    ⟨Box.fresh w 23 _, ((Below.refl _ _).alloc (Nat.le_refl _) _).drew, by simp⟩
  generalize (w.alloc (.cells #[.int .i64 c.id, .int .i64 c.m, .int .i64 c.u, .int .i64 c.b, .int .i64 c.cp, .int .i64 c.z, .int .i64 c.s, .int .i64 c.mt, .int .i64 c.o, .int .i64 c.a, .int .i64 c.l] 23)).drew = w0 at HV ⊢
  have q0 : ∀ w', Below (w.heap.size + 1) w0 w' → w'.cell? ⟨w.heap.size, 0, none⟩ = some (.int .i64 c.id) := fun w' h => (box11 (HV.out.1.under h (by omega))).1
  have q1 : ∀ w', Below (w.heap.size + 1) w0 w' → w'.cell? ⟨w.heap.size, 1, none⟩ = some (.int .i64 c.m) := fun w' h => (box11 (HV.out.1.under h (by omega))).2.1
  have q2 : ∀ w', Below (w.heap.size + 1) w0 w' → w'.cell? ⟨w.heap.size, 2, none⟩ = some (.int .i64 c.u) := fun w' h => (box11 (HV.out.1.under h (by omega))).2.2.1
  have q3 : ∀ w', Below (w.heap.size + 1) w0 w' → w'.cell? ⟨w.heap.size, 3, none⟩ = some (.int .i64 c.b) := fun w' h => (box11 (HV.out.1.under h (by omega))).2.2.2.1
  have q4 : ∀ w', Below (w.heap.size + 1) w0 w' → w'.cell? ⟨w.heap.size, 4, none⟩ = some (.int .i64 c.cp) := fun w' h => (box11 (HV.out.1.under h (by omega))).2.2.2.2.1
  have q5 : ∀ w', Below (w.heap.size + 1) w0 w' → w'.cell? ⟨w.heap.size, 5, none⟩ = some (.int .i64 c.z) := fun w' h => (box11 (HV.out.1.under h (by omega))).2.2.2.2.2.1
  have q6 : ∀ w', Below (w.heap.size + 1) w0 w' → w'.cell? ⟨w.heap.size, 6, none⟩ = some (.int .i64 c.s) := fun w' h => (box11 (HV.out.1.under h (by omega))).2.2.2.2.2.2.1
  have q7 : ∀ w', Below (w.heap.size + 1) w0 w' → w'.cell? ⟨w.heap.size, 7, none⟩ = some (.int .i64 c.mt) := fun w' h => (box11 (HV.out.1.under h (by omega))).2.2.2.2.2.2.2.1
  have q8 : ∀ w', Below (w.heap.size + 1) w0 w' → w'.cell? ⟨w.heap.size, 8, none⟩ = some (.int .i64 c.o) := fun w' h => (box11 (HV.out.1.under h (by omega))).2.2.2.2.2.2.2.2.1
  have q9 : ∀ w', Below (w.heap.size + 1) w0 w' → w'.cell? ⟨w.heap.size, 9, none⟩ = some (.int .i64 c.a) := fun w' h => (box11 (HV.out.1.under h (by omega))).2.2.2.2.2.2.2.2.2.1
  have q10 : ∀ w', Below (w.heap.size + 1) w0 w' → w'.cell? ⟨w.heap.size, 10, none⟩ = some (.int .i64 c.l) := fun w' h => (box11 (HV.out.1.under h (by omega))).2.2.2.2.2.2.2.2.2.2
  refine wpB_take (i := 0) (d := 3) (v := ?v1x0) rfl rfl (by kernel_rfl) (by kernel_rfl) (by kernel_rfl) (fun _ _ _ h => h) (by rfl) ?y1x0 ?r1x0
  case y1x0 => (intro w' hSw; go_simp; try (with_reducible rfl))
  simp only [Act.put, List.setIfInBounds_toArray, List.set_cons_zero, List.set_cons_succ]
  refine wpB_take (i := 2) (d := 5) (v := ?v1x2) rfl rfl (by kernel_rfl) (by kernel_rfl) (by kernel_rfl) (fun _ _ _ h => h) (by rfl) ?y1x2 ?r1x2
  case y1x2 => (intro w' hSw; go_simp; try (with_reducible rfl))
  simp only [Act.put, List.setIfInBounds_toArray, List.set_cons_zero, List.set_cons_succ]
  refine wpB_take (i := 3) (d := 6) (v := ?v1x3) rfl rfl (by kernel_rfl) (by kernel_rfl) (by kernel_rfl) (fun _ _ _ h => h) (by rfl) ?y1x3 ?r1x3
  case y1x3 => (intro w' hSw; go_simp; try (with_reducible rfl))
  simp only [Act.put, List.setIfInBounds_toArray, List.set_cons_zero, List.set_cons_succ]
  refine wpB_do (i := 1) (by kernel_rfl) rfl (by rfl) (fun K hK => ?_)
  go_simp
  refine (data_any c w0).mono ?_
  rintro e w1 ⟨rfl, hb⟩
  have HV1 : Hid (Box w1 w.heap.size 23 #[.int .i64 c.id, .int .i64 c.m, .int .i64 c.u, .int .i64 c.b, .int .i64 c.cp, .int .i64 c.z, .int .i64 c.s, .int .i64 c.mt, .int .i64 c.o, .int .i64 c.a, .int .i64 c.l] ∧ Below w.heap.size w w1 ∧ w.heap.size + 1 ≤ w1.heap.size) := ⟨HV.out.1.later hb, HV.out.2.1.trans (hb.mono HV.out.2.1.size), Nat.le_trans (by first | exact HV.out.2.2 | exact Nat.le_of_eq HV.out.2.2.symm) hb.size⟩
  have hbk := hb.mono (show w.heap.size + 1 ≤ w0.heap.size by first | exact HV.out.2.2 | exact Nat.le_of_eq HV.out.2.2.symm)
  go_simp
  refine hK.out (w.heap.size + 1) _ _ (Nat.le_refl _) hbk ?_
  clear hK hb hbk HV q0 q1 q2 q3 q4 q5 q6 q7 q8 q9 q10
  have q0 : ∀ w', Below (w.heap.size + 1) w1 w' → w'.cell? ⟨w.heap.size, 0, none⟩ = some (.int .i64 c.id) := fun w' h => (box11 (HV1.out.1.under h (by omega))).1
  have q1 : ∀ w', Below (w.heap.size + 1) w1 w' → w'.cell? ⟨w.heap.size, 1, none⟩ = some (.int .i64 c.m) := fun w' h => (box11 (HV1.out.1.under h (by omega))).2.1
  have q2 : ∀ w', Below (w.heap.size + 1) w1 w' → w'.cell? ⟨w.heap.size, 2, none⟩ = some (.int .i64 c.u) := fun w' h => (box11 (HV1.out.1.under h (by omega))).2.2.1
  have q3 : ∀ w', Below (w.heap.size + 1) w1 w' → w'.cell? ⟨w.heap.size, 3, none⟩ = some (.int .i64 c.b) := fun w' h => (box11 (HV1.out.1.under h (by omega))).2.2.2.1
  have q4 : ∀ w', Below (w.heap.size + 1) w1 w' → w'.cell? ⟨w.heap.size, 4, none⟩ = some (.int .i64 c.cp) := fun w' h => (box11 (HV1.out.1.under h (by omega))).2.2.2.2.1
  have q5 : ∀ w', Below (w.heap.size + 1) w1 w' → w'.cell? ⟨w.heap.size, 5, none⟩ = some (.int .i64 c.z) := fun w' h => (box11 (HV1.out.1.under h (by omega))).2.2.2.2.2.1
  have q6 : ∀ w', Below (w.heap.size + 1) w1 w' → w'.cell? ⟨w.heap.size, 6, none⟩ = some (.int .i64 c.s) := fun w' h => (box11 (HV1.out.1.under h (by omega))).2.2.2.2.2.2.1
  have q7 : ∀ w', Below (w.heap.size + 1) w1 w' → w'.cell? ⟨w.heap.size, 7, none⟩ = some (.int .i64 c.mt) := fun w' h => (box11 (HV1.out.1.under h (by omega))).2.2.2.2.2.2.2.1
  have q8 : ∀ w', Below (w.heap.size + 1) w1 w' → w'.cell? ⟨w.heap.size, 8, none⟩ = some (.int .i64 c.o) := fun w' h => (box11 (HV1.out.1.under h (by omega))).2.2.2.2.2.2.2.2.1
  have q9 : ∀ w', Below (w.heap.size + 1) w1 w' → w'.cell? ⟨w.heap.size, 9, none⟩ = some (.int .i64 c.a) := fun w' h => (box11 (HV1.out.1.under h (by omega))).2.2.2.2.2.2.2.2.2.1
  have q10 : ∀ w', Below (w.heap.size + 1) w1 w' → w'.cell? ⟨w.heap.size, 10, none⟩ = some (.int .i64 c.l) := fun w' h => (box11 (HV1.out.1.under h (by omega))).2.2.2.2.2.2.2.2.2.2
  refine wpB_take (i := 4) (d := 7) (v := ?v1x4) rfl rfl (by kernel_rfl) (by kernel_rfl) (by kernel_rfl) (fun _ _ _ h => h) (by rfl) ?y1x4 ?r1x4
  case y1x4 => (intro w' hSw; go_simp; try (with_reducible rfl))
  simp only [Act.put, List.setIfInBounds_toArray, List.set_cons_zero, List.set_cons_succ]
  refine wpB_take (i := 5) (d := 2) (v := ?v1x5) rfl rfl (by kernel_rfl) (by kernel_rfl) (by kernel_rfl) (fun _ _ _ h => h) (by rfl) ?y1x5 ?r1x5
  case y1x5 => (intro w' hSw; go_simp; try (with_reducible rfl))
  simp only [Act.put, List.setIfInBounds_toArray, List.set_cons_zero, List.set_cons_succ]
  refine wpB_done (by kernel_rfl) ?_
  go_wp2
  go_ret
  exact ⟨ret_i64 (wrapk_in (by have := HR.out; omega) (by have := HR.out; omega)), HV1.out.2.1⟩
theorem stripes_in (c : Cf) : 0 ≤ stripesC c ∧ stripesC c ≤ 1048576 := by
  unfold stripesC
  split
  · rename_i hs
    have h := (sane_iff c).1 hs
    have h2 := div_in (a := c.cp) (b := c.u) (by omega) (by omega)
    omega
  · omega
theorem size_in (c : Cf) : 0 ≤ stripesC c * (dataC c * c.u) ∧ stripesC c * (dataC c * c.u) ≤ 1152920405095219200 := by
  have h1 := stripes_in c
  have h2 := row_in c
  have h := mul_in h1.1 h1.2 h2.1 h2.2
  exact ⟨h.1, by omega⟩
set_option maxHeartbeats 2000000 in
theorem size_any (c : Cf) (w : World) : Calls Try.prog 77 #[(.agg #[.int .i64 c.id, .int .i64 c.m, .int .i64 c.u, .int .i64 c.b, .int .i64 c.cp, .int .i64 c.z, .int .i64 c.s, .int .i64 c.mt, .int .i64 c.o, .int .i64 c.a, .int .i64 c.l])] w (Says w (.int .i64 (stripesC c * (dataC c * c.u)))) := by
  have HR := Lib.hid (size_in c)
  go_enter Try.func77, Try.ntmps77
  go_wp2_with fail
  refine wpB_start (w.heap.size + 1) (by kernel_rfl) ?_
  have HV : Hid (Box (w.alloc (.cells #[.int .i64 c.id, .int .i64 c.m, .int .i64 c.u, .int .i64 c.b, .int .i64 c.cp, .int .i64 c.z, .int .i64 c.s, .int .i64 c.mt, .int .i64 c.o, .int .i64 c.a, .int .i64 c.l] 23)).drew w.heap.size 23 #[.int .i64 c.id, .int .i64 c.m, .int .i64 c.u, .int .i64 c.b, .int .i64 c.cp, .int .i64 c.z, .int .i64 c.s, .int .i64 c.mt, .int .i64 c.o, .int .i64 c.a, .int .i64 c.l] ∧ Below w.heap.size w (w.alloc (.cells #[.int .i64 c.id, .int .i64 c.m, .int .i64 c.u, .int .i64 c.b, .int .i64 c.cp, .int .i64 c.z, .int .i64 c.s, .int .i64 c.mt, .int .i64 c.o, .int .i64 c.a, .int .i64 c.l] 23)).drew ∧ (w.alloc (.cells #[.int .i64 c.id, .int .i64 c.m, .int .i64 c.u, .int .i64 c.b, .int .i64 c.cp, .int .i64 c.z, .int .i64 c.s, .int .i64 c.mt, .int .i64 c.o, .int .i64 c.a, .int .i64 c.l] 23)).drew.heap.size = w.heap.size + 1) :=
    ⟨Box.fresh w 23 _, ((Below.refl _ _).alloc (Nat.le_refl _) _).drew, by simp⟩
  generalize (w.alloc (.cells #[.int .i64 c.id, .int .i64 c.m, .int .i64 c.u, .int .i64 c.b, .int .i64 c.cp, .int .i64 c.z, .int .i64 c.s, .int .i64 c.mt, .int .i64 c.o, .int .i64 c.a, .int .i64 c.l] 23)).drew = w0 at HV ⊢
  have q0 : ∀ w', Below (w.heap.size + 1) w0 w' → w'.cell? ⟨w.heap.size, 0, none⟩ = some (.int .i64 c.id) := fun w' h => (box11 (HV.out.1.under h (by omega))).1
  have q1 : ∀ w', Below (w.heap.size + 1) w0 w' → w'.cell? ⟨w.heap.size, 1, none⟩ = some (.int .i64 c.m) := fun w' h => (box11 (HV.out.1.under h (by omega))).2.1
  have q2 : ∀ w', Below (w.heap.size + 1) w0 w' → w'.cell? ⟨w.heap.size, 2, none⟩ = some (.int .i64 c.u) := fun w' h => (box11 (HV.out.1.under h (by omega))).2.2.1
  have q3 : ∀ w', Below (w.heap.size + 1) w0 w' → w'.cell? ⟨w.heap.size, 3, none⟩ = some (.int .i64 c.b) := fun w' h => (box11 (HV.out.1.under h (by omega))).2.2.2.1
  have q4 : ∀ w', Below (w.heap.size + 1) w0 w' → w'.cell? ⟨w.heap.size, 4, none⟩ = some (.int .i64 c.cp) := fun w' h => (box11 (HV.out.1.under h (by omega))).2.2.2.2.1
  have q5 : ∀ w', Below (w.heap.size + 1) w0 w' → w'.cell? ⟨w.heap.size, 5, none⟩ = some (.int .i64 c.z) := fun w' h => (box11 (HV.out.1.under h (by omega))).2.2.2.2.2.1
  have q6 : ∀ w', Below (w.heap.size + 1) w0 w' → w'.cell? ⟨w.heap.size, 6, none⟩ = some (.int .i64 c.s) := fun w' h => (box11 (HV.out.1.under h (by omega))).2.2.2.2.2.2.1
  have q7 : ∀ w', Below (w.heap.size + 1) w0 w' → w'.cell? ⟨w.heap.size, 7, none⟩ = some (.int .i64 c.mt) := fun w' h => (box11 (HV.out.1.under h (by omega))).2.2.2.2.2.2.2.1
  have q8 : ∀ w', Below (w.heap.size + 1) w0 w' → w'.cell? ⟨w.heap.size, 8, none⟩ = some (.int .i64 c.o) := fun w' h => (box11 (HV.out.1.under h (by omega))).2.2.2.2.2.2.2.2.1
  have q9 : ∀ w', Below (w.heap.size + 1) w0 w' → w'.cell? ⟨w.heap.size, 9, none⟩ = some (.int .i64 c.a) := fun w' h => (box11 (HV.out.1.under h (by omega))).2.2.2.2.2.2.2.2.2.1
  have q10 : ∀ w', Below (w.heap.size + 1) w0 w' → w'.cell? ⟨w.heap.size, 10, none⟩ = some (.int .i64 c.l) := fun w' h => (box11 (HV.out.1.under h (by omega))).2.2.2.2.2.2.2.2.2.2
  refine wpB_take (i := 0) (d := 3) (v := ?v1x0) rfl rfl (by kernel_rfl) (by kernel_rfl) (by kernel_rfl) (fun _ _ _ h => h) (by rfl) ?y1x0 ?r1x0
  case y1x0 => (intro w' hSw; go_simp; try (with_reducible rfl))
  simp only [Act.put, List.setIfInBounds_toArray, List.set_cons_zero, List.set_cons_succ]
  refine wpB_take (i := 2) (d := 5) (v := ?v1x2) rfl rfl (by kernel_rfl) (by kernel_rfl) (by kernel_rfl) (fun _ _ _ h => h) (by rfl) ?y1x2 ?r1x2
  case y1x2 => (intro w' hSw; go_simp; try (with_reducible rfl))
  simp only [Act.put, List.setIfInBounds_toArray, List.set_cons_zero, List.set_cons_succ]
  refine wpB_do (i := 1) (by kernel_rfl) rfl (by rfl) (fun K hK => ?_)
  go_simp
  refine (stripes_any c w0).mono ?_
  rintro e w1 ⟨rfl, hb⟩
  have HV1 : Hid (Box w1 w.heap.size 23 #[.int .i64 c.id, .int .i64 c.m, .int .i64 c.u, .int .i64 c.b, .int .i64 c.cp, .int .i64 c.z, .int .i64 c.s, .int .i64 c.mt, .int .i64 c.o, .int .i64 c.a, .int .i64 c.l] ∧ Below w.heap.size w w1 ∧ w.heap.size + 1 ≤ w1.heap.size) := ⟨HV.out.1.later hb, HV.out.2.1.trans (hb.mono HV.out.2.1.size), Nat.le_trans (by first | exact HV.out.2.2 | exact Nat.le_of_eq HV.out.2.2.symm) hb.size⟩
  have hbk := hb.mono (show w.heap.size + 1 ≤ w0.heap.size by first | exact HV.out.2.2 | exact Nat.le_of_eq HV.out.2.2.symm)
  go_simp
  refine hK.out (w.heap.size + 1) _ _ (Nat.le_refl _) hbk ?_
  clear hK hb hbk HV q0 q1 q2 q3 q4 q5 q6 q7 q8 q9 q10
  have q0 : ∀ w', Below (w.heap.size + 1) w1 w' → w'.cell? ⟨w.heap.size, 0, none⟩ = some (.int .i64 c.id) := fun w' h => (box11 (HV1.out.1.under h (by omega))).1
  have q1 : ∀ w', Below (w.heap.size + 1) w1 w' → w'.cell? ⟨w.heap.size, 1, none⟩ = some (.int .i64 c.m) := fun w' h => (box11 (HV1.out.1.under h (by omega))).2.1
  have q2 : ∀ w', Below (w.heap.size + 1) w1 w' → w'.cell? ⟨w.heap.size, 2, none⟩ = some (.int .i64 c.u) := fun w' h => (box11 (HV1.out.1.under h (by omega))).2.2.1
  have q3 : ∀ w', Below (w.heap.size + 1) w1 w' → w'.cell? ⟨w.heap.size, 3, none⟩ = some (.int .i64 c.b) := fun w' h => (box11 (HV1.out.1.under h (by omega))).2.2.2.1
  have q4 : ∀ w', Below (w.heap.size + 1) w1 w' → w'.cell? ⟨w.heap.size, 4, none⟩ = some (.int .i64 c.cp) := fun w' h => (box11 (HV1.out.1.under h (by omega))).2.2.2.2.1
  have q5 : ∀ w', Below (w.heap.size + 1) w1 w' → w'.cell? ⟨w.heap.size, 5, none⟩ = some (.int .i64 c.z) := fun w' h => (box11 (HV1.out.1.under h (by omega))).2.2.2.2.2.1
  have q6 : ∀ w', Below (w.heap.size + 1) w1 w' → w'.cell? ⟨w.heap.size, 6, none⟩ = some (.int .i64 c.s) := fun w' h => (box11 (HV1.out.1.under h (by omega))).2.2.2.2.2.2.1
  have q7 : ∀ w', Below (w.heap.size + 1) w1 w' → w'.cell? ⟨w.heap.size, 7, none⟩ = some (.int .i64 c.mt) := fun w' h => (box11 (HV1.out.1.under h (by omega))).2.2.2.2.2.2.2.1
  have q8 : ∀ w', Below (w.heap.size + 1) w1 w' → w'.cell? ⟨w.heap.size, 8, none⟩ = some (.int .i64 c.o) := fun w' h => (box11 (HV1.out.1.under h (by omega))).2.2.2.2.2.2.2.2.1
  have q9 : ∀ w', Below (w.heap.size + 1) w1 w' → w'.cell? ⟨w.heap.size, 9, none⟩ = some (.int .i64 c.a) := fun w' h => (box11 (HV1.out.1.under h (by omega))).2.2.2.2.2.2.2.2.2.1
  have q10 : ∀ w', Below (w.heap.size + 1) w1 w' → w'.cell? ⟨w.heap.size, 10, none⟩ = some (.int .i64 c.l) := fun w' h => (box11 (HV1.out.1.under h (by omega))).2.2.2.2.2.2.2.2.2.2
  refine wpB_do (i := 3) (by kernel_rfl) rfl (by rfl) (fun K hK => ?_)
  go_simp
  refine (row_any c w1).mono ?_
  rintro e w2 ⟨rfl, hb⟩
  have HV2 : Hid (Box w2 w.heap.size 23 #[.int .i64 c.id, .int .i64 c.m, .int .i64 c.u, .int .i64 c.b, .int .i64 c.cp, .int .i64 c.z, .int .i64 c.s, .int .i64 c.mt, .int .i64 c.o, .int .i64 c.a, .int .i64 c.l] ∧ Below w.heap.size w w2 ∧ w.heap.size + 1 ≤ w2.heap.size) := ⟨HV1.out.1.later hb, HV1.out.2.1.trans (hb.mono HV1.out.2.1.size), Nat.le_trans (by first | exact HV1.out.2.2 | exact Nat.le_of_eq HV1.out.2.2.symm) hb.size⟩
  have hbk := hb.mono (show w.heap.size + 1 ≤ w1.heap.size by first | exact HV1.out.2.2 | exact Nat.le_of_eq HV1.out.2.2.symm)
  go_simp
  refine hK.out (w.heap.size + 1) _ _ (Nat.le_refl _) hbk ?_
  clear hK hb hbk HV1 q0 q1 q2 q3 q4 q5 q6 q7 q8 q9 q10
  have q0 : ∀ w', Below (w.heap.size + 1) w2 w' → w'.cell? ⟨w.heap.size, 0, none⟩ = some (.int .i64 c.id) := fun w' h => (box11 (HV2.out.1.under h (by omega))).1
  have q1 : ∀ w', Below (w.heap.size + 1) w2 w' → w'.cell? ⟨w.heap.size, 1, none⟩ = some (.int .i64 c.m) := fun w' h => (box11 (HV2.out.1.under h (by omega))).2.1
  have q2 : ∀ w', Below (w.heap.size + 1) w2 w' → w'.cell? ⟨w.heap.size, 2, none⟩ = some (.int .i64 c.u) := fun w' h => (box11 (HV2.out.1.under h (by omega))).2.2.1
  have q3 : ∀ w', Below (w.heap.size + 1) w2 w' → w'.cell? ⟨w.heap.size, 3, none⟩ = some (.int .i64 c.b) := fun w' h => (box11 (HV2.out.1.under h (by omega))).2.2.2.1
  have q4 : ∀ w', Below (w.heap.size + 1) w2 w' → w'.cell? ⟨w.heap.size, 4, none⟩ = some (.int .i64 c.cp) := fun w' h => (box11 (HV2.out.1.under h (by omega))).2.2.2.2.1
  have q5 : ∀ w', Below (w.heap.size + 1) w2 w' → w'.cell? ⟨w.heap.size, 5, none⟩ = some (.int .i64 c.z) := fun w' h => (box11 (HV2.out.1.under h (by omega))).2.2.2.2.2.1
  have q6 : ∀ w', Below (w.heap.size + 1) w2 w' → w'.cell? ⟨w.heap.size, 6, none⟩ = some (.int .i64 c.s) := fun w' h => (box11 (HV2.out.1.under h (by omega))).2.2.2.2.2.2.1
  have q7 : ∀ w', Below (w.heap.size + 1) w2 w' → w'.cell? ⟨w.heap.size, 7, none⟩ = some (.int .i64 c.mt) := fun w' h => (box11 (HV2.out.1.under h (by omega))).2.2.2.2.2.2.2.1
  have q8 : ∀ w', Below (w.heap.size + 1) w2 w' → w'.cell? ⟨w.heap.size, 8, none⟩ = some (.int .i64 c.o) := fun w' h => (box11 (HV2.out.1.under h (by omega))).2.2.2.2.2.2.2.2.1
  have q9 : ∀ w', Below (w.heap.size + 1) w2 w' → w'.cell? ⟨w.heap.size, 9, none⟩ = some (.int .i64 c.a) := fun w' h => (box11 (HV2.out.1.under h (by omega))).2.2.2.2.2.2.2.2.2.1
  have q10 : ∀ w', Below (w.heap.size + 1) w2 w' → w'.cell? ⟨w.heap.size, 10, none⟩ = some (.int .i64 c.l) := fun w' h => (box11 (HV2.out.1.under h (by omega))).2.2.2.2.2.2.2.2.2.2
  refine wpB_take (i := 4) (d := 7) (v := ?v1x4) rfl rfl (by kernel_rfl) (by kernel_rfl) (by kernel_rfl) (fun _ _ _ h => h) (by rfl) ?y1x4 ?r1x4
  case y1x4 => (intro w' hSw; go_simp; try (with_reducible rfl))
  simp only [Act.put, List.setIfInBounds_toArray, List.set_cons_zero, List.set_cons_succ]
  refine wpB_take (i := 5) (d := 2) (v := ?v1x5) rfl rfl (by kernel_rfl) (by kernel_rfl) (by kernel_rfl) (fun _ _ _ h => h) (by rfl) ?y1x5 ?r1x5
  case y1x5 => (intro w' hSw; go_simp; try (with_reducible rfl))
  simp only [Act.put, List.setIfInBounds_toArray, List.set_cons_zero, List.set_cons_succ]
  refine wpB_done (by kernel_rfl) ?_
  go_wp2
  go_ret
  exact ⟨ret_i64 (wrapk_in (by have := HR.out; omega) (by have := HR.out; omega)), HV2.out.2.1⟩

/-- P7.1: all. -/
def allC (c : Cf) : Int := if c.sane then c.mt + slotsC c else 0
theorem slots_in (c : Cf) : 0 ≤ slotsC c ∧ slotsC c ≤ 2097152 := by
  unfold slotsC
  split
  · rename_i hs
    have h := (sane_iff c).1 hs
    omega
  · omega
set_option maxHeartbeats 2000000 in
theorem all_yes (c : Cf) (w : World) (hs : c.sane = true) : Calls Try.prog 97 #[(.agg #[.int .i64 c.id, .int .i64 c.m, .int .i64 c.u, .int .i64 c.b, .int .i64 c.cp, .int .i64 c.z, .int .i64 c.s, .int .i64 c.mt, .int .i64 c.o, .int .i64 c.a, .int .i64 c.l])] w (Says w (.int .i64 (c.mt + slotsC c))) := by
  have HS := Lib.hid (And.intro ((sane_iff c).1 hs) (slots_in c))
  go_enter Try.func97, Try.ntmps97
  go_wp2_with fail
  refine (known_any c _).mono ?_
  rintro e w1 ⟨rfl, hb⟩
  rw [hs]
  have HV : Hid (Box w1.drew w.heap.size 23 #[.int .i64 c.id, .int .i64 c.m, .int .i64 c.u, .int .i64 c.b, .int .i64 c.cp, .int .i64 c.z, .int .i64 c.s, .int .i64 c.mt, .int .i64 c.o, .int .i64 c.a, .int .i64 c.l] ∧ Below w.heap.size w w1.drew ∧ w.heap.size + 1 ≤ w1.drew.heap.size) := ⟨(Box.fresh w 23 #[.int .i64 c.id, .int .i64 c.m, .int .i64 c.u, .int .i64 c.b, .int .i64 c.cp, .int .i64 c.z, .int .i64 c.s, .int .i64 c.mt, .int .i64 c.o, .int .i64 c.a, .int .i64 c.l]).later hb.drew, (below_of_alloc hb (by simp)).drew, by have := hb.size; simpa using this⟩
  clear hb hs
  go_wp2_with fail
  refine wpB_start (w.heap.size + 1) (by kernel_rfl) ?_
  generalize w1.drew = w0 at HV ⊢
  have q0 : ∀ w', Below (w.heap.size + 1) w0 w' → w'.cell? ⟨w.heap.size, 0, none⟩ = some (.int .i64 c.id) := fun w' h => (box11 (HV.out.1.under h (by omega))).1
  have q1 : ∀ w', Below (w.heap.size + 1) w0 w' → w'.cell? ⟨w.heap.size, 1, none⟩ = some (.int .i64 c.m) := fun w' h => (box11 (HV.out.1.under h (by omega))).2.1
  have q2 : ∀ w', Below (w.heap.size + 1) w0 w' → w'.cell? ⟨w.heap.size, 2, none⟩ = some (.int .i64 c.u) := fun w' h => (box11 (HV.out.1.under h (by omega))).2.2.1
  have q3 : ∀ w', Below (w.heap.size + 1) w0 w' → w'.cell? ⟨w.heap.size, 3, none⟩ = some (.int .i64 c.b) := fun w' h => (box11 (HV.out.1.under h (by omega))).2.2.2.1
  have q4 : ∀ w', Below (w.heap.size + 1) w0 w' → w'.cell? ⟨w.heap.size, 4, none⟩ = some (.int .i64 c.cp) := fun w' h => (box11 (HV.out.1.under h (by omega))).2.2.2.2.1
  have q5 : ∀ w', Below (w.heap.size + 1) w0 w' → w'.cell? ⟨w.heap.size, 5, none⟩ = some (.int .i64 c.z) := fun w' h => (box11 (HV.out.1.under h (by omega))).2.2.2.2.2.1
  have q6 : ∀ w', Below (w.heap.size + 1) w0 w' → w'.cell? ⟨w.heap.size, 6, none⟩ = some (.int .i64 c.s) := fun w' h => (box11 (HV.out.1.under h (by omega))).2.2.2.2.2.2.1
  have q7 : ∀ w', Below (w.heap.size + 1) w0 w' → w'.cell? ⟨w.heap.size, 7, none⟩ = some (.int .i64 c.mt) := fun w' h => (box11 (HV.out.1.under h (by omega))).2.2.2.2.2.2.2.1
  have q8 : ∀ w', Below (w.heap.size + 1) w0 w' → w'.cell? ⟨w.heap.size, 8, none⟩ = some (.int .i64 c.o) := fun w' h => (box11 (HV.out.1.under h (by omega))).2.2.2.2.2.2.2.2.1
  have q9 : ∀ w', Below (w.heap.size + 1) w0 w' → w'.cell? ⟨w.heap.size, 9, none⟩ = some (.int .i64 c.a) := fun w' h => (box11 (HV.out.1.under h (by omega))).2.2.2.2.2.2.2.2.2.1
  have q10 : ∀ w', Below (w.heap.size + 1) w0 w' → w'.cell? ⟨w.heap.size, 10, none⟩ = some (.int .i64 c.l) := fun w' h => (box11 (HV.out.1.under h (by omega))).2.2.2.2.2.2.2.2.2.2
  refine wpB_take (i := 0) (d := 6) (v := ?v3x0) rfl rfl (by kernel_rfl) (by kernel_rfl) (by kernel_rfl) (fun _ _ _ h => h) (by rfl) ?y3x0 ?r3x0
  case y3x0 => (intro w' hSw; go_simp; try (with_reducible rfl))
  simp only [Act.put, List.setIfInBounds_toArray, List.set_cons_zero, List.set_cons_succ]
  refine wpB_take (i := 1) (d := 7) (v := ?v3x1) rfl rfl (by kernel_rfl) (by kernel_rfl) (by kernel_rfl) (fun _ _ _ h => h) (by rfl) ?y3x1 ?r3x1
  case y3x1 => (intro w' hSw; go_simp; try (with_reducible rfl))
  simp only [Act.put, List.setIfInBounds_toArray, List.set_cons_zero, List.set_cons_succ]
  refine wpB_take (i := 2) (d := 8) (v := ?v3x2) rfl rfl (by kernel_rfl) (by kernel_rfl) (by kernel_rfl) (fun _ _ _ h => h) (by rfl) ?y3x2 ?r3x2
  case y3x2 => (intro w' hSw; go_simp; try (with_reducible rfl))
  simp only [Act.put, List.setIfInBounds_toArray, List.set_cons_zero, List.set_cons_succ]
  refine wpB_do (i := 3) (by kernel_rfl) rfl (by rfl) (fun K hK => ?_)
  go_simp
  refine (slots_any c w0).mono ?_
  rintro e w1 ⟨rfl, hb⟩
  have HV1 : Hid (Box w1 w.heap.size 23 #[.int .i64 c.id, .int .i64 c.m, .int .i64 c.u, .int .i64 c.b, .int .i64 c.cp, .int .i64 c.z, .int .i64 c.s, .int .i64 c.mt, .int .i64 c.o, .int .i64 c.a, .int .i64 c.l] ∧ Below w.heap.size w w1 ∧ w.heap.size + 1 ≤ w1.heap.size) := ⟨HV.out.1.later hb, HV.out.2.1.trans (hb.mono HV.out.2.1.size), Nat.le_trans (by first | exact HV.out.2.2 | exact Nat.le_of_eq HV.out.2.2.symm) hb.size⟩
  have hbk := hb.mono (show w.heap.size + 1 ≤ w0.heap.size by first | exact HV.out.2.2 | exact Nat.le_of_eq HV.out.2.2.symm)
  go_simp
  refine hK.out (w.heap.size + 1) _ _ (Nat.le_refl _) hbk ?_
  clear hK hb hbk HV q0 q1 q2 q3 q4 q5 q6 q7 q8 q9 q10
  have q0 : ∀ w', Below (w.heap.size + 1) w1 w' → w'.cell? ⟨w.heap.size, 0, none⟩ = some (.int .i64 c.id) := fun w' h => (box11 (HV1.out.1.under h (by omega))).1
  have q1 : ∀ w', Below (w.heap.size + 1) w1 w' → w'.cell? ⟨w.heap.size, 1, none⟩ = some (.int .i64 c.m) := fun w' h => (box11 (HV1.out.1.under h (by omega))).2.1
  have q2 : ∀ w', Below (w.heap.size + 1) w1 w' → w'.cell? ⟨w.heap.size, 2, none⟩ = some (.int .i64 c.u) := fun w' h => (box11 (HV1.out.1.under h (by omega))).2.2.1
  have q3 : ∀ w', Below (w.heap.size + 1) w1 w' → w'.cell? ⟨w.heap.size, 3, none⟩ = some (.int .i64 c.b) := fun w' h => (box11 (HV1.out.1.under h (by omega))).2.2.2.1
  have q4 : ∀ w', Below (w.heap.size + 1) w1 w' → w'.cell? ⟨w.heap.size, 4, none⟩ = some (.int .i64 c.cp) := fun w' h => (box11 (HV1.out.1.under h (by omega))).2.2.2.2.1
  have q5 : ∀ w', Below (w.heap.size + 1) w1 w' → w'.cell? ⟨w.heap.size, 5, none⟩ = some (.int .i64 c.z) := fun w' h => (box11 (HV1.out.1.under h (by omega))).2.2.2.2.2.1
  have q6 : ∀ w', Below (w.heap.size + 1) w1 w' → w'.cell? ⟨w.heap.size, 6, none⟩ = some (.int .i64 c.s) := fun w' h => (box11 (HV1.out.1.under h (by omega))).2.2.2.2.2.2.1
  have q7 : ∀ w', Below (w.heap.size + 1) w1 w' → w'.cell? ⟨w.heap.size, 7, none⟩ = some (.int .i64 c.mt) := fun w' h => (box11 (HV1.out.1.under h (by omega))).2.2.2.2.2.2.2.1
  have q8 : ∀ w', Below (w.heap.size + 1) w1 w' → w'.cell? ⟨w.heap.size, 8, none⟩ = some (.int .i64 c.o) := fun w' h => (box11 (HV1.out.1.under h (by omega))).2.2.2.2.2.2.2.2.1
  have q9 : ∀ w', Below (w.heap.size + 1) w1 w' → w'.cell? ⟨w.heap.size, 9, none⟩ = some (.int .i64 c.a) := fun w' h => (box11 (HV1.out.1.under h (by omega))).2.2.2.2.2.2.2.2.2.1
  have q10 : ∀ w', Below (w.heap.size + 1) w1 w' → w'.cell? ⟨w.heap.size, 10, none⟩ = some (.int .i64 c.l) := fun w' h => (box11 (HV1.out.1.under h (by omega))).2.2.2.2.2.2.2.2.2.2
  refine wpB_take (i := 4) (d := 10) (v := ?v3x4) rfl rfl (by kernel_rfl) (by kernel_rfl) (by kernel_rfl) (fun _ _ _ h => h) (by rfl) ?y3x4 ?r3x4
  case y3x4 => (intro w' hSw; go_simp; try (with_reducible rfl))
  simp only [Act.put, List.setIfInBounds_toArray, List.set_cons_zero, List.set_cons_succ]
  refine wpB_take (i := 5) (d := 2) (v := ?v3x5) rfl rfl (by kernel_rfl) (by kernel_rfl) (by kernel_rfl) (fun _ _ _ h => h) (by rfl) ?y3x5 ?r3x5
  case y3x5 => (intro w' hSw; go_simp; try (with_reducible rfl))
  simp only [Act.put, List.setIfInBounds_toArray, List.set_cons_zero, List.set_cons_succ]
  refine wpB_done (by kernel_rfl) ?_
  go_wp2
  go_ret
  exact ⟨ret_i64 (wrapk_in (by have := HS.out; omega) (by have := HS.out; omega)), HV1.out.2.1⟩
theorem all_no (c : Cf) (w : World) (hs : c.sane = false) : Calls Try.prog 97 #[(.agg #[.int .i64 c.id, .int .i64 c.m, .int .i64 c.u, .int .i64 c.b, .int .i64 c.cp, .int .i64 c.z, .int .i64 c.s, .int .i64 c.mt, .int .i64 c.o, .int .i64 c.a, .int .i64 c.l])] w (Says w (.int .i64 0)) := by
  go_enter Try.func97, Try.ntmps97
  go_wp2_with fail
  refine (known_any c _).mono ?_
  rintro e w1 ⟨rfl, hb⟩
  rw [hs]
  have hx := box11 ((Box.fresh w 23 #[.int .i64 c.id, .int .i64 c.m, .int .i64 c.u, .int .i64 c.b, .int .i64 c.cp, .int .i64 c.z, .int .i64 c.s, .int .i64 c.mt, .int .i64 c.o, .int .i64 c.a, .int .i64 c.l]).later hb)
  have HB := Lib.hid (below_of_alloc hb (by simp))
  clear hb hs
  obtain ⟨y0, y1, y2, y3, y4, y5, y6, y7, y8, y9, y10⟩ := hx
  go_wp2
  go_ret
  exact ⟨rfl, HB.out⟩
theorem all_any (c : Cf) (w : World) : Calls Try.prog 97 #[(.agg #[.int .i64 c.id, .int .i64 c.m, .int .i64 c.u, .int .i64 c.b, .int .i64 c.cp, .int .i64 c.z, .int .i64 c.s, .int .i64 c.mt, .int .i64 c.o, .int .i64 c.a, .int .i64 c.l])] w (Says w (.int .i64 (allC c))) := by
  unfold allC
  by_cases hs : c.sane = true
  · rw [if_pos hs]
    exact all_yes c w hs
  · rw [if_neg hs]
    exact all_no c w (by simpa using hs)
end Go.Proofs.Ytaceaemombnhkaa
