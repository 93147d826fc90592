/- Contracts of bounded. -/
import Derived.Test.YtaceaemombnhkaaH
namespace Go.Proofs.Ytaceaemombnhkaa
set_option linter.unusedVariables false
set_option maxRecDepth 100000
set_option linter.unusedSimpArgs false
open Go.RowKit
open Go.RowKit (wrap64)

/-- Is each number, alone, right? -/
def boundedC (c : Cf) : Bool := allIn 0 1099511627776 [c.id] && allIn 3 16 [c.m] && allIn 1 64 [c.u] && allIn 1 4096 [c.b] && allIn 1 4096 [c.cp] && allIn 3 64 [c.mt] && allIn 1 64 [c.z, c.s, c.o, c.a, c.l]
theorem ptrs_one {w : World} {q : Nat} {ad : Addr} {v : Int} (h : Box w q 104 #[.pointer (some ad)]) (hv : w.cell? ad = some (.int .i64 v)) : Ptrs w q 0 [v] := by
  intro i hi
  match i, hi with
  | 0, _ => exact ⟨_, h.cell 0, hv⟩
  | i + 1, hi => exact absurd hi (by show ¬ (i + 1 < 1); omega)
theorem ptrs_five {w : World} {q p : Nat} {c : Cf} (h : Box w q 104 #[.pointer (some ⟨p, 5, none⟩), .pointer (some ⟨p, 6, none⟩), .pointer (some ⟨p, 8, none⟩), .pointer (some ⟨p, 9, none⟩), .pointer (some ⟨p, 10, none⟩)]) (hb : Box w p 23 #[.int .i64 c.id, .int .i64 c.m, .int .i64 c.u, .int .i64 c.b, .int .i64 c.cp, .int .i64 c.z, .int .i64 c.s, .int .i64 c.mt, .int .i64 c.o, .int .i64 c.a, .int .i64 c.l]) : Ptrs w q 0 [c.z, c.s, c.o, c.a, c.l] := by
  obtain ⟨y0, y1, y2, y3, y4, y5, y6, y7, y8, y9, y10⟩ := box11 hb
  intro i hi
  match i, hi with
  | 0, _ => exact ⟨_, h.cell 0, y5⟩
  | 1, _ => exact ⟨_, h.cell 1, y6⟩
  | 2, _ => exact ⟨_, h.cell 2, y8⟩
  | 3, _ => exact ⟨_, h.cell 3, y9⟩
  | 4, _ => exact ⟨_, h.cell 4, y10⟩
  | i + 5, hi => exact absurd hi (by show ¬ (i + 5 < 5); omega)
/-- The settings lie in block w.heap.size of w'. -/
def At (c : Cf) (w w' : World) : Prop := Box w' w.heap.size 23 #[.int .i64 c.id, .int .i64 c.m, .int .i64 c.u, .int .i64 c.b, .int .i64 c.cp, .int .i64 c.z, .int .i64 c.s, .int .i64 c.mt, .int .i64 c.o, .int .i64 c.a, .int .i64 c.l] ∧ Below w.heap.size w w' ∧ w.heap.size + 1 ≤ w'.heap.size
theorem At.new (c : Cf) (w : World) : At c w (w.alloc (.cells #[.int .i64 c.id, .int .i64 c.m, .int .i64 c.u, .int .i64 c.b, .int .i64 c.cp, .int .i64 c.z, .int .i64 c.s, .int .i64 c.mt, .int .i64 c.o, .int .i64 c.a, .int .i64 c.l] 23)) := ⟨Box.fresh w 23 _, (Below.refl _ _).alloc (Nat.le_refl _) _, by simp⟩
theorem At.alloc {c : Cf} {w w' : World} (h : At c w w') (o : Obj) : At c w (w'.alloc o) := ⟨h.1.later ((Below.refl _ _).alloc (Nat.le_refl _) _), h.2.1.alloc h.2.1.size _, Nat.le_trans h.2.2 (by simp)⟩
theorem At.drew {c : Cf} {w w' : World} (h : At c w w') : At c w w'.drew := ⟨h.1.later (Below.refl _ _).drew, h.2.1.drew, h.2.2⟩
theorem At.later {c : Cf} {w w' w2 : World} (h : At c w w') (hb : Below w'.heap.size w' w2) : At c w w2 := ⟨h.1.later hb, h.2.1.trans (hb.mono h.2.1.size), Nat.le_trans h.2.2 hb.size⟩
theorem At.below {c : Cf} {w w' w2 : World} (h : At c w w') (hb : Below (w.heap.size + 1) w' w2) : Box w2 w.heap.size 23 #[.int .i64 c.id, .int .i64 c.m, .int .i64 c.u, .int .i64 c.b, .int .i64 c.cp, .int .i64 c.z, .int .i64 c.s, .int .i64 c.mt, .int .i64 c.o, .int .i64 c.a, .int .i64 c.l] := h.1.under hb (by omega)

set_option maxHeartbeats 2000000 in
theorem bounded_any (c : Cf) (w : World) : Calls Try.prog 81 #[(.agg #[.int .i64 c.id, .int .i64 c.m, .int .i64 c.u, .int .i64 c.b, .int .i64 c.cp, .int .i64 c.z, .int .i64 c.s, .int .i64 c.mt, .int .i64 c.o, .int .i64 c.a, .int .i64 c.l])] w (Says w (.bool (boundedC c))) := by
  have HE : Hid (∀ x0 x1 x2 x3 x4 x5 x6 : Bool, allIn 0 1099511627776 [c.id] = x0 → allIn 3 16 [c.m] = x1 → allIn 1 64 [c.u] = x2 → allIn 1 4096 [c.b] = x3 → allIn 1 4096 [c.cp] = x4 → allIn 3 64 [c.mt] = x5 → allIn 1 64 [c.z, c.s, c.o, c.a, c.l] = x6 → boundedC c = (x0 && x1 && x2 && x3 && x4 && x5 && x6)) := by
    intro x0 x1 x2 x3 x4 x5 x6 h0 h1 h2 h3 h4 h5 h6
    unfold boundedC
    rw [h0, h1, h2, h3, h4, h5, h6]
  generalize hy0 : allIn 0 1099511627776 [c.id] = y0 at HE
  have HY0 := Lib.hid hy0
  clear hy0
  generalize hy1 : allIn 3 16 [c.m] = y1 at HE
  have HY1 := Lib.hid hy1
  clear hy1
  generalize hy2 : allIn 1 64 [c.u] = y2 at HE
  have HY2 := Lib.hid hy2
  clear hy2
  generalize hy3 : allIn 1 4096 [c.b] = y3 at HE
  have HY3 := Lib.hid hy3
  clear hy3
  generalize hy4 : allIn 1 4096 [c.cp] = y4 at HE
  have HY4 := Lib.hid hy4
  clear hy4
  generalize hy5 : allIn 3 64 [c.mt] = y5 at HE
  have HY5 := Lib.hid hy5
  clear hy5
  generalize hy6 : allIn 1 64 [c.z, c.s, c.o, c.a, c.l] = y6 at HE
  have HY6 := Lib.hid hy6
  clear hy6
  rw [HE.out y0 y1 y2 y3 y4 y5 y6 rfl rfl rfl rfl rfl rfl rfl]
  clear HE
  go_enter Try.func81, Try.ntmps81
  go_wp2_with fail
  have HV0 := Lib.hid (At.new c w)
  have hsz : (w.alloc (.cells #[.int .i64 c.id, .int .i64 c.m, .int .i64 c.u, .int .i64 c.b, .int .i64 c.cp, .int .i64 c.z, .int .i64 c.s, .int .i64 c.mt, .int .i64 c.o, .int .i64 c.a, .int .i64 c.l] 23)).heap.size = w.heap.size + 1 := by simp
  generalize (w.alloc (.cells #[.int .i64 c.id, .int .i64 c.m, .int .i64 c.u, .int .i64 c.b, .int .i64 c.cp, .int .i64 c.z, .int .i64 c.s, .int .i64 c.mt, .int .i64 c.o, .int .i64 c.a, .int .i64 c.l] 23)) = w0 at HV0 hsz ⊢
  have HV1 := Lib.hid (HV0.out.alloc (.cells #[.pointer (some ⟨w.heap.size, 0, none⟩)] 104))
  have hq := Box.fresh w0 104 #[.pointer (some ⟨w.heap.size, 0, none⟩)]
  rw [hsz] at hq
  clear hsz
  generalize w.heap.size + 1 = q at hq ⊢
  generalize (w0.alloc (.cells #[.pointer (some ⟨w.heap.size, 0, none⟩)] 104)) = w1 at HV1 hq ⊢
  clear HV0
  refine (within_any 0 1099511627776 q 0 1 [c.id] w1 (ptrs_one hq (box11 HV1.out.1).1) (by simp)).mono ?_
  rintro e w' ⟨rfl, rfl⟩
  rw [HY0.out]
  clear HY0 hq
  rcases y0 with _ | _
  · clear HY1 HY2 HY3 HY4 HY5 HY6
    go_wp2
    go_ret
    exact ⟨by simp, HV1.out.2.1⟩
  go_wp2_with fail
  have HV2 := Lib.hid (HV1.out.alloc (.cells #[.pointer (some ⟨w.heap.size, 1, none⟩)] 104))
  have hq := Box.fresh w1 104 #[.pointer (some ⟨w.heap.size, 1, none⟩)]
  generalize w1.heap.size = q at hq ⊢
  generalize (w1.alloc (.cells #[.pointer (some ⟨w.heap.size, 1, none⟩)] 104)) = w2 at HV2 hq ⊢
  clear HV1
  refine (within_any 3 16 q 0 1 [c.m] w2 (ptrs_one hq (box11 HV2.out.1).2.1) (by simp)).mono ?_
  rintro e w' ⟨rfl, rfl⟩
  rw [HY1.out]
  clear HY1 hq
  rcases y1 with _ | _
  · clear HY2 HY3 HY4 HY5 HY6
    go_wp2
    go_ret
    exact ⟨by simp, HV2.out.2.1⟩
  go_wp2_with fail
  have HV3 := Lib.hid (HV2.out.alloc (.cells #[.pointer (some ⟨w.heap.size, 2, none⟩)] 104))
  have hq := Box.fresh w2 104 #[.pointer (some ⟨w.heap.size, 2, none⟩)]
  generalize w2.heap.size = q at hq ⊢
  generalize (w2.alloc (.cells #[.pointer (some ⟨w.heap.size, 2, none⟩)] 104)) = w3 at HV3 hq ⊢
  clear HV2
  refine (within_any 1 64 q 0 1 [c.u] w3 (ptrs_one hq (box11 HV3.out.1).2.2.1) (by simp)).mono ?_
  rintro e w' ⟨rfl, rfl⟩
  rw [HY2.out]
  clear HY2 hq
  rcases y2 with _ | _
  · clear HY3 HY4 HY5 HY6
    go_wp2
    go_ret
    exact ⟨by simp, HV3.out.2.1⟩
  go_wp2_with fail
  have HV4 := Lib.hid (HV3.out.alloc (.cells #[.pointer (some ⟨w.heap.size, 3, none⟩)] 104))
  have hq := Box.fresh w3 104 #[.pointer (some ⟨w.heap.size, 3, none⟩)]
  generalize w3.heap.size = q at hq ⊢
  generalize (w3.alloc (.cells #[.pointer (some ⟨w.heap.size, 3, none⟩)] 104)) = w4 at HV4 hq ⊢
  clear HV3
  refine (within_any 1 4096 q 0 1 [c.b] w4 (ptrs_one hq (box11 HV4.out.1).2.2.2.1) (by simp)).mono ?_
  rintro e w' ⟨rfl, rfl⟩
  rw [HY3.out]
  clear HY3 hq
  rcases y3 with _ | _
  · clear HY4 HY5 HY6
    go_wp2
    go_ret
    exact ⟨by simp, HV4.out.2.1⟩
  go_wp2_with fail
  have HV5 := Lib.hid (HV4.out.alloc (.cells #[.pointer (some ⟨w.heap.size, 4, none⟩)] 104))
  have hq := Box.fresh w4 104 #[.pointer (some ⟨w.heap.size, 4, none⟩)]
  generalize w4.heap.size = q at hq ⊢
  generalize (w4.alloc (.cells #[.pointer (some ⟨w.heap.size, 4, none⟩)] 104)) = w5 at HV5 hq ⊢
  clear HV4
  refine (within_any 1 4096 q 0 1 [c.cp] w5 (ptrs_one hq (box11 HV5.out.1).2.2.2.2.1) (by simp)).mono ?_
  rintro e w' ⟨rfl, rfl⟩
  rw [HY4.out]
  clear HY4 hq
  rcases y4 with _ | _
  · clear HY5 HY6
    go_wp2
    go_ret
    exact ⟨by simp, HV5.out.2.1⟩
  go_wp2_with fail
  have HV6 := Lib.hid (HV5.out.alloc (.cells #[.pointer (some ⟨w.heap.size, 7, none⟩)] 104))
  have hq := Box.fresh w5 104 #[.pointer (some ⟨w.heap.size, 7, none⟩)]
  generalize w5.heap.size = q at hq ⊢
  generalize (w5.alloc (.cells #[.pointer (some ⟨w.heap.size, 7, none⟩)] 104)) = w6 at HV6 hq ⊢
  clear HV5
  refine (within_any 3 64 q 0 1 [c.mt] w6 (ptrs_one hq (box11 HV6.out.1).2.2.2.2.2.2.2.1) (by simp)).mono ?_
  rintro e w' ⟨rfl, rfl⟩
  rw [HY5.out]
  clear HY5 hq
  rcases y5 with _ | _
  · clear HY6
    go_wp2
    go_ret
    exact ⟨by simp, HV6.out.2.1⟩
  go_wp2_with fail
  have HV7 := Lib.hid (HV6.out.alloc (.cells #[.pointer (some ⟨w.heap.size, 5, none⟩), .pointer (some ⟨w.heap.size, 6, none⟩), .pointer (some ⟨w.heap.size, 8, none⟩), .pointer (some ⟨w.heap.size, 9, none⟩), .pointer (some ⟨w.heap.size, 10, none⟩)] 104))
  have hq := Box.fresh w6 104 #[.pointer (some ⟨w.heap.size, 5, none⟩), .pointer (some ⟨w.heap.size, 6, none⟩), .pointer (some ⟨w.heap.size, 8, none⟩), .pointer (some ⟨w.heap.size, 9, none⟩), .pointer (some ⟨w.heap.size, 10, none⟩)]
  generalize w6.heap.size = q at hq ⊢
  generalize (w6.alloc (.cells #[.pointer (some ⟨w.heap.size, 5, none⟩), .pointer (some ⟨w.heap.size, 6, none⟩), .pointer (some ⟨w.heap.size, 8, none⟩), .pointer (some ⟨w.heap.size, 9, none⟩), .pointer (some ⟨w.heap.size, 10, none⟩)] 104)) = w7 at HV7 hq ⊢
  clear HV6
  refine (within_any 1 64 q 0 5 [c.z, c.s, c.o, c.a, c.l] w7 (ptrs_five hq HV7.out.1) (by simp)).mono ?_
  rintro e w' ⟨rfl, rfl⟩
  rw [HY6.out]
  clear HY6 hq
  rcases y6 with _ | _
  · go_wp2
    go_ret
    exact ⟨rfl, HV7.out.2.1⟩
  · go_wp2
    go_ret
    exact ⟨rfl, HV7.out.2.1⟩
end Go.Proofs.Ytaceaemombnhkaa
