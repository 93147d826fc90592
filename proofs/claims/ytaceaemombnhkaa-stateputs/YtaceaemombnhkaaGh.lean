/- The contract of getState. -/
import Derived.Test.YtaceaemombnhkaaGs
namespace Go.Proofs.Ytaceaemombnhkaa
set_option linter.unusedVariables false
set_option maxRecDepth 100000
set_option linter.unusedSimpArgs false
open Go.RowKit
open Go.RowKit (wrap64)

theorem boxes3' (w : World) (t u v : TypeId) (a b d : Array Value) : Box (((w.alloc (.cells a t)).alloc (.cells b u)).alloc (.cells d v)) w.heap.size t a ∧ Box (((w.alloc (.cells a t)).alloc (.cells b u)).alloc (.cells d v)) (w.heap.size + 1) u b ∧ Box (((w.alloc (.cells a t)).alloc (.cells b u)).alloc (.cells d v)) (w.heap.size + 2) v d ∧ Below w.heap.size w (((w.alloc (.cells a t)).alloc (.cells b u)).alloc (.cells d v)) ∧ (((w.alloc (.cells a t)).alloc (.cells b u)).alloc (.cells d v)).heap.size = w.heap.size + 3 := by
  obtain ⟨h1, h2, h3, h4⟩ := two_boxes' w t u a b
  have hb := (Below.refl ((w.alloc (.cells a t)).alloc (.cells b u)).heap.size _).alloc (Nat.le_refl _) (.cells d v)
  refine ⟨h1.later hb, h2.later hb, ?_, h3.alloc (by omega) _, by simp⟩
  have h := Box.fresh ((w.alloc (.cells a t)).alloc (.cells b u)) v d
  rw [h4] at h
  exact h
/-- What getState answers. -/
def ReadS (w : World) (p : Nat) (q : St × (List UInt8 × Int)) (e : Ending) (w' : World) : Prop :=
  ∃ A k D d, e = .returned (.agg #[.int .i64 q.1.c.id, .int .i64 q.1.c.m, .int .i64 q.1.c.u, .int .i64 q.1.c.b, .int .i64 q.1.c.cp, .int .i64 q.1.c.z, .int .i64 q.1.c.s, .int .i64 q.1.c.mt, .int .i64 q.1.c.o, .int .i64 q.1.c.a, .int .i64 q.1.c.l, .int .i64 q.1.ep, .int .i64 q.1.sq, .slice A q.1.st.length k, .slice D q.1.zs.length d]) ∧ StAt w' (NW w.heap.size w') A q.1.st k D q.1.zs d ∧ Rdr w' p q.2.1 q.2.2 ∧ w.grownBy w' (some p)
set_option maxHeartbeats 4000000 in
theorem getState_any (c : Cf) (l : List UInt8) (p : Nat) (w : World) (h : Rdr w p l 0) (hgd : Good c) :
    Calls Try.prog 45 #[(.agg #[.int .i64 1, .int .i64 1099511627776, .int .i64 0, .int .i64 1099511627776, .int .i64 0, .int .i64 2, .int .i64 0, .int .i64 1099511627776, .int .i64 (-1), .int .i64 (slotsC c - 1), .int .i64 0, .int .i64 (sizeC c), .int .i64 0, .int .i64 2, .int .i64 1, .int .i64 (sizeC c), .int .i64 (c.u * c.b)]), .pointer (some ⟨p, 0, none⟩), (.agg #[.int .i64 c.id, .int .i64 c.m, .int .i64 c.u, .int .i64 c.b, .int .i64 c.cp, .int .i64 c.z, .int .i64 c.s, .int .i64 c.mt, .int .i64 c.o, .int .i64 c.a, .int .i64 c.l])] w (ReadS w p (getB c l)) := by
  have hp : p < w.heap.size := by
    obtain ⟨A, k, hb, _⟩ := h
    exact hb.lt
  obtain ⟨m, hm⟩ : ∃ m : Nat, c.m = (m : Int) := ⟨c.m.toNat, by have := hgd.2.2.1; omega⟩
  obtain ⟨n, hn⟩ : ∃ n : Nat, c.z = (n : Int) := ⟨c.z.toNat, by unfold Good at hgd; omega⟩
  have hm2 : m ≤ 64 := by unfold Good at hgd; omega
  have hn2 : n ≤ 64 := by unfold Good at hgd; omega
  have hpb : c.u * c.b ≤ 10000000 := by
    obtain ⟨h1, h2, h3, h4, h5, h6, h7, h8, _⟩ := hgd
    have hm := mul_in (a := c.u) (b := c.b) (A := 64) (B := 4096) (by omega) h6 (by omega) h8
    omega
  have HM2 : Hid (m ≤ 64 ∧ n ≤ 64) := ⟨hm2, hn2⟩
  have HPB := Lib.hid hpb
  have hmk1 : ∀ w, (Instr.makeSlice 24 (.int .i64 c.m) (.int .i64 c.m)).run Try.prog w = .ok (.slice (some ⟨w.heap.size, 0, none⟩) m m) (w.alloc (.cells (zintRow m).toArray 3)) := fun w => by
    rw [hm]
    have h := run_make_row' (P := Try.prog) 24 3 (.int .i64 0) 8 Try.underlying24 Try.info3 rfl .i64 .i64 m (by omega) (by omega) w
    rw [zints_made] at h
    exact h
  have hmk2 : ∀ w, (Instr.makeSlice 25 (.int .i64 c.z) (.int .i64 c.z)).run Try.prog w = .ok (.slice (some ⟨w.heap.size, 0, none⟩) n n) (w.alloc (.cells (nzRow n 0).toArray 51)) := fun w => by
    obtain ⟨i0, hi, hz0, hz1, hz2⟩ := info_parts Try.info51
    rw [hn]
    have h := run_make (P := Try.prog) w 25 51 i0 _ Try.underlying25 hi hz0 .i64 .i64 n n (by omega) (by omega) (by rw [hz2]; omega) (by omega)
    rw [h, hz1, Int.toNat_natCast, ← nzRow_made n]
    rfl
  have HMK := Lib.hid (And.intro hmk1 hmk2)
  clear hmk1 hmk2
  obtain ⟨ep, x1, e0⟩ : ∃ v x, rI l 0 1 1099511627776 = (v, x) := ⟨_, _, rfl⟩
  obtain ⟨sq, x2, e1⟩ : ∃ v x, rI x1.1 x1.2 0 1099511627776 = (v, x) := ⟨_, _, rfl⟩
  have HC0 : Hid (∀ w, Rdr w p l 0 → Calls Try.prog 79 #[.agg #[.int .i64 1, .int .i64 1099511627776], .pointer (some ⟨p, 0, none⟩)] w fun e w' => e = .returned (.int .i64 ep) ∧ Rdr w' p x1.1 x1.2 ∧ w.grownBy w' (some p)) := fun w h => by
    have h2 := read_any l 0 1 1099511627776 p w h
    rw [e0] at h2
    exact h2
  have HC1 : Hid (∀ w, Rdr w p x1.1 x1.2 → Calls Try.prog 79 #[.agg #[.int .i64 0, .int .i64 1099511627776], .pointer (some ⟨p, 0, none⟩)] w fun e w' => e = .returned (.int .i64 sq) ∧ Rdr w' p x2.1 x2.2 ∧ w.grownBy w' (some p)) := fun w h => by
    have h2 := read_any x1.1 x1.2 0 1099511627776 p w h
    rw [e1] at h2
    exact h2
  have HB : Hid (getB c l = (⟨c, ep, sq, (getIs m x2).1, (getZs (slotsC c - 1) (sizeC c) (c.u * c.b) n (getIs m x2).2).1⟩, (getZs (slotsC c - 1) (sizeC c) (c.u * c.b) n (getIs m x2).2).2)) := by
    show getB c l = _
    unfold getB
    dsimp only
    rw [e0]
    dsimp only
    rw [e1, hm, hn, Int.toNat_natCast, Int.toNat_natCast]
  generalize getB c l = gb at HB ⊢
  clear e0 e1 hm hn hm2 hn2 hpb hgd
  go_enter Try.func45, Try.ntmps45
  go_upto_region 1 with fail
  have HV : Hid (SIn c p w (l, 0) (((w.alloc (.cells #[.int .i64 1, .int .i64 1099511627776, .int .i64 0, .int .i64 1099511627776, .int .i64 0, .int .i64 2, .int .i64 0, .int .i64 1099511627776, .int .i64 (-1), .int .i64 (slotsC c - 1), .int .i64 0, .int .i64 (sizeC c), .int .i64 0, .int .i64 2, .int .i64 1, .int .i64 (sizeC c), .int .i64 (c.u * c.b)] 81)).alloc (.cells #[.int .i64 c.id, .int .i64 c.m, .int .i64 c.u, .int .i64 c.b, .int .i64 c.cp, .int .i64 c.z, .int .i64 c.s, .int .i64 c.mt, .int .i64 c.o, .int .i64 c.a, .int .i64 c.l] 23)).alloc (.cells #[.int .i64 0, .int .i64 0, .int .i64 0, .int .i64 0, .int .i64 0, .int .i64 0, .int .i64 0, .int .i64 0, .int .i64 0, .int .i64 0, .int .i64 0, .int .i64 0, .int .i64 0, .slice none 0 0, .slice none 0 0] 27)).drew) := by
    obtain ⟨h1, h2, h3, h4, h5⟩ := boxes3' w 81 23 27 #[.int .i64 1, .int .i64 1099511627776, .int .i64 0, .int .i64 1099511627776, .int .i64 0, .int .i64 2, .int .i64 0, .int .i64 1099511627776, .int .i64 (-1), .int .i64 (slotsC c - 1), .int .i64 0, .int .i64 (sizeC c), .int .i64 0, .int .i64 2, .int .i64 1, .int .i64 (sizeC c), .int .i64 (c.u * c.b)] #[.int .i64 c.id, .int .i64 c.m, .int .i64 c.u, .int .i64 c.b, .int .i64 c.cp, .int .i64 c.z, .int .i64 c.s, .int .i64 c.mt, .int .i64 c.o, .int .i64 c.a, .int .i64 c.l] #[.int .i64 0, .int .i64 0, .int .i64 0, .int .i64 0, .int .i64 0, .int .i64 0, .int .i64 0, .int .i64 0, .int .i64 0, .int .i64 0, .int .i64 0, .int .i64 0, .int .i64 0, .slice none 0 0, .slice none 0 0]
    exact ⟨h.below h4.drew hp, h1.later (Below.refl _ _).drew, h2.later (Below.refl _ _).drew, h3.later (Below.refl _ _).drew, (Turn.of_below h4 (Nat.le_refl _)).drew, Nat.le_of_eq h5.symm⟩
  have HW : Hid ((((w.alloc (.cells #[.int .i64 1, .int .i64 1099511627776, .int .i64 0, .int .i64 1099511627776, .int .i64 0, .int .i64 2, .int .i64 0, .int .i64 1099511627776, .int .i64 (-1), .int .i64 (slotsC c - 1), .int .i64 0, .int .i64 (sizeC c), .int .i64 0, .int .i64 2, .int .i64 1, .int .i64 (sizeC c), .int .i64 (c.u * c.b)] 81)).alloc (.cells #[.int .i64 c.id, .int .i64 c.m, .int .i64 c.u, .int .i64 c.b, .int .i64 c.cp, .int .i64 c.z, .int .i64 c.s, .int .i64 c.mt, .int .i64 c.o, .int .i64 c.a, .int .i64 c.l] 23)).alloc (.cells #[.int .i64 0, .int .i64 0, .int .i64 0, .int .i64 0, .int .i64 0, .int .i64 0, .int .i64 0, .int .i64 0, .int .i64 0, .int .i64 0, .int .i64 0, .int .i64 0, .int .i64 0, .slice none 0 0, .slice none 0 0] 27)).drew.heap.size = w.heap.size + 3) := (boxes3' w 81 23 27 #[.int .i64 1, .int .i64 1099511627776, .int .i64 0, .int .i64 1099511627776, .int .i64 0, .int .i64 2, .int .i64 0, .int .i64 1099511627776, .int .i64 (-1), .int .i64 (slotsC c - 1), .int .i64 0, .int .i64 (sizeC c), .int .i64 0, .int .i64 2, .int .i64 1, .int .i64 (sizeC c), .int .i64 (c.u * c.b)] #[.int .i64 c.id, .int .i64 c.m, .int .i64 c.u, .int .i64 c.b, .int .i64 c.cp, .int .i64 c.z, .int .i64 c.s, .int .i64 c.mt, .int .i64 c.o, .int .i64 c.a, .int .i64 c.l] #[.int .i64 0, .int .i64 0, .int .i64 0, .int .i64 0, .int .i64 0, .int .i64 0, .int .i64 0, .int .i64 0, .int .i64 0, .int .i64 0, .int .i64 0, .int .i64 0, .int .i64 0, .slice none 0 0, .slice none 0 0]).2.2.2.2
  refine wpG_start [p] (by kernel_rfl) ?_
  generalize (((w.alloc (.cells #[.int .i64 1, .int .i64 1099511627776, .int .i64 0, .int .i64 1099511627776, .int .i64 0, .int .i64 2, .int .i64 0, .int .i64 1099511627776, .int .i64 (-1), .int .i64 (slotsC c - 1), .int .i64 0, .int .i64 (sizeC c), .int .i64 0, .int .i64 2, .int .i64 1, .int .i64 (sizeC c), .int .i64 (c.u * c.b)] 81)).alloc (.cells #[.int .i64 c.id, .int .i64 c.m, .int .i64 c.u, .int .i64 c.b, .int .i64 c.cp, .int .i64 c.z, .int .i64 c.s, .int .i64 c.mt, .int .i64 c.o, .int .i64 c.a, .int .i64 c.l] 23)).alloc (.cells #[.int .i64 0, .int .i64 0, .int .i64 0, .int .i64 0, .int .i64 0, .int .i64 0, .int .i64 0, .int .i64 0, .int .i64 0, .int .i64 0, .int .i64 0, .int .i64 0, .int .i64 0, .slice none 0 0, .slice none 0 0] 27)).drew = w1 at HV HW ⊢
  have hp1 : p ≠ w.heap.size := by omega
  have hp2 : p ≠ w.heap.size + 1 := by omega
  refine wpG_take (i := 0) (d := 10) (v := ?v1x0) rfl rfl (by kernel_rfl) (by kernel_rfl) (by kernel_rfl) (fun _ _ _ h => h) (by rfl) ?y1x0 ?r1x0
  case y1x0 => (intro w' hSw; obtain ⟨y0, y1, y2, y3, y4, y5, y6, y7, y8, y9, y10, y11, y12, y13, y14, y15, y16⟩ := box17 (HV.out.2.1.turn hSw (by simpa using Ne.symm hp1)); obtain ⟨z0, z1, z2, z3, z4, z5, z6, z7, z8, z9, z10⟩ := box11 (HV.out.2.2.1.turn hSw (by simpa using Ne.symm hp2)); go_simp; try (with_reducible rfl))
  simp only [Act.put, List.setIfInBounds_toArray, List.set_cons_zero, List.set_cons_succ]
  refine wpG_take (i := 1) (d := 11) (v := ?v1x1) rfl rfl (by kernel_rfl) (by kernel_rfl) (by kernel_rfl) (fun _ _ _ h => h) (by rfl) ?y1x1 ?r1x1
  case y1x1 => (intro w' hSw; obtain ⟨y0, y1, y2, y3, y4, y5, y6, y7, y8, y9, y10, y11, y12, y13, y14, y15, y16⟩ := box17 (HV.out.2.1.turn hSw (by simpa using Ne.symm hp1)); obtain ⟨z0, z1, z2, z3, z4, z5, z6, z7, z8, z9, z10⟩ := box11 (HV.out.2.2.1.turn hSw (by simpa using Ne.symm hp2)); go_simp; try (with_reducible rfl))
  simp only [Act.put, List.setIfInBounds_toArray, List.set_cons_zero, List.set_cons_succ]
  refine wpG_take (i := 2) (d := 12) (v := ?v1x2) rfl rfl (by kernel_rfl) (by kernel_rfl) (by kernel_rfl) (fun _ _ _ h => h) (by rfl) ?y1x2 ?r1x2
  case y1x2 => (intro w' hSw; obtain ⟨y0, y1, y2, y3, y4, y5, y6, y7, y8, y9, y10, y11, y12, y13, y14, y15, y16⟩ := box17 (HV.out.2.1.turn hSw (by simpa using Ne.symm hp1)); obtain ⟨z0, z1, z2, z3, z4, z5, z6, z7, z8, z9, z10⟩ := box11 (HV.out.2.2.1.turn hSw (by simpa using Ne.symm hp2)); go_simp; try (with_reducible rfl))
  simp only [Act.put, List.setIfInBounds_toArray, List.set_cons_zero, List.set_cons_succ]
  refine wpG_take (i := 3) (d := 13) (v := ?v1x3) rfl rfl (by kernel_rfl) (by kernel_rfl) (by kernel_rfl) (fun _ _ _ h => h) (by rfl) ?y1x3 ?r1x3
  case y1x3 => (intro w' hSw; obtain ⟨y0, y1, y2, y3, y4, y5, y6, y7, y8, y9, y10, y11, y12, y13, y14, y15, y16⟩ := box17 (HV.out.2.1.turn hSw (by simpa using Ne.symm hp1)); obtain ⟨z0, z1, z2, z3, z4, z5, z6, z7, z8, z9, z10⟩ := box11 (HV.out.2.2.1.turn hSw (by simpa using Ne.symm hp2)); go_simp; try (with_reducible rfl))
  simp only [Act.put, List.setIfInBounds_toArray, List.set_cons_zero, List.set_cons_succ]
  refine wpG_take (i := 5) (d := 15) (v := ?v1x5) rfl rfl (by kernel_rfl) (by kernel_rfl) (by kernel_rfl) (fun _ _ _ h => h) (by rfl) ?y1x5 ?r1x5
  case y1x5 => (intro w' hSw; obtain ⟨y0, y1, y2, y3, y4, y5, y6, y7, y8, y9, y10, y11, y12, y13, y14, y15, y16⟩ := box17 (HV.out.2.1.turn hSw (by simpa using Ne.symm hp1)); obtain ⟨z0, z1, z2, z3, z4, z5, z6, z7, z8, z9, z10⟩ := box11 (HV.out.2.2.1.turn hSw (by simpa using Ne.symm hp2)); go_simp; try (with_reducible rfl))
  simp only [Act.put, List.setIfInBounds_toArray, List.set_cons_zero, List.set_cons_succ]
  refine wpG_take (i := 6) (d := 16) (v := ?v1x6) rfl rfl (by kernel_rfl) (by kernel_rfl) (by kernel_rfl) (fun _ _ _ h => h) (by rfl) ?y1x6 ?r1x6
  case y1x6 => (intro w' hSw; obtain ⟨y0, y1, y2, y3, y4, y5, y6, y7, y8, y9, y10, y11, y12, y13, y14, y15, y16⟩ := box17 (HV.out.2.1.turn hSw (by simpa using Ne.symm hp1)); obtain ⟨z0, z1, z2, z3, z4, z5, z6, z7, z8, z9, z10⟩ := box11 (HV.out.2.2.1.turn hSw (by simpa using Ne.symm hp2)); go_simp; try (with_reducible rfl))
  simp only [Act.put, List.setIfInBounds_toArray, List.set_cons_zero, List.set_cons_succ]
  refine wpG_take (i := 7) (d := 17) (v := ?v1x7) rfl rfl (by kernel_rfl) (by kernel_rfl) (by kernel_rfl) (fun _ _ _ h => h) (by rfl) ?y1x7 ?r1x7
  case y1x7 => (intro w' hSw; obtain ⟨y0, y1, y2, y3, y4, y5, y6, y7, y8, y9, y10, y11, y12, y13, y14, y15, y16⟩ := box17 (HV.out.2.1.turn hSw (by simpa using Ne.symm hp1)); obtain ⟨z0, z1, z2, z3, z4, z5, z6, z7, z8, z9, z10⟩ := box11 (HV.out.2.2.1.turn hSw (by simpa using Ne.symm hp2)); go_simp; try (with_reducible rfl))
  simp only [Act.put, List.setIfInBounds_toArray, List.set_cons_zero, List.set_cons_succ]
  refine wpG_take (i := 9) (d := 19) (v := ?v1x9) rfl rfl (by kernel_rfl) (by kernel_rfl) (by kernel_rfl) (fun _ _ _ h => h) (by rfl) ?y1x9 ?r1x9
  case y1x9 => (intro w' hSw; obtain ⟨y0, y1, y2, y3, y4, y5, y6, y7, y8, y9, y10, y11, y12, y13, y14, y15, y16⟩ := box17 (HV.out.2.1.turn hSw (by simpa using Ne.symm hp1)); obtain ⟨z0, z1, z2, z3, z4, z5, z6, z7, z8, z9, z10⟩ := box11 (HV.out.2.2.1.turn hSw (by simpa using Ne.symm hp2)); go_simp; try (with_reducible rfl))
  simp only [Act.put, List.setIfInBounds_toArray, List.set_cons_zero, List.set_cons_succ]
  refine wpG_take (i := 10) (d := 20) (v := ?v1x10) rfl rfl (by kernel_rfl) (by kernel_rfl) (by kernel_rfl) (fun _ _ _ h => h) (by rfl) ?y1x10 ?r1x10
  case y1x10 => (intro w' hSw; obtain ⟨y0, y1, y2, y3, y4, y5, y6, y7, y8, y9, y10, y11, y12, y13, y14, y15, y16⟩ := box17 (HV.out.2.1.turn hSw (by simpa using Ne.symm hp1)); obtain ⟨z0, z1, z2, z3, z4, z5, z6, z7, z8, z9, z10⟩ := box11 (HV.out.2.2.1.turn hSw (by simpa using Ne.symm hp2)); go_simp; try (with_reducible rfl))
  simp only [Act.put, List.setIfInBounds_toArray, List.set_cons_zero, List.set_cons_succ]
  refine wpG_take (i := 12) (d := 22) (v := ?v1x12) rfl rfl (by kernel_rfl) (by kernel_rfl) (by kernel_rfl) (fun _ _ _ h => h) (by rfl) ?y1x12 ?r1x12
  case y1x12 => (intro w' hSw; obtain ⟨y0, y1, y2, y3, y4, y5, y6, y7, y8, y9, y10, y11, y12, y13, y14, y15, y16⟩ := box17 (HV.out.2.1.turn hSw (by simpa using Ne.symm hp1)); obtain ⟨z0, z1, z2, z3, z4, z5, z6, z7, z8, z9, z10⟩ := box11 (HV.out.2.2.1.turn hSw (by simpa using Ne.symm hp2)); go_simp; try (with_reducible rfl))
  simp only [Act.put, List.setIfInBounds_toArray, List.set_cons_zero, List.set_cons_succ]
  refine wpG_take (i := 13) (d := 23) (v := ?v1x13) rfl rfl (by kernel_rfl) (by kernel_rfl) (by kernel_rfl) (fun _ _ _ h => h) (by rfl) ?y1x13 ?r1x13
  case y1x13 => (intro w' hSw; obtain ⟨y0, y1, y2, y3, y4, y5, y6, y7, y8, y9, y10, y11, y12, y13, y14, y15, y16⟩ := box17 (HV.out.2.1.turn hSw (by simpa using Ne.symm hp1)); obtain ⟨z0, z1, z2, z3, z4, z5, z6, z7, z8, z9, z10⟩ := box11 (HV.out.2.2.1.turn hSw (by simpa using Ne.symm hp2)); go_simp; try (with_reducible rfl))
  simp only [Act.put, List.setIfInBounds_toArray, List.set_cons_zero, List.set_cons_succ]
  refine wpG_island (fuel := 1) [(4, 14), (8, 18)] [(11, 21), (14, 24), (16, 7), (15, 25)] #[true, true, true, true, true, true, true, true, true, true, true, true, true, true, true, true, true, false] 6 (fun j w' => SIn c p w (match j with | 0 => (l, 0) | 1 => x1 | _ => x2) w') (fun i v w' => match i with | 4 => v = .int .i64 ep | 8 => v = .int .i64 sq | 11 => ∃ b1, v = .slice (some ⟨b1, 0, none⟩) m m ∧ Box w' b1 3 (zintRow m).toArray ∧ w.heap.size + 3 ≤ b1 | 14 => ∃ b2, v = .slice (some ⟨b2, 0, none⟩) n n ∧ Box w' b2 51 (nzRow n 0).toArray ∧ w.heap.size + 3 ≤ b2 | 16 => ∃ g, v = .pointer (some ⟨g, 0, none⟩) ∧ Box w' g 27 #[.int .i64 0, .int .i64 0, .int .i64 0, .int .i64 0, .int .i64 0, .int .i64 0, .int .i64 0, .int .i64 0, .int .i64 0, .int .i64 0, .int .i64 0, .int .i64 0, .int .i64 0, .slice none 0 0, .slice none 0 0] ∧ w1.heap.size ≤ g | 15 => ∃ b1 b2, v = .agg #[.int .i64 c.id, .int .i64 c.m, .int .i64 c.u, .int .i64 c.b, .int .i64 c.cp, .int .i64 c.z, .int .i64 c.s, .int .i64 c.mt, .int .i64 c.o, .int .i64 c.a, .int .i64 c.l, .int .i64 ep, .int .i64 sq, .slice (some ⟨b1, 0, none⟩) m m, .slice (some ⟨b2, 0, none⟩) n n] ∧ Box w' b1 3 (zintRow m).toArray ∧ w.heap.size + 3 ≤ b1 ∧ Box w' b2 51 (nzRow n 0).toArray ∧ w.heap.size + 3 ≤ b2 | _ => True) (by kernel_rfl) (by kernel_rfl) (by decide) (by decide) (by kernel_rfl) (by kernel_rfl) ?_ (HV.out) ⟨?_, ?_, trivial⟩ ⟨?_, ?_, ?_, ?_, trivial⟩ ?_
  · intro i v w1 w2 hT h
    revert h
    split
    case h_3 => exact fun ⟨b1, e, hb, hl⟩ => ⟨b1, e, hb.turn hT (by simp; omega), hl⟩
    case h_4 => exact fun ⟨b1, e, hb, hl⟩ => ⟨b1, e, hb.turn hT (by simp; omega), hl⟩
    case h_5 => exact fun ⟨b1, e, hb, hl⟩ => ⟨b1, e, hb.turn hT (by have := HW.out; simp; omega), hl⟩
    case h_6 => exact fun ⟨b1, b2, e, hb, hl, hb2, hl2⟩ => ⟨b1, b2, e, hb.turn hT (by simp; omega), hl, hb2.turn hT (by simp; omega), hl2⟩
    all_goals exact id
  · as_aux_lemma =>
      intro u w1 hT hX hW a ha K hK
      simp only [List.cons_append, List.nil_append, puts, Act.put, List.setIfInBounds_toArray, List.set_cons_zero, List.set_cons_succ] at ha
      subst ha
      have HX := Lib.hid hX
      clear hX hW HV
      refine wpOp_run rfl (by rfl) ?_
      go_simp
      refine (HC0.out w1 HX.out.1).mono ?_
      rintro e w2 ⟨rfl, hr, hg⟩
      exact hK.out _ w2 (Turn.ofGrown hg) (HX.out.call hp hr hg) rfl
  · as_aux_lemma =>
      intro u w1 hT hX hW a ha K hK
      simp only [List.cons_append, List.nil_append, puts, Act.put, List.setIfInBounds_toArray, List.set_cons_zero, List.set_cons_succ] at ha
      subst ha
      have HX := Lib.hid hX
      clear hX hW HV
      refine wpOp_run rfl (by rfl) ?_
      go_simp
      refine (HC1.out w1 HX.out.1).mono ?_
      rintro e w2 ⟨rfl, hr, hg⟩
      exact hK.out _ w2 (Turn.ofGrown hg) (HX.out.call hp hr hg) rfl
  · as_aux_lemma =>
      intro u w1 j hT hX hW a ha K hK
      simp only [List.cons_append, List.nil_append, puts, Act.put, List.setIfInBounds_toArray, List.set_cons_zero, List.set_cons_succ] at ha
      subst ha
      have HX := Lib.hid hX
      have hmk := HMK.out.1
      clear hX hW HV
      refine wpOp_run rfl (by rfl) ?_
      go_simp
      exact hK.out _ _ ((Turn.refl _ _).alloc _) (HX.out.alloc hp _) ⟨_, rfl, Box.fresh w1 3 _, HX.out.2.2.2.2.2⟩
  · as_aux_lemma =>
      intro u w1 j hT hX hW a ha K hK
      simp only [List.cons_append, List.nil_append, puts, Act.put, List.setIfInBounds_toArray, List.set_cons_zero, List.set_cons_succ] at ha
      subst ha
      have HX := Lib.hid hX
      have hmk := HMK.out.2
      clear hX hW HV
      refine wpOp_run rfl (by rfl) ?_
      go_simp
      exact hK.out _ _ ((Turn.refl _ _).alloc _) (HX.out.alloc hp _) ⟨_, rfl, Box.fresh w1 51 _, HX.out.2.2.2.2.2⟩
  · as_aux_lemma =>
      intro u w1 j hT hX hW a ha K hK
      simp only [List.cons_append, List.nil_append, puts, Act.put, List.setIfInBounds_toArray, List.set_cons_zero, List.set_cons_succ] at ha
      subst ha
      have HX := Lib.hid hX
      have HT := Lib.hid hT.size
      clear hX hW HV
      refine wpOp_run rfl (by rfl) ?_
      go_simp
      exact hK.out _ _ ((Turn.refl _ _).alloc _) (HX.out.alloc hp _) ⟨_, rfl, Box.fresh w1 27 _, HT.out⟩
  · all_goals
      intro u w1 j hT hX hW a ha K hK
      simp only [List.cons_append, List.nil_append, puts, Act.put, List.setIfInBounds_toArray, List.set_cons_zero, List.set_cons_succ] at ha
      subst ha
      have HX := Lib.hid hX
      have f4 : u 4 = .int .i64 ep := hW 4 (by decide) (by kernel_rfl)
      have f8 : u 8 = .int .i64 sq := hW 8 (by decide) (by kernel_rfl)
      obtain ⟨b1, f11, g1⟩ : ∃ b1, u 11 = .slice (some ⟨b1, 0, none⟩) m m ∧ Box w1 b1 3 (zintRow m).toArray ∧ w.heap.size + 3 ≤ b1 := hW 11 (by decide) (by kernel_rfl)
      obtain ⟨b2, f14, g2⟩ : ∃ b2, u 14 = .slice (some ⟨b2, 0, none⟩) n n ∧ Box w1 b2 51 (nzRow n 0).toArray ∧ w.heap.size + 3 ≤ b2 := hW 14 (by decide) (by kernel_rfl)
      have HA := Lib.hid (And.intro g1 g2)
      rw [f4, f8, f11, f14] at hK ⊢
      clear f4 f8 f11 f14 g1 g2
      clear hX hW HV
      refine wpOp_run rfl (by rfl) ?_
      go_simp
      exact hK.out _ w1 (Turn.refl _ _) HX.out ⟨b1, b2, rfl, HA.out.1.1, HA.out.1.2, HA.out.2.1, HA.out.2.2⟩
  · intro u w2 hT hX hF a ha
    simp only [List.cons_append, List.nil_append, puts, Act.put, List.setIfInBounds_toArray, List.set_cons_zero, List.set_cons_succ] at ha
    obtain ⟨g4, g8, g11, g14, g16, g15, -⟩ := hF
    obtain ⟨g, hg, hb, hgw⟩ := g16
    obtain ⟨b1, b2, hv, hb1, hl1, hb2, hl2⟩ := g15
    rw [hv, hg] at ha
    subst ha
    have hgw1 : w.heap.size + 3 ≤ g := by rw [← HW.out]; exact hgw
    have HST : Hid (∀ w3, Box w3 g 27 #[.int .i64 c.id, .int .i64 c.m, .int .i64 c.u, .int .i64 c.b, .int .i64 c.cp, .int .i64 c.z, .int .i64 c.s, .int .i64 c.mt, .int .i64 c.o, .int .i64 c.a, .int .i64 c.l, .int .i64 ep, .int .i64 sq, .slice (some ⟨b1, 0, none⟩) m m, .slice (some ⟨b2, 0, none⟩) n n] → Turn [g] w2 w3 → SL c p w x2 g b1 b2 ep sq m n (List.replicate m 0) [] [] (nzRow n 0) w3) := fun w3 q1 q2 => SIn.store hp hX hb hb1 hb2 ⟨hgw1, hl1, hl2⟩ q1 q2
    have HBX := Lib.hid hb
    clear g4 g8 g11 g14 hg hb hv hb1 hl1 hb2 hl2 hgw1 hT hX HV HW
    refine ⟨[p, g], fun k hk => ?_, ?_⟩
    · rcases List.mem_cons.1 hk with rfl | hk
      · exact Or.inl (by simp)
      · have : k = g := by simpa using hk
        exact Or.inr (by omega)
    clear hgw
    generalize u 4 = u4, u 8 = u8, u 11 = u11, u 14 = u14
    refine wpG_do (i := 17) (by kernel_rfl) rfl (by rfl) (fun K hK => ?_)
    refine oper_store27 (.tmp 7) (.tmp 25) rfl g #[.int .i64 c.id, .int .i64 c.m, .int .i64 c.u, .int .i64 c.b, .int .i64 c.cp, .int .i64 c.z, .int .i64 c.s, .int .i64 c.mt, .int .i64 c.o, .int .i64 c.a, .int .i64 c.l, .int .i64 ep, .int .i64 sq, .slice (some ⟨b1, 0, none⟩) m m, .slice (some ⟨b2, 0, none⟩) n n] _ HBX.out rfl rfl (by first | kernel_rfl | simp [Value.oneCell']) rfl rfl (fun w3 q1 q2 => ?_)
    refine hK.out _ _ (q2 _ (by simp)) ?_
    have HL := Lib.hid (HST.out w3 q1 (q2 _ (by simp)))
    clear hK HST HBX q1 q2
    simp only [Act.put]
    refine wpG_done (by kernel_rfl) ?_
    obtain ⟨y0, y1, y2, y3, y4, y5, y6, y7, y8, y9, y10, y11, y12, y13, y14⟩ := box15 HL.out.var
    have hm2 := HM2.out.1
    have hn2 := HM2.out.2
    go_wp2
    clear y0 y1 y2 y3 y4 y5 y6 y7 y8 y9 y10 y11 y12 y13 y14
    go_loopw [29] (fun i wr => ∃ q : Nat, q ≤ m ∧ i = .int .i64 q ∧ SL c p w (getIs q x2).2 g b1 b2 ep sq m n ((getIs q x2).1 ++ List.replicate (m - q) 0) [] [] (nzRow n 0) wr) (fun i _ => m - (intOf i).toNat)
    case atStart => exact ⟨0, Nat.zero_le _, rfl, HL.out⟩
    case round =>
      clear HL
      obtain ⟨q, hq, rfl, hst⟩ := hrel
      have HS := Lib.hid hst
      clear hst
      by_cases hlt : q < m
      · obtain ⟨I, X, hX⟩ : ∃ I X, getIs q x2 = (I, X) := ⟨_, _, rfl⟩
        obtain ⟨v, y1, hy1⟩ : ∃ v x, rI X.1 X.2 0 2 = (v, x) := ⟨_, _, rfl⟩
        have HCa : Hid (∀ w, Rdr w p X.1 X.2 → Calls Try.prog 79 #[.agg #[.int .i64 0, .int .i64 2], .pointer (some ⟨p, 0, none⟩)] w fun e w' => e = .returned (.int .i64 v) ∧ Rdr w' p y1.1 y1.2 ∧ w.grownBy w' (some p)) := fun w h => by
          have h2 := read_any X.1 X.2 0 2 p w h
          rw [hy1] at h2
          exact h2
        have HN := Lib.hid (getIs_step q x2 hX hy1)
        have HIL : Hid (I.length = q) := by
          show _ = _
          rw [← getIs_len q x2, hX]
        rw [hX] at HS
        dsimp only at HS
        clear hX hy1
        have HSZ : Hid ((I ++ List.replicate (m - q) 0).set q v = (I ++ [v]) ++ List.replicate (m - (q + 1)) 0) := by
          have h := set_zeros HIL.out (show 0 < m - q by omega) v
          rw [Nat.sub_sub] at h
          exact h
        have hI0 : ∃ v0, (I ++ List.replicate (m - q) 0)[q]? = some v0 := by
          have : q < (I ++ List.replicate (m - q) 0).length := by rw [List.length_append, List.length_replicate, HIL.out]; omega
          exact ⟨_, List.getElem?_eq_getElem this⟩
        obtain ⟨v0, hI0⟩ := hI0
        have HI0 := Lib.hid hI0
        clear hI0
        generalize I ++ List.replicate (m - q) 0 = J at HS HSZ HI0
        go_upto_region 5 with fail
        refine wpG_start [p, b1] (by kernel_rfl) ?_
        have HD := Lib.hid HS.out.drew
        generalize wr.drew = wd at HD ⊢
        have HG : Hid (w.heap.size ∉ [p, b1] ∧ g ∉ [p, b1]) := by
          have lo := HD.out.lo
          have h1 := HD.out.var.apart HD.out.ints (by decide)
          exact ⟨by simp; omega, by simp; omega⟩
        clear HS
        refine wpG_take (i := 0) (d := 32) (v := ?v5x0) rfl rfl (by kernel_rfl) (by kernel_rfl) (by kernel_rfl) (fun _ _ _ h => h) (by rfl) ?y5x0 ?r5x0
        case y5x0 => (intro w' hSw; obtain ⟨y0, y1, y2, y3, y4, y5, y6, y7, y8, y9, y10, y11, y12, y13, y14, y15, y16⟩ := box17 (HD.out.bnd.turn hSw HG.out.1); obtain ⟨z0, z1, z2, z3, z4, z5, z6, z7, z8, z9, z10, z11, z12, z13, z14⟩ := box15 (HD.out.var.turn hSw HG.out.2); go_simp; try (with_reducible rfl))
        simp only [Act.put, List.setIfInBounds_toArray, List.set_cons_zero, List.set_cons_succ]
        refine wpG_take (i := 1) (d := 33) (v := ?v5x1) rfl rfl (by kernel_rfl) (by kernel_rfl) (by kernel_rfl) (fun _ _ _ h => h) (by rfl) ?y5x1 ?r5x1
        case y5x1 => (intro w' hSw; obtain ⟨y0, y1, y2, y3, y4, y5, y6, y7, y8, y9, y10, y11, y12, y13, y14, y15, y16⟩ := box17 (HD.out.bnd.turn hSw HG.out.1); obtain ⟨z0, z1, z2, z3, z4, z5, z6, z7, z8, z9, z10, z11, z12, z13, z14⟩ := box15 (HD.out.var.turn hSw HG.out.2); go_simp; try (with_reducible rfl))
        simp only [Act.put, List.setIfInBounds_toArray, List.set_cons_zero, List.set_cons_succ]
        refine wpG_take (i := 2) (d := 34) (v := ?v5x2) rfl rfl (by kernel_rfl) (by kernel_rfl) (by kernel_rfl) (fun _ _ _ h => h) (by rfl) ?y5x2 ?r5x2
        case y5x2 => (intro w' hSw; obtain ⟨y0, y1, y2, y3, y4, y5, y6, y7, y8, y9, y10, y11, y12, y13, y14, y15, y16⟩ := box17 (HD.out.bnd.turn hSw HG.out.1); obtain ⟨z0, z1, z2, z3, z4, z5, z6, z7, z8, z9, z10, z11, z12, z13, z14⟩ := box15 (HD.out.var.turn hSw HG.out.2); go_simp; try (with_reducible rfl))
        simp only [Act.put, List.setIfInBounds_toArray, List.set_cons_zero, List.set_cons_succ]
        refine wpG_take (i := 3) (d := 35) (v := ?v5x3) rfl rfl (by kernel_rfl) (by kernel_rfl) (by kernel_rfl) (fun _ _ _ h => h) (by rfl) ?y5x3 ?r5x3
        case y5x3 => (intro w' hSw; obtain ⟨y0, y1, y2, y3, y4, y5, y6, y7, y8, y9, y10, y11, y12, y13, y14, y15, y16⟩ := box17 (HD.out.bnd.turn hSw HG.out.1); obtain ⟨z0, z1, z2, z3, z4, z5, z6, z7, z8, z9, z10, z11, z12, z13, z14⟩ := box15 (HD.out.var.turn hSw HG.out.2); go_simp; try (with_reducible rfl))
        simp only [Act.put, List.setIfInBounds_toArray, List.set_cons_zero, List.set_cons_succ]
        refine wpG_take (i := 4) (d := 36) (v := ?v5x4) rfl rfl (by kernel_rfl) (by kernel_rfl) (by kernel_rfl) (fun _ _ _ h => h) (by rfl) ?y5x4 ?r5x4
        case y5x4 => (intro w' hSw; obtain ⟨y0, y1, y2, y3, y4, y5, y6, y7, y8, y9, y10, y11, y12, y13, y14, y15, y16⟩ := box17 (HD.out.bnd.turn hSw HG.out.1); obtain ⟨z0, z1, z2, z3, z4, z5, z6, z7, z8, z9, z10, z11, z12, z13, z14⟩ := box15 (HD.out.var.turn hSw HG.out.2); go_simp; try (with_reducible rfl))
        simp only [Act.put, List.setIfInBounds_toArray, List.set_cons_zero, List.set_cons_succ]
        refine wpG_take (i := 5) (d := 37) (v := ?v5x5) rfl rfl (by kernel_rfl) (by kernel_rfl) (by kernel_rfl) (fun _ _ _ h => h) (by rfl) ?y5x5 ?r5x5
        case y5x5 => (intro w' hSw; obtain ⟨y0, y1, y2, y3, y4, y5, y6, y7, y8, y9, y10, y11, y12, y13, y14, y15, y16⟩ := box17 (HD.out.bnd.turn hSw HG.out.1); obtain ⟨z0, z1, z2, z3, z4, z5, z6, z7, z8, z9, z10, z11, z12, z13, z14⟩ := box15 (HD.out.var.turn hSw HG.out.2); go_simp; try (with_reducible rfl))
        simp only [Act.put, List.setIfInBounds_toArray, List.set_cons_zero, List.set_cons_succ]
        refine wpG_do (i := 6) (by kernel_rfl) rfl (by rfl) (fun K hK => ?_)
        go_simp
        refine (HCa.out wd HD.out.rdr).mono ?_
        rintro e w4 ⟨rfl, hr, hg⟩
        have HS := Lib.hid (HD.out.call hp hr hg)
        refine hK.out _ _ ((Turn.ofGrown hg).wide (by simp)) ?_
        clear hK hr hg HD HG
        refine wpG_take (i := 7) (d := 39) (v := ?v5x7) rfl rfl (by kernel_rfl) (by kernel_rfl) (by kernel_rfl) (fun _ _ _ h => h) (by rfl) ?y5x7 ?r5x7
        case y5x7 => (intro w' hSw; go_simp; try (with_reducible rfl))
        simp only [Act.put, List.setIfInBounds_toArray, List.set_cons_zero, List.set_cons_succ]
        refine wpG_do (i := 8) (by kernel_rfl) rfl (by rfl) (fun K hK => ?_)
        have c0 : w4.cell? ⟨b1, q, none⟩ = some (.int .i64 v0) := by
          rw [HS.out.ints.cell q, List.getElem?_toArray, List.getElem?_map, HI0.out]
          rfl
        have c1 : w4.frozen? ⟨b1, q, none⟩ = false := HS.out.ints.frozen q
        go_simp
        refine hK.out _ _ (HS.out.setI hp q v).2 ?_
        have HQ : Hid (SL c p w y1 g b1 b2 ep sq m n ((I ++ [v]) ++ List.replicate (m - (q + 1)) 0) [] [] (nzRow n 0) (w4.setCell ⟨b1, q, none⟩ (.int .i64 v))) := by
          have h := (HS.out.setI hp q v).1
          rw [HSZ.out] at h
          exact h
        generalize w4.setCell ⟨b1, q, none⟩ (.int .i64 v) = w5 at HQ ⊢
        clear hK HS c0 c1
        refine wpG_done (by kernel_rfl) ?_
        go_wp2
        go_roundw
        case rel => exact ⟨q + 1, hlt, by go_num, by rw [HN.out]; exact HQ.out⟩
        case measure => simp [intOf]; omega
      · obtain rfl : q = m := by omega
        obtain ⟨I, X, hX⟩ : ∃ I X, getIs q x2 = (I, X) := ⟨_, _, rfl⟩
        rw [hX] at HS HB
        rw [Nat.sub_self] at HS
        dsimp only at HS HB
        have HL : Hid (SL c p w X g b1 b2 ep sq q n I [] [] (nzRow n 0) wr ∧ I.length = q) := by
          have h := HS.out
          rw [List.replicate_zero, List.append_nil] at h
          exact ⟨h, by rw [← getIs_len q x2, hX]⟩
        clear hX HS
        obtain ⟨y0, y1, y2, y3, y4, y5, y6, y7, y8, y9, y10, y11, y12, y13, y14⟩ := box15 HL.out.1.var
        go_wp2
        clear y0 y1 y2 y3 y4 y5 y6 y7 y8 y9 y10 y11 y12 y13 y14
        go_loopw [44] (fun i wr => ∃ (k : Nat) (xs r : List Value), k ≤ n ∧ i = .int .i64 k ∧ r.length = (n - k) * 6 ∧ SL c p w (getZs (slotsC c - 1) (sizeC c) (c.u * c.b) k X).2 g b1 b2 ep sq q n I (getZs (slotsC c - 1) (sizeC c) (c.u * c.b) k X).1 xs r wr) (fun i _ => n - (intOf i).toNat)
        case atStart => exact ⟨0, [], _, Nat.zero_le _, rfl, by rw [nzRow_length, Nat.sub_zero], HL.out.1⟩
        case round =>
          have HIL := Lib.hid HL.out.2
          clear HL
          obtain ⟨k, xs, r, hk, rfl, hrl, hst⟩ := hrel
          have HS := Lib.hid hst
          have HRL := Lib.hid hrl
          clear hst hrl
          by_cases hlt2 : k < n
          · obtain ⟨zs, X2, hX⟩ : ∃ I Y, getZs (slotsC c - 1) (sizeC c) (c.u * c.b) k X = (I, Y) := ⟨_, _, rfl⟩
            obtain ⟨z, y1, hy1⟩ : ∃ v x, getZ (slotsC c - 1) (sizeC c) (c.u * c.b) X2 = (v, x) := ⟨_, _, rfl⟩
            have HCa : Hid (∀ w, Rdr w p X2.1 X2.2 → Calls Try.prog 80 #[(.agg #[.int .i64 1, .int .i64 1099511627776, .int .i64 0, .int .i64 1099511627776, .int .i64 0, .int .i64 2, .int .i64 0, .int .i64 1099511627776, .int .i64 (-1), .int .i64 (slotsC c - 1), .int .i64 0, .int .i64 (sizeC c), .int .i64 0, .int .i64 2, .int .i64 1, .int .i64 (sizeC c), .int .i64 (c.u * c.b)]), .pointer (some ⟨p, 0, none⟩)] w (ReadZ w p (z, y1))) := fun w h => by
              have h2 := zone_any c X2.1 X2.2 p w h HPB.out
              rw [hy1] at h2
              exact h2
            have HN := Lib.hid (getZs_step k X hX hy1)
            have HZL : Hid (zs.length = k) := by
              show _ = _
              rw [← getZs_len (sl := slotsC c - 1) (sz := sizeC c) (pb := c.u * c.b) k X, hX]
            rw [hX] at HS
            dsimp only at HS
            clear hX hy1
            go_upto_region 10 with fail
            refine wpG_start [p, b2] (by kernel_rfl) ?_
            have HD := Lib.hid HS.out.drew
            generalize wr.drew = wd at HD ⊢
            have HG : Hid (w.heap.size ∉ [p, b2] ∧ g ∉ [p, b2]) := by
              have lo := HD.out.lo
              have h1 := HD.out.var.apart HD.out.zons (by decide)
              exact ⟨by simp; omega, by simp; omega⟩
            clear HS
            refine wpG_take (i := 0) (d := 47) (v := ?v10x0) rfl rfl (by kernel_rfl) (by kernel_rfl) (by kernel_rfl) (fun _ _ _ h => h) (by rfl) ?y10x0 ?r10x0
            case y10x0 => (intro w' hSw; obtain ⟨y0, y1, y2, y3, y4, y5, y6, y7, y8, y9, y10, y11, y12, y13, y14, y15, y16⟩ := box17 (HD.out.bnd.turn hSw HG.out.1); obtain ⟨z0, z1, z2, z3, z4, z5, z6, z7, z8, z9, z10, z11, z12, z13, z14⟩ := box15 (HD.out.var.turn hSw HG.out.2); go_simp; try (with_reducible rfl))
            simp only [Act.put, List.setIfInBounds_toArray, List.set_cons_zero, List.set_cons_succ]
            refine wpG_take (i := 1) (d := 48) (v := ?v10x1) rfl rfl (by kernel_rfl) (by kernel_rfl) (by kernel_rfl) (fun _ _ _ h => h) (by rfl) ?y10x1 ?r10x1
            case y10x1 => (intro w' hSw; obtain ⟨y0, y1, y2, y3, y4, y5, y6, y7, y8, y9, y10, y11, y12, y13, y14, y15, y16⟩ := box17 (HD.out.bnd.turn hSw HG.out.1); obtain ⟨z0, z1, z2, z3, z4, z5, z6, z7, z8, z9, z10, z11, z12, z13, z14⟩ := box15 (HD.out.var.turn hSw HG.out.2); go_simp; try (with_reducible rfl))
            simp only [Act.put, List.setIfInBounds_toArray, List.set_cons_zero, List.set_cons_succ]
            refine wpG_take (i := 2) (d := 49) (v := ?v10x2) rfl rfl (by kernel_rfl) (by kernel_rfl) (by kernel_rfl) (fun _ _ _ h => h) (by rfl) ?y10x2 ?r10x2
            case y10x2 => (intro w' hSw; obtain ⟨y0, y1, y2, y3, y4, y5, y6, y7, y8, y9, y10, y11, y12, y13, y14, y15, y16⟩ := box17 (HD.out.bnd.turn hSw HG.out.1); obtain ⟨z0, z1, z2, z3, z4, z5, z6, z7, z8, z9, z10, z11, z12, z13, z14⟩ := box15 (HD.out.var.turn hSw HG.out.2); go_simp; try (with_reducible rfl))
            simp only [Act.put, List.setIfInBounds_toArray, List.set_cons_zero, List.set_cons_succ]
            refine wpG_take (i := 3) (d := 50) (v := ?v10x3) rfl rfl (by kernel_rfl) (by kernel_rfl) (by kernel_rfl) (fun _ _ _ h => h) (by rfl) ?y10x3 ?r10x3
            case y10x3 => (intro w' hSw; obtain ⟨y0, y1, y2, y3, y4, y5, y6, y7, y8, y9, y10, y11, y12, y13, y14, y15, y16⟩ := box17 (HD.out.bnd.turn hSw HG.out.1); obtain ⟨z0, z1, z2, z3, z4, z5, z6, z7, z8, z9, z10, z11, z12, z13, z14⟩ := box15 (HD.out.var.turn hSw HG.out.2); go_simp; try (with_reducible rfl))
            simp only [Act.put, List.setIfInBounds_toArray, List.set_cons_zero, List.set_cons_succ]
            refine wpG_take (i := 4) (d := 51) (v := ?v10x4) rfl rfl (by kernel_rfl) (by kernel_rfl) (by kernel_rfl) (fun _ _ _ h => h) (by rfl) ?y10x4 ?r10x4
            case y10x4 => (intro w' hSw; obtain ⟨y0, y1, y2, y3, y4, y5, y6, y7, y8, y9, y10, y11, y12, y13, y14, y15, y16⟩ := box17 (HD.out.bnd.turn hSw HG.out.1); obtain ⟨z0, z1, z2, z3, z4, z5, z6, z7, z8, z9, z10, z11, z12, z13, z14⟩ := box15 (HD.out.var.turn hSw HG.out.2); go_simp; try (with_reducible rfl))
            simp only [Act.put, List.setIfInBounds_toArray, List.set_cons_zero, List.set_cons_succ]
            refine wpG_do (i := 5) (by kernel_rfl) rfl (by rfl) (fun K hK => ?_)
            go_simp
            refine (HCa.out wd HD.out.rdr).mono ?_
            rintro e w4 ⟨Y, yc, rfl, hY, hyc, hy2, hr, hg⟩
            have HS := Lib.hid (HD.out.call hp hr hg)
            have HY : Hid (PrsAt w4 (TB w.heap.size w4) Y z.ps ∧ z.ps.length ≤ yc ∧ z.ps.length ≤ 2) := ⟨hY.mono (fun k hk => ⟨Nat.le_trans HD.out.turn.size hk.1, hk.2⟩), hyc, hy2⟩
            refine hK.out _ _ ((Turn.ofGrown hg).wide (by simp)) ?_
            clear hK hr hg HD HG hY hyc hy2
            refine wpG_take (i := 6) (d := 53) (v := ?v10x6) rfl rfl (by kernel_rfl) (by kernel_rfl) (by kernel_rfl) (fun _ _ _ h => h) (by rfl) ?y10x6 ?r10x6
            case y10x6 => (intro w' hSw; go_simp; try (with_reducible rfl))
            simp only [Act.put, List.setIfInBounds_toArray, List.set_cons_zero, List.set_cons_succ]
            refine wpG_do (i := 7) (by kernel_rfl) rfl (by rfl) (fun K hK => ?_)
            have h6 : 6 ≤ r.length := by rw [HRL.out]; omega
            have H6 := Lib.hid h6
            have hcell : ∀ j, j < 6 → ∃ u, w4.cell? ⟨b2, k * 6 + j, none⟩ = some u := fun j hj => by
              rw [HS.out.zons.cell, List.getElem?_toArray]
              have hx := HS.out.row.length
              rw [HZL.out] at hx
              have : k * 6 + j < (xs ++ r).length := by rw [List.length_append, hx]; omega
              exact ⟨_, List.getElem?_eq_getElem this⟩
            obtain ⟨r0, c0⟩ := hcell 0 (by omega)
            obtain ⟨r1, c1⟩ := hcell 1 (by omega)
            obtain ⟨r2, c2⟩ := hcell 2 (by omega)
            obtain ⟨r3, c3⟩ := hcell 3 (by omega)
            obtain ⟨r4, c4⟩ := hcell 4 (by omega)
            obtain ⟨r5, c5⟩ := hcell 5 (by omega)
            rw [Nat.add_zero] at c0
            have f0 : w4.frozen? ⟨b2, k * 6, none⟩ = false := HS.out.zons.frozen _
            have f1 : w4.frozen? ⟨b2, k * 6 + 1, none⟩ = false := HS.out.zons.frozen _
            have f2 : w4.frozen? ⟨b2, k * 6 + 2, none⟩ = false := HS.out.zons.frozen _
            have f3 : w4.frozen? ⟨b2, k * 6 + 3, none⟩ = false := HS.out.zons.frozen _
            have f4 : w4.frozen? ⟨b2, k * 6 + 4, none⟩ = false := HS.out.zons.frozen _
            have f5 : w4.frozen? ⟨b2, k * 6 + 5, none⟩ = false := HS.out.zons.frozen _
            clear hcell h6
            go_simp
            have hz := HS.out.setZ hp HZL.out HY.out.1 HY.out.2.1 HY.out.2.2 H6.out
            simp only [sets, Nat.add_assoc, Nat.reduceAdd] at hz
            refine hK.out _ _ hz.2 ?_
            have HQ := Lib.hid hz.1
            generalize (((((w4.setCell ⟨b2, k * 6, none⟩ (.int .i64 z.gen)).setCell ⟨b2, k * 6 + 1, none⟩ (.int .i64 z.slot)).setCell ⟨b2, k * 6 + 2, none⟩ (.bool z.full)).setCell ⟨b2, k * 6 + 3, none⟩ (.int .i64 z.w)).setCell ⟨b2, k * 6 + 4, none⟩ (.bool z.whole)).setCell ⟨b2, k * 6 + 5, none⟩ (.slice Y z.ps.length yc) = w5 at HQ ⊢
            clear hK hz HS HY c0 c1 c2 c3 c4 c5 f0 f1 f2 f3 f4 f5
            have HR2 : Hid ((r.drop 6).length = (n - (k + 1)) * 6) := by
              show _ = _
              rw [List.length_drop, HRL.out]
              omega
            refine wpG_done (by kernel_rfl) ?_
            go_wp2
            go_roundw
            case rel => exact ⟨k + 1, _, _, hlt2, by go_num, HR2.out, by rw [HN.out]; exact HQ.out⟩
            case measure => simp [intOf]; omega
          · obtain rfl : k = n := by omega
            obtain ⟨zs, X2, hX⟩ : ∃ I Y, getZs (slotsC c - 1) (sizeC c) (c.u * c.b) k X = (I, Y) := ⟨_, _, rfl⟩
            have HZL : Hid (zs.length = k) := by
              show _ = _
              rw [← getZs_len (sl := slotsC c - 1) (sz := sizeC c) (pb := c.u * c.b) k X, hX]
            rw [hX] at HS HB
            dsimp only at HS HB
            clear hX
            go_upto_region 12 with fail
            go_wp2_with (first | (refine list_load27 rfl (.tmp 7) rfl g #[.int .i64 c.id, .int .i64 c.m, .int .i64 c.u, .int .i64 c.b, .int .i64 c.cp, .int .i64 c.z, .int .i64 c.s, .int .i64 c.mt, .int .i64 c.o, .int .i64 c.a, .int .i64 c.l, .int .i64 ep, .int .i64 sq, .slice (some ⟨b1, 0, none⟩) q q, .slice (some ⟨b2, 0, none⟩) k k] HS.out.var rfl rfl ?_) | (refine list_store27 rfl (.tmp 6) (.tmp 55) rfl (w.heap.size + 2) #[.int .i64 c.id, .int .i64 c.m, .int .i64 c.u, .int .i64 c.b, .int .i64 c.cp, .int .i64 c.z, .int .i64 c.s, .int .i64 c.mt, .int .i64 c.o, .int .i64 c.a, .int .i64 c.l, .int .i64 ep, .int .i64 sq, .slice (some ⟨b1, 0, none⟩) q q, .slice (some ⟨b2, 0, none⟩) k k] _ HS.out.ret rfl rfl (by first | kernel_rfl | simp [Value.oneCell']) rfl rfl (fun w5 q1 q2 => ?_)))
            rw [HB.out]
            have HF := HS.out.fin hp HIL.out HZL.out (q2 _ (by simp))
            refine bodyPost_ret (v := .agg #[.int .i64 c.id, .int .i64 c.m, .int .i64 c.u, .int .i64 c.b, .int .i64 c.cp, .int .i64 c.z, .int .i64 c.s, .int .i64 c.mt, .int .i64 c.o, .int .i64 c.a, .int .i64 c.l, .int .i64 ep, .int .i64 sq, .slice (some ⟨b1, 0, none⟩) q q, .slice (some ⟨b2, 0, none⟩) k k]) (results27 (p := 6) rfl _ _ (w.heap.size + 2) #[.int .i64 c.id, .int .i64 c.m, .int .i64 c.u, .int .i64 c.b, .int .i64 c.cp, .int .i64 c.z, .int .i64 c.s, .int .i64 c.mt, .int .i64 c.o, .int .i64 c.a, .int .i64 c.l, .int .i64 ep, .int .i64 sq, .slice (some ⟨b1, 0, none⟩) q q, .slice (some ⟨b2, 0, none⟩) k k] rfl q1 rfl) rfl ⟨some ⟨b1, 0, none⟩, q, some ⟨b2, 0, none⟩, k, ?_, HF.1, HF.2.1, HF.2.2.grown⟩
            rw [HIL.out, HZL.out]
end Go.Proofs.Ytaceaemombnhkaa
