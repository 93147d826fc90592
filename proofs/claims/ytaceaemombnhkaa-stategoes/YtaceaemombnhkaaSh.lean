/- Contracts of the reference's Size, Has, zone. -/
import Derived.Test.YtaceaemombnhkaaSf
import Derived.Deep.CutBlock
namespace Go.Proofs.Ytaceaemombnhkaa
set_option linter.unusedVariables false
set_option maxRecDepth 100000
set_option linter.unusedSimpArgs false
open Go.RowKit
open Go.RowKit (wrap64)

theorem index3 (a0 a1 a2 a3 a4 a5 a6 : Value) (w : World) : (Instr.index 87 (.agg #[a0, a1, a2, a3, a4, a5, a6]) (.int .i64 3)).run Try.prog w = .ok a3 w := by kernel_rfl
theorem index4 (a0 a1 a2 a3 a4 a5 a6 : Value) (w : World) : (Instr.index 87 (.agg #[a0, a1, a2, a3, a4, a5, a6]) (.int .i64 4)).run Try.prog w = .ok a4 w := by kernel_rfl
theorem rsize_any (c : Cf) (w : World) : Calls Try.prog 65 #[(.agg #[.int .i64 c.id, .int .i64 c.m, .int .i64 c.u, .int .i64 c.b, .int .i64 c.cp, .int .i64 c.z, .int .i64 c.s, .int .i64 c.mt, .int .i64 c.o, .int .i64 c.a, .int .i64 c.l])] w (Says w (.int .i64 (sizeC c))) := by
  go_enter Try.func65, Try.ntmps65
  go_wp2_with fail
  refine (nums_any c _).mono ?_
  rintro e w1 ⟨rfl, hb⟩
  have HB := Lib.hid ((below_one w (.cells #[.int .i64 c.id, .int .i64 c.m, .int .i64 c.u, .int .i64 c.b, .int .i64 c.cp, .int .i64 c.z, .int .i64 c.s, .int .i64 c.mt, .int .i64 c.o, .int .i64 c.a, .int .i64 c.l] 23)).trans (hb.mono (below_one w _).size))
  have hix := fun w => index3 (.int .i64 (dataC c)) (.int .i64 (dataC c * c.u)) (.int .i64 (stripesC c)) (.int .i64 (stripesC c * (dataC c * c.u))) (.int .i64 (slotsC c)) (.int .i64 (allC c)) (.int .i64 (roomC c)) w
  clear hb
  go_wp2
  go_ret
  exact ⟨rfl, HB.out⟩
theorem rhas_any (c : Cf) (ep sq : Int) (A : Option Addr) (st : List Int) (k : Nat) (D : Option Addr) (zs : List Zn) (d : Nat) (n : Nat) (w : World) (h : StAt w (LT w.heap.size) A st k D zs d) (hl : zs.length ≤ 1000000) :
    Calls Try.prog 66 #[(.agg #[.int .i64 c.id, .int .i64 c.m, .int .i64 c.u, .int .i64 c.b, .int .i64 c.cp, .int .i64 c.z, .int .i64 c.s, .int .i64 c.mt, .int .i64 c.o, .int .i64 c.a, .int .i64 c.l, .int .i64 ep, .int .i64 sq, .slice A st.length k, .slice D zs.length d]), .int .i64 (n : Int)] w (SaysP w (usedB zs n = true)) := by
  go_enter Try.func66, Try.ntmps66
  go_upto_region 1 with fail
  have HV := Lib.hid (StIn.new (c := c) (ep := ep) (sq := sq) h)
  generalize (w.alloc (.cells #[.int .i64 c.id, .int .i64 c.m, .int .i64 c.u, .int .i64 c.b, .int .i64 c.cp, .int .i64 c.z, .int .i64 c.s, .int .i64 c.mt, .int .i64 c.o, .int .i64 c.a, .int .i64 c.l, .int .i64 ep, .int .i64 sq, .slice A st.length k, .slice D zs.length d] 27)) = w0 at HV ⊢
  clear h
  obtain ⟨y0, y1, y2, y3, y4, y5, y6, y7, y8, y9, y10, y11, y12, y13, y14⟩ := box15 HV.out.1
  go_wp2
  go_loop [5] (fun i => ∃ q : Nat, q ≤ zs.length ∧ i = .int .i64 q ∧ usedB (zs.take q) n = false) (fun i => zs.length - (intOf i).toNat)
  case atStart => exact ⟨0, by omega, rfl, rfl⟩
  case round =>
    obtain ⟨q, hq, rfl, hall⟩ := hrel
    by_cases hlt : q < zs.length
    · obtain ⟨g1, off, rfl, hg1, hc⟩ := HV.out.2.1.2.1 (by omega)
      obtain ⟨Y, y, c0, c1, c2, c3, c4, c5, _⟩ := hc q hlt
      have HT := Lib.hid (usedB_take hlt n)
      have HM : Hid (zs[q] ∈ zs) := List.getElem_mem hlt
      clear hc hg1
      generalize zs[q] = p at c0 c1 c2 c3 c4 c5 HT HM
      obtain ⟨gen, slot, full, zw, whole, ps⟩ := p
      dsimp only at c0 c1 c2 c3 c4 c5
      have HA := Lib.hid hall
      clear hall
      by_cases hs : slot = (n : Int)
      · have HQ : Hid (usedB zs n = true) := usedB_iff.2 ⟨_, HM.out, hs⟩
        subst hs
        go_wp2
        go_ret
        exact SaysP.yes HQ.out HV.out.2.2
      · have hsb : (slot == (n : Int)) = false := by simpa using hs
        have HQ : Hid (usedB (zs.take (q + 1)) n = false) := by show _ = _; rw [HT.out, HA.out, Bool.false_or]; exact decide_eq_false hs
        clear hs
        go_wp2
        go_round
        case rel => exact ⟨q + 1, by omega, by go_num, HQ.out⟩
        case measure => simp [intOf]; omega
    · obtain rfl : q = zs.length := by omega
      rw [List.take_length] at hall
      have HA := Lib.hid hall
      clear hall
      go_wp2
      go_ret
      exact SaysP.no (by rw [HA.out]; simp) HV.out.2.2
/-- Within zone: the state's block and the zone's. -/
def ZnIn (c : Cf) (ep sq : Int) (A : Option Addr) (st : List Int) (k : Nat) (D : Option Addr) (zs : List Zn) (d : Nat) (gen slot : Int) (full : Bool) (zw : Int) (whole : Bool) (Y : Option Addr) (ps : List Pr) (y : Nat) (w w1 : World) : Prop := StIn c ep sq A st k D zs d w w1 ∧ Box w1 (w.heap.size + 1) 51 #[.int .i64 gen, .int .i64 slot, .bool full, .int .i64 zw, .bool whole, .slice Y ps.length y] ∧ PrsAt w1 (LT w1.heap.size) Y ps ∧ w.heap.size + 2 ≤ w1.heap.size
theorem ZnIn.later {c : Cf} {ep sq : Int} {A : Option Addr} {st : List Int} {k : Nat} {D : Option Addr} {zs : List Zn} {d : Nat} {gen slot : Int} {full : Bool} {zw : Int} {whole : Bool} {Y : Option Addr} {ps : List Pr} {y : Nat} {w w1 w2 : World} (h : ZnIn c ep sq A st k D zs d gen slot full zw whole Y ps y w w1) (hb : Below w1.heap.size w1 w2) : ZnIn c ep sq A st k D zs d gen slot full zw whole Y ps y w w2 :=
  ⟨h.1.later hb, h.2.1.later hb, h.2.2.1.later hb, Nat.le_trans h.2.2.2 hb.size⟩
theorem StIn.drew {c : Cf} {ep sq : Int} {A : Option Addr} {st : List Int} {k : Nat} {D : Option Addr} {zs : List Zn} {d : Nat} {w w1 : World} (h : StIn c ep sq A st k D zs d w w1) : StIn c ep sq A st k D zs d w w1.drew := h.later (Below.refl _ _).drew
set_option maxHeartbeats 4000000 in
theorem rzone_any (c : Cf) (ep sq : Int) (A : Option Addr) (st : List Int) (k : Nat) (D : Option Addr) (zs : List Zn) (d : Nat) (gen slot : Int) (full : Bool) (zw : Int) (whole : Bool) (Y : Option Addr) (ps : List Pr) (y : Nat) (w : World) (h : StAt w (LT w.heap.size) A st k D zs d) (hp : PrsAt w (LT w.heap.size) Y ps) (hl1 : st.length ≤ 1000000) (hg : Good c) (hl3 : ps.length ≤ 140737488351232) :
    Calls Try.prog 41 #[(.agg #[.int .i64 c.id, .int .i64 c.m, .int .i64 c.u, .int .i64 c.b, .int .i64 c.cp, .int .i64 c.z, .int .i64 c.s, .int .i64 c.mt, .int .i64 c.o, .int .i64 c.a, .int .i64 c.l, .int .i64 ep, .int .i64 sq, .slice A st.length k, .slice D zs.length d]), .agg #[.int .i64 gen, .int .i64 slot, .bool full, .int .i64 zw, .bool whole, .slice Y ps.length y]] w (SaysP w (ZoneR c (2 ∈ st) ⟨gen, slot, full, zw, whole, ps⟩)) := by
  have HM : Hid (IntKind.i64.wrap (c.u * c.b) = c.u * c.b) := by
    obtain ⟨h1, h2, h3, h4, h5, h6, h7, h8, _⟩ := hg
    have hm := mul_in (a := c.u) (b := c.b) (A := 64) (B := 4096) (by omega) h6 (by omega) h8
    exact wrapk_in (by omega) (by omega)
  clear hg
  go_enter Try.func41, Try.ntmps41
  go_upto_region 1 with fail
  have HZ : Hid (ZnIn c ep sq A st k D zs d gen slot full zw whole Y ps y w (((w.alloc (.cells #[.int .i64 c.id, .int .i64 c.m, .int .i64 c.u, .int .i64 c.b, .int .i64 c.cp, .int .i64 c.z, .int .i64 c.s, .int .i64 c.mt, .int .i64 c.o, .int .i64 c.a, .int .i64 c.l, .int .i64 ep, .int .i64 sq, .slice A st.length k, .slice D zs.length d] 27)).alloc (.cells #[.int .i64 gen, .int .i64 slot, .bool full, .int .i64 zw, .bool whole, .slice Y ps.length y] 51)).drew)) := by
    obtain ⟨h1, h2, h3, h4⟩ := two_boxes' w 27 51 #[.int .i64 c.id, .int .i64 c.m, .int .i64 c.u, .int .i64 c.b, .int .i64 c.cp, .int .i64 c.z, .int .i64 c.s, .int .i64 c.mt, .int .i64 c.o, .int .i64 c.a, .int .i64 c.l, .int .i64 ep, .int .i64 sq, .slice A st.length k, .slice D zs.length d] #[.int .i64 gen, .int .i64 slot, .bool full, .int .i64 zw, .bool whole, .slice Y ps.length y]
    have h5 : Below w.heap.size w (((w.alloc (.cells #[.int .i64 c.id, .int .i64 c.m, .int .i64 c.u, .int .i64 c.b, .int .i64 c.cp, .int .i64 c.z, .int .i64 c.s, .int .i64 c.mt, .int .i64 c.o, .int .i64 c.a, .int .i64 c.l, .int .i64 ep, .int .i64 sq, .slice A st.length k, .slice D zs.length d] 27)).alloc (.cells #[.int .i64 gen, .int .i64 slot, .bool full, .int .i64 zw, .bool whole, .slice Y ps.length y] 51)).drew) := h3.drew
    exact ⟨⟨h1, h.later h5, h5⟩, h2, hp.later h5, Nat.le_of_eq h4.symm⟩
  clear h hp
  refine wpB_start (w.heap.size + 2) (by kernel_rfl) ?_
  generalize (((w.alloc (.cells #[.int .i64 c.id, .int .i64 c.m, .int .i64 c.u, .int .i64 c.b, .int .i64 c.cp, .int .i64 c.z, .int .i64 c.s, .int .i64 c.mt, .int .i64 c.o, .int .i64 c.a, .int .i64 c.l, .int .i64 ep, .int .i64 sq, .slice A st.length k, .slice D zs.length d] 27)).alloc (.cells #[.int .i64 gen, .int .i64 slot, .bool full, .int .i64 zw, .bool whole, .slice Y ps.length y] 51)).drew) = w1 at HZ ⊢
  have y0 := Box.at_ (B := (w.heap.size + 2)) HZ.out.1.1 (by omega) (i := 0) rfl
  have y1 := Box.at_ (B := (w.heap.size + 2)) HZ.out.1.1 (by omega) (i := 1) rfl
  have y2 := Box.at_ (B := (w.heap.size + 2)) HZ.out.1.1 (by omega) (i := 2) rfl
  have y3 := Box.at_ (B := (w.heap.size + 2)) HZ.out.1.1 (by omega) (i := 3) rfl
  have y4 := Box.at_ (B := (w.heap.size + 2)) HZ.out.1.1 (by omega) (i := 4) rfl
  have y5 := Box.at_ (B := (w.heap.size + 2)) HZ.out.1.1 (by omega) (i := 5) rfl
  have y6 := Box.at_ (B := (w.heap.size + 2)) HZ.out.1.1 (by omega) (i := 6) rfl
  have y7 := Box.at_ (B := (w.heap.size + 2)) HZ.out.1.1 (by omega) (i := 7) rfl
  have y8 := Box.at_ (B := (w.heap.size + 2)) HZ.out.1.1 (by omega) (i := 8) rfl
  have y9 := Box.at_ (B := (w.heap.size + 2)) HZ.out.1.1 (by omega) (i := 9) rfl
  have y10 := Box.at_ (B := (w.heap.size + 2)) HZ.out.1.1 (by omega) (i := 10) rfl
  have y11 := Box.at_ (B := (w.heap.size + 2)) HZ.out.1.1 (by omega) (i := 11) rfl
  have y12 := Box.at_ (B := (w.heap.size + 2)) HZ.out.1.1 (by omega) (i := 12) rfl
  have y13 := Box.at_ (B := (w.heap.size + 2)) HZ.out.1.1 (by omega) (i := 13) rfl
  have y14 := Box.at_ (B := (w.heap.size + 2)) HZ.out.1.1 (by omega) (i := 14) rfl
  refine wpB_take (i := 0) (d := 8) (v := ?v1x0) rfl rfl (by kernel_rfl) (by kernel_rfl) (by kernel_rfl) (fun _ _ _ h => h) (by rfl) ?y1x0 ?r1x0
  case y1x0 => (intro w' hSw; go_simp; try (with_reducible rfl))
  simp only [Act.put, List.setIfInBounds_toArray, List.set_cons_zero, List.set_cons_succ]
  refine wpB_take (i := 1) (d := 9) (v := ?v1x1) rfl rfl (by kernel_rfl) (by kernel_rfl) (by kernel_rfl) (fun _ _ _ h => h) (by rfl) ?y1x1 ?r1x1
  case y1x1 => (intro w' hSw; go_simp; try (with_reducible rfl))
  simp only [Act.put, List.setIfInBounds_toArray, List.set_cons_zero, List.set_cons_succ]
  refine wpB_take (i := 3) (d := 11) (v := ?v1x3) rfl rfl (by kernel_rfl) (by kernel_rfl) (by kernel_rfl) (fun _ _ _ h => h) (by rfl) ?y1x3 ?r1x3
  case y1x3 => (intro w' hSw; go_simp; try (with_reducible rfl))
  simp only [Act.put, List.setIfInBounds_toArray, List.set_cons_zero, List.set_cons_succ]
  refine wpB_take (i := 4) (d := 12) (v := ?v1x4) rfl rfl (by kernel_rfl) (by kernel_rfl) (by kernel_rfl) (fun _ _ _ h => h) (by rfl) ?y1x4 ?r1x4
  case y1x4 => (intro w' hSw; go_simp; try (with_reducible rfl))
  simp only [Act.put, List.setIfInBounds_toArray, List.set_cons_zero, List.set_cons_succ]
  refine wpB_do (i := 2) (by kernel_rfl) rfl (by rfl) (fun K hK => ?_)
  go_simp
  refine (rsize_any c w1).mono ?_
  rintro e w2 ⟨rfl, hb⟩
  have HZ2 := Lib.hid (HZ.out.later hb)
  have hbk := hb.mono HZ.out.2.2.2
  go_simp
  refine hK.out (w.heap.size + 2) _ _ (Nat.le_refl _) hbk ?_
  clear hK hb hbk HZ y0 y1 y2 y3 y4 y5 y6 y7 y8 y9 y10 y11 y12 y13 y14
  have y0 := Box.at_ (B := (w.heap.size + 2)) HZ2.out.1.1 (by omega) (i := 0) rfl
  have y1 := Box.at_ (B := (w.heap.size + 2)) HZ2.out.1.1 (by omega) (i := 1) rfl
  have y2 := Box.at_ (B := (w.heap.size + 2)) HZ2.out.1.1 (by omega) (i := 2) rfl
  have y3 := Box.at_ (B := (w.heap.size + 2)) HZ2.out.1.1 (by omega) (i := 3) rfl
  have y4 := Box.at_ (B := (w.heap.size + 2)) HZ2.out.1.1 (by omega) (i := 4) rfl
  have y5 := Box.at_ (B := (w.heap.size + 2)) HZ2.out.1.1 (by omega) (i := 5) rfl
  have y6 := Box.at_ (B := (w.heap.size + 2)) HZ2.out.1.1 (by omega) (i := 6) rfl
  have y7 := Box.at_ (B := (w.heap.size + 2)) HZ2.out.1.1 (by omega) (i := 7) rfl
  have y8 := Box.at_ (B := (w.heap.size + 2)) HZ2.out.1.1 (by omega) (i := 8) rfl
  have y9 := Box.at_ (B := (w.heap.size + 2)) HZ2.out.1.1 (by omega) (i := 9) rfl
  have y10 := Box.at_ (B := (w.heap.size + 2)) HZ2.out.1.1 (by omega) (i := 10) rfl
  have y11 := Box.at_ (B := (w.heap.size + 2)) HZ2.out.1.1 (by omega) (i := 11) rfl
  have y12 := Box.at_ (B := (w.heap.size + 2)) HZ2.out.1.1 (by omega) (i := 12) rfl
  have y13 := Box.at_ (B := (w.heap.size + 2)) HZ2.out.1.1 (by omega) (i := 13) rfl
  have y14 := Box.at_ (B := (w.heap.size + 2)) HZ2.out.1.1 (by omega) (i := 14) rfl
  refine wpB_do (i := 5) (by kernel_rfl) rfl (by rfl) (fun K hK => ?_)
  go_simp
  refine (nums_any c w2).mono ?_
  rintro e w3 ⟨rfl, hb⟩
  have HZ3 := Lib.hid (HZ2.out.later hb)
  have hbk := hb.mono HZ2.out.2.2.2
  have hix := fun w => index4 (.int .i64 (dataC c)) (.int .i64 (dataC c * c.u)) (.int .i64 (stripesC c)) (.int .i64 (stripesC c * (dataC c * c.u))) (.int .i64 (slotsC c)) (.int .i64 (allC c)) (.int .i64 (roomC c)) w
  go_simp
  refine hK.out (w.heap.size + 2) _ _ (Nat.le_refl _) hbk ?_
  clear hK hb hbk HZ2 y0 y1 y2 y3 y4 y5 y6 y7 y8 y9 y10 y11 y12 y13 y14
  refine wpB_take (i := 6) (d := 14) (v := ?v1x6) rfl rfl (by kernel_rfl) (by kernel_rfl) (by kernel_rfl) (fun _ _ _ h => h) (by rfl) ?y1x6 ?r1x6
  case y1x6 => (intro w' hSw; go_simp; try (with_reducible rfl))
  simp only [Act.put, List.setIfInBounds_toArray, List.set_cons_zero, List.set_cons_succ]
  refine wpB_take (i := 7) (d := 5) (v := ?v1x7) rfl rfl (by kernel_rfl) (by kernel_rfl) (by kernel_rfl) (fun _ _ _ h => h) (by rfl) ?y1x7 ?r1x7
  case y1x7 => (intro w' hSw; go_simp; try (with_reducible rfl))
  simp only [Act.put, List.setIfInBounds_toArray, List.set_cons_zero, List.set_cons_succ]
  refine wpB_take (i := 8) (d := 6) (v := ?v1x8) rfl rfl (by kernel_rfl) (by kernel_rfl) (by kernel_rfl) (fun _ _ _ h => h) (by rfl) ?y1x8 ?r1x8
  case y1x8 => (intro w' hSw; go_simp; try (with_reducible rfl))
  simp only [Act.put, List.setIfInBounds_toArray, List.set_cons_zero, List.set_cons_succ]
  refine wpB_done (by kernel_rfl) ?_
  clear hix
  obtain ⟨z0, z1, z2, z3, z4, z5⟩ := box6 HZ3.out.2.1
  go_upto_region 2 with fail
  by_cases k0 : gen < 0
  · have HK0 := Lib.hid k0
    go_wp2
    go_ret
    exact SaysP.no (fun h => by have h1 := h.gen.1; have h2 := HK0.out; dsimp only at h1; omega) HZ3.out.1.2.2
  by_cases k1 : 1099511627776 < gen
  · have HK1 := Lib.hid k1
    go_wp2
    go_ret
    exact SaysP.no (fun h => by have h1 := h.gen.2; have h2 := HK1.out; dsimp only at h1; omega) HZ3.out.1.2.2
  by_cases k2 : slot < -1
  · have HK2 := Lib.hid k2
    go_wp2
    go_ret
    exact SaysP.no (fun h => by have h1 := h.slot.1; have h2 := HK2.out; dsimp only at h1; omega) HZ3.out.1.2.2
  by_cases k3 : slotsC c ≤ slot
  · have HK3 := Lib.hid k3
    go_wp2
    go_ret
    exact SaysP.no (fun h => by have h1 := h.slot.2; have h2 := HK3.out; dsimp only at h1; omega) HZ3.out.1.2.2
  by_cases k4 : zw < 0
  · have HK4 := Lib.hid k4
    go_wp2
    go_ret
    exact SaysP.no (fun h => by have h1 := h.end_.1.1; have h2 := HK4.out; dsimp only at h1; omega) HZ3.out.1.2.2
  by_cases k5 : sizeC c < zw
  · have HK5 := Lib.hid k5
    go_wp2
    go_ret
    exact SaysP.no (fun h => by have h1 := h.end_.1.2; have h2 := HK5.out; dsimp only at h1; omega) HZ3.out.1.2.2
  by_cases k6 : (2 : Int) < (ps.length : Int)
  · have HK6 := Lib.hid k6
    go_wp2
    go_ret
    exact SaysP.no (fun h => by have h1 := h.have_.2; have h2 := HK6.out; dsimp only at h1; omega) HZ3.out.1.2.2
  have HR : Hid ((0 ≤ gen ∧ gen ≤ 1099511627776) ∧ (-1 ≤ slot ∧ slot ≤ slotsC c - 1) ∧ (0 ≤ zw ∧ zw ≤ sizeC c) ∧ ps.length ≤ 2) := ⟨by omega, by omega, by omega, by omega⟩
  have hw0 : 0 ≤ zw := by omega
  go_upto_region 4 with fail
  clear k0 k1 k2 k3 k4 k5 k6
  by_cases hs : slot = -1
  · have hsb : (slot == -1) = true := by simp [hs]
    have HS := Lib.hid hs
    clear hs
    by_cases hw : 0 < zw
    · have HW := Lib.hid hw
      go_wp2
      go_ret
      exact SaysP.no (fun h => h.end_.2.elim (fun x => by have := HW.out; dsimp only at x; omega) (fun x => x HS.out)) HZ3.out.1.2.2
    have HW : Hid (zw = 0) := by show _ = _; omega
    cases whole with
    | true =>
      go_wp2
      go_ret
      exact SaysP.no (fun h => (h.whole rfl).1 HS.out) HZ3.out.1.2.2
    | false =>
      by_cases hp : 0 < ps.length
      · have hp2 : (0 : Int) < (ps.length : Int) := by omega
        have HP := Lib.hid hp
        go_wp2
        go_ret
        exact SaysP.no (fun h => h.pars HP.out HS.out) HZ3.out.1.2.2
      have hp2 : ¬ (0 : Int) < (ps.length : Int) := by omega
      have HP := Lib.hid hp
      have HEND : Hid (HaveR c ps → ZoneR c (2 ∈ st) ⟨gen, slot, full, zw, false, ps⟩) := fun h => ⟨HR.out.1, HR.out.2.1, h, fun hp => absurd hp HP.out, fun hw => absurd hw (by simp), ⟨HR.out.2.2.1, Or.inl HW.out⟩, fun hw => absurd HW.out hw⟩
      cases full with
      | true =>
        go_wp2
        have HZ0 := HZ3
        clear HZ3
        go_loopw [7] (fun i wr => ∃ q : Nat, q ≤ ps.length ∧ i = .int .i64 q ∧ (∀ j (hj : j < ps.length), j < q → ParR c ps[j]) ∧ ZnIn c ep sq A st k D zs d gen slot true zw false Y ps y w wr) (fun i _ => ps.length - (intOf i).toNat)
        case atStart => exact ⟨0, by omega, rfl, fun j _ hj => absurd hj (Nat.not_lt_zero j), HZ0.out⟩
        case round =>
          clear HZ0 z0 z1 z2 z3 z4 z5
          obtain ⟨q, hq, rfl, hall, hz⟩ := hrel
          have HZr := Lib.hid hz
          clear hz
          obtain ⟨z0, z1, z2, z3, z4, z5⟩ := box6 HZr.out.2.1
          have hlt : ¬ q < ps.length := by omega
          obtain rfl : q = ps.length := by omega
          have HA : Hid (HaveR c ps) := ⟨fun p hp => by
            obtain ⟨j, hj, e⟩ := List.getElem_of_mem hp
            rw [← e]
            exact hall j hj hj, HR.out.2.2.2⟩
          clear hall
          go_wp2
          go_ret
          exact SaysP.yes (HEND.out HA.out) HZr.out.1.2.2
      | false =>
        go_wp2
        have HZ0 := HZ3
        clear HZ3
        go_loopw [7] (fun i wr => ∃ q : Nat, q ≤ ps.length ∧ i = .int .i64 q ∧ (∀ j (hj : j < ps.length), j < q → ParR c ps[j]) ∧ ZnIn c ep sq A st k D zs d gen slot false zw false Y ps y w wr) (fun i _ => ps.length - (intOf i).toNat)
        case atStart => exact ⟨0, by omega, rfl, fun j _ hj => absurd hj (Nat.not_lt_zero j), HZ0.out⟩
        case round =>
          clear HZ0 z0 z1 z2 z3 z4 z5
          obtain ⟨q, hq, rfl, hall, hz⟩ := hrel
          have HZr := Lib.hid hz
          clear hz
          obtain ⟨z0, z1, z2, z3, z4, z5⟩ := box6 HZr.out.2.1
          have hlt : ¬ q < ps.length := by omega
          obtain rfl : q = ps.length := by omega
          have HA : Hid (HaveR c ps) := ⟨fun p hp => by
            obtain ⟨j, hj, e⟩ := List.getElem_of_mem hp
            rw [← e]
            exact hall j hj hj, HR.out.2.2.2⟩
          clear hall
          go_wp2
          go_ret
          exact SaysP.yes (HEND.out HA.out) HZr.out.1.2.2
  have hsb : (slot == -1) = false := by simpa using hs
  have HS := Lib.hid hs
  clear hs
  cases full with
  | true =>
    cases whole with
    | true =>
      obtain ⟨y0, y1, y2, y3, y4, y5, y6, y7, y8, y9, y10, y11, y12, y13, y14⟩ := box15 HZ3.out.1.1
      go_wp2_with fail
      refine (rRebuilds_any c ep sq A st k D zs d w3 HZ3.out.1.2.1 hl1).mono ?_
      rintro e w4 ⟨b, rfl, hbb, hb⟩
      have HZ4 := Lib.hid (HZ3.out.later hb)
      have HE := Lib.hid hbb
      clear hb hbb HZ3 z0 z1 z2 z3 z4 z5 y0 y1 y2 y3 y4 y5 y6 y7 y8 y9 y10 y11 y12 y13 y14
      cases b with
      | false =>
        go_wp2
        go_ret
        exact SaysP.no (fun h => by have h1 := HE.out.2 (h.whole rfl).2; simp at h1) HZ4.out.1.2.2
      | true =>
        obtain ⟨z0, z1, z2, z3, z4, z5⟩ := box6 HZ4.out.2.1
        have HZ3 := HZ4
        clear HZ4
        have HEND : Hid (HaveR c ps → ZoneR c (2 ∈ st) ⟨gen, slot, true, zw, true, ps⟩) := fun h => ⟨HR.out.1, HR.out.2.1, h, fun hp => HS.out, fun hw => ⟨HS.out, HE.out.1 rfl⟩, ⟨HR.out.2.2.1, Or.inr HS.out⟩, fun hw => by first | rfl | exact absurd HW.out hw⟩
        go_wp2
        have HZ0 := HZ3
        clear HZ3
        go_loopw [7] (fun i wr => ∃ q : Nat, q ≤ ps.length ∧ i = .int .i64 q ∧ (∀ j (hj : j < ps.length), j < q → ParR c ps[j]) ∧ ZnIn c ep sq A st k D zs d gen slot true zw true Y ps y w wr) (fun i _ => ps.length - (intOf i).toNat)
        case atStart => exact ⟨0, by omega, rfl, fun j _ hj => absurd hj (Nat.not_lt_zero j), HZ0.out⟩
        case round =>
          clear HZ0 z0 z1 z2 z3 z4 z5
          obtain ⟨q, hq, rfl, hall, hz⟩ := hrel
          have HZr := Lib.hid hz
          clear hz
          obtain ⟨z0, z1, z2, z3, z4, z5⟩ := box6 HZr.out.2.1
          by_cases hlt : q < ps.length
          · obtain ⟨y0, y1, y2, y3, y4, y5, y6, y7, y8, y9, y10, y11, y12, y13, y14⟩ := box15 HZr.out.1.1
            obtain ⟨g, off, rfl, hg, hc⟩ := HZr.out.2.2.1 (by omega)
            obtain ⟨V, v, c0, c1, _, _, hpl⟩ := hc q hlt
            have HN : Hid (ParR c ps[q] → ∀ j (hj : j < ps.length), j < q + 1 → ParR c ps[j]) := fun hx j hj hjk => by
              rcases Nat.lt_or_ge j q with h1 | h1
              · exact hall j hj h1
              · obtain rfl : j = q := by omega
                exact hx
            have HM2 : Hid (ps[q] ∈ ps) := List.getElem_mem hlt
            clear hall hc hg
            generalize hp : ps[q] = p at c0 c1 HN HM2 hpl
            clear hp
            have hmm := HM.out
            by_cases k1 : p.w < 1
            · have d1 : decide (p.w < 1) = true := decide_eq_true k1
              have HB : Hid (¬ ParR c p) := fun h => by have h1 := h.1.1; omega
              go_upto_region 9 with fail
              go_quiet (fail)
              have HW4 : Hid (Below w.heap.size w (wr.drewN nq)) := below_drewN HZr.out.1.2.2 nq
              generalize wr.drewN nq = w5 at HW4 ⊢
              clear HZr c0 c1 y0 y1 y2 y3 y4 y5 y6 y7 y8 y9 y10 y11 y12 y13 y14 z0 z1 z2 z3 z4 z5
              go_wp2
              go_ret
              exact SaysP.no (fun h => HB.out (h.have_.1 _ HM2.out)) HW4.out
            · by_cases k2 : sizeC c < p.w
              · have d1 : decide (p.w < 1) = false := decide_eq_false k1
                have d2 : decide (sizeC c < p.w) = true := decide_eq_true k2
                have HB : Hid (¬ ParR c p) := fun h => by have h1 := h.1.2; omega
                go_upto_region 9 with fail
                go_quiet (fail)
                have HW4 : Hid (Below w.heap.size w (wr.drewN nq)) := below_drewN HZr.out.1.2.2 nq
                generalize wr.drewN nq = w5 at HW4 ⊢
                clear HZr c0 c1 y0 y1 y2 y3 y4 y5 y6 y7 y8 y9 y10 y11 y12 y13 y14 z0 z1 z2 z3 z4 z5
                go_wp2
                go_ret
                exact SaysP.no (fun h => HB.out (h.have_.1 _ HM2.out)) HW4.out
              · have d1 : decide (p.w < 1) = false := decide_eq_false k1
                have d2 : decide (sizeC c < p.w) = false := decide_eq_false k2
                by_cases k3 : (p.b.length : Int) = c.u * c.b
                · have d3 : ((p.b.length : Int) != c.u * c.b) = false := by simpa using k3
                  have HN2 := Lib.hid (HN.out ⟨⟨by omega, by omega⟩, k3⟩)
                  clear k3
                  go_upto_region 9 with fail
                  go_quiet (fail)
                  have HQ := Lib.hid (HZr.out.later (below_drewN (Below.refl _ _) nq))
                  generalize wr.drewN nq = w5 at HQ ⊢
                  clear HZr c0 c1 y0 y1 y2 y3 y4 y5 y6 y7 y8 y9 y10 y11 y12 y13 y14 z0 z1 z2 z3 z4 z5
                  go_wp2
                  go_roundw
                  case rel => exact ⟨q + 1, by omega, by go_num, HN2.out, HQ.out⟩
                  case measure => simp [intOf]; omega
                · have d3 : ((p.b.length : Int) != c.u * c.b) = true := by simpa using k3
                  have K3 := Lib.hid k3
                  clear k3
                  have HB : Hid (¬ ParR c p) := fun h => by exact K3.out h.2
                  go_upto_region 9 with fail
                  go_quiet (fail)
                  have HW4 : Hid (Below w.heap.size w (wr.drewN nq)) := below_drewN HZr.out.1.2.2 nq
                  generalize wr.drewN nq = w5 at HW4 ⊢
                  clear HZr c0 c1 y0 y1 y2 y3 y4 y5 y6 y7 y8 y9 y10 y11 y12 y13 y14 z0 z1 z2 z3 z4 z5
                  go_wp2
                  go_ret
                  exact SaysP.no (fun h => HB.out (h.have_.1 _ HM2.out)) HW4.out
          · obtain rfl : q = ps.length := by omega
            have HA : Hid (HaveR c ps) := ⟨fun p hp => by
              obtain ⟨j, hj, e⟩ := List.getElem_of_mem hp
              rw [← e]
              exact hall j hj hj, HR.out.2.2.2⟩
            clear hall
            go_wp2
            go_ret
            exact SaysP.yes (HEND.out HA.out) HZr.out.1.2.2
    | false =>
      have HEND : Hid (HaveR c ps → ZoneR c (2 ∈ st) ⟨gen, slot, true, zw, false, ps⟩) := fun h => ⟨HR.out.1, HR.out.2.1, h, fun hp => HS.out, fun hw => absurd hw (by simp), ⟨HR.out.2.2.1, Or.inr HS.out⟩, fun hw => rfl⟩
      go_wp2
      have HZ0 := HZ3
      clear HZ3
      go_loopw [7] (fun i wr => ∃ q : Nat, q ≤ ps.length ∧ i = .int .i64 q ∧ (∀ j (hj : j < ps.length), j < q → ParR c ps[j]) ∧ ZnIn c ep sq A st k D zs d gen slot true zw false Y ps y w wr) (fun i _ => ps.length - (intOf i).toNat)
      case atStart => exact ⟨0, by omega, rfl, fun j _ hj => absurd hj (Nat.not_lt_zero j), HZ0.out⟩
      case round =>
        clear HZ0 z0 z1 z2 z3 z4 z5
        obtain ⟨q, hq, rfl, hall, hz⟩ := hrel
        have HZr := Lib.hid hz
        clear hz
        obtain ⟨z0, z1, z2, z3, z4, z5⟩ := box6 HZr.out.2.1
        by_cases hlt : q < ps.length
        · obtain ⟨y0, y1, y2, y3, y4, y5, y6, y7, y8, y9, y10, y11, y12, y13, y14⟩ := box15 HZr.out.1.1
          obtain ⟨g, off, rfl, hg, hc⟩ := HZr.out.2.2.1 (by omega)
          obtain ⟨V, v, c0, c1, _, _, hpl⟩ := hc q hlt
          have HN : Hid (ParR c ps[q] → ∀ j (hj : j < ps.length), j < q + 1 → ParR c ps[j]) := fun hx j hj hjk => by
            rcases Nat.lt_or_ge j q with h1 | h1
            · exact hall j hj h1
            · obtain rfl : j = q := by omega
              exact hx
          have HM2 : Hid (ps[q] ∈ ps) := List.getElem_mem hlt
          clear hall hc hg
          generalize hp : ps[q] = p at c0 c1 HN HM2 hpl
          clear hp
          have hmm := HM.out
          by_cases k1 : p.w < 1
          · have d1 : decide (p.w < 1) = true := decide_eq_true k1
            have HB : Hid (¬ ParR c p) := fun h => by have h1 := h.1.1; omega
            go_upto_region 9 with fail
            go_quiet (fail)
            have HW4 : Hid (Below w.heap.size w (wr.drewN nq)) := below_drewN HZr.out.1.2.2 nq
            generalize wr.drewN nq = w5 at HW4 ⊢
            clear HZr c0 c1 y0 y1 y2 y3 y4 y5 y6 y7 y8 y9 y10 y11 y12 y13 y14 z0 z1 z2 z3 z4 z5
            go_wp2
            go_ret
            exact SaysP.no (fun h => HB.out (h.have_.1 _ HM2.out)) HW4.out
          · by_cases k2 : sizeC c < p.w
            · have d1 : decide (p.w < 1) = false := decide_eq_false k1
              have d2 : decide (sizeC c < p.w) = true := decide_eq_true k2
              have HB : Hid (¬ ParR c p) := fun h => by have h1 := h.1.2; omega
              go_upto_region 9 with fail
              go_quiet (fail)
              have HW4 : Hid (Below w.heap.size w (wr.drewN nq)) := below_drewN HZr.out.1.2.2 nq
              generalize wr.drewN nq = w5 at HW4 ⊢
              clear HZr c0 c1 y0 y1 y2 y3 y4 y5 y6 y7 y8 y9 y10 y11 y12 y13 y14 z0 z1 z2 z3 z4 z5
              go_wp2
              go_ret
              exact SaysP.no (fun h => HB.out (h.have_.1 _ HM2.out)) HW4.out
            · have d1 : decide (p.w < 1) = false := decide_eq_false k1
              have d2 : decide (sizeC c < p.w) = false := decide_eq_false k2
              by_cases k3 : (p.b.length : Int) = c.u * c.b
              · have d3 : ((p.b.length : Int) != c.u * c.b) = false := by simpa using k3
                have HN2 := Lib.hid (HN.out ⟨⟨by omega, by omega⟩, k3⟩)
                clear k3
                go_upto_region 9 with fail
                go_quiet (fail)
                have HQ := Lib.hid (HZr.out.later (below_drewN (Below.refl _ _) nq))
                generalize wr.drewN nq = w5 at HQ ⊢
                clear HZr c0 c1 y0 y1 y2 y3 y4 y5 y6 y7 y8 y9 y10 y11 y12 y13 y14 z0 z1 z2 z3 z4 z5
                go_wp2
                go_roundw
                case rel => exact ⟨q + 1, by omega, by go_num, HN2.out, HQ.out⟩
                case measure => simp [intOf]; omega
              · have d3 : ((p.b.length : Int) != c.u * c.b) = true := by simpa using k3
                have K3 := Lib.hid k3
                clear k3
                have HB : Hid (¬ ParR c p) := fun h => by exact K3.out h.2
                go_upto_region 9 with fail
                go_quiet (fail)
                have HW4 : Hid (Below w.heap.size w (wr.drewN nq)) := below_drewN HZr.out.1.2.2 nq
                generalize wr.drewN nq = w5 at HW4 ⊢
                clear HZr c0 c1 y0 y1 y2 y3 y4 y5 y6 y7 y8 y9 y10 y11 y12 y13 y14 z0 z1 z2 z3 z4 z5
                go_wp2
                go_ret
                exact SaysP.no (fun h => HB.out (h.have_.1 _ HM2.out)) HW4.out
        · obtain rfl : q = ps.length := by omega
          have HA : Hid (HaveR c ps) := ⟨fun p hp => by
            obtain ⟨j, hj, e⟩ := List.getElem_of_mem hp
            rw [← e]
            exact hall j hj hj, HR.out.2.2.2⟩
          clear hall
          go_wp2
          go_ret
          exact SaysP.yes (HEND.out HA.out) HZr.out.1.2.2
  | false =>
    by_cases hw : 0 < zw
    · have HW := Lib.hid hw
      go_wp2
      go_ret
      exact SaysP.no (fun h => by have h1 := h.full (by have := HW.out; dsimp only; omega); simp at h1) HZ3.out.1.2.2
    have HW : Hid (zw = 0) := by show _ = _; omega
    cases whole with
    | true =>
      obtain ⟨y0, y1, y2, y3, y4, y5, y6, y7, y8, y9, y10, y11, y12, y13, y14⟩ := box15 HZ3.out.1.1
      go_wp2_with fail
      refine (rRebuilds_any c ep sq A st k D zs d w3 HZ3.out.1.2.1 hl1).mono ?_
      rintro e w4 ⟨b, rfl, hbb, hb⟩
      have HZ4 := Lib.hid (HZ3.out.later hb)
      have HE := Lib.hid hbb
      clear hb hbb HZ3 z0 z1 z2 z3 z4 z5 y0 y1 y2 y3 y4 y5 y6 y7 y8 y9 y10 y11 y12 y13 y14
      cases b with
      | false =>
        go_wp2
        go_ret
        exact SaysP.no (fun h => by have h1 := HE.out.2 (h.whole rfl).2; simp at h1) HZ4.out.1.2.2
      | true =>
        obtain ⟨z0, z1, z2, z3, z4, z5⟩ := box6 HZ4.out.2.1
        have HZ3 := HZ4
        clear HZ4
        have HEND : Hid (HaveR c ps → ZoneR c (2 ∈ st) ⟨gen, slot, false, zw, true, ps⟩) := fun h => ⟨HR.out.1, HR.out.2.1, h, fun hp => HS.out, fun hw => ⟨HS.out, HE.out.1 rfl⟩, ⟨HR.out.2.2.1, Or.inr HS.out⟩, fun hw => by first | rfl | exact absurd HW.out hw⟩
        go_wp2
        have HZ0 := HZ3
        clear HZ3
        go_loopw [7] (fun i wr => ∃ q : Nat, q ≤ ps.length ∧ i = .int .i64 q ∧ (∀ j (hj : j < ps.length), j < q → ParR c ps[j]) ∧ ZnIn c ep sq A st k D zs d gen slot false zw true Y ps y w wr) (fun i _ => ps.length - (intOf i).toNat)
        case atStart => exact ⟨0, by omega, rfl, fun j _ hj => absurd hj (Nat.not_lt_zero j), HZ0.out⟩
        case round =>
          clear HZ0 z0 z1 z2 z3 z4 z5
          obtain ⟨q, hq, rfl, hall, hz⟩ := hrel
          have HZr := Lib.hid hz
          clear hz
          obtain ⟨z0, z1, z2, z3, z4, z5⟩ := box6 HZr.out.2.1
          by_cases hlt : q < ps.length
          · obtain ⟨y0, y1, y2, y3, y4, y5, y6, y7, y8, y9, y10, y11, y12, y13, y14⟩ := box15 HZr.out.1.1
            obtain ⟨g, off, rfl, hg, hc⟩ := HZr.out.2.2.1 (by omega)
            obtain ⟨V, v, c0, c1, _, _, hpl⟩ := hc q hlt
            have HN : Hid (ParR c ps[q] → ∀ j (hj : j < ps.length), j < q + 1 → ParR c ps[j]) := fun hx j hj hjk => by
              rcases Nat.lt_or_ge j q with h1 | h1
              · exact hall j hj h1
              · obtain rfl : j = q := by omega
                exact hx
            have HM2 : Hid (ps[q] ∈ ps) := List.getElem_mem hlt
            clear hall hc hg
            generalize hp : ps[q] = p at c0 c1 HN HM2 hpl
            clear hp
            have hmm := HM.out
            by_cases k1 : p.w < 1
            · have d1 : decide (p.w < 1) = true := decide_eq_true k1
              have HB : Hid (¬ ParR c p) := fun h => by have h1 := h.1.1; omega
              go_upto_region 9 with fail
              go_quiet (fail)
              have HW4 : Hid (Below w.heap.size w (wr.drewN nq)) := below_drewN HZr.out.1.2.2 nq
              generalize wr.drewN nq = w5 at HW4 ⊢
              clear HZr c0 c1 y0 y1 y2 y3 y4 y5 y6 y7 y8 y9 y10 y11 y12 y13 y14 z0 z1 z2 z3 z4 z5
              go_wp2
              go_ret
              exact SaysP.no (fun h => HB.out (h.have_.1 _ HM2.out)) HW4.out
            · by_cases k2 : sizeC c < p.w
              · have d1 : decide (p.w < 1) = false := decide_eq_false k1
                have d2 : decide (sizeC c < p.w) = true := decide_eq_true k2
                have HB : Hid (¬ ParR c p) := fun h => by have h1 := h.1.2; omega
                go_upto_region 9 with fail
                go_quiet (fail)
                have HW4 : Hid (Below w.heap.size w (wr.drewN nq)) := below_drewN HZr.out.1.2.2 nq
                generalize wr.drewN nq = w5 at HW4 ⊢
                clear HZr c0 c1 y0 y1 y2 y3 y4 y5 y6 y7 y8 y9 y10 y11 y12 y13 y14 z0 z1 z2 z3 z4 z5
                go_wp2
                go_ret
                exact SaysP.no (fun h => HB.out (h.have_.1 _ HM2.out)) HW4.out
              · have d1 : decide (p.w < 1) = false := decide_eq_false k1
                have d2 : decide (sizeC c < p.w) = false := decide_eq_false k2
                by_cases k3 : (p.b.length : Int) = c.u * c.b
                · have d3 : ((p.b.length : Int) != c.u * c.b) = false := by simpa using k3
                  have HN2 := Lib.hid (HN.out ⟨⟨by omega, by omega⟩, k3⟩)
                  clear k3
                  go_upto_region 9 with fail
                  go_quiet (fail)
                  have HQ := Lib.hid (HZr.out.later (below_drewN (Below.refl _ _) nq))
                  generalize wr.drewN nq = w5 at HQ ⊢
                  clear HZr c0 c1 y0 y1 y2 y3 y4 y5 y6 y7 y8 y9 y10 y11 y12 y13 y14 z0 z1 z2 z3 z4 z5
                  go_wp2
                  go_roundw
                  case rel => exact ⟨q + 1, by omega, by go_num, HN2.out, HQ.out⟩
                  case measure => simp [intOf]; omega
                · have d3 : ((p.b.length : Int) != c.u * c.b) = true := by simpa using k3
                  have K3 := Lib.hid k3
                  clear k3
                  have HB : Hid (¬ ParR c p) := fun h => by exact K3.out h.2
                  go_upto_region 9 with fail
                  go_quiet (fail)
                  have HW4 : Hid (Below w.heap.size w (wr.drewN nq)) := below_drewN HZr.out.1.2.2 nq
                  generalize wr.drewN nq = w5 at HW4 ⊢
                  clear HZr c0 c1 y0 y1 y2 y3 y4 y5 y6 y7 y8 y9 y10 y11 y12 y13 y14 z0 z1 z2 z3 z4 z5
                  go_wp2
                  go_ret
                  exact SaysP.no (fun h => HB.out (h.have_.1 _ HM2.out)) HW4.out
          · obtain rfl : q = ps.length := by omega
            have HA : Hid (HaveR c ps) := ⟨fun p hp => by
              obtain ⟨j, hj, e⟩ := List.getElem_of_mem hp
              rw [← e]
              exact hall j hj hj, HR.out.2.2.2⟩
            clear hall
            go_wp2
            go_ret
            exact SaysP.yes (HEND.out HA.out) HZr.out.1.2.2
    | false =>
      have HEND : Hid (HaveR c ps → ZoneR c (2 ∈ st) ⟨gen, slot, false, zw, false, ps⟩) := fun h => ⟨HR.out.1, HR.out.2.1, h, fun hp => HS.out, fun hw => absurd hw (by simp), ⟨HR.out.2.2.1, Or.inr HS.out⟩, fun hw => absurd HW.out hw⟩
      go_wp2
      have HZ0 := HZ3
      clear HZ3
      go_loopw [7] (fun i wr => ∃ q : Nat, q ≤ ps.length ∧ i = .int .i64 q ∧ (∀ j (hj : j < ps.length), j < q → ParR c ps[j]) ∧ ZnIn c ep sq A st k D zs d gen slot false zw false Y ps y w wr) (fun i _ => ps.length - (intOf i).toNat)
      case atStart => exact ⟨0, by omega, rfl, fun j _ hj => absurd hj (Nat.not_lt_zero j), HZ0.out⟩
      case round =>
        clear HZ0 z0 z1 z2 z3 z4 z5
        obtain ⟨q, hq, rfl, hall, hz⟩ := hrel
        have HZr := Lib.hid hz
        clear hz
        obtain ⟨z0, z1, z2, z3, z4, z5⟩ := box6 HZr.out.2.1
        by_cases hlt : q < ps.length
        · obtain ⟨y0, y1, y2, y3, y4, y5, y6, y7, y8, y9, y10, y11, y12, y13, y14⟩ := box15 HZr.out.1.1
          obtain ⟨g, off, rfl, hg, hc⟩ := HZr.out.2.2.1 (by omega)
          obtain ⟨V, v, c0, c1, _, _, hpl⟩ := hc q hlt
          have HN : Hid (ParR c ps[q] → ∀ j (hj : j < ps.length), j < q + 1 → ParR c ps[j]) := fun hx j hj hjk => by
            rcases Nat.lt_or_ge j q with h1 | h1
            · exact hall j hj h1
            · obtain rfl : j = q := by omega
              exact hx
          have HM2 : Hid (ps[q] ∈ ps) := List.getElem_mem hlt
          clear hall hc hg
          generalize hp : ps[q] = p at c0 c1 HN HM2 hpl
          clear hp
          have hmm := HM.out
          by_cases k1 : p.w < 1
          · have d1 : decide (p.w < 1) = true := decide_eq_true k1
            have HB : Hid (¬ ParR c p) := fun h => by have h1 := h.1.1; omega
            go_upto_region 9 with fail
            go_quiet (fail)
            have HW4 : Hid (Below w.heap.size w (wr.drewN nq)) := below_drewN HZr.out.1.2.2 nq
            generalize wr.drewN nq = w5 at HW4 ⊢
            clear HZr c0 c1 y0 y1 y2 y3 y4 y5 y6 y7 y8 y9 y10 y11 y12 y13 y14 z0 z1 z2 z3 z4 z5
            go_wp2
            go_ret
            exact SaysP.no (fun h => HB.out (h.have_.1 _ HM2.out)) HW4.out
          · by_cases k2 : sizeC c < p.w
            · have d1 : decide (p.w < 1) = false := decide_eq_false k1
              have d2 : decide (sizeC c < p.w) = true := decide_eq_true k2
              have HB : Hid (¬ ParR c p) := fun h => by have h1 := h.1.2; omega
              go_upto_region 9 with fail
              go_quiet (fail)
              have HW4 : Hid (Below w.heap.size w (wr.drewN nq)) := below_drewN HZr.out.1.2.2 nq
              generalize wr.drewN nq = w5 at HW4 ⊢
              clear HZr c0 c1 y0 y1 y2 y3 y4 y5 y6 y7 y8 y9 y10 y11 y12 y13 y14 z0 z1 z2 z3 z4 z5
              go_wp2
              go_ret
              exact SaysP.no (fun h => HB.out (h.have_.1 _ HM2.out)) HW4.out
            · have d1 : decide (p.w < 1) = false := decide_eq_false k1
              have d2 : decide (sizeC c < p.w) = false := decide_eq_false k2
              by_cases k3 : (p.b.length : Int) = c.u * c.b
              · have d3 : ((p.b.length : Int) != c.u * c.b) = false := by simpa using k3
                have HN2 := Lib.hid (HN.out ⟨⟨by omega, by omega⟩, k3⟩)
                clear k3
                go_upto_region 9 with fail
                go_quiet (fail)
                have HQ := Lib.hid (HZr.out.later (below_drewN (Below.refl _ _) nq))
                generalize wr.drewN nq = w5 at HQ ⊢
                clear HZr c0 c1 y0 y1 y2 y3 y4 y5 y6 y7 y8 y9 y10 y11 y12 y13 y14 z0 z1 z2 z3 z4 z5
                go_wp2
                go_roundw
                case rel => exact ⟨q + 1, by omega, by go_num, HN2.out, HQ.out⟩
                case measure => simp [intOf]; omega
              · have d3 : ((p.b.length : Int) != c.u * c.b) = true := by simpa using k3
                have K3 := Lib.hid k3
                clear k3
                have HB : Hid (¬ ParR c p) := fun h => by exact K3.out h.2
                go_upto_region 9 with fail
                go_quiet (fail)
                have HW4 : Hid (Below w.heap.size w (wr.drewN nq)) := below_drewN HZr.out.1.2.2 nq
                generalize wr.drewN nq = w5 at HW4 ⊢
                clear HZr c0 c1 y0 y1 y2 y3 y4 y5 y6 y7 y8 y9 y10 y11 y12 y13 y14 z0 z1 z2 z3 z4 z5
                go_wp2
                go_ret
                exact SaysP.no (fun h => HB.out (h.have_.1 _ HM2.out)) HW4.out
        · obtain rfl : q = ps.length := by omega
          have HA : Hid (HaveR c ps) := ⟨fun p hp => by
            obtain ⟨j, hj, e⟩ := List.getElem_of_mem hp
            rw [← e]
            exact hall j hj hj, HR.out.2.2.2⟩
          clear hall
          go_wp2
          go_ret
          exact SaysP.yes (HEND.out HA.out) HZr.out.1.2.2
end Go.Proofs.Ytaceaemombnhkaa
