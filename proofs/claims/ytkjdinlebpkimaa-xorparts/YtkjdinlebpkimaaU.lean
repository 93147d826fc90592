/- The contract of the reference's Split. -/
import Derived.Test.YtkjdinlebpkimaaT
import Derived.Deep.DeepCutAuto
namespace Go.Proofs.Ytkjdinlebpkimaa
set_option linter.unusedVariables false
set_option linter.unusedSimpArgs false
open Go.RowKit
open Go.RowKit (wrap64)

/-- The parts of the first k bytes, where k is at least 1: those that are whole, and the last one. -/
def lastP (z : Nat) (b : List UInt8) (k : Nat) : List UInt8 := (b.take k).drop ((k - 1) / z * z)

theorem new_part {z : Nat} {b : List UInt8} {k : Nat} (hz : 1 ≤ z) (h0 : 1 ≤ k) (hk : k ≤ b.length) (hm : k % z = 0) : full z b ((k - 1) / z) ++ [lastP z b k] = full z b (k / z) := by
  have hq : (k - 1) / z + 1 = k / z := by
    have h1 := Nat.div_add_mod k z
    rw [hm, Nat.add_zero] at h1
    have h2 : 1 ≤ k / z := by
      rcases Nat.eq_zero_or_pos (k / z) with h | h
      · rw [h] at h1; simp at h1; omega
      · exact h
    obtain ⟨m, hm'⟩ : ∃ m, k / z = m + 1 := ⟨k / z - 1, by omega⟩
    rw [hm'] at h1 ⊢
    have h3 : k - 1 = z - 1 + z * m := by
      rw [Nat.mul_add] at h1; omega
    rw [h3, Nat.add_mul_div_left _ _ (by omega), Nat.div_eq_of_lt (by omega)]
    omega
  rw [← hq, full_succ]
  congr 2
  unfold lastP partJ
  have h1 := Nat.div_add_mod k z
  rw [hm, Nat.add_zero, ← hq, Nat.mul_add, Nat.mul_one] at h1
  generalize (k - 1) / z = q at h1 ⊢
  rw [List.drop_take]
  congr 1
  rw [Nat.mul_comm q z]
  omega
theorem new_last {z : Nat} {b : List UInt8} {k : Nat} (hk : k < b.length) (hm : k % z = 0) : [] ++ [b[k]] = lastP z b (k + 1) := by
  unfold lastP
  have h1 := Nat.div_add_mod k z
  rw [hm, Nat.add_zero, Nat.mul_comm] at h1
  rw [Nat.add_sub_cancel, h1, List.take_succ_eq_append_getElem hk, List.drop_append_of_le_length (by simp; omega)]
  simp
theorem same_q {z k : Nat} (hz : 1 ≤ z) (h0 : 1 ≤ k) (hm : ¬ k % z = 0) : (k - 1) / z = k / z := by
  have h1 := Nat.div_add_mod k z
  have h2 := Nat.mod_lt k (show z > 0 by omega)
  have h3 : k - 1 = (k % z - 1) + z * (k / z) := by omega
  rw [h3, Nat.add_mul_div_left _ _ (by omega), Nat.div_eq_of_lt (by omega)]
  omega
theorem same_last {z : Nat} {b : List UInt8} {k : Nat} (hz : 1 ≤ z) (h0 : 1 ≤ k) (hk : k < b.length) (hm : ¬ k % z = 0) : lastP z b k ++ [b[k]] = lastP z b (k + 1) := by
  unfold lastP
  rw [Nat.add_sub_cancel, same_q hz h0 hm, List.take_succ_eq_append_getElem hk, List.drop_append_of_le_length]
  rw [List.length_take, Nat.min_eq_left (by omega)]
  exact Nat.div_mul_le_self k z
theorem all_parts {z : Nat} {b : List UInt8} (hz : 1 ≤ z) (h0 : 1 ≤ b.length) : full z b ((b.length - 1) / z) ++ [lastP z b b.length] = full z b ((b.length - 1) / z + 1) := by
  rw [full_succ]
  congr 2
  unfold lastP partJ
  rw [List.take_length, List.take_of_length_le]
  rw [List.length_drop]
  have h1 := Nat.div_add_mod (b.length - 1) z
  have h2 := Nat.mod_lt (b.length - 1) (show z > 0 by omega)
  rw [Nat.mul_comm] at h1
  omega
theorem lastP_length {z : Nat} {b : List UInt8} {k : Nat} : (lastP z b k).length ≤ b.length := by
  unfold lastP
  simp
  omega

/-- What the reference holds behind k bytes. -/
def Stage (w wr : World) (v : Value) (z : Nat) (b : List UInt8) (k : Nat) : Prop :=
  (k % z = 0 → OwnB wr w.heap.size v (full z b (k / z))) ∧ Below w.heap.size w wr ∧ (1 ≤ k → ∃ g cap u, v = .slice (some ⟨g, 0, none⟩) ((k - 1) / z + 1) cap ∧ Grow w wr g ((k - 1) / z) cap u (full z b ((k - 1) / z)) (lastP z b k))

theorem Stage.of {w wr : World} {g cap : Nat} {u : Value} {z : Nat} {b : List UInt8} {k : Nat} (hz : 1 ≤ z) (h0 : 1 ≤ k) (hk : k ≤ b.length) (h : Grow w wr g ((k - 1) / z) cap u (full z b ((k - 1) / z)) (lastP z b k)) :
    Stage w wr (.slice (some ⟨g, 0, none⟩) ((k - 1) / z + 1) cap) z b k := by
  refine ⟨fun hm => ?_, ?_, fun _ => ⟨g, cap, u, rfl, h⟩⟩
  · rw [← new_part hz h0 hk hm]
    exact h.parts
  · obtain ⟨us, _, _, _, _, _, h5⟩ := h
    exact h5

theorem wpList_appNil (w wr : World) {ops : Array Oper} {rest : List Oper} {o : Oper} {a : Act} {Q : Exit → Act → World → Prop} (hgd : o.guard = none) (s x : Operand)
    (ho : o.op = .call { callee := .builtin .append, args := #[s, x], argTypes := #[22, 22] })
    (v : Value) (ps : List (List UInt8)) (hs : a.eval s = v) (hown : OwnB wr w.heap.size v ps) (hB : Below w.heap.size w wr) (hx : a.eval x = .slice (some ⟨wr.heap.size, 0, none⟩) 1 1) (hl : ps.length ≤ 100000)
    (h : ∀ g cap w', Grow w w' g ps.length cap (.slice none 0 0) ps [] → wpList Try.prog ops Q rest (a.put o.dst (.slice (some ⟨g, 0, none⟩) (ps.length + 1) cap)) w') : wpList Try.prog ops Q (o :: rest) a (wr.alloc (.cells #[.slice none 0 0] 23)) := by
  obtain ⟨i0, hi, hz0, hz1, hz2⟩ := info_parts Try.info23
  have b1 : Below wr.heap.size wr (wr.alloc (.cells #[.slice none 0 0] 23)) := (Below.refl _ _).alloc (Nat.le_refl _) _
  obtain ⟨us, h1, h2⟩ := hown.later b1
  have hs1 : w.heap.size ≤ (wr.alloc (.cells #[.slice none 0 0] 23)).heap.size := Nat.le_trans hB.size b1.size
  refine wpList_append_own_at (P := Try.prog) _ hgd s x 22 ho w.heap.size 23 i0 (.slice none 0 0) 1 24 Try.underlying22 hi hz0 hz1 hz2 rfl (by omega) v ps.length us hs h1 ⟨wr.heap.size, 0, none⟩ 1 1 [.slice none 0 0] hx rfl (cell_one_new wr _ 23) (fun u hu => by simp at hu; subst hu; rfl) (by unfold maxLen; omega) (by omega) hs1 ?_
  intro v' w' k1 k2 _ k4
  rcases k1.2 with ⟨_, h0⟩ | ⟨g, cap, cur, rfl, _⟩
  · omega
  · refine h g cap w' ⟨us, h2.1, k1, h2.grown k2 (own_typed h1), World.ownsRow_nil _ _ _ _, fun y _ => .inl rfl, ?_⟩
    exact (hB.trans (b1.mono hB.size)).grown k2 hs1 (fun g hg => (World.ownsRow.lt h1 g hg).1)

/-- An append in a region that draws its order, its run being known. -/
theorem oper_app {P : Program} {o : Oper} {a : Act} {w : World} {K : Act → World → Prop} {Q : Exit → Act → World → Prop} (s x : Operand) (t : TypeId)
    (ho : o.op = .call { callee := .builtin .append, args := #[s, x], argTypes := #[t, t] }) (vs vx v' : Value) (w' : World) (hs : a.eval s = vs) (hx : a.eval x = vx)
    (hrun : (Builtin.append_ #[t, t] o.type #[vs, vx]).run P w = .ok v' w') (hK : K (a.put o.dst v') w') : Oper.wp P o a w K Q := by
  unfold Oper.wp execOp
  simp only [ho, resolve, invoke, builtin, Sem.run_bind, Sem.run_pure, Result.andThen_ok, List.map_toArray, List.map_cons, List.map_nil, hs, hx, hrun]
  exact hK
theorem Grow.below {w wr : World} {g p cap : Nat} {u : Value} {ps : List (List UInt8)} {cur : List UInt8} (h : Grow w wr g p cap u ps cur) : Below w.heap.size w wr := by
  obtain ⟨us, _, _, _, _, _, h5⟩ := h
  exact h5
theorem Grow.cell_alloc {w wr : World} {g p cap : Nat} {u : Value} {ps : List (List UInt8)} {cur : List UInt8} (h : Grow w wr g p cap u ps cur) (o : Obj) : (wr.alloc o).cell? ⟨g, p, none⟩ = some u := by
  have hc := h.cell
  obtain ⟨us, _, h1, _⟩ := h
  rw [World.cell?_alloc_lt wr o _ (World.ownsRow.lt h1 g rfl).2]
  exact hc
theorem IntWalk.i64_sub1 (p : Nat) (hp : p ≤ 100000) : IntKind.i64.wrap (p : Int) = (p : Int) := by
  rw [IntKind.wrap_i64]; omega

set_option maxRecDepth 100000 in
set_option maxHeartbeats 4000000 in
theorem rsplit_mid (A : Option Addr) (c z : Nat) (sz : Int) (b : List UInt8) (w : World) (hr : Rd w w.heap.size A b) (hl : b.length ≤ 100000) (h0 : 1 ≤ b.length) (hz1 : 1 ≤ z) (hs1 : -9223372036854775808 ≤ sz) (hs2 : sz ≤ 9223372036854775807)
    (hcase : (sz < 1 ∧ z = b.length) ∨ (1 ≤ sz ∧ sz = (z : Int))) :
    Calls Try.prog 16 #[.slice A b.length c, .int .i64 sz] w (GaveP w (full z b ((b.length - 1) / z + 1))) := by
  have HR := Lib.hid hr
  have HCS := Lib.hid hcase
  clear hr hcase
  go_enter Try.func16, Try.ntmps16
  go_wp2
  go_loopw [5, 6] (fun v i wr => ∃ k : Nat, k ≤ b.length ∧ i = .int .i64 k ∧ Stage w wr v z b k) (fun _ i _ => b.length - (intOf i).toNat)
  case atStart => exact ⟨0, by omega, rfl, fun _ => by rw [Nat.zero_div]; exact OwnB.nil _ _, Below.refl _ _, fun h => by omega⟩
  case round =>
    obtain ⟨k, hk, rfl, hst⟩ := hrel
    by_cases hlt : k < b.length
    · obtain ⟨bb, off, rfl, hbb, hcc⟩ := HR.out.at_ (by omega)
      have HC : Hid (∀ wx, Below w.heap.size w wx → wx.cell? ⟨bb, off + k, none⟩ = some (.int .u8 (b[k].toNat : Int))) := fun wx h => (h.cell (by exact hbb)).trans (hcc k hlt)
      clear hcc HR
      by_cases hm : k % z = 0
      · have HN : Hid (∀ g cap wr' u', Grow w wr' g (k / z) cap u' (full z b (k / z)) ([] ++ [b[k]]) → Stage w wr' (.slice (some ⟨g, 0, none⟩) (k / z + 1) cap) z b (k + 1)) := fun g cap wr' u' h => by
          rw [new_last hlt hm] at h
          exact Stage.of (k := k + 1) hz1 (by omega) (by omega) h
        have HO := Lib.hid (hst.1 hm)
        have HB := Lib.hid hst.2.1
        have hcl : Hid (([] : List UInt8).length ≤ 100000) := by show ([] : List UInt8).length ≤ 100000; simp
        have hpl : k / z ≤ 100000 := Nat.le_trans (Nat.div_le_self _ _) (by omega)
        have HF := Lib.hid (full_length z b (k / z))
        clear hst
        generalize b[k] = x at HC HN
        by_cases hk0 : k = 0
        · have hbz : ((k : Int) == 0) = true := beq_iff_eq.2 (by omega)
          clear HCS hm hk0
          go_upto_region 7 with (first | (at_builtin; refine wpList_appNil w _ rfl (.tmp 25) (.tmp 26) rfl _ (full z b (k / z)) rfl HO.out HB.out rfl (by rw [HF.out]; omega) ?_; intro g cap wx hG; have T := Lib.hid hG; clear hG))
          rw [HF.out] at T ⊢
          have HN := Lib.hid (HN.out g cap)
          obtain ⟨u, hu⟩ : ∃ u, u = Value.slice none 0 0 := ⟨_, rfl⟩
          rw [← hu] at T
          clear hu HO HB HF
          generalize full z b (k / z) = PS at T HN
          generalize k / z = p at T HN hpl ⊢
          refine wpB_start w.heap.size (by kernel_rfl) ?_
          have T0 := Lib.hid T.out.drew
          have q0 : ∀ w', Below w.heap.size wx.drew w' → w'.cell? ⟨bb, off + k, none⟩ = some (.int .u8 (x.toNat : Int)) := fun w' h => (h.cell (by exact hbb)).trans (HC.out wx T.out.below)
          clear T
          generalize wx.drew = w0 at T0 q0 ⊢
          obtain ⟨A2, cA, w2, hrun, hG, hb2, hb3, hfz, hcl2⟩ := T0.out.next x hcl.out
          have hcell := T0.out.cell
          have hcell2 : (w0.alloc (.cells #[.int .u8 (x.toNat : Int)] 5)).cell? ⟨g, p, none⟩ = some u := T0.out.cell_alloc _
          have HG := Lib.hid hG
          have HB1 : Hid (Below w.heap.size w0 (w0.alloc (.cells #[.int .u8 (x.toNat : Int)] 5))) := (Below.refl _ _).alloc T0.out.below.size _
          have HB2 := Lib.hid hb2
          have HB3 := Lib.hid hb3
          have hwp : IntKind.i64.wrap (p : Int) = (p : Int) := IntWalk.i64_sub1 p hpl
          have hpp : (p : Int) < (p : Int) + 1 := by omega
          clear hG hb2 hb3 T0
          refine wpB_take (i := 0) (d := 28) (v := ?v7n0x0) rfl rfl (by kernel_rfl) (by kernel_rfl) (by kernel_rfl) (fun _ _ _ h => h) (by rfl) ?y7n0x0 ?r7n0x0
          case y7n0x0 => (intro w' hSw; go_simp; try (with_reducible rfl))
          simp only [Act.put, List.setIfInBounds_toArray, List.set_cons_zero, List.set_cons_succ]
          refine wpB_take (i := 1) (d := 29) (v := ?v7n0x1) rfl rfl (by kernel_rfl) (by kernel_rfl) (by kernel_rfl) (fun _ _ _ h => h) (by rfl) ?y7n0x1 ?r7n0x1
          case y7n0x1 => (intro w' hSw; go_simp; try (with_reducible rfl))
          simp only [Act.put, List.setIfInBounds_toArray, List.set_cons_zero, List.set_cons_succ]
          refine wpB_take (i := 2) (d := 30) (v := ?v7n0x2) rfl rfl (by kernel_rfl) (by kernel_rfl) (by kernel_rfl) (fun _ _ _ h => h) (by rfl) ?y7n0x2 ?r7n0x2
          case y7n0x2 => (intro w' hSw; go_simp; try (with_reducible rfl))
          simp only [Act.put, List.setIfInBounds_toArray, List.set_cons_zero, List.set_cons_succ]
          refine wpB_take (i := 3) (d := 31) (v := ?v7n0x3) rfl rfl (by kernel_rfl) (by kernel_rfl) (by kernel_rfl) (fun _ _ _ h => h) (by rfl) ?y7n0x3 ?r7n0x3
          case y7n0x3 => (intro w' hSw; go_simp; try (with_reducible rfl))
          simp only [Act.put, List.setIfInBounds_toArray, List.set_cons_zero, List.set_cons_succ]
          refine wpB_take (i := 4) (d := 32) (v := ?v7n0x4) rfl rfl (by kernel_rfl) (by kernel_rfl) (by kernel_rfl) (fun _ _ _ h => h) (by rfl) ?y7n0x4 ?r7n0x4
          case y7n0x4 => (intro w' hSw; go_simp; try (with_reducible rfl))
          simp only [Act.put, List.setIfInBounds_toArray, List.set_cons_zero, List.set_cons_succ]
          refine wpB_take (i := 5) (d := 33) (v := ?v7n0x5) rfl rfl (by kernel_rfl) (by kernel_rfl) (by kernel_rfl) (fun _ _ _ h => h) (by rfl) ?y7n0x5 ?r7n0x5
          case y7n0x5 => (intro w' hSw; go_simp; try (with_reducible rfl))
          simp only [Act.put, List.setIfInBounds_toArray, List.set_cons_zero, List.set_cons_succ]
          refine wpB_take (i := 6) (d := 34) (v := ?v7n0x6) rfl rfl (by kernel_rfl) (by kernel_rfl) (by kernel_rfl) (fun _ _ _ h => h) (by rfl) ?y7n0x6 ?r7n0x6
          case y7n0x6 => (intro w' hSw; go_simp; try (with_reducible rfl))
          simp only [Act.put, List.setIfInBounds_toArray, List.set_cons_zero, List.set_cons_succ]
          refine wpB_take (i := 7) (d := 35) (v := ?v7n0x7) rfl rfl (by kernel_rfl) (by kernel_rfl) (by kernel_rfl) (fun _ _ _ h => h) (by rfl) ?y7n0x7 ?r7n0x7
          case y7n0x7 => (intro w' hSw; go_simp; try (with_reducible rfl))
          simp only [Act.put, List.setIfInBounds_toArray, List.set_cons_zero, List.set_cons_succ]
          refine wpB_take (i := 8) (d := 36) (v := ?v7n0x8) rfl rfl (by kernel_rfl) (by kernel_rfl) (by kernel_rfl) (fun _ _ _ h => h) (by rfl) ?y7n0x8 ?r7n0x8
          case y7n0x8 => (intro w' hSw; go_simp; try (with_reducible rfl))
          simp only [Act.put, List.setIfInBounds_toArray, List.set_cons_zero, List.set_cons_succ]
          refine wpB_take (i := 10) (d := 38) (v := ?v7n0x10) rfl rfl (by kernel_rfl) (by kernel_rfl) (by kernel_rfl) (fun _ _ _ h => h) (by rfl) ?y7n0x10 ?r7n0x10
          case y7n0x10 => (intro w' hSw; go_simp; try (with_reducible rfl))
          simp only [Act.put, List.setIfInBounds_toArray, List.set_cons_zero, List.set_cons_succ]
          refine wpB_take (i := 11) (d := 39) (v := ?v7n0x11) rfl rfl (by kernel_rfl) (by kernel_rfl) (by kernel_rfl) (fun _ _ _ h => h) (by rfl) ?y7n0x11 ?r7n0x11
          case y7n0x11 => (intro w' hSw; go_simp; try (with_reducible rfl))
          simp only [Act.put, List.setIfInBounds_toArray, List.set_cons_zero, List.set_cons_succ]
          refine wpB_take (i := 12) (d := 40) (v := ?v7n0x12) rfl rfl (by kernel_rfl) (by kernel_rfl) (by kernel_rfl) (fun _ _ _ h => h) (by rfl) ?y7n0x12 ?r7n0x12
          case y7n0x12 => (intro w' hSw; go_simp; try (with_reducible rfl))
          simp only [Act.put, List.setIfInBounds_toArray, List.set_cons_zero, List.set_cons_succ]
          refine wpB_take (i := 13) (d := 41) (v := ?v7n0x13) rfl rfl (by kernel_rfl) (by kernel_rfl) (by kernel_rfl) (fun _ _ _ h => h) (by rfl) ?y7n0x13 ?r7n0x13
          case y7n0x13 => (intro w' hSw; go_simp; try (with_reducible rfl))
          simp only [Act.put, List.setIfInBounds_toArray, List.set_cons_zero, List.set_cons_succ]
          clear hwp q0
          refine wpB_two (i := 9) (j := 14) (by kernel_rfl) rfl rfl (by rfl) (by rfl) (fun K hK => ?_) (fun K hK => ?_)
          · go_simp
            refine hK.out _ _ _ (Nat.le_refl _) (Below.refl _ _) ?_
            clear hK K hcell
            refine wpB_do (i := 14) (by kernel_rfl) rfl (by rfl) (fun K hK => ?_)
            go_simp
            refine hK.out _ _ _ (Nat.le_refl _) HB1.out ?_
            clear hK K hcell2 HB1
            refine wpB_do (i := 15) (by kernel_rfl) rfl (by rfl) (fun K hK => ?_)
            refine oper_app (.tmp 37) (.tmp 42) 23 rfl _ _ _ _ rfl rfl hrun ?_
            simp only [Act.put, List.setIfInBounds_toArray, List.set_cons_zero, List.set_cons_succ]
            refine hK.out _ _ _ (Nat.le_refl _) HB2.out ?_
            clear hK K hrun HB2
            have hwp : IntKind.i64.wrap (p : Int) = (p : Int) := IntWalk.i64_sub1 p hpl
            refine wpB_take (i := 16) (d := 44) (v := ?v7n0ax16) rfl rfl (by kernel_rfl) (by kernel_rfl) (by kernel_rfl) (fun _ _ _ h => h) (by rfl) ?y7n0ax16 ?r7n0ax16
            case y7n0ax16 => (intro w' hSw; go_simp; try (with_reducible rfl))
            simp only [Act.put, List.setIfInBounds_toArray, List.set_cons_zero, List.set_cons_succ]
            refine wpB_do (i := 17) (by kernel_rfl) rfl (by rfl) (fun K hK => ?_)
            go_simp
            refine hK.out _ _ _ (Nat.le_refl _) HB3.out ?_
            clear hK K hfz hcl2 HB3
            refine wpB_done (by kernel_rfl) ?_
            go_wp2
            go_roundw
            case rel => exact ⟨k + 1, by omega, by go_num, HN.out _ _ HG.out⟩
            case measure => simp [intOf]; omega
          · go_simp
            refine hK.out _ _ _ (Nat.le_refl _) HB1.out ?_
            clear hK K hcell HB1
            refine wpB_do (i := 9) (by kernel_rfl) rfl (by rfl) (fun K hK => ?_)
            go_simp
            refine hK.out _ _ _ (Nat.le_refl _) (Below.refl _ _) ?_
            clear hK K hcell2
            refine wpB_do (i := 15) (by kernel_rfl) rfl (by rfl) (fun K hK => ?_)
            refine oper_app (.tmp 37) (.tmp 42) 23 rfl _ _ _ _ rfl rfl hrun ?_
            simp only [Act.put, List.setIfInBounds_toArray, List.set_cons_zero, List.set_cons_succ]
            refine hK.out _ _ _ (Nat.le_refl _) HB2.out ?_
            clear hK K hrun HB2
            have hwp : IntKind.i64.wrap (p : Int) = (p : Int) := IntWalk.i64_sub1 p hpl
            refine wpB_take (i := 16) (d := 44) (v := ?v7n0bx16) rfl rfl (by kernel_rfl) (by kernel_rfl) (by kernel_rfl) (fun _ _ _ h => h) (by rfl) ?y7n0bx16 ?r7n0bx16
            case y7n0bx16 => (intro w' hSw; go_simp; try (with_reducible rfl))
            simp only [Act.put, List.setIfInBounds_toArray, List.set_cons_zero, List.set_cons_succ]
            refine wpB_do (i := 17) (by kernel_rfl) rfl (by rfl) (fun K hK => ?_)
            go_simp
            refine hK.out _ _ _ (Nat.le_refl _) HB3.out ?_
            clear hK K hfz hcl2 HB3
            refine wpB_done (by kernel_rfl) ?_
            go_wp2
            go_roundw
            case rel => exact ⟨k + 1, by omega, by go_num, HN.out _ _ HG.out⟩
            case measure => simp [intOf]; omega
        · have hbz : ((k : Int) == 0) = false := beq_eq_false_iff_ne.2 (by omega)
          have hge : 1 ≤ sz ∧ sz = (z : Int) := by
            rcases HCS.out with ⟨_, h2⟩ | h2
            · exfalso
              rw [h2, Nat.mod_eq_of_lt hlt] at hm
              exact hk0 hm
            · exact h2
          obtain ⟨hge1, rfl⟩ := hge
          have hrem : ((k : Int) % (z : Int) == 0) = true := beq_iff_eq.2 (by rw [← Int.natCast_emod, hm]; rfl)
          clear HCS hm hk0
          go_upto_region 7 with (first | (at_builtin; refine wpList_appNil w _ rfl (.tmp 25) (.tmp 26) rfl _ (full z b (k / z)) rfl HO.out HB.out rfl (by rw [HF.out]; omega) ?_; intro g cap wx hG; have T := Lib.hid hG; clear hG))
          rw [HF.out] at T ⊢
          have HN := Lib.hid (HN.out g cap)
          obtain ⟨u, hu⟩ : ∃ u, u = Value.slice none 0 0 := ⟨_, rfl⟩
          rw [← hu] at T
          clear hu HO HB HF
          generalize full z b (k / z) = PS at T HN
          generalize k / z = p at T HN hpl ⊢
          refine wpB_start w.heap.size (by kernel_rfl) ?_
          have T0 := Lib.hid T.out.drew
          have q0 : ∀ w', Below w.heap.size wx.drew w' → w'.cell? ⟨bb, off + k, none⟩ = some (.int .u8 (x.toNat : Int)) := fun w' h => (h.cell (by exact hbb)).trans (HC.out wx T.out.below)
          clear T
          generalize wx.drew = w0 at T0 q0 ⊢
          obtain ⟨A2, cA, w2, hrun, hG, hb2, hb3, hfz, hcl2⟩ := T0.out.next x hcl.out
          have hcell := T0.out.cell
          have hcell2 : (w0.alloc (.cells #[.int .u8 (x.toNat : Int)] 5)).cell? ⟨g, p, none⟩ = some u := T0.out.cell_alloc _
          have HG := Lib.hid hG
          have HB1 : Hid (Below w.heap.size w0 (w0.alloc (.cells #[.int .u8 (x.toNat : Int)] 5))) := (Below.refl _ _).alloc T0.out.below.size _
          have HB2 := Lib.hid hb2
          have HB3 := Lib.hid hb3
          have hwp : IntKind.i64.wrap (p : Int) = (p : Int) := IntWalk.i64_sub1 p hpl
          have hpp : (p : Int) < (p : Int) + 1 := by omega
          clear hG hb2 hb3 T0
          refine wpB_take (i := 0) (d := 28) (v := ?v7n1x0) rfl rfl (by kernel_rfl) (by kernel_rfl) (by kernel_rfl) (fun _ _ _ h => h) (by rfl) ?y7n1x0 ?r7n1x0
          case y7n1x0 => (intro w' hSw; go_simp; try (with_reducible rfl))
          simp only [Act.put, List.setIfInBounds_toArray, List.set_cons_zero, List.set_cons_succ]
          refine wpB_take (i := 1) (d := 29) (v := ?v7n1x1) rfl rfl (by kernel_rfl) (by kernel_rfl) (by kernel_rfl) (fun _ _ _ h => h) (by rfl) ?y7n1x1 ?r7n1x1
          case y7n1x1 => (intro w' hSw; go_simp; try (with_reducible rfl))
          simp only [Act.put, List.setIfInBounds_toArray, List.set_cons_zero, List.set_cons_succ]
          refine wpB_take (i := 2) (d := 30) (v := ?v7n1x2) rfl rfl (by kernel_rfl) (by kernel_rfl) (by kernel_rfl) (fun _ _ _ h => h) (by rfl) ?y7n1x2 ?r7n1x2
          case y7n1x2 => (intro w' hSw; go_simp; try (with_reducible rfl))
          simp only [Act.put, List.setIfInBounds_toArray, List.set_cons_zero, List.set_cons_succ]
          refine wpB_take (i := 3) (d := 31) (v := ?v7n1x3) rfl rfl (by kernel_rfl) (by kernel_rfl) (by kernel_rfl) (fun _ _ _ h => h) (by rfl) ?y7n1x3 ?r7n1x3
          case y7n1x3 => (intro w' hSw; go_simp; try (with_reducible rfl))
          simp only [Act.put, List.setIfInBounds_toArray, List.set_cons_zero, List.set_cons_succ]
          refine wpB_take (i := 4) (d := 32) (v := ?v7n1x4) rfl rfl (by kernel_rfl) (by kernel_rfl) (by kernel_rfl) (fun _ _ _ h => h) (by rfl) ?y7n1x4 ?r7n1x4
          case y7n1x4 => (intro w' hSw; go_simp; try (with_reducible rfl))
          simp only [Act.put, List.setIfInBounds_toArray, List.set_cons_zero, List.set_cons_succ]
          refine wpB_take (i := 5) (d := 33) (v := ?v7n1x5) rfl rfl (by kernel_rfl) (by kernel_rfl) (by kernel_rfl) (fun _ _ _ h => h) (by rfl) ?y7n1x5 ?r7n1x5
          case y7n1x5 => (intro w' hSw; go_simp; try (with_reducible rfl))
          simp only [Act.put, List.setIfInBounds_toArray, List.set_cons_zero, List.set_cons_succ]
          refine wpB_take (i := 6) (d := 34) (v := ?v7n1x6) rfl rfl (by kernel_rfl) (by kernel_rfl) (by kernel_rfl) (fun _ _ _ h => h) (by rfl) ?y7n1x6 ?r7n1x6
          case y7n1x6 => (intro w' hSw; go_simp; try (with_reducible rfl))
          simp only [Act.put, List.setIfInBounds_toArray, List.set_cons_zero, List.set_cons_succ]
          refine wpB_take (i := 7) (d := 35) (v := ?v7n1x7) rfl rfl (by kernel_rfl) (by kernel_rfl) (by kernel_rfl) (fun _ _ _ h => h) (by rfl) ?y7n1x7 ?r7n1x7
          case y7n1x7 => (intro w' hSw; go_simp; try (with_reducible rfl))
          simp only [Act.put, List.setIfInBounds_toArray, List.set_cons_zero, List.set_cons_succ]
          refine wpB_take (i := 8) (d := 36) (v := ?v7n1x8) rfl rfl (by kernel_rfl) (by kernel_rfl) (by kernel_rfl) (fun _ _ _ h => h) (by rfl) ?y7n1x8 ?r7n1x8
          case y7n1x8 => (intro w' hSw; go_simp; try (with_reducible rfl))
          simp only [Act.put, List.setIfInBounds_toArray, List.set_cons_zero, List.set_cons_succ]
          refine wpB_take (i := 10) (d := 38) (v := ?v7n1x10) rfl rfl (by kernel_rfl) (by kernel_rfl) (by kernel_rfl) (fun _ _ _ h => h) (by rfl) ?y7n1x10 ?r7n1x10
          case y7n1x10 => (intro w' hSw; go_simp; try (with_reducible rfl))
          simp only [Act.put, List.setIfInBounds_toArray, List.set_cons_zero, List.set_cons_succ]
          refine wpB_take (i := 11) (d := 39) (v := ?v7n1x11) rfl rfl (by kernel_rfl) (by kernel_rfl) (by kernel_rfl) (fun _ _ _ h => h) (by rfl) ?y7n1x11 ?r7n1x11
          case y7n1x11 => (intro w' hSw; go_simp; try (with_reducible rfl))
          simp only [Act.put, List.setIfInBounds_toArray, List.set_cons_zero, List.set_cons_succ]
          refine wpB_take (i := 12) (d := 40) (v := ?v7n1x12) rfl rfl (by kernel_rfl) (by kernel_rfl) (by kernel_rfl) (fun _ _ _ h => h) (by rfl) ?y7n1x12 ?r7n1x12
          case y7n1x12 => (intro w' hSw; go_simp; try (with_reducible rfl))
          simp only [Act.put, List.setIfInBounds_toArray, List.set_cons_zero, List.set_cons_succ]
          refine wpB_take (i := 13) (d := 41) (v := ?v7n1x13) rfl rfl (by kernel_rfl) (by kernel_rfl) (by kernel_rfl) (fun _ _ _ h => h) (by rfl) ?y7n1x13 ?r7n1x13
          case y7n1x13 => (intro w' hSw; go_simp; try (with_reducible rfl))
          simp only [Act.put, List.setIfInBounds_toArray, List.set_cons_zero, List.set_cons_succ]
          clear hwp q0
          refine wpB_two (i := 9) (j := 14) (by kernel_rfl) rfl rfl (by rfl) (by rfl) (fun K hK => ?_) (fun K hK => ?_)
          · go_simp
            refine hK.out _ _ _ (Nat.le_refl _) (Below.refl _ _) ?_
            clear hK K hcell
            refine wpB_do (i := 14) (by kernel_rfl) rfl (by rfl) (fun K hK => ?_)
            go_simp
            refine hK.out _ _ _ (Nat.le_refl _) HB1.out ?_
            clear hK K hcell2 HB1
            refine wpB_do (i := 15) (by kernel_rfl) rfl (by rfl) (fun K hK => ?_)
            refine oper_app (.tmp 37) (.tmp 42) 23 rfl _ _ _ _ rfl rfl hrun ?_
            simp only [Act.put, List.setIfInBounds_toArray, List.set_cons_zero, List.set_cons_succ]
            refine hK.out _ _ _ (Nat.le_refl _) HB2.out ?_
            clear hK K hrun HB2
            have hwp : IntKind.i64.wrap (p : Int) = (p : Int) := IntWalk.i64_sub1 p hpl
            refine wpB_take (i := 16) (d := 44) (v := ?v7n1ax16) rfl rfl (by kernel_rfl) (by kernel_rfl) (by kernel_rfl) (fun _ _ _ h => h) (by rfl) ?y7n1ax16 ?r7n1ax16
            case y7n1ax16 => (intro w' hSw; go_simp; try (with_reducible rfl))
            simp only [Act.put, List.setIfInBounds_toArray, List.set_cons_zero, List.set_cons_succ]
            refine wpB_do (i := 17) (by kernel_rfl) rfl (by rfl) (fun K hK => ?_)
            go_simp
            refine hK.out _ _ _ (Nat.le_refl _) HB3.out ?_
            clear hK K hfz hcl2 HB3
            refine wpB_done (by kernel_rfl) ?_
            go_wp2
            go_roundw
            case rel => exact ⟨k + 1, by omega, by go_num, HN.out _ _ HG.out⟩
            case measure => simp [intOf]; omega
          · go_simp
            refine hK.out _ _ _ (Nat.le_refl _) HB1.out ?_
            clear hK K hcell HB1
            refine wpB_do (i := 9) (by kernel_rfl) rfl (by rfl) (fun K hK => ?_)
            go_simp
            refine hK.out _ _ _ (Nat.le_refl _) (Below.refl _ _) ?_
            clear hK K hcell2
            refine wpB_do (i := 15) (by kernel_rfl) rfl (by rfl) (fun K hK => ?_)
            refine oper_app (.tmp 37) (.tmp 42) 23 rfl _ _ _ _ rfl rfl hrun ?_
            simp only [Act.put, List.setIfInBounds_toArray, List.set_cons_zero, List.set_cons_succ]
            refine hK.out _ _ _ (Nat.le_refl _) HB2.out ?_
            clear hK K hrun HB2
            have hwp : IntKind.i64.wrap (p : Int) = (p : Int) := IntWalk.i64_sub1 p hpl
            refine wpB_take (i := 16) (d := 44) (v := ?v7n1bx16) rfl rfl (by kernel_rfl) (by kernel_rfl) (by kernel_rfl) (fun _ _ _ h => h) (by rfl) ?y7n1bx16 ?r7n1bx16
            case y7n1bx16 => (intro w' hSw; go_simp; try (with_reducible rfl))
            simp only [Act.put, List.setIfInBounds_toArray, List.set_cons_zero, List.set_cons_succ]
            refine wpB_do (i := 17) (by kernel_rfl) rfl (by rfl) (fun K hK => ?_)
            go_simp
            refine hK.out _ _ _ (Nat.le_refl _) HB3.out ?_
            clear hK K hfz hcl2 HB3
            refine wpB_done (by kernel_rfl) ?_
            go_wp2
            go_roundw
            case rel => exact ⟨k + 1, by omega, by go_num, HN.out _ _ HG.out⟩
            case measure => simp [intOf]; omega
      · have hk1 : 1 ≤ k := by
          rcases Nat.eq_zero_or_pos k with h | h
          · rw [h, Nat.zero_mod] at hm; exact absurd rfl hm
          · exact h
        obtain ⟨g, cap, u, rfl, hG⟩ := hst.2.2 hk1
        have HN : Hid (∀ wr' u', Grow w wr' g ((k - 1) / z) cap u' (full z b ((k - 1) / z)) (lastP z b k ++ [b[k]]) → Stage w wr' (.slice (some ⟨g, 0, none⟩) ((k - 1) / z + 1) cap) z b (k + 1)) := fun wr' u' h => by
          rw [same_last hz1 hk1 hlt hm] at h
          have e := same_q hz1 hk1 hm
          rw [e] at h ⊢
          exact Stage.of (k := k + 1) hz1 (by omega) (by omega) h
        have T := Lib.hid hG
        have hcl : Hid ((lastP z b k).length ≤ 100000) := Nat.le_trans lastP_length hl
        have hpl : (k - 1) / z ≤ 100000 := Nat.le_trans (Nat.div_le_self _ _) (by omega)
        have hbz : ((k : Int) == 0) = false := beq_eq_false_iff_ne.2 (by omega)
        clear hst hG
        generalize b[k] = x at HC HN
        generalize full z b ((k - 1) / z) = PS at T HN
        generalize lastP z b k = CUR at T HN hcl
        generalize (k - 1) / z = p at T HN hpl
        by_cases hlow : sz < 1
        · clear HCS hm
          go_upto_region 7 with fail
          refine wpB_start w.heap.size (by kernel_rfl) ?_
          have T0 := Lib.hid T.out.drew
          have q0 : ∀ w', Below w.heap.size wr.drew w' → w'.cell? ⟨bb, off + k, none⟩ = some (.int .u8 (x.toNat : Int)) := fun w' h => (h.cell (by exact hbb)).trans (HC.out wr T.out.below)
          clear T
          generalize wr.drew = w0 at T0 q0 ⊢
          obtain ⟨A2, cA, w2, hrun, hG, hb2, hb3, hfz, hcl2⟩ := T0.out.next x hcl.out
          have hcell := T0.out.cell
          have hcell2 : (w0.alloc (.cells #[.int .u8 (x.toNat : Int)] 5)).cell? ⟨g, p, none⟩ = some u := T0.out.cell_alloc _
          have HG := Lib.hid hG
          have HB1 : Hid (Below w.heap.size w0 (w0.alloc (.cells #[.int .u8 (x.toNat : Int)] 5))) := (Below.refl _ _).alloc T0.out.below.size _
          have HB2 := Lib.hid hb2
          have HB3 := Lib.hid hb3
          have hwp : IntKind.i64.wrap (p : Int) = (p : Int) := IntWalk.i64_sub1 p hpl
          have hpp : (p : Int) < (p : Int) + 1 := by omega
          clear hG hb2 hb3 T0
          refine wpB_take (i := 0) (d := 28) (v := ?v7s0x0) rfl rfl (by kernel_rfl) (by kernel_rfl) (by kernel_rfl) (fun _ _ _ h => h) (by rfl) ?y7s0x0 ?r7s0x0
          case y7s0x0 => (intro w' hSw; go_simp; try (with_reducible rfl))
          simp only [Act.put, List.setIfInBounds_toArray, List.set_cons_zero, List.set_cons_succ]
          refine wpB_take (i := 1) (d := 29) (v := ?v7s0x1) rfl rfl (by kernel_rfl) (by kernel_rfl) (by kernel_rfl) (fun _ _ _ h => h) (by rfl) ?y7s0x1 ?r7s0x1
          case y7s0x1 => (intro w' hSw; go_simp; try (with_reducible rfl))
          simp only [Act.put, List.setIfInBounds_toArray, List.set_cons_zero, List.set_cons_succ]
          refine wpB_take (i := 2) (d := 30) (v := ?v7s0x2) rfl rfl (by kernel_rfl) (by kernel_rfl) (by kernel_rfl) (fun _ _ _ h => h) (by rfl) ?y7s0x2 ?r7s0x2
          case y7s0x2 => (intro w' hSw; go_simp; try (with_reducible rfl))
          simp only [Act.put, List.setIfInBounds_toArray, List.set_cons_zero, List.set_cons_succ]
          refine wpB_take (i := 3) (d := 31) (v := ?v7s0x3) rfl rfl (by kernel_rfl) (by kernel_rfl) (by kernel_rfl) (fun _ _ _ h => h) (by rfl) ?y7s0x3 ?r7s0x3
          case y7s0x3 => (intro w' hSw; go_simp; try (with_reducible rfl))
          simp only [Act.put, List.setIfInBounds_toArray, List.set_cons_zero, List.set_cons_succ]
          refine wpB_take (i := 4) (d := 32) (v := ?v7s0x4) rfl rfl (by kernel_rfl) (by kernel_rfl) (by kernel_rfl) (fun _ _ _ h => h) (by rfl) ?y7s0x4 ?r7s0x4
          case y7s0x4 => (intro w' hSw; go_simp; try (with_reducible rfl))
          simp only [Act.put, List.setIfInBounds_toArray, List.set_cons_zero, List.set_cons_succ]
          refine wpB_take (i := 5) (d := 33) (v := ?v7s0x5) rfl rfl (by kernel_rfl) (by kernel_rfl) (by kernel_rfl) (fun _ _ _ h => h) (by rfl) ?y7s0x5 ?r7s0x5
          case y7s0x5 => (intro w' hSw; go_simp; try (with_reducible rfl))
          simp only [Act.put, List.setIfInBounds_toArray, List.set_cons_zero, List.set_cons_succ]
          refine wpB_take (i := 6) (d := 34) (v := ?v7s0x6) rfl rfl (by kernel_rfl) (by kernel_rfl) (by kernel_rfl) (fun _ _ _ h => h) (by rfl) ?y7s0x6 ?r7s0x6
          case y7s0x6 => (intro w' hSw; go_simp; try (with_reducible rfl))
          simp only [Act.put, List.setIfInBounds_toArray, List.set_cons_zero, List.set_cons_succ]
          refine wpB_take (i := 7) (d := 35) (v := ?v7s0x7) rfl rfl (by kernel_rfl) (by kernel_rfl) (by kernel_rfl) (fun _ _ _ h => h) (by rfl) ?y7s0x7 ?r7s0x7
          case y7s0x7 => (intro w' hSw; go_simp; try (with_reducible rfl))
          simp only [Act.put, List.setIfInBounds_toArray, List.set_cons_zero, List.set_cons_succ]
          refine wpB_take (i := 8) (d := 36) (v := ?v7s0x8) rfl rfl (by kernel_rfl) (by kernel_rfl) (by kernel_rfl) (fun _ _ _ h => h) (by rfl) ?y7s0x8 ?r7s0x8
          case y7s0x8 => (intro w' hSw; go_simp; try (with_reducible rfl))
          simp only [Act.put, List.setIfInBounds_toArray, List.set_cons_zero, List.set_cons_succ]
          refine wpB_take (i := 10) (d := 38) (v := ?v7s0x10) rfl rfl (by kernel_rfl) (by kernel_rfl) (by kernel_rfl) (fun _ _ _ h => h) (by rfl) ?y7s0x10 ?r7s0x10
          case y7s0x10 => (intro w' hSw; go_simp; try (with_reducible rfl))
          simp only [Act.put, List.setIfInBounds_toArray, List.set_cons_zero, List.set_cons_succ]
          refine wpB_take (i := 11) (d := 39) (v := ?v7s0x11) rfl rfl (by kernel_rfl) (by kernel_rfl) (by kernel_rfl) (fun _ _ _ h => h) (by rfl) ?y7s0x11 ?r7s0x11
          case y7s0x11 => (intro w' hSw; go_simp; try (with_reducible rfl))
          simp only [Act.put, List.setIfInBounds_toArray, List.set_cons_zero, List.set_cons_succ]
          refine wpB_take (i := 12) (d := 40) (v := ?v7s0x12) rfl rfl (by kernel_rfl) (by kernel_rfl) (by kernel_rfl) (fun _ _ _ h => h) (by rfl) ?y7s0x12 ?r7s0x12
          case y7s0x12 => (intro w' hSw; go_simp; try (with_reducible rfl))
          simp only [Act.put, List.setIfInBounds_toArray, List.set_cons_zero, List.set_cons_succ]
          refine wpB_take (i := 13) (d := 41) (v := ?v7s0x13) rfl rfl (by kernel_rfl) (by kernel_rfl) (by kernel_rfl) (fun _ _ _ h => h) (by rfl) ?y7s0x13 ?r7s0x13
          case y7s0x13 => (intro w' hSw; go_simp; try (with_reducible rfl))
          simp only [Act.put, List.setIfInBounds_toArray, List.set_cons_zero, List.set_cons_succ]
          clear hwp q0
          refine wpB_two (i := 9) (j := 14) (by kernel_rfl) rfl rfl (by rfl) (by rfl) (fun K hK => ?_) (fun K hK => ?_)
          · go_simp
            refine hK.out _ _ _ (Nat.le_refl _) (Below.refl _ _) ?_
            clear hK K hcell
            refine wpB_do (i := 14) (by kernel_rfl) rfl (by rfl) (fun K hK => ?_)
            go_simp
            refine hK.out _ _ _ (Nat.le_refl _) HB1.out ?_
            clear hK K hcell2 HB1
            refine wpB_do (i := 15) (by kernel_rfl) rfl (by rfl) (fun K hK => ?_)
            refine oper_app (.tmp 37) (.tmp 42) 23 rfl _ _ _ _ rfl rfl hrun ?_
            simp only [Act.put, List.setIfInBounds_toArray, List.set_cons_zero, List.set_cons_succ]
            refine hK.out _ _ _ (Nat.le_refl _) HB2.out ?_
            clear hK K hrun HB2
            have hwp : IntKind.i64.wrap (p : Int) = (p : Int) := IntWalk.i64_sub1 p hpl
            refine wpB_take (i := 16) (d := 44) (v := ?v7s0ax16) rfl rfl (by kernel_rfl) (by kernel_rfl) (by kernel_rfl) (fun _ _ _ h => h) (by rfl) ?y7s0ax16 ?r7s0ax16
            case y7s0ax16 => (intro w' hSw; go_simp; try (with_reducible rfl))
            simp only [Act.put, List.setIfInBounds_toArray, List.set_cons_zero, List.set_cons_succ]
            refine wpB_do (i := 17) (by kernel_rfl) rfl (by rfl) (fun K hK => ?_)
            go_simp
            refine hK.out _ _ _ (Nat.le_refl _) HB3.out ?_
            clear hK K hfz hcl2 HB3
            refine wpB_done (by kernel_rfl) ?_
            go_wp2
            go_roundw
            case rel => exact ⟨k + 1, by omega, by go_num, HN.out _ _ HG.out⟩
            case measure => simp [intOf]; omega
          · go_simp
            refine hK.out _ _ _ (Nat.le_refl _) HB1.out ?_
            clear hK K hcell HB1
            refine wpB_do (i := 9) (by kernel_rfl) rfl (by rfl) (fun K hK => ?_)
            go_simp
            refine hK.out _ _ _ (Nat.le_refl _) (Below.refl _ _) ?_
            clear hK K hcell2
            refine wpB_do (i := 15) (by kernel_rfl) rfl (by rfl) (fun K hK => ?_)
            refine oper_app (.tmp 37) (.tmp 42) 23 rfl _ _ _ _ rfl rfl hrun ?_
            simp only [Act.put, List.setIfInBounds_toArray, List.set_cons_zero, List.set_cons_succ]
            refine hK.out _ _ _ (Nat.le_refl _) HB2.out ?_
            clear hK K hrun HB2
            have hwp : IntKind.i64.wrap (p : Int) = (p : Int) := IntWalk.i64_sub1 p hpl
            refine wpB_take (i := 16) (d := 44) (v := ?v7s0bx16) rfl rfl (by kernel_rfl) (by kernel_rfl) (by kernel_rfl) (fun _ _ _ h => h) (by rfl) ?y7s0bx16 ?r7s0bx16
            case y7s0bx16 => (intro w' hSw; go_simp; try (with_reducible rfl))
            simp only [Act.put, List.setIfInBounds_toArray, List.set_cons_zero, List.set_cons_succ]
            refine wpB_do (i := 17) (by kernel_rfl) rfl (by rfl) (fun K hK => ?_)
            go_simp
            refine hK.out _ _ _ (Nat.le_refl _) HB3.out ?_
            clear hK K hfz hcl2 HB3
            refine wpB_done (by kernel_rfl) ?_
            go_wp2
            go_roundw
            case rel => exact ⟨k + 1, by omega, by go_num, HN.out _ _ HG.out⟩
            case measure => simp [intOf]; omega
        · have hge : sz = (z : Int) := by
            rcases HCS.out with ⟨h1, _⟩ | h2
            · exact absurd h1 hlow
            · exact h2.2
          subst hge
          have hge1 : 1 ≤ (z : Int) := by omega
          have hrem : ((k : Int) % (z : Int) == 0) = false := beq_eq_false_iff_ne.2 (by
            rw [← Int.natCast_emod]
            intro h
            exact hm (by exact_mod_cast h))
          clear HCS hm hlow
          go_upto_region 7 with fail
          refine wpB_start w.heap.size (by kernel_rfl) ?_
          have T0 := Lib.hid T.out.drew
          have q0 : ∀ w', Below w.heap.size wr.drew w' → w'.cell? ⟨bb, off + k, none⟩ = some (.int .u8 (x.toNat : Int)) := fun w' h => (h.cell (by exact hbb)).trans (HC.out wr T.out.below)
          clear T
          generalize wr.drew = w0 at T0 q0 ⊢
          obtain ⟨A2, cA, w2, hrun, hG, hb2, hb3, hfz, hcl2⟩ := T0.out.next x hcl.out
          have hcell := T0.out.cell
          have hcell2 : (w0.alloc (.cells #[.int .u8 (x.toNat : Int)] 5)).cell? ⟨g, p, none⟩ = some u := T0.out.cell_alloc _
          have HG := Lib.hid hG
          have HB1 : Hid (Below w.heap.size w0 (w0.alloc (.cells #[.int .u8 (x.toNat : Int)] 5))) := (Below.refl _ _).alloc T0.out.below.size _
          have HB2 := Lib.hid hb2
          have HB3 := Lib.hid hb3
          have hwp : IntKind.i64.wrap (p : Int) = (p : Int) := IntWalk.i64_sub1 p hpl
          have hpp : (p : Int) < (p : Int) + 1 := by omega
          clear hG hb2 hb3 T0
          refine wpB_take (i := 0) (d := 28) (v := ?v7s1x0) rfl rfl (by kernel_rfl) (by kernel_rfl) (by kernel_rfl) (fun _ _ _ h => h) (by rfl) ?y7s1x0 ?r7s1x0
          case y7s1x0 => (intro w' hSw; go_simp; try (with_reducible rfl))
          simp only [Act.put, List.setIfInBounds_toArray, List.set_cons_zero, List.set_cons_succ]
          refine wpB_take (i := 1) (d := 29) (v := ?v7s1x1) rfl rfl (by kernel_rfl) (by kernel_rfl) (by kernel_rfl) (fun _ _ _ h => h) (by rfl) ?y7s1x1 ?r7s1x1
          case y7s1x1 => (intro w' hSw; go_simp; try (with_reducible rfl))
          simp only [Act.put, List.setIfInBounds_toArray, List.set_cons_zero, List.set_cons_succ]
          refine wpB_take (i := 2) (d := 30) (v := ?v7s1x2) rfl rfl (by kernel_rfl) (by kernel_rfl) (by kernel_rfl) (fun _ _ _ h => h) (by rfl) ?y7s1x2 ?r7s1x2
          case y7s1x2 => (intro w' hSw; go_simp; try (with_reducible rfl))
          simp only [Act.put, List.setIfInBounds_toArray, List.set_cons_zero, List.set_cons_succ]
          refine wpB_take (i := 3) (d := 31) (v := ?v7s1x3) rfl rfl (by kernel_rfl) (by kernel_rfl) (by kernel_rfl) (fun _ _ _ h => h) (by rfl) ?y7s1x3 ?r7s1x3
          case y7s1x3 => (intro w' hSw; go_simp; try (with_reducible rfl))
          simp only [Act.put, List.setIfInBounds_toArray, List.set_cons_zero, List.set_cons_succ]
          refine wpB_take (i := 4) (d := 32) (v := ?v7s1x4) rfl rfl (by kernel_rfl) (by kernel_rfl) (by kernel_rfl) (fun _ _ _ h => h) (by rfl) ?y7s1x4 ?r7s1x4
          case y7s1x4 => (intro w' hSw; go_simp; try (with_reducible rfl))
          simp only [Act.put, List.setIfInBounds_toArray, List.set_cons_zero, List.set_cons_succ]
          refine wpB_take (i := 5) (d := 33) (v := ?v7s1x5) rfl rfl (by kernel_rfl) (by kernel_rfl) (by kernel_rfl) (fun _ _ _ h => h) (by rfl) ?y7s1x5 ?r7s1x5
          case y7s1x5 => (intro w' hSw; go_simp; try (with_reducible rfl))
          simp only [Act.put, List.setIfInBounds_toArray, List.set_cons_zero, List.set_cons_succ]
          refine wpB_take (i := 6) (d := 34) (v := ?v7s1x6) rfl rfl (by kernel_rfl) (by kernel_rfl) (by kernel_rfl) (fun _ _ _ h => h) (by rfl) ?y7s1x6 ?r7s1x6
          case y7s1x6 => (intro w' hSw; go_simp; try (with_reducible rfl))
          simp only [Act.put, List.setIfInBounds_toArray, List.set_cons_zero, List.set_cons_succ]
          refine wpB_take (i := 7) (d := 35) (v := ?v7s1x7) rfl rfl (by kernel_rfl) (by kernel_rfl) (by kernel_rfl) (fun _ _ _ h => h) (by rfl) ?y7s1x7 ?r7s1x7
          case y7s1x7 => (intro w' hSw; go_simp; try (with_reducible rfl))
          simp only [Act.put, List.setIfInBounds_toArray, List.set_cons_zero, List.set_cons_succ]
          refine wpB_take (i := 8) (d := 36) (v := ?v7s1x8) rfl rfl (by kernel_rfl) (by kernel_rfl) (by kernel_rfl) (fun _ _ _ h => h) (by rfl) ?y7s1x8 ?r7s1x8
          case y7s1x8 => (intro w' hSw; go_simp; try (with_reducible rfl))
          simp only [Act.put, List.setIfInBounds_toArray, List.set_cons_zero, List.set_cons_succ]
          refine wpB_take (i := 10) (d := 38) (v := ?v7s1x10) rfl rfl (by kernel_rfl) (by kernel_rfl) (by kernel_rfl) (fun _ _ _ h => h) (by rfl) ?y7s1x10 ?r7s1x10
          case y7s1x10 => (intro w' hSw; go_simp; try (with_reducible rfl))
          simp only [Act.put, List.setIfInBounds_toArray, List.set_cons_zero, List.set_cons_succ]
          refine wpB_take (i := 11) (d := 39) (v := ?v7s1x11) rfl rfl (by kernel_rfl) (by kernel_rfl) (by kernel_rfl) (fun _ _ _ h => h) (by rfl) ?y7s1x11 ?r7s1x11
          case y7s1x11 => (intro w' hSw; go_simp; try (with_reducible rfl))
          simp only [Act.put, List.setIfInBounds_toArray, List.set_cons_zero, List.set_cons_succ]
          refine wpB_take (i := 12) (d := 40) (v := ?v7s1x12) rfl rfl (by kernel_rfl) (by kernel_rfl) (by kernel_rfl) (fun _ _ _ h => h) (by rfl) ?y7s1x12 ?r7s1x12
          case y7s1x12 => (intro w' hSw; go_simp; try (with_reducible rfl))
          simp only [Act.put, List.setIfInBounds_toArray, List.set_cons_zero, List.set_cons_succ]
          refine wpB_take (i := 13) (d := 41) (v := ?v7s1x13) rfl rfl (by kernel_rfl) (by kernel_rfl) (by kernel_rfl) (fun _ _ _ h => h) (by rfl) ?y7s1x13 ?r7s1x13
          case y7s1x13 => (intro w' hSw; go_simp; try (with_reducible rfl))
          simp only [Act.put, List.setIfInBounds_toArray, List.set_cons_zero, List.set_cons_succ]
          clear hwp q0
          refine wpB_two (i := 9) (j := 14) (by kernel_rfl) rfl rfl (by rfl) (by rfl) (fun K hK => ?_) (fun K hK => ?_)
          · go_simp
            refine hK.out _ _ _ (Nat.le_refl _) (Below.refl _ _) ?_
            clear hK K hcell
            refine wpB_do (i := 14) (by kernel_rfl) rfl (by rfl) (fun K hK => ?_)
            go_simp
            refine hK.out _ _ _ (Nat.le_refl _) HB1.out ?_
            clear hK K hcell2 HB1
            refine wpB_do (i := 15) (by kernel_rfl) rfl (by rfl) (fun K hK => ?_)
            refine oper_app (.tmp 37) (.tmp 42) 23 rfl _ _ _ _ rfl rfl hrun ?_
            simp only [Act.put, List.setIfInBounds_toArray, List.set_cons_zero, List.set_cons_succ]
            refine hK.out _ _ _ (Nat.le_refl _) HB2.out ?_
            clear hK K hrun HB2
            have hwp : IntKind.i64.wrap (p : Int) = (p : Int) := IntWalk.i64_sub1 p hpl
            refine wpB_take (i := 16) (d := 44) (v := ?v7s1ax16) rfl rfl (by kernel_rfl) (by kernel_rfl) (by kernel_rfl) (fun _ _ _ h => h) (by rfl) ?y7s1ax16 ?r7s1ax16
            case y7s1ax16 => (intro w' hSw; go_simp; try (with_reducible rfl))
            simp only [Act.put, List.setIfInBounds_toArray, List.set_cons_zero, List.set_cons_succ]
            refine wpB_do (i := 17) (by kernel_rfl) rfl (by rfl) (fun K hK => ?_)
            go_simp
            refine hK.out _ _ _ (Nat.le_refl _) HB3.out ?_
            clear hK K hfz hcl2 HB3
            refine wpB_done (by kernel_rfl) ?_
            go_wp2
            go_roundw
            case rel => exact ⟨k + 1, by omega, by go_num, HN.out _ _ HG.out⟩
            case measure => simp [intOf]; omega
          · go_simp
            refine hK.out _ _ _ (Nat.le_refl _) HB1.out ?_
            clear hK K hcell HB1
            refine wpB_do (i := 9) (by kernel_rfl) rfl (by rfl) (fun K hK => ?_)
            go_simp
            refine hK.out _ _ _ (Nat.le_refl _) (Below.refl _ _) ?_
            clear hK K hcell2
            refine wpB_do (i := 15) (by kernel_rfl) rfl (by rfl) (fun K hK => ?_)
            refine oper_app (.tmp 37) (.tmp 42) 23 rfl _ _ _ _ rfl rfl hrun ?_
            simp only [Act.put, List.setIfInBounds_toArray, List.set_cons_zero, List.set_cons_succ]
            refine hK.out _ _ _ (Nat.le_refl _) HB2.out ?_
            clear hK K hrun HB2
            have hwp : IntKind.i64.wrap (p : Int) = (p : Int) := IntWalk.i64_sub1 p hpl
            refine wpB_take (i := 16) (d := 44) (v := ?v7s1bx16) rfl rfl (by kernel_rfl) (by kernel_rfl) (by kernel_rfl) (fun _ _ _ h => h) (by rfl) ?y7s1bx16 ?r7s1bx16
            case y7s1bx16 => (intro w' hSw; go_simp; try (with_reducible rfl))
            simp only [Act.put, List.setIfInBounds_toArray, List.set_cons_zero, List.set_cons_succ]
            refine wpB_do (i := 17) (by kernel_rfl) rfl (by rfl) (fun K hK => ?_)
            go_simp
            refine hK.out _ _ _ (Nat.le_refl _) HB3.out ?_
            clear hK K hfz hcl2 HB3
            refine wpB_done (by kernel_rfl) ?_
            go_wp2
            go_roundw
            case rel => exact ⟨k + 1, by omega, by go_num, HN.out _ _ HG.out⟩
            case measure => simp [intOf]; omega
    · obtain rfl : k = b.length := by omega
      obtain ⟨g, cap, u, rfl, hG⟩ := hst.2.2 h0
      have HO := Lib.hid hG.parts
      rw [all_parts hz1 h0] at HO
      have HB := Lib.hid hG.below
      clear hst hG HR HCS
      go_wp2
      go_ret
      exact gaveP_of_own HO.out HB.out
end Go.Proofs.Ytkjdinlebpkimaa
