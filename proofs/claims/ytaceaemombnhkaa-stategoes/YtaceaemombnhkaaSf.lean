/- Contracts of taken, Free, apart; rows by append in general. -/
import Derived.Test.YtaceaemombnhkaaSd
import Derived.Lib.AppendZeros
namespace Go.Proofs.Ytaceaemombnhkaa
set_option linter.unusedVariables false
set_option maxRecDepth 100000
set_option linter.unusedSimpArgs false
open Go.RowKit
open Go.RowKit (wrap64)

theorem oper_app {P : Program} {o : Oper} {a : Act} {w : World} {K : Act → World → Prop} {Q : Exit → Act → World → Prop} (s x : Operand) (t : TypeId)
    (ho : o.op = .call { callee := .builtin .append, args := #[s, x], argTypes := #[t, t] }) (vs vx v' : Value) (w' : World) (hs : a.eval s = vs) (hx : a.eval x = vx)
    (hrun : (Builtin.append_ #[t, t] o.type #[vs, vx]).run P w = .ok v' w') (hK : K (a.put o.dst v') w') : Oper.wp P o a w K Q := by
  unfold Oper.wp execOp
  simp only [ho, resolve, invoke, builtin, Sem.run_bind, Sem.run_pure, Result.andThen_ok, List.map_toArray, List.map_cons, List.map_nil, hs, hx, hrun]
  exact hK
/-- A row of the call's own, and a row of cells behind it. -/
theorem wpList_own (W : World) {ops : Array Oper} {rest : List Oper} {o : Oper} {a : Act} {Q : Exit → Act → World → Prop} (hgd : o.guard = none) (t e : TypeId) (z : Value) (size bytes : Nat) (s y : Operand)
    (ho : o.op = .call { callee := .builtin .append, args := #[s, y], argTypes := #[t, t] }) (ht : Try.prog.underlying t = some (.slice e)) (hinfo : (Try.prog.info? e).map (fun i => (i.zero, i.size, i.bytes)) = some (some z, size, bytes)) (hz : z.cells.size = size) (hsz : 0 < size)
    (base : Nat) (v : Value) (k : Nat) (xs : List Value) (ad : Addr) (m cy : Nat) (news : List Value) (hs : a.eval s = v) (hy : a.eval y = .slice (some ad) m cy) (hrow : W.ownsRow base e size v k xs)
    (hl : news.length = m * size) (hc : ∀ j u, news[j]? = some u → W.cell? (ad.add j) = some u) (h1 : ∀ u ∈ news, u.oneCell' = true) (hn : k + m ≤ 1000000000) (hby : bytes ≤ 1000) (hb : base ≤ W.heap.size)
    (h : ∀ v' w', w'.ownsRow base e size v' (k + m) (xs ++ news) → W.grownBy w' v.ownBlock → wpList Try.prog ops Q rest (a.put o.dst v') w') : wpList Try.prog ops Q (o :: rest) a W := by
  obtain ⟨i0, hi, hz0, hz1, hz2⟩ := info_parts hinfo
  have hm : (k + m) * bytes ≤ 1000000000 * 1000 := Nat.mul_le_mul hn hby
  obtain ⟨v', w', hrun, h2, h3, _⟩ := run_append_own (P := Try.prog) W base t o.type e i0 z size bytes ht hi hz0 hz1 hz2 hz hsz v k xs hrow ad m cy news hl hc h1 (by unfold maxLen; omega) (by omega) hb
  exact wpList_plain hgd fun K hK => oper_app s y t ho _ _ _ _ hs hy hrun (hK _ _ (h v' w' h2 h3))
theorem Try.info3 : (Try.prog.info? 3).map (fun i => (i.zero, i.size, i.bytes)) = some (some (.int .i64 0), 1, 8) := by kernel_rfl
theorem Try.info4 : (Try.prog.info? 4).map (fun i => (i.zero, i.size, i.bytes)) = some (some (.bool false), 1, 1) := by kernel_rfl
theorem own_ints {w : World} {base : Nat} {v : Value} {l : List Int} (h : w.ownsRow base 3 1 v l.length (l.map (Value.int .i64))) : ∃ X cp, v = .slice X l.length cp ∧ IntsAt w (LT w.heap.size) X l ∧ l.length ≤ cp := by
  rcases h.2 with ⟨rfl, h0⟩ | ⟨g, cap, cur, rfl, hb, hg, hc, _⟩
  · refine ⟨none, 0, by rw [h0], fun hn => absurd hn (by omega), by omega⟩
  · refine ⟨_, cap, rfl, fun hn => ⟨g, 0, rfl, (Array.getElem?_eq_some_iff.1 hg).1, fun j hj => ?_⟩, hc⟩
    have h1 := World.ownsRow.cellAt h j (by omega)
    rw [Nat.zero_add, h1]
    simp [hj]
/-- Of each slot, whether one of the zones has it. -/
def tkRow (zs : List Zn) (N : Nat) : List Value := (List.range N).map fun j => .bool (usedB zs j)
theorem tkRow_length (zs : List Zn) (N : Nat) : (tkRow zs N).length = N := by simp [tkRow]
theorem tkRow_at {zs : List Zn} {N j : Nat} (h : j < N) : (tkRow zs N)[j]? = some (.bool (usedB zs j)) := by simp [tkRow, h]
theorem tkRow_made (N : Nat) : madeCells #[.bool false] N = (tkRow [] N).toArray := by
  apply Array.toList_inj.1
  rw [toList_madeCells_one]
  apply List.ext_getElem?
  intro j
  by_cases hj : j < N
  · simp [tkRow, hj, usedB]
  · simp [tkRow, hj]
theorem tkRow_set {zs : List Zn} {k N m : Nat} (hk : k < zs.length) (hm : zs[k].slot = (m : Int)) : (tkRow (zs.take k) N).set m (.bool true) = tkRow (zs.take (k + 1)) N := by
  apply List.ext_getElem?
  intro j
  by_cases hj : j < N
  · rw [tkRow_at hj, usedB_take hk, List.getElem?_set, tkRow_length]
    by_cases he : m = j
    · subst he
      simp [hj, hm]
    · rw [if_neg he, tkRow_at hj]
      have e : decide (zs[k].slot = (j : Int)) = false := decide_eq_false (by omega)
      rw [e, Bool.or_false]
  · rw [List.getElem?_eq_none (by rw [List.length_set, tkRow_length]; omega), List.getElem?_eq_none (by rw [tkRow_length]; omega)]
theorem tkRow_keep {zs : List Zn} {k N : Nat} (hk : k < zs.length) (hm : ¬ (0 ≤ zs[k].slot ∧ zs[k].slot < (N : Int))) : tkRow (zs.take k) N = tkRow (zs.take (k + 1)) N := by
  apply List.ext_getElem?
  intro j
  by_cases hj : j < N
  · rw [tkRow_at hj, tkRow_at hj, usedB_take hk]
    have e : decide (zs[k].slot = (j : Int)) = false := decide_eq_false (by omega)
    rw [e, Bool.or_false]
  · rw [List.getElem?_eq_none (by rw [tkRow_length]; omega), List.getElem?_eq_none (by rw [tkRow_length]; omega)]
def TakenG (w : World) (zs : List Zn) (N : Nat) (e : Ending) (w' : World) : Prop := ∃ g, e = .returned (.slice (some ⟨g, 0, none⟩) N N) ∧ Box w' g 4 (tkRow zs N).toArray ∧ Below w.heap.size w w'
set_option maxHeartbeats 2000000 in
theorem taken_any (c : Cf) (ep sq : Int) (A : Option Addr) (st : List Int) (k : Nat) (D : Option Addr) (zs : List Zn) (d : Nat) (w : World) (h : StAt w (LT w.heap.size) A st k D zs d) (hl : zs.length ≤ 1000000) :
    Calls Try.prog 51 #[(.agg #[.int .i64 c.id, .int .i64 c.m, .int .i64 c.u, .int .i64 c.b, .int .i64 c.cp, .int .i64 c.z, .int .i64 c.s, .int .i64 c.mt, .int .i64 c.o, .int .i64 c.a, .int .i64 c.l, .int .i64 ep, .int .i64 sq, .slice A st.length k, .slice D zs.length d])] w (TakenG w zs (slotsC c).toNat) := by
  have hsl := slots_in c
  obtain ⟨N, hN⟩ : ∃ N : Nat, slotsC c = (N : Int) := ⟨(slotsC c).toNat, by omega⟩
  have hN2 : N ≤ 2097152 := by omega
  have HNN : Hid ((slotsC c).toNat = N) := by show _ = _; omega
  have HA : Hid (∀ w', Below w.heap.size w w' → ZnsAt w' (LT w.heap.size) D zs) := fun w' hb => h.2.1.keep (Kept.below hb)
  go_enter Try.func51, Try.ntmps51
  go_upto_region 1 with fail
  have HV := Lib.hid (StIn.new (c := c) (ep := ep) (sq := sq) h)
  generalize (w.alloc (.cells #[.int .i64 c.id, .int .i64 c.m, .int .i64 c.u, .int .i64 c.b, .int .i64 c.cp, .int .i64 c.z, .int .i64 c.s, .int .i64 c.mt, .int .i64 c.o, .int .i64 c.a, .int .i64 c.l, .int .i64 ep, .int .i64 sq, .slice A st.length k, .slice D zs.length d] 27)) = w0 at HV ⊢
  clear h
  obtain ⟨y0, y1, y2, y3, y4, y5, y6, y7, y8, y9, y10, y11, y12, y13, y14⟩ := box15 HV.out.1
  go_wp2_with fail
  refine (slots_any c w0).mono ?_
  rintro e w1 ⟨rfl, hb⟩
  rw [hN]
  have HV1 := Lib.hid (HV.out.later hb)
  clear hN hsl hb HV y0 y1 y2 y3 y4 y5 y6 y7 y8 y9 y10 y11 y12 y13 y14
  obtain ⟨y0, y1, y2, y3, y4, y5, y6, y7, y8, y9, y10, y11, y12, y13, y14⟩ := box15 HV1.out.1
  have hmk : (Instr.makeSlice 89 (.int .i64 (N : Int)) (.int .i64 (N : Int))).run Try.prog w1 = .ok (.slice (some ⟨w1.heap.size, 0, none⟩) N N) (w1.alloc (.cells (tkRow [] N).toArray 4)) := by
    have h := run_make_row' (P := Try.prog) 89 4 (.bool false) 1 Try.underlying89 Try.info4 rfl .i64 .i64 N (by omega) (by omega) w1
    rw [tkRow_made] at h
    exact h
  go_upto_region 2 with fail
  have HR : Hid (Box (w1.alloc (.cells (tkRow [] N).toArray 4)) w1.heap.size 4 (tkRow [] N).toArray ∧ Below w.heap.size w (w1.alloc (.cells (tkRow [] N).toArray 4)) ∧ w.heap.size ≤ w1.heap.size) := ⟨Box.fresh _ _ _, HV1.out.2.2.alloc HV1.out.2.2.size _, HV1.out.2.2.size⟩
  have HV2 := Lib.hid (HV1.out.later (below_one w1 (.cells (tkRow [] N).toArray 4)))
  generalize (w1.alloc (.cells (tkRow [] N).toArray 4)) = w2 at HR HV2 ⊢
  generalize w1.heap.size = g at HR ⊢
  clear hmk HV1 y0 y1 y2 y3 y4 y5 y6 y7 y8 y9 y10 y11 y12 y13 y14
  obtain ⟨y0, y1, y2, y3, y4, y5, y6, y7, y8, y9, y10, y11, y12, y13, y14⟩ := box15 HV2.out.1
  go_wp2
  clear HV2 y0 y1 y2 y3 y4 y5 y6 y7 y8 y9 y10 y11 y12 y13 y14
  go_loopw [5, 13] (fun _ i wr => ∃ q : Nat, q ≤ zs.length ∧ i = .int .i64 q ∧ Box wr g 4 (tkRow (zs.take q) N).toArray ∧ Below w.heap.size w wr) (fun _ i _ => zs.length - (intOf i).toNat)
  case atStart => exact ⟨0, by omega, rfl, HR.out.1, HR.out.2.1⟩
  case round =>
    have hgw := HR.out.2.2
    obtain ⟨q, hq, rfl, hbx, hb0⟩ := hrel
    have HB := Lib.hid (And.intro hbx hb0)
    clear hbx hb0 HR
    by_cases hlt : q < zs.length
    · obtain ⟨g1, off, rfl, hg1, hc⟩ := HA.out wr HB.out.2 (by omega)
      obtain ⟨Y, y, c0, c1, c2, c3, c4, c5, _⟩ := hc q hlt
      have HS : Hid (∀ m : Nat, zs[q].slot = (m : Int) → (tkRow (zs.take q) N).set m (.bool true) = tkRow (zs.take (q + 1)) N) := fun m hm => tkRow_set hlt hm
      have HK : Hid (¬ (0 ≤ zs[q].slot ∧ zs[q].slot < (N : Int)) → tkRow (zs.take q) N = tkRow (zs.take (q + 1)) N) := fun hm => tkRow_keep hlt hm
      clear hc hg1
      generalize zs[q] = p at c0 c1 c2 c3 c4 c5 HS HK
      obtain ⟨gen, slot, full, zw, whole, ps⟩ := p
      dsimp only at c0 c1 c2 c3 c4 c5
      generalize hT : tkRow (zs.take q) N = T at HB HS HK
      have HT := Lib.hid (show T.length = N by rw [← hT, tkRow_length])
      clear hT
      go_upto_region 5 with fail
      have HP := Lib.hid (Box.fresh wr 51 #[.int .i64 gen, .int .i64 slot, .bool full, .int .i64 zw, .bool whole, .slice Y ps.length y])
      have HB2 : Hid (Box (wr.alloc (.cells #[.int .i64 gen, .int .i64 slot, .bool full, .int .i64 zw, .bool whole, .slice Y ps.length y] 51)) g 4 T.toArray ∧ Below w.heap.size w (wr.alloc (.cells #[.int .i64 gen, .int .i64 slot, .bool full, .int .i64 zw, .bool whole, .slice Y ps.length y] 51))) := ⟨HB.out.1.later (below_one _ _), HB.out.2.alloc HB.out.2.size _⟩
      generalize (wr.alloc (.cells #[.int .i64 gen, .int .i64 slot, .bool full, .int .i64 zw, .bool whole, .slice Y ps.length y] 51)) = w3 at HP HB2 ⊢
      generalize wr.heap.size = g3 at HP ⊢
      obtain ⟨z0, z1, z2, z3, z4, z5⟩ := box6 HP.out
      clear HB c0 c1 c2 c3 c4 c5 z0 z2 z3 z4 z5
      by_cases h1 : 0 ≤ slot
      · by_cases h2 : slot < (N : Int)
        · obtain ⟨m, rfl⟩ : ∃ m : Nat, slot = (m : Int) := ⟨slot.toNat, by omega⟩
          have hmN : m < N := by omega
          have hcell := HB2.out.1.cell m
          obtain ⟨u, hu⟩ : ∃ u, T[m]? = some u := ⟨T[m]'(by rw [HT.out]; omega), by simp [HT.out, hmN]⟩
          have hcell2 : w3.cell? ⟨g, m, none⟩ = some u := by rw [hcell]; simpa using hu
          have hfz := HB2.out.1.frozen m
          have HB3 : Hid (Box (w3.setCell ⟨g, m, none⟩ (.bool true)) g 4 (tkRow (zs.take (q + 1)) N).toArray ∧ Below w.heap.size w (w3.setCell ⟨g, m, none⟩ (.bool true))) := by
            refine ⟨?_, HB2.out.2.setCell (by exact hgw) _⟩
            have h := HB2.out.1.store m (.bool true)
            rw [← HS.out m rfl]
            simpa using h
          clear hcell hu HS HK
          go_wp2
          go_roundw
          case rel => exact ⟨q + 1, by omega, by go_num, HB3.out.1, HB3.out.2⟩
          case measure => simp [intOf]; omega
        · have HQ : Hid (T = tkRow (zs.take (q + 1)) N) := HK.out (by show ¬ (0 ≤ slot ∧ slot < (N : Int)); omega)
          clear HS HK
          go_wp2
          go_roundw
          case rel => exact ⟨q + 1, by omega, by go_num, by rw [← HQ.out]; exact HB2.out.1, HB2.out.2⟩
          case measure => simp [intOf]; omega
      · have HQ : Hid (T = tkRow (zs.take (q + 1)) N) := HK.out (by show ¬ (0 ≤ slot ∧ slot < (N : Int)); omega)
        clear HS HK
        go_wp2
        go_roundw
        case rel => exact ⟨q + 1, by omega, by go_num, by rw [← HQ.out]; exact HB2.out.1, HB2.out.2⟩
        case measure => simp [intOf]; omega
    · obtain rfl : q = zs.length := by omega
      rw [List.take_length] at HB
      go_wp2
      go_ret
      rw [HNN.out]
      exact ⟨g, rfl, HB.out.1, HB.out.2⟩
def FreeG (w : World) (l : List Int) (e : Ending) (w' : World) : Prop := ∃ X cp, e = .returned (.slice X l.length cp) ∧ IntsAt w' (LT w'.heap.size) X l ∧ l.length ≤ cp ∧ Below w.heap.size w w'
def natI (l : List Nat) : List Int := l.map fun n : Nat => (n : Int)
theorem natI_length (l : List Nat) : (natI l).length = l.length := by simp [natI]
theorem natI_append (l r : List Nat) : natI (l ++ r) = natI l ++ natI r := by simp [natI]
set_option maxHeartbeats 2000000 in
theorem free_any (c : Cf) (ep sq : Int) (A : Option Addr) (st : List Int) (k : Nat) (D : Option Addr) (zs : List Zn) (d : Nat) (w : World) (h : StAt w (LT w.heap.size) A st k D zs d) (hl : zs.length ≤ 1000000) :
    Calls Try.prog 22 #[(.agg #[.int .i64 c.id, .int .i64 c.m, .int .i64 c.u, .int .i64 c.b, .int .i64 c.cp, .int .i64 c.z, .int .i64 c.s, .int .i64 c.mt, .int .i64 c.o, .int .i64 c.a, .int .i64 c.l, .int .i64 ep, .int .i64 sq, .slice A st.length k, .slice D zs.length d])] w (FreeG w (freeL c zs)) := by
  have hsl := slots_in c
  obtain ⟨N, hN⟩ : ∃ N : Nat, (slotsC c).toNat = N := ⟨_, rfl⟩
  have hN2 : N ≤ 2097152 := by omega
  have HNN : Hid (freeL c zs = natI (freeN zs N)) := by show _ = _; rw [← hN]; rfl
  go_enter Try.func22, Try.ntmps22
  go_upto_region 2 with fail
  have HV := Lib.hid (StIn.new (c := c) (ep := ep) (sq := sq) h)
  generalize (w.alloc (.cells #[.int .i64 c.id, .int .i64 c.m, .int .i64 c.u, .int .i64 c.b, .int .i64 c.cp, .int .i64 c.z, .int .i64 c.s, .int .i64 c.mt, .int .i64 c.o, .int .i64 c.a, .int .i64 c.l, .int .i64 ep, .int .i64 sq, .slice A st.length k, .slice D zs.length d] 27)) = w0 at HV ⊢
  clear h
  obtain ⟨y0, y1, y2, y3, y4, y5, y6, y7, y8, y9, y10, y11, y12, y13, y14⟩ := box15 HV.out.1
  go_wp2_with fail
  refine (taken_any c ep sq A st k D zs d w0 HV.out.2.1 hl).mono ?_
  rintro e w1 ⟨g, rfl, hbx, hb⟩
  rw [hN] at hbx ⊢
  have HB : Hid (Box w1 g 4 (tkRow zs N).toArray ∧ Below w.heap.size w w1) := ⟨hbx, HV.out.2.2.trans (hb.mono HV.out.2.2.size)⟩
  clear hN hsl hb hbx HV y0 y1 y2 y3 y4 y5 y6 y7 y8 y9 y10 y11 y12 y13 y14
  go_wp2
  go_loopw [3, 4, 5, 9] (fun v _ _ i wr => ∃ q : Nat, q ≤ N ∧ i = .int .i64 q ∧ wr.ownsRow w1.heap.size 3 1 v (freeN zs q).length ((natI (freeN zs q)).map (Value.int .i64)) ∧ Below w1.heap.size w1 wr) (fun _ _ _ i _ => N - (intOf i).toNat)
  case atStart => exact ⟨0, by omega, rfl, World.ownsRow_nil _ _ _ _, Below.refl _ _⟩
  case round =>
    obtain ⟨q, hq, rfl, ho, hb0⟩ := hrel
    have HO := Lib.hid (And.intro ho hb0)
    clear ho hb0
    by_cases hlt : q < N
    · have hcell : wr.cell? ⟨g, q, none⟩ = some (.bool (usedB zs q)) := by
        have h := (HB.out.1.later HO.out.2).cell q
        rw [h, List.getElem?_toArray]
        exact tkRow_at hlt
      have HS := Lib.hid (freeN_succ zs q)
      have HL := Lib.hid (freeN_len zs q)
      generalize hF : freeN zs q = F at HO HS HL
      clear hF
      cases hu : usedB zs q with
      | true =>
        rw [hu] at hcell
        have HQ : Hid (freeN zs (q + 1) = F) := by show _ = _; rw [HS.out, hu, if_pos rfl, List.append_nil]
        clear hu
        go_wp2
        go_roundw
        case rel => exact ⟨q + 1, by omega, by go_num, by rw [HQ.out]; exact HO.out.1, HO.out.2⟩
        case measure => simp [intOf]; omega
      | false =>
        rw [hu] at hcell
        have HQ : Hid (freeN zs (q + 1) = F ++ [q]) := by show _ = _; rw [HS.out, hu, if_neg (by simp)]
        clear hu
        have hFl := HL.out
        have HO2 : Hid ((wr.alloc (.cells #[.int .i64 (q : Int)] 3)).ownsRow w1.heap.size 3 1 u3 F.length ((natI F).map (Value.int .i64)) ∧ Below w1.heap.size w1 (wr.alloc (.cells #[.int .i64 (q : Int)] 3))) := ⟨HO.out.1.alloc _, HO.out.2.alloc HO.out.2.size _⟩
        go_upto_region 7 with (at_builtin; refine wpList_own _ rfl 24 3 (.int .i64 0) 1 8 (.tmp 16) (.tmp 18) rfl Try.underlying24 Try.info3 rfl (by omega) w1.heap.size u3 F.length ((natI F).map (Value.int .i64)) ⟨wr.heap.size, 0, none⟩ 1 1 [.int .i64 (q : Int)] rfl rfl HO2.out.1 rfl (fun j u hu => by have h := (Box.fresh wr 3 #[.int .i64 (q : Int)]).cell j; have hadd : (⟨wr.heap.size, 0, none⟩ : Addr).add j = ⟨wr.heap.size, j, none⟩ := by { unfold Addr.add; split <;> simp_all }; rw [hadd, h]; simpa using hu) (by simp [Value.oneCell']) (by omega) (by omega) HO2.out.2.size ?_; intro v' w4 ho' hg')
        have HO4 : Hid (w4.ownsRow w1.heap.size 3 1 v' (freeN zs (q + 1)).length ((natI (freeN zs (q + 1))).map (Value.int .i64)) ∧ Below w1.heap.size w1 w4) := by
          have hb := (Below.refl (w1.heap.size) _).grown hg' HO2.out.2.size (fun g hg' => (World.ownsRow.lt HO2.out.1 g hg').1)
          refine ⟨?_, HO2.out.2.trans hb⟩
          rw [HQ.out, natI_append, List.map_append, List.length_append]
          exact ho'
        clear ho' hg' HO HO2 HQ HS
        go_wp2
        go_roundw
        case rel => exact ⟨q + 1, by omega, by go_num, HO4.out.1, HO4.out.2⟩
        case measure => simp [intOf]; omega
    · obtain rfl : q = N := by omega
      have hlen := natI_length (freeN zs q)
      obtain ⟨X, cp, hv, hX, hcp⟩ := own_ints (l := natI (freeN zs q)) (by rw [hlen]; exact HO.out.1)
      subst hv
      have HX := Lib.hid (And.intro hX (And.intro hcp (HB.out.2.trans (HO.out.2.mono HB.out.2.size))))
      clear hX hcp hlen HO HB
      generalize hF : natI (freeN zs q) = F at HX HNN ⊢
      clear hF
      go_wp2
      go_ret
      rw [HNN.out]
      exact ⟨X, cp, rfl, HX.out.1, HX.out.2.1, HX.out.2.2⟩
set_option maxHeartbeats 2000000 in
theorem apart_any (c : Cf) (ep sq : Int) (A : Option Addr) (st : List Int) (k : Nat) (D : Option Addr) (zs : List Zn) (d : Nat) (w : World) (h : StAt w (LT w.heap.size) A st k D zs d) (hl : zs.length ≤ 1000000) (hz : ∀ z ∈ zs, -1 ≤ z.slot ∧ z.slot ≤ slotsC c - 1) :
    Calls Try.prog 56 #[(.agg #[.int .i64 c.id, .int .i64 c.m, .int .i64 c.u, .int .i64 c.b, .int .i64 c.cp, .int .i64 c.z, .int .i64 c.s, .int .i64 c.mt, .int .i64 c.o, .int .i64 c.a, .int .i64 c.l, .int .i64 ep, .int .i64 sq, .slice A st.length k, .slice D zs.length d])] w (SaysP w (ApartR zs)) := by
  have HAP : Hid (((freeL c zs).length : Int) = slotsC c - (hasN zs : Int) ↔ ApartR zs) := by
    have hsl := slots_in c
    have h := (free_count (slotsC c).toNat zs (fun z hm => by have := hz z hm; omega)).2
    show _ ↔ _
    rw [← h]
    unfold freeL
    rw [List.length_map]
    omega
  have HHN := Lib.hid (hasN_le zs)
  have HSL := Lib.hid (slots_in c)
  clear hz
  go_enter Try.func56, Try.ntmps56
  go_upto_region 1 with fail
  have HV := Lib.hid (StIn.new (c := c) (ep := ep) (sq := sq) h)
  generalize (w.alloc (.cells #[.int .i64 c.id, .int .i64 c.m, .int .i64 c.u, .int .i64 c.b, .int .i64 c.cp, .int .i64 c.z, .int .i64 c.s, .int .i64 c.mt, .int .i64 c.o, .int .i64 c.a, .int .i64 c.l, .int .i64 ep, .int .i64 sq, .slice A st.length k, .slice D zs.length d] 27)) = w0 at HV ⊢
  clear h
  obtain ⟨y0, y1, y2, y3, y4, y5, y6, y7, y8, y9, y10, y11, y12, y13, y14⟩ := box15 HV.out.1
  go_wp2_with fail
  refine (slots_any c w0).mono ?_
  rintro e w1 ⟨rfl, hb⟩
  have HV1 := Lib.hid (HV.out.later hb)
  clear hb HV y0 y1 y2 y3 y4 y5 y6 y7 y8 y9 y10 y11 y12 y13 y14
  generalize slotsC c = sl at HAP HSL ⊢
  obtain ⟨y0, y1, y2, y3, y4, y5, y6, y7, y8, y9, y10, y11, y12, y13, y14⟩ := box15 HV1.out.1
  go_wp2
  clear y0 y1 y2 y3 y4 y5 y6 y7 y8 y9 y10 y11 y12 y13 y14
  go_loopw [3, 5, 12] (fun l _ i wr => ∃ q : Nat, q ≤ zs.length ∧ i = .int .i64 q ∧ l = .int .i64 (sl - (hasN (zs.take q) : Int)) ∧ Below w1.heap.size w1 wr) (fun _ _ i _ => zs.length - (intOf i).toNat)
  case atStart => exact ⟨0, by omega, rfl, by simp [hasN], Below.refl _ _⟩
  case round =>
    obtain ⟨q, hq, rfl, rfl, hb0⟩ := hrel
    have HW := Lib.hid (HV1.out.later hb0)
    have HB := Lib.hid hb0
    clear hb0
    by_cases hlt : q < zs.length
    · obtain ⟨g1, off, rfl, hg1, hc⟩ := HW.out.2.1.2.1 (by omega)
      obtain ⟨Y, y, c0, c1, c2, c3, c4, c5, _⟩ := hc q hlt
      have HT := Lib.hid (hasN_take hlt)
      have HL : Hid (hasN (zs.take q) ≤ 1000000) := by
        have := hasN_le (zs.take q)
        rw [List.length_take] at this
        show _ ≤ _
        omega
      clear hc hg1
      generalize zs[q] = p at c0 c1 c2 c3 c4 c5 HT
      obtain ⟨gen, slot, full, zw, whole, ps⟩ := p
      dsimp only at c0 c1 c2 c3 c4 c5
      generalize hasN (zs.take q) = o at HT HL ⊢
      have hsl := HSL.out
      have ho := HL.out
      have HT1 : Hid (slot = -1 → hasN (zs.take (q + 1)) = o) := fun e => by rw [HT.out, if_pos e]; rfl
      have HT2 : Hid (¬ slot = -1 → hasN (zs.take (q + 1)) = o + 1) := fun e => by rw [HT.out, if_neg e]
      have HB2 : Hid (Below w1.heap.size w1 (wr.alloc (.cells #[.int .i64 gen, .int .i64 slot, .bool full, .int .i64 zw, .bool whole, .slice Y ps.length y] 51))) := below_trans HB.out (below_one _ _)
      clear HT HW
      by_cases hs : slot = -1
      · have hsb : (slot != -1) = false := by simp [hs]
        have HQ := Lib.hid (HT1.out hs)
        clear hs HT1 HT2
        go_wp2
        go_roundw
        case rel => exact ⟨q + 1, by omega, by go_num, by rw [HQ.out], HB2.out⟩
        case measure => simp [intOf]; omega
      · have hsb : (slot != -1) = true := by simpa using hs
        have HQ := Lib.hid (HT2.out hs)
        clear hs HT1 HT2
        go_wp2
        go_roundw
        case rel => exact ⟨q + 1, by omega, by go_num, by rw [HQ.out]; go_num, HB2.out⟩
        case measure => simp [intOf]; omega
    · obtain rfl : q = zs.length := by omega
      rw [List.take_length]
      obtain ⟨y0, y1, y2, y3, y4, y5, y6, y7, y8, y9, y10, y11, y12, y13, y14⟩ := box15 HW.out.1
      go_wp2_with fail
      refine (free_any c ep sq A st k D zs d wr HW.out.2.1 hl).mono ?_
      rintro e w3 ⟨X, cp, rfl, _, _, hb⟩
      have HE := Lib.hid (HW.out.2.2.trans (hb.mono HW.out.2.2.size))
      clear hb HW HV1 y0 y1 y2 y3 y4 y5 y6 y7 y8 y9 y10 y11 y12 y13 y14
      generalize (freeL c zs).length = F at HAP ⊢
      generalize hasN zs = o at HAP HHN ⊢
      go_wp2
      go_ret
      exact ⟨_, rfl, by rw [← HAP.out, beq_iff_eq], HE.out⟩
end Go.Proofs.Ytaceaemombnhkaa
