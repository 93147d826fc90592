/- The contract of All. -/
import Derived.Test.YtmebbggmdfejkaaRm
import Derived.Deep.DeepCutAuto
namespace Go.Proofs.Ytmebbggmdfejkaa
set_option linter.unusedVariables false
set_option linter.unusedSimpArgs false
open Go.RowKit
open Go.RowKit (wrap64)

theorem Try.info24 : (Try.prog.info? 24).map (fun i => (i.zero, i.size, i.bytes)) = some (some (.agg #[.int .i64 0, .int .i64 0, .int .i64 0, .int .i64 0, .int .i64 0, .int .i64 0, .int .i64 0, .int .i64 0, .int .i64 0, .slice none 0 0]), 10, 96) := by kernel_rfl
theorem oper_app {P : Program} {o : Oper} {a : Act} {w : World} {K : Act → World → Prop} {Q : Exit → Act → World → Prop} (s x : Operand) (t : TypeId)
    (ho : o.op = .call { callee := .builtin .append, args := #[s, x], argTypes := #[t, t] }) (vs vx v' : Value) (w' : World) (hs : a.eval s = vs) (hx : a.eval x = vx)
    (hrun : (Builtin.append_ #[t, t] o.type #[vs, vx]).run P w = .ok v' w') (hK : K (a.put o.dst v') w') : Oper.wp P o a w K Q := by
  unfold Oper.wp execOp
  simp only [ho, resolve, invoke, builtin, Sem.run_bind, Sem.run_pure, Result.andThen_ok, List.map_toArray, List.map_cons, List.map_nil, hs, hx, hrun]
  exact hK
/-- A row of n records of the call's own. -/
def OwnN (w : World) (base : Nat) (v : Value) (n : Nat) : Prop := ∃ xs, w.ownsRow base 24 10 v n xs
theorem OwnN.nil (w : World) (base : Nat) : OwnN w base (.slice none 0 0) 0 := ⟨[], World.ownsRow_nil _ _ _ _⟩
theorem OwnN.later {w w' : World} {base n : Nat} {v : Value} (h : OwnN w base v n) (hb : Below w.heap.size w w') : OwnN w' base v n := by
  obtain ⟨xs, h⟩ := h
  exact ⟨xs, World.ownsRow.kept h (turned_of_below hb none) (by rcases v.ownBlock with _ | _ <;> simp)⟩
theorem OwnN.form {w : World} {base n : Nat} {v : Value} (h : OwnN w base v n) : ∃ A c, v = .slice A n c := by
  obtain ⟨xs, _, h⟩ := h
  rcases h with ⟨rfl, rfl⟩ | ⟨g, cap, cur, rfl, _⟩
  · exact ⟨none, 0, rfl⟩
  · exact ⟨_, _, rfl⟩
theorem OwnN.below {w w' : World} {base n : Nat} {v : Value} (h : OwnN w base v n) (hg : w.grownBy w' v.ownBlock) (hb : base ≤ w.heap.size) : Below base w w' := by
  obtain ⟨xs, h⟩ := h
  exact (Below.refl _ _).grown hg hb (fun g hg' => (World.ownsRow.lt h g hg').1)
theorem wpList_appN (W : World) {ops : Array Oper} {rest : List Oper} {o : Oper} {a : Act} {Q : Exit → Act → World → Prop} (hgd : o.guard = none) (s y : Operand)
    (ho : o.op = .call { callee := .builtin .append, args := #[s, y], argTypes := #[39, 39] }) (base : Nat) (v : Value) (k : Nat) (n : Nat → Int) (D : Option Addr) (dl cd g : Nat) (hs : a.eval s = v) (hy : a.eval y = .slice (some ⟨g, 0, none⟩) 1 1) (hrow : OwnN W base v k) (hc : RecAt W g n (.slice D dl cd)) (hl : k ≤ 1000000) (hb : base ≤ W.heap.size)
    (h : ∀ v' w', OwnN w' base v' (k + 1) → W.grownBy w' v.ownBlock → wpList Try.prog ops Q rest (a.put o.dst v') w') : wpList Try.prog ops Q (o :: rest) a W := by
  obtain ⟨i0, hi, hz0, hz1, hz2⟩ := info_parts Try.info24
  obtain ⟨xs, hrow⟩ := hrow
  obtain ⟨v', w', hrun, h2, h3, _⟩ := run_append_own (P := Try.prog) W base 39 o.type 24 i0 (.agg #[.int .i64 0, .int .i64 0, .int .i64 0, .int .i64 0, .int .i64 0, .int .i64 0, .int .i64 0, .int .i64 0, .int .i64 0, .slice none 0 0]) 10 96 Try.underlying39 hi hz0 hz1 hz2 rfl (by omega) v k xs hrow ⟨g, 0, none⟩ 1 1 [.int .i64 (n 0), .int .i64 (n 1), .int .i64 (n 2), .int .i64 (n 3), .int .i64 (n 4), .int .i64 (n 5), .int .i64 (n 6), .int .i64 (n 7), .int .i64 (n 8), .slice D dl cd] rfl (fun j x hx => by
    have hadd : (⟨g, 0, none⟩ : Addr).add j = ⟨g, j, none⟩ := by unfold Addr.add; split <;> simp_all
    rw [hadd, Box.cell hc, List.getElem?_toArray]
    exact hx) (by simp [Value.oneCell']) (by unfold maxLen; omega) (by omega) hb
  exact wpList_plain hgd fun K hK => oper_app s y 39 ho _ _ _ _ hs hy hrun (hK _ _ (h v' w' ⟨_, h2⟩ h3))
/-- A cut 'b[lo:]', as a run equation. -/
theorem slice_suf (A : Option Addr) (c : Nat) (b : List UInt8) (lo : Nat) (li : Int) (h1 : lo ≤ b.length) (hc : b.length ≤ c) (e1 : li = (lo : Int)) :
    ∃ X, (∀ w B, Rd w B A b → Rd w B X (b.drop lo)) ∧ ∀ w, (Instr.slice 22 (.slice A b.length c) (some (.int .i64 li)) none none).run Try.prog w = .ok (.slice X (b.length - lo) (c - lo)) w := by
  subst e1
  refine ⟨if c = lo then A else A.map (·.add lo), fun w B h => h.cut (by omega) hc, fun w => ?_⟩
  have he : Try.prog.elem 22 = 5 := by kernel_rfl
  rw [run_slice_l w 22 A b.length c (by rw [he]; exact Try.underlying22) .i64 (lo : Int) (by omega) (by omega)]
  rw [he]
  have ht5 : Try.t5.size = 1 := by kernel_rfl
  simp [sizeOf, ht5, sliced, go_sem]
/-- What All answers. -/
def AllG (w : World) (b : List UInt8) (bl : Int) (e : Ending) (w' : World) : Prop :=
  ∃ j v, good b bl j ∧ ¬ getE (b.drop (blk b bl j * bl.toNat)) bl = 0 ∧ e = .returned (.tuple #[v, .int .i64 (blk b bl j : Nat)]) ∧ OwnN w' w.heap.size v j ∧ Below w.heap.size w w'
theorem good_next {b : List UInt8} {bl : Int} {j : Nat} (h : good b bl j) (h2 : getE (b.drop (blk b bl j * bl.toNat)) bl = 0) : good b bl (j + 1) := fun i hi => by
  rcases Nat.lt_or_ge i j with h3 | h3
  · exact h i h3
  · obtain rfl : i = j := by omega
    exact h2
set_option maxRecDepth 100000 in
set_option maxHeartbeats 4000000 in
theorem all_any (A : Option Addr) (c : Nat) (b : List UInt8) (bl : Int) (w : World) (hr : Rd w w.heap.size A b) (hc : b.length ≤ c) (hl : b.length ≤ 10000000) : Calls Try.prog 19 #[.slice A b.length c, .int .i64 bl] w (AllG w b bl) := by
  go_enter Try.func19, Try.ntmps19
  go_wp2_with fail
  go_loopw [0, 6, 7] (fun s l a wr => ∃ (j : Nat) (X : Option Addr) (cx : Nat), s = .slice X (b.drop (blk b bl j * bl.toNat)).length cx ∧ (b.drop (blk b bl j * bl.toNat)).length ≤ cx ∧ Rd wr w.heap.size X (b.drop (blk b bl j * bl.toNat)) ∧ good b bl j ∧ a = .int .i64 (blk b bl j : Nat) ∧ OwnN wr w.heap.size l j ∧ Below w.heap.size w wr) (fun s _ _ _ => lenOf s)
  case atStart => exact ⟨0, A, c, by simp [blk], by simpa [blk] using hc, by simpa [blk] using hr, fun i hi => absurd hi (Nat.not_lt_zero i), rfl, OwnN.nil _ _, Below.refl _ _⟩
  case round =>
    obtain ⟨j, X, cx, rfl, hcx, hX, hgood, rfl, hown, hbel⟩ := hrel
    have HW := Lib.hid (And.intro hX (And.intro hown hbel))
    have HG := Lib.hid hgood
    have HLn := Lib.hid (good_len hgood)
    clear hX hown hbel hgood hr
    obtain ⟨T, hT⟩ : ∃ T, b.drop (blk b bl j * bl.toNat) = T := ⟨_, rfl⟩
    rw [hT] at HW hcx ⊢
    have HT := Lib.hid hT
    have HTL : Hid (T.length ≤ 10000000) := by
      show _ ≤ _
      rw [← hT, List.length_drop]
      omega
    clear hT
    obtain ⟨kk, hkk⟩ : ∃ kk, blk b bl j = kk := ⟨_, rfl⟩
    rw [hkk]
    have HKK := Lib.hid hkk
    clear hkk
    obtain ⟨n, hn⟩ : ∃ n, getN T bl = n := ⟨_, rfl⟩
    obtain ⟨d, hd⟩ : ∃ d, getD T bl = d := ⟨_, rfl⟩
    obtain ⟨k, hk⟩ : ∃ k, getK T bl = k := ⟨_, rfl⟩
    obtain ⟨er, he⟩ : ∃ er, getE T bl = er := ⟨_, rfl⟩
    have HGT : Hid (Calls Try.prog 14 #[.slice X T.length cx, .int .i64 bl] wr (GetG wr n d k er)) := by
      have h := get_any X cx T bl wr (HW.out.1.more HW.out.2.2.size) hcx HTL.out
      rw [hn, hd, hk, he] at h
      exact h
    have HK := Lib.hid hk
    have HE := Lib.hid he
    clear hn hd hk he
    go_wp2_with fail
    with_reducible refine HGT.out.mono ?_
    rintro e w1 ⟨D, cd, rfl, hD, hb⟩
    have HW1 : Hid (Rd w1 w.heap.size X T ∧ OwnN w1 w.heap.size u6 j ∧ Below w.heap.size w w1) := ⟨HW.out.1.below (hb.mono HW.out.2.2.size), HW.out.2.1.later hb, HW.out.2.2.trans (hb.mono HW.out.2.2.size)⟩
    clear hb hD HW HGT
    by_cases h0 : er = 0
    · subst h0
      obtain ⟨hm, hk1, hk2⟩ := getE_ok HE.out
      rw [HK.out] at hk1 hk2
      have hS := mayB_iff.1 hm
      obtain ⟨S, rfl⟩ : ∃ S : Nat, bl = (S : Int) := ⟨bl.toNat, by omega⟩
      rw [Int.toNat_natCast] at hk1 hk2
      have HG2 : Hid (good b (S : Int) (j + 1)) := good_next HG.out (by rw [HT.out]; exact HE.out)
      have HB2 : Hid (blk b (S : Int) (j + 1) = kk + k) := by
        show blk b (S : Int) j + getK (b.drop (blk b (S : Int) j * (S : Int).toNat)) (S : Int) = _
        rw [HT.out, HK.out, HKK.out]
      have hln := good_len HG2.out
      rw [HB2.out, Int.toNat_natCast] at hln
      have hkb : kk + k ≤ 10000000 := by
        have h1 : (kk + k) * 1 ≤ (kk + k) * S := Nat.mul_le_mul_left _ (by omega)
        omega
      have hkb2 : k * S ≤ T.length := hk2
      have hwr : wrap64 ((k : Int) * (S : Int)) = ((k * S : Nat) : Int) := by
        have e : (k : Int) * (S : Int) = ((k * S : Nat) : Int) := by simp
        rw [e]
        have := HTL.out
        clear hln hk1 e
        generalize k * S = y at hkb2
        unfold wrap64
        omega
      obtain ⟨X2, hX2, hsl⟩ := slice_suf X cx T (k * S) (wrap64 ((k : Int) * (S : Int))) hkb2 hcx hwr
      have HT2 : Hid (b.drop (blk b (S : Int) (j + 1) * (S : Int).toNat) = T.drop (k * S)) := by
        show _ = _
        rw [HB2.out, ← HT.out, List.drop_drop, HKK.out, Int.toNat_natCast, Nat.add_mul]
      have HJ : Hid (j ≤ 1000000) := by
        have := HLn.out
        show j ≤ 1000000
        omega
      have HX2 : Hid (Rd w1 w.heap.size X2 (T.drop (k * S)) ∧ (T.drop (k * S)).length = T.length - k * S ∧ T.length - k * S ≤ cx - k * S ∧ T.length - k * S < T.length) := ⟨hX2 _ _ HW1.out.1, List.length_drop, Nat.sub_le_sub_right hcx _, Nat.sub_lt (Nat.lt_of_lt_of_le (by decide) (Nat.le_trans hk1 hk2)) (Nat.lt_of_lt_of_le (by decide) hk1)⟩
      have HW2 := Lib.hid HW1.out.2
      clear hX2 hk1 hk2 hln hwr hkb2 HW1 hm HLn HKK HK HE HT
      go_upto_region 6 with fail
      have HV : Hid (RecAt (w1.alloc (.cells #[.int .i64 (n 0), .int .i64 (n 1), .int .i64 (n 2), .int .i64 (n 3), .int .i64 (n 4), .int .i64 (n 5), .int .i64 (n 6), .int .i64 (n 7), .int .i64 (n 8), .slice D d.length cd] 24)) w1.heap.size n (.slice D d.length cd) ∧ OwnN (w1.alloc (.cells #[.int .i64 (n 0), .int .i64 (n 1), .int .i64 (n 2), .int .i64 (n 3), .int .i64 (n 4), .int .i64 (n 5), .int .i64 (n 6), .int .i64 (n 7), .int .i64 (n 8), .slice D d.length cd] 24)) w.heap.size u6 j ∧ Below w.heap.size w (w1.alloc (.cells #[.int .i64 (n 0), .int .i64 (n 1), .int .i64 (n 2), .int .i64 (n 3), .int .i64 (n 4), .int .i64 (n 5), .int .i64 (n 6), .int .i64 (n 7), .int .i64 (n 8), .slice D d.length cd] 24)) ∧ Rd (w1.alloc (.cells #[.int .i64 (n 0), .int .i64 (n 1), .int .i64 (n 2), .int .i64 (n 3), .int .i64 (n 4), .int .i64 (n 5), .int .i64 (n 6), .int .i64 (n 7), .int .i64 (n 8), .slice D d.length cd] 24)) w.heap.size X2 (T.drop (k * S))) := by
        have hb : Below w1.heap.size w1 (w1.alloc (.cells #[.int .i64 (n 0), .int .i64 (n 1), .int .i64 (n 2), .int .i64 (n 3), .int .i64 (n 4), .int .i64 (n 5), .int .i64 (n 6), .int .i64 (n 7), .int .i64 (n 8), .slice D d.length cd] 24)) := (Below.refl _ _).alloc (Nat.le_refl _) _
        exact ⟨Box.fresh w1 24 _, HW2.out.1.later hb, HW2.out.2.trans (hb.mono HW2.out.2.size), HX2.out.1.below (hb.mono HW2.out.2.size)⟩
      generalize (w1.alloc (.cells #[.int .i64 (n 0), .int .i64 (n 1), .int .i64 (n 2), .int .i64 (n 3), .int .i64 (n 4), .int .i64 (n 5), .int .i64 (n 6), .int .i64 (n 7), .int .i64 (n 8), .slice D d.length cd] 24)) = w2 at HV ⊢
      generalize w1.heap.size = g at HV ⊢
      clear HW2
      obtain ⟨y0, y1, y2, y3, y4, y5, y6, y7, y8, y9⟩ := box10 HV.out.1
      have HV3 : Hid (RecAt (w2.alloc (.cells #[.int .i64 (n 0), .int .i64 (n 1), .int .i64 (n 2), .int .i64 (n 3), .int .i64 (n 4), .int .i64 (n 5), .int .i64 (n 6), .int .i64 (n 7), .int .i64 (n 8), .slice D d.length cd] 24)) w2.heap.size n (.slice D d.length cd) ∧ OwnN (w2.alloc (.cells #[.int .i64 (n 0), .int .i64 (n 1), .int .i64 (n 2), .int .i64 (n 3), .int .i64 (n 4), .int .i64 (n 5), .int .i64 (n 6), .int .i64 (n 7), .int .i64 (n 8), .slice D d.length cd] 24)) w.heap.size u6 j ∧ Below w.heap.size w (w2.alloc (.cells #[.int .i64 (n 0), .int .i64 (n 1), .int .i64 (n 2), .int .i64 (n 3), .int .i64 (n 4), .int .i64 (n 5), .int .i64 (n 6), .int .i64 (n 7), .int .i64 (n 8), .slice D d.length cd] 24)) ∧ Rd (w2.alloc (.cells #[.int .i64 (n 0), .int .i64 (n 1), .int .i64 (n 2), .int .i64 (n 3), .int .i64 (n 4), .int .i64 (n 5), .int .i64 (n 6), .int .i64 (n 7), .int .i64 (n 8), .slice D d.length cd] 24)) w.heap.size X2 (T.drop (k * S))) := by
        have hb : Below w2.heap.size w2 (w2.alloc (.cells #[.int .i64 (n 0), .int .i64 (n 1), .int .i64 (n 2), .int .i64 (n 3), .int .i64 (n 4), .int .i64 (n 5), .int .i64 (n 6), .int .i64 (n 7), .int .i64 (n 8), .slice D d.length cd] 24)) := (Below.refl _ _).alloc (Nat.le_refl _) _
        exact ⟨Box.fresh w2 24 _, HV.out.2.1.later hb, HV.out.2.2.1.trans (hb.mono HV.out.2.2.1.size), HV.out.2.2.2.below (hb.mono HV.out.2.2.1.size)⟩
      go_upto_region 7 with (at_builtin; refine wpList_appN _ rfl (.tmp 22) (.tmp 24) rfl w.heap.size u6 j n D d.length cd w2.heap.size rfl rfl HV3.out.2.1 HV3.out.1 HJ.out HV3.out.2.2.1.size ?_; intro v' w4 ho' hg)
      have HV4 : Hid (OwnN w4 w.heap.size v' (j + 1) ∧ Below w.heap.size w w4 ∧ Rd w4 w.heap.size X2 (T.drop (k * S))) := by
        have hb := OwnN.below HV3.out.2.1 hg HV3.out.2.2.1.size
        exact ⟨ho', HV3.out.2.2.1.trans hb, HV3.out.2.2.2.below hb⟩
      obtain ⟨A4, c4, hv4⟩ := HV4.out.1.form
      subst hv4
      clear ho' hg HV3 HV y0 y1 y2 y3 y4 y5 y6 y7 y8 y9
      go_wp2
      go_roundw
      case rel => exact ⟨j + 1, X2, cx - k * S, by rw [HT2.out, HX2.out.2.1], by rw [HT2.out, HX2.out.2.1]; exact HX2.out.2.2.1, by rw [HT2.out]; exact HV4.out.2.2, HG2.out, by rw [HB2.out]; go_num, HV4.out.1, HV4.out.2.1⟩
      case measure => exact HX2.out.2.2.2
    · have h1 : (er != 0) = true := by simpa using h0
      have HE2 : Hid (¬ getE (b.drop (blk b bl j * bl.toNat)) bl = 0) := by
        show ¬ _
        rw [HT.out, HE.out]
        exact h0
      clear h0
      go_wp2
      exact bodyPost_ret (v := .tuple #[u6, .int .i64 (kk : Int)]) (by simp [results, Try.results19, go_sem, *]) rfl ⟨j, u6, HG.out, HE2.out, by rw [HKK.out], HW1.out.2.1.later ((Below.refl _ _).alloc (Nat.le_refl _) _), HW1.out.2.2.alloc HW1.out.2.2.size _⟩
end Go.Proofs.Ytmebbggmdfejkaa
