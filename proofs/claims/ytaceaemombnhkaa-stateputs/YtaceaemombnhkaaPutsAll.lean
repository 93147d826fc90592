/- For any two states the law StatePuts returns true, and what came in reads behind the call as it read before. No condition. -/
import Derived.Test.YtaceaemombnhkaaGs
import Derived.Test.YtaceaemombnhkaaSp
import Derived.Test.YtaceaemombnhkaaGi
import Derived.Test.YtaceaemombnhkaaSk
import Derived.Test.YtaceaemombnhkaaSm
import Derived.Test.YtaceaemombnhkaaSn
import Derived.Test.YtaceaemombnhkaaSr
import Derived.Test.YtaceaemombnhkaaSo
import Derived.Test.YtaceaemombnhkaaSb
import Derived.Test.YtaceaemombnhkaaConf
import Derived.SizedLaws
import Derived.Deep.Slices
import Derived.ProofKit
import Derived.OpenShut
import Derived.ChangeOld
import Derived.ChangeArms
import Derived.WalkKit
import Derived.ShutString
import Derived.Below
namespace Go.Proofs.Ytaceaemombnhkaa
set_option linter.unusedVariables false
set_option maxRecDepth 100000
set_option linter.unusedSimpArgs false
open Go.RowKit
open Go.RowKit (wrap64)

theorem exec_load27 {o : Oper} {a : Act} {w : World} (x : Operand) (ho : o.op = .load 27 x) (g : Nat) (cs : Array Value) (hg : Box w g 27 cs) (hn : cs.size = 15) (hx : a.eval x = .pointer (some ⟨g, 0, none⟩)) : (execOp a.eval o).run Try.prog w = .ok (.value (.agg cs)) w := by
  unfold execOp
  simp only [ho, hx, Instr.loadAt, Instr.sureAddr, Sem.run_bind, Sem.run_pure, Result.andThen_ok, run_loadVar_row (P := Try.prog) w g 27 27 cs (0, 0) _ hg rfl rfl (by rw [hn]; exact Try.size27)]
theorem exec_box27 {o : Oper} {a : Act} {w : World} (x : Operand) (ho : o.op = .box 27 x) (cs : Array Value) (hx : a.eval x = .agg cs) : (execOp a.eval o).run Try.prog w = .ok (.value (.pointer (some ⟨w.heap.size, 0, none⟩))) (w.alloc (.cells cs 27)) := by
  unfold execOp
  simp only [ho, hx]
  go_simp
theorem list_box27 {ops : Array Oper} {rest : List Oper} {o : Oper} {a : Act} {w : World} {Q : Exit → Act → World → Prop} (hgd : o.guard = none) (x : Operand) (ho : o.op = .box 27 x) (cs : Array Value) (hx : a.eval x = .agg cs)
    (h : wpList Try.prog ops Q rest (a.put o.dst (.pointer (some ⟨w.heap.size, 0, none⟩))) (w.alloc (.cells cs 27))) : wpList Try.prog ops Q (o :: rest) a w :=
  wpList_plain hgd fun _ hK => by
    unfold Oper.wp
    rw [exec_box27 x ho cs hx]
    exact hK _ _ h
/-- A load of a whole state that is wanted, guarded or not. -/
theorem list_load27g {ops : Array Oper} {rest : List Oper} {o : Oper} {a : Act} {w : World} {Q : Exit → Act → World → Prop} (hw : Region.wanted o (yielded ops a.tmps) = true) (x : Operand) (ho : o.op = .load 27 x) (g : Nat) (cs : Array Value) (hg : Box w g 27 cs) (hn : cs.size = 15) (hx : a.eval x = .pointer (some ⟨g, 0, none⟩))
    (h : wpList Try.prog ops Q rest (a.put o.dst (.agg cs)) w) : wpList Try.prog ops Q (o :: rest) a w := by
  unfold wpList
  rw [if_pos hw]
  exact Or.inl (oper_load27 x ho g cs hg hn hx h)
end Go.Proofs.Ytaceaemombnhkaa
namespace Go.Proofs.Ytaceaemombnhkaa
set_option linter.unusedVariables false
set_option maxRecDepth 100000
set_option linter.unusedSimpArgs false
open Go.RowKit
open Go.RowKit (wrap64)

/-- The two boxes of the law. -/
def PutTwo (cs1 cs2 : Array Value) (w w0 : World) : Prop := Box w0 w.heap.size 27 cs1 ∧ Box w0 (w.heap.size + 1) 27 cs2 ∧ Below w.heap.size w w0 ∧ w.heap.size + 2 ≤ w0.heap.size
theorem PutTwo.later {cs1 cs2 : Array Value} {w w0 w1 : World} (h : PutTwo cs1 cs2 w w0) (hb : Below w0.heap.size w0 w1) : PutTwo cs1 cs2 w w1 :=
  ⟨h.1.later hb, h.2.1.later hb, h.2.2.1.trans (hb.mono h.2.2.1.size), Nat.le_trans h.2.2.2 hb.size⟩
theorem putZs_sm : ∀ l : List Zn, (∀ z ∈ l, z.ps.length ≤ 2 ∧ ∀ p ∈ z.ps, p.b.length ≤ 4000) → (putZs l).length ≤ 8066 * l.length
  | [], _ => by simp [putZs]
  | z :: l, h => by
    have h1 := putZs_sm l (fun y hy => h y (List.mem_cons_of_mem _ hy))
    have h2 := h z List.mem_cons_self
    have h3 := putPs_le (M := 4000) z.ps h2.2
    show (putZ z ++ putZs l).length ≤ 8066 * (l.length + 1)
    have h4 : (putZ z).length ≤ 8066 := by
      unfold putZ
      rw [List.length_append, headZ_length]
      have : (16 + 4000) * z.ps.length ≤ (16 + 4000) * 2 := Nat.mul_le_mul_left _ h2.1
      omega
    rw [List.length_append]
    omega
theorem putS_len {s : St} (h : RightS s) (h1 : s.st.length ≤ 30) (h2 : s.zs.length ≤ 70) (h3 : ∀ z ∈ s.zs, SmallZ z) : (putS s).length ≤ 1000000 := by
  have hz := putZs_sm s.zs (fun z hz => ⟨(h.be z hz).have_.2, fun p hp => (h3 z hz).2 p hp⟩)
  have hn := les_length s.c 11 (by omega)
  have hi := putIs_length s.st
  have hm : 8066 * s.zs.length ≤ 8066 * 70 := Nat.mul_le_mul_left _ h2
  unfold putS
  simp only [List.length_append, le8_length]
  omega
set_option maxHeartbeats 4000000 in
theorem statePuts_walk (c : Cf) (ep sq : Int) (A : Option Addr) (st : List Int) (k : Nat) (D : Option Addr) (zs : List Zn) (d : Nat) (c2 : Cf) (ep2 sq2 : Int) (A2 : Option Addr) (st2 : List Int) (k2 : Nat) (D2 : Option Addr) (zs2 : List Zn) (d2 : Nat) (w : World) (h : StAt w (LT w.heap.size) A st k D zs d) (h2 : StAt w (LT w.heap.size) A2 st2 k2 D2 zs2 d2) (hl1 : st.length ≤ maxLen) (hl2 : zs.length ≤ maxLen) (hl3 : st2.length ≤ maxLen) (hl4 : zs2.length ≤ maxLen) :
    Calls Try.prog 4 #[(.agg #[.int .i64 c.id, .int .i64 c.m, .int .i64 c.u, .int .i64 c.b, .int .i64 c.cp, .int .i64 c.z, .int .i64 c.s, .int .i64 c.mt, .int .i64 c.o, .int .i64 c.a, .int .i64 c.l, .int .i64 ep, .int .i64 sq, .slice A st.length k, .slice D zs.length d]), (.agg #[.int .i64 c2.id, .int .i64 c2.m, .int .i64 c2.u, .int .i64 c2.b, .int .i64 c2.cp, .int .i64 c2.z, .int .i64 c2.s, .int .i64 c2.mt, .int .i64 c2.o, .int .i64 c2.a, .int .i64 c2.l, .int .i64 ep2, .int .i64 sq2, .slice A2 st2.length k2, .slice D2 zs2.length d2])] w (Says w (.bool true)) := by
  have HA : Hid (∀ w', Below w.heap.size w w' → StAt w' (LT w'.heap.size) A st k D zs d) := fun w' hb => h.later hb
  have HB : Hid (∀ w', Below w.heap.size w w' → StAt w' (LT w'.heap.size) A2 st2 k2 D2 zs2 d2) := fun w' hb => h2.later hb
  have HM1 : Hid (∀ w', Below w.heap.size w w' → Calls Try.prog 7 #[(.agg #[.int .i64 c.id, .int .i64 c.m, .int .i64 c.u, .int .i64 c.b, .int .i64 c.cp, .int .i64 c.z, .int .i64 c.s, .int .i64 c.mt, .int .i64 c.o, .int .i64 c.a, .int .i64 c.l, .int .i64 ep, .int .i64 sq, .slice A st.length k, .slice D zs.length d])] w' (MuchG w' st zs)) := fun w' hb => much_any c ep sq A st k D zs d w' (HA.out w' hb) hl1 hl2
  have HM2 : Hid (∀ w', Below w.heap.size w w' → Calls Try.prog 7 #[(.agg #[.int .i64 c2.id, .int .i64 c2.m, .int .i64 c2.u, .int .i64 c2.b, .int .i64 c2.cp, .int .i64 c2.z, .int .i64 c2.s, .int .i64 c2.mt, .int .i64 c2.o, .int .i64 c2.a, .int .i64 c2.l, .int .i64 ep2, .int .i64 sq2, .slice A2 st2.length k2, .slice D2 zs2.length d2])] w' (MuchG w' st2 zs2)) := fun w' hb => much_any c2 ep2 sq2 A2 st2 k2 D2 zs2 d2 w' (HB.out w' hb) hl3 hl4
  have HK : Hid (zs.length ≤ 70 ∧ st.length ≤ 30 ∧ (∀ z ∈ zs, SmallZ z) → zs2.length ≤ 70 ∧ st2.length ≤ 30 →
      (∀ w', Below w.heap.size w w' → Calls Try.prog 13 #[(.agg #[.int .i64 c.id, .int .i64 c.m, .int .i64 c.u, .int .i64 c.b, .int .i64 c.cp, .int .i64 c.z, .int .i64 c.s, .int .i64 c.mt, .int .i64 c.o, .int .i64 c.a, .int .i64 c.l, .int .i64 ep, .int .i64 sq, .slice A st.length k, .slice D zs.length d])] w' (PutG w' ⟨c, ep, sq, st, zs⟩)) ∧ (∀ w', Below w.heap.size w w' → Calls Try.prog 14 #[(.agg #[.int .i64 c.id, .int .i64 c.m, .int .i64 c.u, .int .i64 c.b, .int .i64 c.cp, .int .i64 c.z, .int .i64 c.s, .int .i64 c.mt, .int .i64 c.o, .int .i64 c.a, .int .i64 c.l, .int .i64 ep, .int .i64 sq, .slice A st.length k, .slice D zs.length d])] w' (PutG w' ⟨c, ep, sq, st, zs⟩)) ∧
      (∀ w', Below w.heap.size w w' → Calls Try.prog 15 #[(.agg #[.int .i64 c.id, .int .i64 c.m, .int .i64 c.u, .int .i64 c.b, .int .i64 c.cp, .int .i64 c.z, .int .i64 c.s, .int .i64 c.mt, .int .i64 c.o, .int .i64 c.a, .int .i64 c.l, .int .i64 ep, .int .i64 sq, .slice A st.length k, .slice D zs.length d]), (.agg #[.int .i64 c2.id, .int .i64 c2.m, .int .i64 c2.u, .int .i64 c2.b, .int .i64 c2.cp, .int .i64 c2.z, .int .i64 c2.s, .int .i64 c2.mt, .int .i64 c2.o, .int .i64 c2.a, .int .i64 c2.l, .int .i64 ep2, .int .i64 sq2, .slice A2 st2.length k2, .slice D2 zs2.length d2])] w' (SaysP w' ((⟨c, ep, sq, st, zs⟩ : St) = ⟨c2, ep2, sq2, st2, zs2⟩))) ∧
      (∀ w', Below w.heap.size w w' → Calls Try.prog 11 #[(.agg #[.int .i64 c.id, .int .i64 c.m, .int .i64 c.u, .int .i64 c.b, .int .i64 c.cp, .int .i64 c.z, .int .i64 c.s, .int .i64 c.mt, .int .i64 c.o, .int .i64 c.a, .int .i64 c.l, .int .i64 ep, .int .i64 sq, .slice A st.length k, .slice D zs.length d]), (.agg #[.int .i64 c2.id, .int .i64 c2.m, .int .i64 c2.u, .int .i64 c2.b, .int .i64 c2.cp, .int .i64 c2.z, .int .i64 c2.s, .int .i64 c2.mt, .int .i64 c2.o, .int .i64 c2.a, .int .i64 c2.l, .int .i64 ep2, .int .i64 sq2, .slice A2 st2.length k2, .slice D2 zs2.length d2])] w' (SaysP w' ((⟨c, ep, sq, st, zs⟩ : St) = ⟨c2, ep2, sq2, st2, zs2⟩))) ∧
      (∀ w', Below w.heap.size w w' → Calls Try.prog 16 #[(.agg #[.int .i64 c.id, .int .i64 c.m, .int .i64 c.u, .int .i64 c.b, .int .i64 c.cp, .int .i64 c.z, .int .i64 c.s, .int .i64 c.mt, .int .i64 c.o, .int .i64 c.a, .int .i64 c.l, .int .i64 ep, .int .i64 sq, .slice A st.length k, .slice D zs.length d])] w' (SaysP w' (RightS ⟨c, ep, sq, st, zs⟩)))) := fun h1 h2 =>
    ⟨fun w' hb => put_state_any c ep sq A st k D zs d w' (HA.out w' hb) (by omega) (by omega), fun w' hb => rput_any c ep sq A st k D zs d w' (HA.out w' hb) (by omega) (by omega),
     fun w' hb => same_any c ep sq A st k D zs d c2 ep2 sq2 A2 st2 k2 D2 zs2 d2 w' (HA.out w' hb) (HB.out w' hb) (by omega) (by omega) (fun z hz => by have := (h1.2.2 z hz); unfold SmallZ at this; omega),
     fun w' hb => rsame_any c ep sq A st k D zs d c2 ep2 sq2 A2 st2 k2 D2 zs2 d2 w' (HA.out w' hb) (HB.out w' hb) (by omega) (by omega),
     fun w' hb => rright_any c ep sq A st k D zs d w' (HA.out w' hb) (by omega) (by omega)⟩
  have HRS : Hid (∀ s A4 k4 D4 d4 w', s = (⟨c, ep, sq, st, zs⟩ : St) → StAt w' (LT w'.heap.size) A4 s.st k4 D4 s.zs d4 → Below w.heap.size w w' → st.length ≤ 30 → zs.length ≤ 70 → Calls Try.prog 11 #[(.agg #[.int .i64 s.c.id, .int .i64 s.c.m, .int .i64 s.c.u, .int .i64 s.c.b, .int .i64 s.c.cp, .int .i64 s.c.z, .int .i64 s.c.s, .int .i64 s.c.mt, .int .i64 s.c.o, .int .i64 s.c.a, .int .i64 s.c.l, .int .i64 s.ep, .int .i64 s.sq, .slice A4 s.st.length k4, .slice D4 s.zs.length d4]), (.agg #[.int .i64 c.id, .int .i64 c.m, .int .i64 c.u, .int .i64 c.b, .int .i64 c.cp, .int .i64 c.z, .int .i64 c.s, .int .i64 c.mt, .int .i64 c.o, .int .i64 c.a, .int .i64 c.l, .int .i64 ep, .int .i64 sq, .slice A st.length k, .slice D zs.length d])] w' (SaysP w' True)) := fun s A4 k4 D4 d4 w' hs h4 hb h5 h6 => by
    subst hs
    refine (rsame_any _ _ _ _ _ _ _ _ _ c ep sq A st k D zs d w' h4 (HA.out w' hb) (by show st.length ≤ _; omega) (by show zs.length ≤ _; omega)).mono ?_
    rintro e w1 ⟨b, rfl, h1, h2⟩
    exact ⟨b, rfl, by simpa using h1, h2⟩
  generalize hcs1 : (#[.int .i64 c.id, .int .i64 c.m, .int .i64 c.u, .int .i64 c.b, .int .i64 c.cp, .int .i64 c.z, .int .i64 c.s, .int .i64 c.mt, .int .i64 c.o, .int .i64 c.a, .int .i64 c.l, .int .i64 ep, .int .i64 sq, .slice A st.length k, .slice D zs.length d] : Array Value) = cs1 at HM1 HK HRS ⊢
  generalize hcs2 : (#[.int .i64 c2.id, .int .i64 c2.m, .int .i64 c2.u, .int .i64 c2.b, .int .i64 c2.cp, .int .i64 c2.z, .int .i64 c2.s, .int .i64 c2.mt, .int .i64 c2.o, .int .i64 c2.a, .int .i64 c2.l, .int .i64 ep2, .int .i64 sq2, .slice A2 st2.length k2, .slice D2 zs2.length d2] : Array Value) = cs2 at HM2 HK HRS ⊢
  have hn1 : cs1.size = 15 := by rw [← hcs1]; rfl
  have hn2 : cs2.size = 15 := by rw [← hcs2]; rfl
  clear hcs1 hcs2 hl1 hl2 hl3 hl4 h h2
  go_enter Try.func4, Try.ntmps4
  go_upto_region 1 with (first | (refine list_box27 rfl (.tmp 0) rfl cs1 rfl ?_) | (refine list_box27 rfl (.tmp 1) rfl cs2 rfl ?_))
  have HV : Hid (PutTwo cs1 cs2 w ((w.alloc (.cells cs1 27)).alloc (.cells cs2 27))) := by
    obtain ⟨q1, q2, q3, q4⟩ := two_boxes' w 27 27 cs1 cs2
    exact ⟨q1, q2, q3, by omega⟩
  generalize ((w.alloc (.cells cs1 27)).alloc (.cells cs2 27)) = w0 at HV ⊢
  go_wp2_with (first | (refine list_load27 rfl (.tmp 2) rfl w.heap.size cs1 HV.out.1 hn1 rfl ?_))
  refine (HM1.out w0 HV.out.2.2.1).mono ?_
  rintro e w1 ⟨b1, rfl, hb1, hb⟩
  have HV1 := Lib.hid (HV.out.later hb)
  clear hb HV
  cases b1 with
  | true =>
    go_wp2_with fail
    refine (live_any w1).mono ?_
    rintro e w2 ⟨rfl, hb⟩
    have HE := Lib.hid (HV1.out.2.2.1.trans (hb.mono HV1.out.2.2.1.size))
    clear hb HV1
    go_wp2
    go_ret
    exact ⟨rfl, HE.out⟩
  | false =>
    go_wp2_with (first | (refine list_load27g (by rfl) (.tmp 3) rfl (w.heap.size + 1) cs2 HV1.out.2.1 hn2 rfl ?_))
    refine (HM2.out w1 HV1.out.2.2.1).mono ?_
    rintro e w2 ⟨b2, rfl, hb2, hb⟩
    have HV2 := Lib.hid (HV1.out.later hb)
    clear hb HV1
    cases b2 with
    | true =>
      go_wp2_with fail
      refine (live_any w2).mono ?_
      rintro e w3 ⟨rfl, hb⟩
      have HE := Lib.hid (HV2.out.2.2.1.trans (hb.mono HV2.out.2.2.1.size))
      clear hb HV2
      go_wp2
      go_ret
      exact ⟨rfl, HE.out⟩
    | false =>
      have hk1 := hb1 (by trivial)
      have hk2 := hb2 (by trivial)
      obtain ⟨hP, hRP, hSa, hRSa, hRR⟩ := HK.out hk1 ⟨hk2.1, hk2.2.1⟩
      have HP := Lib.hid hP
      have HRP := Lib.hid hRP
      have HSa := Lib.hid hSa
      have HRSa := Lib.hid hRSa
      have HRR := Lib.hid hRR
      have HZ := Lib.hid hk1
      clear hk1 hk2 hP hRP hSa hRSa hRR HK hb1 hb2 HM1 HM2
      go_wp2_with (first | (refine list_load27g (by rfl) (.tmp 2) rfl w.heap.size cs1 HV2.out.1 hn1 rfl ?_))
      refine (HP.out w2 HV2.out.2.2.1).mono ?_
      rintro e w3 ⟨L, hL1, hL2, E, ce, rfl, hE, hcE, hb⟩
      have HL := Lib.hid (And.intro hL1 hL2)
      have HV3 := Lib.hid (And.intro (HV2.out.later hb) hE)
      have HCE := Lib.hid hcE
      clear hb HV2 hL1 hL2 hE hcE
      go_upto_region 4 with fail
      refine wpB_start w3.heap.size (by kernel_rfl) ?_
      have HD : Hid (PutTwo cs1 cs2 w w3.drew ∧ Rd w3.drew w3.drew.heap.size E L) := ⟨HV3.out.1.later (Below.refl _ _).drew, HV3.out.2.later (Below.refl _ _).drew⟩
      have HSS : Hid (w3.drew.heap.size = w3.heap.size) := rfl
      generalize w3.drew = w4 at HD HSS ⊢
      rw [← HSS.out]
      clear HV3 HSS
      have HLT : Hid (w.heap.size < w4.heap.size ∧ w.heap.size + 1 < w4.heap.size) := ⟨HD.out.1.1.lt, HD.out.1.2.1.lt⟩
      have hcv : ∀ w', Below w4.heap.size w4 w' → (convert 28 9 (.slice E L.length ce)).run Try.prog w' = .ok (.string ⟨L.toArray⟩) w' := fun w' h => conv_any E ce _ L w' (HD.out.2.below h)
      refine wpB_take (i := 0) (d := 17) (v := ?v4x0) rfl rfl (by kernel_rfl) (by kernel_rfl) (by kernel_rfl) (fun _ _ _ h => h) (by rfl) ?y4x0 ?r4x0
      case y4x0 => (intro w' hSw; go_simp; try (with_reducible rfl))
      simp only [Act.put, List.setIfInBounds_toArray, List.set_cons_zero, List.set_cons_succ]
      refine wpB_take (i := 1) (d := 18) (v := ?v4x1) rfl rfl (by kernel_rfl) (by kernel_rfl) (by kernel_rfl) (fun _ _ _ h => h) (by rfl) ?y4x1 ?r4x1
      case y4x1 => (intro w' hSw; go_simp; try (with_reducible rfl))
      simp only [Act.put, List.setIfInBounds_toArray, List.set_cons_zero, List.set_cons_succ]
      refine wpB_take (i := 2) (d := 19) (v := ?v4x2) rfl rfl (by kernel_rfl) (by kernel_rfl) (by kernel_rfl) (fun _ _ _ h => h) (by rfl) ?y4x2 ?r4x2
      case y4x2 => (intro w' hSw; refine exec_load27 (.tmp 2) ?_ w.heap.size cs1 (HD.out.1.1.under hSw HLT.out.1) hn1 ?_ <;> rfl)
      simp only [Act.put, List.setIfInBounds_toArray, List.set_cons_zero, List.set_cons_succ]
      refine wpB_do (i := 3) (by kernel_rfl) rfl (by rfl) (fun K hK => ?_)
      go_simp
      refine (HRP.out w4 HD.out.1.2.2.1).mono ?_
      rintro e w5 ⟨L2, hL1, hL2, F, cf, rfl, hF, hcF, hb⟩
      have hLL : L2 = L := by
        by_cases hr : RightS ⟨c, ep, sq, st, zs⟩
        · rw [hL1 hr, HL.out.1 hr]
        · rw [hL2 hr, HL.out.2 hr]
      subst hLL
      have HD5 : Hid (PutTwo cs1 cs2 w w5 ∧ Rd w5 w5.heap.size E L2 ∧ Rd w5 w5.heap.size F L2 ∧ w4.heap.size ≤ w5.heap.size) := ⟨HD.out.1.later hb, HD.out.2.later hb, hF, hb.size⟩
      go_simp
      refine hK.out w5.heap.size _ _ hb.size hb ?_
      clear hb hK hL1 hL2 hF hcF hcv HLT HD HRP
      have HLT : Hid (w.heap.size < w5.heap.size ∧ w.heap.size + 1 < w5.heap.size) := ⟨HD5.out.1.1.lt, HD5.out.1.2.1.lt⟩
      have hcv : ∀ w', Below w5.heap.size w5 w' → (convert 28 9 (.slice F L2.length cf)).run Try.prog w' = .ok (.string ⟨L2.toArray⟩) w' := fun w' h => conv_any F cf _ L2 w' (HD5.out.2.2.1.below h)
      refine wpB_take (i := 4) (d := 21) (v := ?v4x4) rfl rfl (by kernel_rfl) (by kernel_rfl) (by kernel_rfl) (fun _ _ _ h => h) (by rfl) ?y4x4 ?r4x4
      case y4x4 => (intro w' hSw; go_simp; try (with_reducible rfl))
      simp only [Act.put, List.setIfInBounds_toArray, List.set_cons_zero, List.set_cons_succ]
      refine wpB_take (i := 5) (d := 22) (v := ?v4x5) rfl rfl (by kernel_rfl) (by kernel_rfl) (by kernel_rfl) (fun _ _ _ h => h) (by rfl) ?y4x5 ?r4x5
      case y4x5 => (intro w' hSw; go_simp; try (with_reducible rfl))
      simp only [Act.put, List.setIfInBounds_toArray, List.set_cons_zero, List.set_cons_succ]
      refine wpB_take (i := 6) (d := 23) (v := ?v4x6) rfl rfl (by kernel_rfl) (by kernel_rfl) (by kernel_rfl) (fun _ _ _ h => h) (by rfl) ?y4x6 ?r4x6
      case y4x6 => (intro w' hSw; go_simp; try (with_reducible rfl))
      simp only [Act.put, List.setIfInBounds_toArray, List.set_cons_zero, List.set_cons_succ]
      refine wpB_take (i := 7) (d := 24) (v := ?v4x7) rfl rfl (by kernel_rfl) (by kernel_rfl) (by kernel_rfl) (fun _ _ _ h => h) (by rfl) ?y4x7 ?r4x7
      case y4x7 => (intro w' hSw; refine exec_load27 (.tmp 2) ?_ w.heap.size cs1 (HD5.out.1.1.under hSw HLT.out.1) hn1 ?_ <;> rfl)
      simp only [Act.put, List.setIfInBounds_toArray, List.set_cons_zero, List.set_cons_succ]
      refine wpB_take (i := 8) (d := 25) (v := ?v4x8) rfl rfl (by kernel_rfl) (by kernel_rfl) (by kernel_rfl) (fun _ _ _ h => h) (by rfl) ?y4x8 ?r4x8
      case y4x8 => (intro w' hSw; refine exec_load27 (.tmp 3) ?_ (w.heap.size + 1) cs2 (HD5.out.1.2.1.under hSw HLT.out.2) hn2 ?_ <;> rfl)
      simp only [Act.put, List.setIfInBounds_toArray, List.set_cons_zero, List.set_cons_succ]
      refine wpB_take (i := 10) (d := 27) (v := ?v4x10) rfl rfl (by kernel_rfl) (by kernel_rfl) (by kernel_rfl) (fun _ _ _ h => h) (by rfl) ?y4x10 ?r4x10
      case y4x10 => (intro w' hSw; refine exec_load27 (.tmp 2) ?_ w.heap.size cs1 (HD5.out.1.1.under hSw HLT.out.1) hn1 ?_ <;> rfl)
      simp only [Act.put, List.setIfInBounds_toArray, List.set_cons_zero, List.set_cons_succ]
      refine wpB_take (i := 11) (d := 28) (v := ?v4x11) rfl rfl (by kernel_rfl) (by kernel_rfl) (by kernel_rfl) (fun _ _ _ h => h) (by rfl) ?y4x11 ?r4x11
      case y4x11 => (intro w' hSw; refine exec_load27 (.tmp 3) ?_ (w.heap.size + 1) cs2 (HD5.out.1.2.1.under hSw HLT.out.2) hn2 ?_ <;> rfl)
      simp only [Act.put, List.setIfInBounds_toArray, List.set_cons_zero, List.set_cons_succ]
      refine wpB_do (i := 9) (by kernel_rfl) rfl (by rfl) (fun K hK => ?_)
      go_simp
      refine (HSa.out w5 HD5.out.1.2.2.1).mono ?_
      rintro e w6 ⟨b6, rfl, hr6, hb⟩
      have HD6 : Hid (PutTwo cs1 cs2 w w6 ∧ Rd w6 w6.heap.size E L2 ∧ w5.heap.size ≤ w6.heap.size) := ⟨HD5.out.1.later hb, HD5.out.2.1.later hb, hb.size⟩
      have HR6 := Lib.hid hr6
      go_simp
      refine hK.out w5.heap.size _ _ (Nat.le_refl _) hb ?_
      clear hb hK hr6 HD5 hcv HSa
      refine wpB_do (i := 12) (by kernel_rfl) rfl (by rfl) (fun K hK => ?_)
      go_simp
      refine (HRSa.out w6 HD6.out.1.2.2.1).mono ?_
      rintro e w7 ⟨b7, rfl, hr7, hb⟩
      have hbb : b7 = b6 := by
        have h1 := hr7.trans HR6.out.symm
        cases b7 <;> cases b6 <;> simp_all
      subst hbb
      have HD7 : Hid (PutTwo cs1 cs2 w w7 ∧ Rd w7 w7.heap.size E L2) := ⟨HD6.out.1.later hb, HD6.out.2.1.later hb⟩
      go_simp
      refine hK.out w5.heap.size _ _ (Nat.le_refl _) (hb.mono HD6.out.2.2) ?_
      clear hb hK hr7 HD6 HR6 HRSa
      refine wpB_take (i := 13) (d := 30) (v := ?v4x13) rfl rfl (by kernel_rfl) (by kernel_rfl) (by kernel_rfl) (fun _ _ _ h => h) (by rfl) ?y4x13 ?r4x13
      case y4x13 => (intro w' hSw; go_simp; try (with_reducible rfl))
      simp only [Act.put, List.setIfInBounds_toArray, List.set_cons_zero, List.set_cons_succ]
      refine wpB_take (i := 14) (d := 31) (v := ?v4x14) rfl rfl (by kernel_rfl) (by kernel_rfl) (by kernel_rfl) (fun _ _ _ h => h) (by rfl) ?y4x14 ?r4x14
      case y4x14 => (intro w' hSw; go_simp; try (with_reducible rfl))
      simp only [Act.put, List.setIfInBounds_toArray, List.set_cons_zero, List.set_cons_succ]
      refine wpB_done (by kernel_rfl) ?_
      go_wp2_with (first | (refine list_load27g (by rfl) (.tmp 2) rfl w.heap.size cs1 HD7.out.1.1 hn1 rfl ?_))
      refine (HRR.out w7 HD7.out.1.2.2.1).mono ?_
      rintro e w8 ⟨b8, rfl, hr8, hb⟩
      have HR8 := Lib.hid hr8
      have HD8 : Hid (PutTwo cs1 cs2 w w8 ∧ Rd w8 w8.heap.size E L2) := ⟨HD7.out.1.later hb, HD7.out.2.later hb⟩
      clear hb hr8 HD7 HRR
      cases b8 with
      | false =>
        have hnr : ¬ RightS ⟨c, ep, sq, st, zs⟩ := fun h => by have := HR8.out.2 h; simp at this
        obtain rfl : L2 = [] := HL.out.2 hnr
        clear hnr HR8 HL
        go_wp2_with fail
        refine (live_any w8).mono ?_
        rintro e w9 ⟨rfl, hb⟩
        have HE := Lib.hid (HD8.out.1.2.2.1.trans (hb.mono HD8.out.1.2.2.1.size))
        clear hb HD8
        go_wp2
        go_ret
        exact ⟨rfl, HE.out⟩
      | true =>
        have hri : RightS ⟨c, ep, sq, st, zs⟩ := HR8.out.1 rfl
        have hLp := HL.out.1 hri
        have hgs := right_got hri
        have hlen := putS_len hri HZ.out.2.1 HZ.out.1 HZ.out.2.2
        rw [← hLp] at hgs hlen
        have HG := Lib.hid (get_state_any E ce L2 w8 HD8.out.2 HCE.out hlen)
        have HGS := Lib.hid hgs
        clear hri hLp hgs hlen HL HR8
        go_wp2_with fail
        refine HG.out.mono ?_
        rintro e w9 ⟨hcase, hb⟩
        have HD9 := Lib.hid (HD8.out.1.later hb)
        clear hb HD8 HG
        rcases hcase with ⟨s, A4, k4, D4, d4, hG, rfl, hst⟩ | ⟨er, her, rfl, hno⟩
        · have hs : s = ⟨c, ep, sq, st, zs⟩ := hG.state.symm.trans HGS.out.state
          have HS := Lib.hid hst
          have HSE := Lib.hid hs
          clear hst hs hG HGS
          go_upto_region 9 with fail
          have HF : Hid (Box (w9.alloc (.cells #[.int .i64 s.c.id, .int .i64 s.c.m, .int .i64 s.c.u, .int .i64 s.c.b, .int .i64 s.c.cp, .int .i64 s.c.z, .int .i64 s.c.s, .int .i64 s.c.mt, .int .i64 s.c.o, .int .i64 s.c.a, .int .i64 s.c.l, .int .i64 s.ep, .int .i64 s.sq, .slice A4 s.st.length k4, .slice D4 s.zs.length d4] 27)) w9.heap.size 27 #[.int .i64 s.c.id, .int .i64 s.c.m, .int .i64 s.c.u, .int .i64 s.c.b, .int .i64 s.c.cp, .int .i64 s.c.z, .int .i64 s.c.s, .int .i64 s.c.mt, .int .i64 s.c.o, .int .i64 s.c.a, .int .i64 s.c.l, .int .i64 s.ep, .int .i64 s.sq, .slice A4 s.st.length k4, .slice D4 s.zs.length d4] ∧ PutTwo cs1 cs2 w (w9.alloc (.cells #[.int .i64 s.c.id, .int .i64 s.c.m, .int .i64 s.c.u, .int .i64 s.c.b, .int .i64 s.c.cp, .int .i64 s.c.z, .int .i64 s.c.s, .int .i64 s.c.mt, .int .i64 s.c.o, .int .i64 s.c.a, .int .i64 s.c.l, .int .i64 s.ep, .int .i64 s.sq, .slice A4 s.st.length k4, .slice D4 s.zs.length d4] 27)) ∧ StAt (w9.alloc (.cells #[.int .i64 s.c.id, .int .i64 s.c.m, .int .i64 s.c.u, .int .i64 s.c.b, .int .i64 s.c.cp, .int .i64 s.c.z, .int .i64 s.c.s, .int .i64 s.c.mt, .int .i64 s.c.o, .int .i64 s.c.a, .int .i64 s.c.l, .int .i64 s.ep, .int .i64 s.sq, .slice A4 s.st.length k4, .slice D4 s.zs.length d4] 27)) (LT (w9.alloc (.cells #[.int .i64 s.c.id, .int .i64 s.c.m, .int .i64 s.c.u, .int .i64 s.c.b, .int .i64 s.c.cp, .int .i64 s.c.z, .int .i64 s.c.s, .int .i64 s.c.mt, .int .i64 s.c.o, .int .i64 s.c.a, .int .i64 s.c.l, .int .i64 s.ep, .int .i64 s.sq, .slice A4 s.st.length k4, .slice D4 s.zs.length d4] 27)).heap.size) A4 s.st k4 D4 s.zs d4) := ⟨Box.fresh w9 27 _, HD9.out.later (below_one _ _), HS.out.later (below_one _ _)⟩
          generalize w9.alloc (.cells #[.int .i64 s.c.id, .int .i64 s.c.m, .int .i64 s.c.u, .int .i64 s.c.b, .int .i64 s.c.cp, .int .i64 s.c.z, .int .i64 s.c.s, .int .i64 s.c.mt, .int .i64 s.c.o, .int .i64 s.c.a, .int .i64 s.c.l, .int .i64 s.ep, .int .i64 s.sq, .slice A4 s.st.length k4, .slice D4 s.zs.length d4] 27) = w10 at HF ⊢
          generalize w9.heap.size = g at HF ⊢
          have HCM : Hid (∀ w', Below w10.heap.size w10 w' → Calls Try.prog 11 #[(.agg #[.int .i64 s.c.id, .int .i64 s.c.m, .int .i64 s.c.u, .int .i64 s.c.b, .int .i64 s.c.cp, .int .i64 s.c.z, .int .i64 s.c.s, .int .i64 s.c.mt, .int .i64 s.c.o, .int .i64 s.c.a, .int .i64 s.c.l, .int .i64 s.ep, .int .i64 s.sq, .slice A4 s.st.length k4, .slice D4 s.zs.length d4]), .agg cs1] w' (SaysP w' True)) := fun w' hb => HRS.out s A4 k4 D4 d4 w' HSE.out (HF.out.2.2.later hb) (HF.out.2.1.2.2.1.trans (hb.mono HF.out.2.1.2.2.1.size)) HZ.out.2.1 HZ.out.1
          have HFB : Hid (Box w10 g 27 #[.int .i64 s.c.id, .int .i64 s.c.m, .int .i64 s.c.u, .int .i64 s.c.b, .int .i64 s.c.cp, .int .i64 s.c.z, .int .i64 s.c.s, .int .i64 s.c.mt, .int .i64 s.c.o, .int .i64 s.c.a, .int .i64 s.c.l, .int .i64 s.ep, .int .i64 s.sq, .slice A4 s.st.length k4, .slice D4 s.zs.length d4] ∧ PutTwo cs1 cs2 w w10) := ⟨HF.out.1, HF.out.2.1⟩
          clear HF HS HD9 HRS
          generalize hcs3 : (#[.int .i64 s.c.id, .int .i64 s.c.m, .int .i64 s.c.u, .int .i64 s.c.b, .int .i64 s.c.cp, .int .i64 s.c.z, .int .i64 s.c.s, .int .i64 s.c.mt, .int .i64 s.c.o, .int .i64 s.c.a, .int .i64 s.c.l, .int .i64 s.ep, .int .i64 s.sq, .slice A4 s.st.length k4, .slice D4 s.zs.length d4] : Array Value) = cs3 at HCM HFB ⊢
          have hn3 : cs3.size = 15 := by rw [← hcs3]; rfl
          clear hcs3
          go_wp2_with fail
          refine (code_any 0 w10).mono ?_
          rintro e w' ⟨rfl, rfl⟩
          go_wp2_with (first | (refine list_load27g (by rfl) (.tmp 6) rfl g cs3 HFB.out.1 hn3 rfl ?_) | (refine list_load27g (by rfl) (.tmp 2) rfl w.heap.size cs1 HFB.out.2.1 hn1 rfl ?_))
          refine (HCM.out w10 (Below.refl _ _)).mono ?_
          rintro e w11 ⟨b11, rfl, hr11, hb⟩
          obtain rfl : b11 = true := hr11.2 trivial
          have HE := Lib.hid (HFB.out.2.2.2.1.trans (hb.mono HFB.out.2.2.2.1.size))
          clear hb HFB HCM hr11
          go_wp2_with fail
          refine (live_any w11).mono ?_
          rintro e w12 ⟨rfl, hb⟩
          have HE2 := Lib.hid (HE.out.trans (hb.mono HE.out.size))
          clear hb HE
          go_wp2
          go_ret
          exact ⟨rfl, HE2.out⟩
        · exact absurd HGS.out (hno _)
end Go.Proofs.Ytaceaemombnhkaa
namespace Go.Proofs.Ytaceaemombnhkaa
set_option linter.unusedVariables false
set_option linter.unusedSimpArgs false
open Go.RowKit
open Go.RowKit (wrap64)

open Go.ChangeShapes Go.WideShapes Go.ChangeAt

theorem Try.cells30 : Try.prog.cellsOf 30 = 10 := by kernel_rfl
theorem Try.cells28 : Try.prog.cellsOf 28 = 1 := by kernel_rfl
theorem Try.bytes5 : Try.prog.bytesOf 5 = 1 := by kernel_rfl
/-- Nine numbers by their places. -/
def nine (m0 m1 m2 m3 m4 m5 m6 m7 m8 : Int) : Nat → Int
  | 0 => m0
  | 1 => m1
  | 2 => m2
  | 3 => m3
  | 4 => m4
  | 5 => m5
  | 6 => m6
  | 7 => m7
  | 8 => m8
  | _ => 0
section
variable {H : Type} {enc : TypeId × Value → H}
theorem weights_mem_all {P : Program} {e : TypeId} : ∀ {l : List (DataW H)} {d : DataW H}, d ∈ l → ∀ n ∈ d.weights P e, n ∈ DataW.weightsAll P e l
  | d0 :: l, d, h, n, hn => by
    simp only [DataW.weightsAll, List.mem_append]
    rcases List.mem_cons.1 h with rfl | h
    · exact Or.inl hn
    · exact Or.inr (weights_mem_all h n hn)
  | [], _, h, _, _ => by cases h
/-- One block out of its reading. -/
theorem block_trod {w : World} {base : Nat} {spare : Nat → Bool} {held : Bool} {fuel : Nat} {v : Value} {D : DataW H} {Pl : List MemPlace}
    (h : DataW.trod enc Try.prog w base spare held fuel 28 [v] = some (D, Pl)) (hw : ∀ n ∈ D.weights Try.prog 28, n ≤ reachBytes) :
    ∃ X c, ∃ l : List UInt8, v = .slice X l.length c ∧ Rd w w.heap.size X l ∧ l.length ≤ c ∧ l.length ≤ 140737488351232 := by
  rcases open_ints Try.underlying28 Try.underlying5 (by kernel_rfl) h with ⟨hcs, _⟩ | ⟨x, l, c, zs, hcs, _, hl, hm, hz, hx, hcell, hwz⟩
  · simp at hcs
    subst hcs
    exact ⟨none, 0, [], rfl, Rd.nil, Nat.le_refl _, by simp⟩
  · simp at hcs
    subst hcs
    injection hx with hD _
    subst hD
    have hzl : l ≤ zs.length := by rw [hz]; split <;> omega
    have hb := hw ((((lits .u8 (zs.take l) : List (DataW H)).length) + (lits .u8 (zs.drop l) : List (DataW H)).length) * Try.prog.bytesOf 5) (by simp [DataW.weights, Try.underlying28])
    rw [Try.bytes5] at hb
    simp only [lits, List.length_map, List.length_take, List.length_drop, reachBytes] at hb
    refine ⟨some x, c, (zs.take l).map fun n => UInt8.ofNat n.toNat, ?_, fun h0 => ⟨x, rfl, ?_, fun j u hu => ?_⟩, by simp; omega, by simp; omega⟩
    · simp [Nat.min_eq_left hzl]
    · have h := hcell 0 (by simp at h0; omega)
      have hb : (x.add 0).block < w.heap.size := by
        rcases Nat.lt_or_ge (x.add 0).block w.heap.size with h1 | h1
        · exact h1
        · simp [World.cell?, Array.getElem?_eq_none h1] at h
      rwa [step_block] at hb
    · have hj : j < l := by
        have := (List.getElem?_eq_some_iff.1 hu).1
        simp [cBs] at this
        omega
      have hjz : j < zs.length := by omega
      have hb := bounds_u8 (hwz zs[j] (List.getElem_mem hjz))
      have hu' : u = .int .u8 zs[j] := by
        simp [cBs, cB, hj, hjz] at hu
        rw [← hu]
        congr 1
        omega
      rw [hcell j hjz, hu']
      simp [List.getD, hjz]
theorem open_bytes {w : World} {base : Nat} {spare : Nat → Bool} {held : Bool} {A : Option Addr} {len cap : Nat} {d : DataW H} {p : List MemPlace} (h : DataW.Trod enc Try.prog w base spare held 28 (.slice A len cap) d p) (hw : ∀ n ∈ d.weights Try.prog 28, n ≤ reachBytes) :
    ∃ l : List UInt8, l.length = len ∧ Rd w w.heap.size A l ∧ len ≤ cap ∧ len ≤ 140737488351232 := by
  obtain ⟨fuel, hf⟩ := h
  obtain ⟨X, c, l, e, h1, h2, h3⟩ := block_trod (by simpa [Value.cells] using hf) hw
  injection e with e1 e2 e3
  subst e1 e2 e3
  exact ⟨l, rfl, h1, h2, h3⟩
end
end Go.Proofs.Ytaceaemombnhkaa
namespace Go.Proofs.Ytaceaemombnhkaa
set_option linter.unusedVariables false
set_option linter.unusedSimpArgs false
set_option maxRecDepth 100000
open Go.RowKit
open Go.RowKit (wrap64)
open Go.ChangeShapes Go.WideShapes Go.ChangeAt
theorem Try.cells27 : Try.prog.cellsOf 27 = 15 := by kernel_rfl
theorem Try.cells24 : Try.prog.cellsOf 24 = 1 := by kernel_rfl
theorem Try.cells25 : Try.prog.cellsOf 25 = 1 := by kernel_rfl
theorem Try.cells49 : Try.prog.cellsOf 49 = 1 := by kernel_rfl
theorem Try.cells4 : Try.prog.cellsOf 4 = 1 := by kernel_rfl
theorem Try.cells51 : Try.prog.cellsOf 51 = 6 := by kernel_rfl
theorem Try.cells55 : Try.prog.cellsOf 55 = 2 := by kernel_rfl
/-- A row of things out of their places. -/
theorem row_of {α : Type} [Inhabited α] {w : World} {a : Addr} {len sz : Nat} {R : Nat → Nat → α → Prop} (hR : ∀ g off t, R g off t → g < w.heap.size) (h : ∀ i, i < len → ∃ t g off, a.add (i * sz) = ⟨g, off, none⟩ ∧ R g off t) :
    ∃ l : List α, l.length = len ∧ (0 < l.length → ∃ g off, some a = some ⟨g, off, none⟩ ∧ g < w.heap.size ∧ ∀ j (hj : j < l.length), R g (off + j * sz) l[j]) := by
  have h' : ∀ i : Nat, ∃ t : α, i < len → ∃ g off, a.add (i * sz) = ⟨g, off, none⟩ ∧ R g off t := fun i => by
    by_cases hi : i < len
    · obtain ⟨t, h1⟩ := h i hi
      exact ⟨t, fun _ => h1⟩
    · exact ⟨default, fun hl => absurd hl hi⟩
  obtain ⟨f, hf⟩ := Classical.axiomOfChoice h'
  refine ⟨(List.range len).map f, by simp, fun h0 => ?_⟩
  have hlen : 0 < len := by simpa using h0
  obtain ⟨g0, off0, e0, r0⟩ := hf 0 hlen
  have ha : a.add (0 * sz) = a := by rw [Nat.zero_mul]; simp [Addr.add]
  rw [ha] at e0
  subst e0
  have hadd : ∀ j, (⟨g0, off0, none⟩ : Addr).add j = ⟨g0, off0 + j, none⟩ := fun j => by unfold Addr.add; split <;> simp_all
  refine ⟨g0, off0, rfl, hR _ _ _ r0, fun j hj => ?_⟩
  obtain ⟨g, off, e, r⟩ := hf j (by simpa using hj)
  rw [hadd] at e
  simp only [Addr.mk.injEq, and_true] at e
  obtain ⟨rfl, rfl⟩ := e
  simpa using r
theorem add_spot {w : World} {a : Addr} {n : Nat} {v : Value} (h : w.cell? (a.add n) = some v) : ∃ g off, a.add n = ⟨g, off, none⟩ ∧ g < w.heap.size := by
  by_cases hn : n = 0
  · subst hn
    have ha : a.add 0 = a := by simp [Addr.add]
    rw [ha] at h ⊢
    have hs := World.cell?_spot h
    obtain ⟨g, off, spot⟩ := a
    simp only at hs
    subst hs
    refine ⟨g, off, rfl, ?_⟩
    rcases Nat.lt_or_ge g w.heap.size with h1 | h1
    · exact h1
    · simp [World.cell?, Array.getElem?_eq_none h1] at h
  · obtain ⟨g, off, spot⟩ := a
    have hadd : (⟨g, off, spot⟩ : Addr).add n = ⟨g, off + n, none⟩ := by simp [Addr.add, hn]
    refine ⟨g, off + n, hadd, ?_⟩
    rw [hadd] at h
    rcases Nat.lt_or_ge g w.heap.size with h1 | h1
    · exact h1
    · simp [World.cell?, Array.getElem?_eq_none h1] at h
theorem add_two (a : Addr) (n k : Nat) : (a.add n).add k = a.add (n + k) := step_step a n k
instance : Inhabited Pr := ⟨⟨0, []⟩⟩
instance : Inhabited Zn := ⟨⟨0, 0, false, 0, false, []⟩⟩
section
variable {H : Type} {enc : TypeId × Value → H}
/-- Ints out of their reading. -/
theorem ints_trod {w : World} {base : Nat} {spare : Nat → Bool} {held : Bool} {fuel : Nat} {v : Value} {D : DataW H} {Pl : List MemPlace}
    (h : DataW.trod enc Try.prog w base spare held fuel 24 [v] = some (D, Pl)) : ∃ A k, ∃ st : List Int, v = .slice A st.length k ∧ IntsAt w (LT w.heap.size) A st ∧ st.length ≤ k ∧ st.length ≤ maxLen := by
  rcases open_ints Try.underlying24 Try.underlying3 (by kernel_rfl) h with ⟨hcs, _⟩ | ⟨x, l, c, zs, hcs, _, hl, hm, hz, hx, hcell, hwz⟩
  · simp at hcs
    subst hcs
    exact ⟨none, 0, [], rfl, IntsAt.nil, Nat.le_refl _, Nat.zero_le _⟩
  · simp at hcs
    subst hcs
    have hzl : l ≤ zs.length := by rw [hz]; split <;> omega
    have hlen : (zs.take l).length = l := by rw [List.length_take]; omega
    refine ⟨some x, c, zs.take l, by rw [hlen], fun h0 => ?_, by omega, by omega⟩
    rw [hlen] at h0
    have hc0 := hcell 0 (by omega)
    obtain ⟨g, off, e, hg⟩ := add_spot hc0
    have ha : x.add 0 = x := by simp [Addr.add]
    rw [ha] at e
    subst e
    have hadd : ∀ j, (⟨g, off, none⟩ : Addr).add j = ⟨g, off + j, none⟩ := fun j => by unfold Addr.add; split <;> simp_all
    refine ⟨g, off, rfl, hg, fun j hj => ?_⟩
    have hj2 : j < zs.length := by omega
    have h1 := hcell j hj2
    rw [hadd] at h1
    rw [h1]
    simp [List.getD, hj2]
/-- A parity out of its reading. -/
theorem par_trod {w : World} {base : Nat} {spare : Nat → Bool} {held : Bool} {fuel : Nat} {a : Addr} {cs : List Value} {D : DataW H} {Pl : List MemPlace} {i : Nat}
    (hc : w.cells? base (a.add i) 2 = some cs) (h : DataW.trod enc Try.prog w base spare held fuel 55 cs = some (D, Pl)) (hw : ∀ n ∈ D.weights Try.prog 55, n ≤ reachBytes) :
    ∃ p : Pr, ∃ g off, a.add i = ⟨g, off, none⟩ ∧ PrAt w (LT w.heap.size) g off p := by
  obtain ⟨_, hl, hat⟩ := World.cells?_some hc
  obtain ⟨xs, n, _, hx, _, hxs, hf⟩ := DataW.trod_struct Try.underlying55 h
  match cs, hl with
  | [v0, v1], _ =>
    have f0 : DataW.trod enc Try.prog w base spare held n 3 (([v0, v1].drop 0).take (Try.prog.cellsOf 3)) = xs[0]? := hf 0 _ rfl
    have f1 : DataW.trod enc Try.prog w base spare held n 28 (([v0, v1].drop 1).take (Try.prog.cellsOf 28)) = xs[1]? := hf 1 _ rfl
    match xs, hxs with
    | [y0, (D1, P1)], _ =>
      have g0 : DataW.trod enc Try.prog w base spare held n 3 [v0] = some y0 := by rw [Try.cells3] at f0; exact f0
      have g1 : DataW.trod enc Try.prog w base spare held n 28 [v1] = some (D1, P1) := by rw [Try.cells28] at f1; exact f1
      injection hx with hD _
      obtain ⟨m, e0, _, _⟩ := DataW.trod_int Try.underlying3 g0
      obtain ⟨X, c, l, e1, h3, h4, h5⟩ := block_trod g1 (fun k hk => hw k (by
        subst hD
        simp only [DataW.weights, Try.underlying55, List.map_cons, List.map_nil, DataW.weightsEach, List.mem_append]
        exact Or.inr (Or.inl hk)))
      simp only [List.cons.injEq, and_true] at e0
      subst e0 e1
      have c0 := hat 0 (by omega)
      have c1 := hat 1 (by omega)
      rw [add_two] at c0 c1
      obtain ⟨g, off, e, hg⟩ := add_spot c0
      rw [Nat.add_zero] at e c0
      rw [e] at c0
      have e1 : a.add (i + 1) = ⟨g, off + 1, none⟩ := by
        rw [← add_two, e]
        unfold Addr.add
        split <;> simp_all
      rw [e1] at c1
      exact ⟨⟨m, l⟩, g, off, e, X, c, c0, c1, RdS.of_rd h3, h4, h5⟩
theorem pars_trod {w : World} {base : Nat} {spare : Nat → Bool} {held : Bool} {fuel : Nat} {v : Value} {D : DataW H} {Pl : List MemPlace}
    (h : DataW.trod enc Try.prog w base spare held fuel 49 [v] = some (D, Pl)) (hw : ∀ n ∈ D.weights Try.prog 49, n ≤ reachBytes) : ∃ A k, ∃ ps : List Pr, v = .slice A ps.length k ∧ PrsAt w (LT w.heap.size) A ps ∧ ps.length ≤ k ∧ ps.length ≤ 140737488351232 := by
  rcases Go.Deep.open_slice Try.underlying49 h with ⟨hcs, _⟩ | ⟨x, l, c, m, n, V, Pl', hcs, _, hl, hm, hmm, hx, hi⟩
  · simp at hcs
    subst hcs
    exact ⟨none, 0, [], rfl, PrsAt.nil, Nat.le_refl _, Nat.zero_le _⟩
  · simp at hcs
    subst hcs
    injection hx with hD _
    subst hD
    obtain ⟨ps, hn, hp⟩ := row_of (w := w) (a := x) (len := l) (sz := 2) (R := fun g off p => PrAt w (LT w.heap.size) g off p ∧ g < w.heap.size) (fun _ _ _ h => h.2) (fun i hil => by
      obtain ⟨cs', h1, h2⟩ := hi i (by rw [hmm]; split <;> omega)
      rw [Try.cells55] at h1
      obtain ⟨p, g, off, e, hp⟩ := par_trod h1 h2 (fun k hk => hw k (by
        simp only [DataW.weights, Try.underlying49, List.mem_cons, List.mem_append]
        exact Or.inr (Or.inl (weights_mem_all (List.mem_map.2 ⟨i, by simpa using hil, rfl⟩) k hk))))
      refine ⟨p, g, off, e, hp, ?_⟩
      obtain ⟨_, _, c0, _⟩ := hp
      rcases Nat.lt_or_ge g w.heap.size with h1 | h1
      · exact h1
      · simp [World.cell?, Array.getElem?_eq_none h1] at c0)
    have hb := hw _ (by simp only [DataW.weights, Try.underlying49]; exact List.mem_cons_self)
    rw [show Try.prog.bytesOf 55 = 32 by kernel_rfl] at hb
    simp only [List.length_map, List.length_range, reachBytes] at hb
    refine ⟨some x, c, ps, by rw [hn], fun h0 => ?_, by omega, by omega⟩
    obtain ⟨g, off, e, hg, hall⟩ := hp h0
    exact ⟨g, off, e, hg, fun j hj => (hall j hj).1⟩
/-- A zone out of its reading. -/
theorem zone_trod {w : World} {base : Nat} {spare : Nat → Bool} {held : Bool} {fuel : Nat} {a : Addr} {cs : List Value} {D : DataW H} {Pl : List MemPlace} {i : Nat}
    (hc : w.cells? base (a.add i) 6 = some cs) (h : DataW.trod enc Try.prog w base spare held fuel 51 cs = some (D, Pl)) (hw : ∀ n ∈ D.weights Try.prog 51, n ≤ reachBytes) :
    ∃ z : Zn, ∃ g off, a.add i = ⟨g, off, none⟩ ∧ ZnAt w (LT w.heap.size) g off z := by
  obtain ⟨_, hl, hat⟩ := World.cells?_some hc
  obtain ⟨xs, n, _, hx, _, hxs, hf⟩ := DataW.trod_struct Try.underlying51 h
  match cs, hl with
  | [v0, v1, v2, v3, v4, v5], _ =>
    have f0 : DataW.trod enc Try.prog w base spare held n 3 (([v0, v1, v2, v3, v4, v5].drop 0).take (Try.prog.cellsOf 3)) = xs[0]? := hf 0 _ rfl
    rw [Try.cells3] at f0
    have f1 : DataW.trod enc Try.prog w base spare held n 3 (([v0, v1, v2, v3, v4, v5].drop 1).take (Try.prog.cellsOf 3)) = xs[1]? := hf 1 _ rfl
    rw [Try.cells3] at f1
    have f2 : DataW.trod enc Try.prog w base spare held n 4 (([v0, v1, v2, v3, v4, v5].drop 2).take (Try.prog.cellsOf 4)) = xs[2]? := hf 2 _ rfl
    rw [Try.cells4] at f2
    have f3 : DataW.trod enc Try.prog w base spare held n 3 (([v0, v1, v2, v3, v4, v5].drop 3).take (Try.prog.cellsOf 3)) = xs[3]? := hf 3 _ rfl
    rw [Try.cells3] at f3
    have f4 : DataW.trod enc Try.prog w base spare held n 4 (([v0, v1, v2, v3, v4, v5].drop 4).take (Try.prog.cellsOf 4)) = xs[4]? := hf 4 _ rfl
    rw [Try.cells4] at f4
    have f5 : DataW.trod enc Try.prog w base spare held n 49 (([v0, v1, v2, v3, v4, v5].drop 5).take (Try.prog.cellsOf 49)) = xs[5]? := hf 5 _ rfl
    rw [Try.cells49] at f5
    match xs, hxs with
    | [y0, y1, y2, y3, y4, (D5, P5)], _ =>
      have g0 : DataW.trod enc Try.prog w base spare held n 3 [v0] = some y0 := f0
      obtain ⟨m0, e0, _, _⟩ := DataW.trod_int Try.underlying3 g0
      simp only [List.cons.injEq, and_true] at e0
      subst e0
      have g1 : DataW.trod enc Try.prog w base spare held n 3 [v1] = some y1 := f1
      obtain ⟨m1, e1, _, _⟩ := DataW.trod_int Try.underlying3 g1
      simp only [List.cons.injEq, and_true] at e1
      subst e1
      have g2 : DataW.trod enc Try.prog w base spare held n 4 [v2] = some y2 := f2
      obtain ⟨m2, e2, _⟩ := DataW.trod_bool Try.underlying4 g2
      simp only [List.cons.injEq, and_true] at e2
      subst e2
      have g3 : DataW.trod enc Try.prog w base spare held n 3 [v3] = some y3 := f3
      obtain ⟨m3, e3, _, _⟩ := DataW.trod_int Try.underlying3 g3
      simp only [List.cons.injEq, and_true] at e3
      subst e3
      have g4 : DataW.trod enc Try.prog w base spare held n 4 [v4] = some y4 := f4
      obtain ⟨m4, e4, _⟩ := DataW.trod_bool Try.underlying4 g4
      simp only [List.cons.injEq, and_true] at e4
      subst e4
      have g5 : DataW.trod enc Try.prog w base spare held n 49 [v5] = some (D5, P5) := f5
      injection hx with hD _
      obtain ⟨X, c, ps, e5, h3, h4, h5⟩ := pars_trod g5 (fun k hk => hw k (by
        subst hD
        simp only [DataW.weights, Try.underlying51, List.map_cons, List.map_nil, DataW.weightsEach, List.mem_append]
        exact Or.inr (Or.inr (Or.inr (Or.inr (Or.inr (Or.inl hk)))))))
      subst e5
      have c0 := hat 0 (by omega)
      have c1 := hat 1 (by omega)
      have c2 := hat 2 (by omega)
      have c3 := hat 3 (by omega)
      have c4 := hat 4 (by omega)
      have c5 := hat 5 (by omega)
      rw [add_two] at c0 c1 c2 c3 c4 c5
      obtain ⟨g, off, e, hg⟩ := add_spot c0
      rw [Nat.add_zero] at e c0
      rw [e] at c0
      have e1 : ∀ k, a.add (i + k) = ⟨g, off + k, none⟩ := fun k => by
        rw [← add_two, e]
        unfold Addr.add
        split <;> simp_all
      rw [e1] at c1 c2 c3 c4 c5
      exact ⟨⟨m0, m1, m2, m3, m4, ps⟩, g, off, e, X, c, c0, c1, c2, c3, c4, c5, h3, h4, h5⟩
theorem zones_trod {w : World} {base : Nat} {spare : Nat → Bool} {held : Bool} {fuel : Nat} {v : Value} {D : DataW H} {Pl : List MemPlace}
    (h : DataW.trod enc Try.prog w base spare held fuel 25 [v] = some (D, Pl)) (hw : ∀ n ∈ D.weights Try.prog 25, n ≤ reachBytes) : ∃ A k, ∃ zs : List Zn, v = .slice A zs.length k ∧ ZnsAt w (LT w.heap.size) A zs ∧ zs.length ≤ k ∧ zs.length ≤ maxLen := by
  rcases Go.Deep.open_slice Try.underlying25 h with ⟨hcs, _⟩ | ⟨x, l, c, m, n, V, Pl', hcs, _, hl, hm, hmm, hx, hi⟩
  · simp at hcs
    subst hcs
    exact ⟨none, 0, [], rfl, ZnsAt.nil, Nat.le_refl _, Nat.zero_le _⟩
  · simp at hcs
    subst hcs
    injection hx with hD _
    subst hD
    obtain ⟨zs, hn, hp⟩ := row_of (w := w) (a := x) (len := l) (sz := 6) (R := fun g off p => ZnAt w (LT w.heap.size) g off p ∧ g < w.heap.size) (fun _ _ _ h => h.2) (fun i hil => by
      obtain ⟨cs', h1, h2⟩ := hi i (by rw [hmm]; split <;> omega)
      rw [Try.cells51] at h1
      obtain ⟨p, g, off, e, hp⟩ := zone_trod h1 h2 (fun k hk => hw k (by
        simp only [DataW.weights, Try.underlying25, List.mem_cons, List.mem_append]
        exact Or.inr (Or.inl (weights_mem_all (List.mem_map.2 ⟨i, by simpa using hil, rfl⟩) k hk))))
      refine ⟨p, g, off, e, hp, ?_⟩
      obtain ⟨_, _, c0, _⟩ := hp
      rcases Nat.lt_or_ge g w.heap.size with h1 | h1
      · exact h1
      · simp [World.cell?, Array.getElem?_eq_none h1] at c0)
    refine ⟨some x, c, zs, by rw [hn], fun h0 => ?_, by omega, by omega⟩
    obtain ⟨g, off, e, hg, hall⟩ := hp h0
    exact ⟨g, off, e, hg, fun j hj => (hall j hj).1⟩
/-- A state out of its reading. -/
theorem state_trod {w : World} {base : Nat} {spare : Nat → Bool} {held : Bool} {fuel : Nat} {cs : List Value} {D : DataW H} {Pl : List MemPlace}
    (h : DataW.trod enc Try.prog w base spare held fuel 27 cs = some (D, Pl)) (hw : ∀ n ∈ D.weights Try.prog 27, n ≤ reachBytes) :
    ∃ c : Cf, ∃ ep sq : Int, ∃ A k, ∃ st : List Int, ∃ B d, ∃ zs : List Zn, cs = [.int .i64 c.id, .int .i64 c.m, .int .i64 c.u, .int .i64 c.b, .int .i64 c.cp, .int .i64 c.z, .int .i64 c.s, .int .i64 c.mt, .int .i64 c.o, .int .i64 c.a, .int .i64 c.l, .int .i64 ep, .int .i64 sq, .slice A st.length k, .slice B zs.length d] ∧ StAt w (LT w.heap.size) A st k B zs d ∧ st.length ≤ maxLen ∧ zs.length ≤ maxLen := by
  obtain ⟨xs, n, _, hx, hl, hxs, hf⟩ := DataW.trod_struct Try.underlying27 h
  rw [Try.cells27] at hl
  match cs, hl with
  | [v0, v1, v2, v3, v4, v5, v6, v7, v8, v9, v10, v11, v12, v13, v14], _ =>
    have f0 : DataW.trod enc Try.prog w base spare held n 23 (([v0, v1, v2, v3, v4, v5, v6, v7, v8, v9, v10, v11, v12, v13, v14].drop 0).take (Try.prog.cellsOf 23)) = xs[0]? := hf 0 _ rfl
    rw [Try.cells23] at f0
    have f1 : DataW.trod enc Try.prog w base spare held n 3 (([v0, v1, v2, v3, v4, v5, v6, v7, v8, v9, v10, v11, v12, v13, v14].drop 11).take (Try.prog.cellsOf 3)) = xs[1]? := hf 1 _ rfl
    rw [Try.cells3] at f1
    have f2 : DataW.trod enc Try.prog w base spare held n 3 (([v0, v1, v2, v3, v4, v5, v6, v7, v8, v9, v10, v11, v12, v13, v14].drop 12).take (Try.prog.cellsOf 3)) = xs[2]? := hf 2 _ rfl
    rw [Try.cells3] at f2
    have f3 : DataW.trod enc Try.prog w base spare held n 24 (([v0, v1, v2, v3, v4, v5, v6, v7, v8, v9, v10, v11, v12, v13, v14].drop 13).take (Try.prog.cellsOf 24)) = xs[3]? := hf 3 _ rfl
    rw [Try.cells24] at f3
    have f4 : DataW.trod enc Try.prog w base spare held n 25 (([v0, v1, v2, v3, v4, v5, v6, v7, v8, v9, v10, v11, v12, v13, v14].drop 14).take (Try.prog.cellsOf 25)) = xs[4]? := hf 4 _ rfl
    rw [Try.cells25] at f4
    match xs, hxs with
    | [y0, y1, y2, (D3, P3), (D4, P4)], _ =>
      have g0 : DataW.trod enc Try.prog w base spare held n 23 [v0, v1, v2, v3, v4, v5, v6, v7, v8, v9, v10] = some y0 := f0
      have g1 : DataW.trod enc Try.prog w base spare held n 3 [v11] = some y1 := f1
      have g2 : DataW.trod enc Try.prog w base spare held n 3 [v12] = some y2 := f2
      have g3 : DataW.trod enc Try.prog w base spare held n 24 [v13] = some (D3, P3) := f3
      have g4 : DataW.trod enc Try.prog w base spare held n 25 [v14] = some (D4, P4) := f4
      obtain ⟨c, e0, _⟩ := conf_trod g0
      simp only [List.cons.injEq, and_true] at e0
      obtain ⟨rfl, rfl, rfl, rfl, rfl, rfl, rfl, rfl, rfl, rfl, rfl⟩ := e0
      obtain ⟨ep, e1, _, _⟩ := DataW.trod_int Try.underlying3 g1
      obtain ⟨sq, e2, _, _⟩ := DataW.trod_int Try.underlying3 g2
      simp only [List.cons.injEq, and_true] at e1 e2
      subst e1 e2
      injection hx with hD _
      obtain ⟨A, k, st, rfl, h1, h2, h3⟩ := ints_trod g3
      obtain ⟨B, d, zs, rfl, h4, h5, h6⟩ := zones_trod g4 (fun k hk => hw k (by
        subst hD
        simp only [DataW.weights, Try.underlying27, List.map_cons, List.map_nil, DataW.weightsEach, List.mem_append]
        exact Or.inr (Or.inr (Or.inr (Or.inr (Or.inl hk))))))
      exact ⟨c, ep, sq, A, k, st, B, d, zs, rfl, ⟨h1, h4, h2, h5⟩, h3, h6⟩
theorem open_state {w : World} {base b0 : Nat} {spare : Nat → Bool} {held : Bool} {r : Reach} {v : Value} {d : DataW H} {p : List MemPlace} (hv : Value.okWide Try.prog w r b0 27 v) (h : DataW.Trod enc Try.prog w base spare held 27 v d p) (hw : ∀ n ∈ d.weights Try.prog 27, n ≤ reachBytes) :
    ∃ c : Cf, ∃ ep sq : Int, ∃ A k, ∃ st : List Int, ∃ B d, ∃ zs : List Zn, v = .agg #[.int .i64 c.id, .int .i64 c.m, .int .i64 c.u, .int .i64 c.b, .int .i64 c.cp, .int .i64 c.z, .int .i64 c.s, .int .i64 c.mt, .int .i64 c.o, .int .i64 c.a, .int .i64 c.l, .int .i64 ep, .int .i64 sq, .slice A st.length k, .slice B zs.length d] ∧ StAt w (LT w.heap.size) A st k B zs d ∧ st.length ≤ maxLen ∧ zs.length ≤ maxLen := by
  obtain ⟨cs, rfl, hsz⟩ := okWide_struct Try.underlying27 hv
  obtain ⟨fuel, hf⟩ := h
  obtain ⟨c, ep, sq, A, k, st, B, d, zs, hc, h1⟩ := state_trod hf hw
  refine ⟨c, ep, sq, A, k, st, B, d, zs, ?_, h1⟩
  rcases cs with ⟨cl⟩
  simp only [Value.cells] at hc
  rw [hc]
end
end Go.Proofs.Ytaceaemombnhkaa
namespace Go.Proofs.Ytaceaemombnhkaa.statePuts
open Go.ChangeShapes Go.WideShapes Go.ChangeAt Go.RowKit
open Go.ChangeMaps (open_string shut_string)
set_option linter.unusedVariables false

theorem own : ownKnob Try.prog.godebug = none := by kernel_rfl
theorem laidOut : laidOutB Try.prog = true := by kernel_rfl

set_option maxRecDepth 100000 in
theorem lifted (os : Os) (started : os.Started) (H : Type) (enc : TypeId × Value → H) :
    ReturnsInHanded {} Try.checked os 4 .any (Rows.statePutsSpec.pre6 enc Try.prog Try.f4 Rows.statePutsRow.domain false) (Rows.statePutsSpec.post enc Try.prog Try.f4 false true false false) := by
  refine returnsInHanded_of_change_sized (C := Try.checked) own started (by kernel_rfl) Try.func4
    (ChangeSpec.witness6 (enc := enc) (C := Try.checked) false ⟨#[], #[.agg #[.int .i64 0, .int .i64 0, .int .i64 0, .int .i64 0, .int .i64 0, .int .i64 0, .int .i64 0, .int .i64 0, .int .i64 0, .int .i64 0, .int .i64 0, .int .i64 0, .int .i64 0, .slice none 0 0, .slice none 0 0], .agg #[.int .i64 0, .int .i64 0, .int .i64 0, .int .i64 0, .int .i64 0, .int .i64 0, .int .i64 0, .int .i64 0, .int .i64 0, .int .i64 0, .int .i64 0, .int .i64 0, .int .i64 0, .slice none 0 0, .slice none 0 0]], []⟩ 8 (by kernel_rfl) (by kernel_rfl) (by kernel_rfl) (by kernel_rfl)) ?_
  intro W base args ds gs before hval0 hW hcnd hsz0 _
  have hval : ∀ (j : Nat) t v, Try.f4.params[j]? = some t → args[j]? = some v → Value.okWide Try.prog W .any base t v := hval0
  have hsz : (DataW.weightsEach Try.prog (Try.f4.params.toList ++ Rows.statePutsSpec.plain.varTypes Try.prog) (ds ++ gs)).all (· ≤ reachBytes) = true := hsz0
  have hW' := hW
  obtain ⟨p, q, hA0, hV, rfl, hfz, hnd⟩ := hW
  have hA : DataW.TrodAll enc Try.prog W 0 (fun _ => true) true Try.f4.params.toList args.toList ds p := hA0
  rw [Try.params4] at hA hval hsz
  obtain ⟨v0, vs0, d0, ds0, p0, q0, hargs, rfl, rfl, h0, r0⟩ := trodAll_cons hA
  obtain ⟨v1, vs1, d1, ds1, p1, q1, rfl, rfl, rfl, h1, r1⟩ := trodAll_cons r0
  obtain ⟨rfl, rfl, rfl⟩ := trodAll_nil r1
  obtain rfl : args = #[v0, v1] := by cases args; simp_all
  obtain ⟨rfl, rfl⟩ := trodVars_none hV
  have k0 := h0
  have lt0 : ∀ x ∈ p0, x.block < W.heap.size := by obtain ⟨m, hm⟩ := k0; exact DataW.trod_lt m _ _ _ hm
  have hw0 : ∀ n ∈ d0.weights Try.prog 27, n ≤ reachBytes := fun n hn => by
    have := List.all_eq_true.1 hsz n (DataW.weights_mem_each (j := 0) rfl rfl n hn)
    simpa using this
  obtain ⟨cc0, ep0, sq0, AA0, kk0, st0, BB0, dd0, zs0, rfl, hR0, hL0, hM0⟩ := open_state (hval 0 27 v0 rfl rfl) h0 hw0
  have k1 := h1
  have lt1 : ∀ x ∈ p1, x.block < W.heap.size := by obtain ⟨m, hm⟩ := k1; exact DataW.trod_lt m _ _ _ hm
  have hw1 : ∀ n ∈ d1.weights Try.prog 27, n ≤ reachBytes := fun n hn => by
    have := List.all_eq_true.1 hsz n (DataW.weights_mem_each (j := 1) rfl rfl n hn)
    simpa using this
  obtain ⟨cc1, ep1, sq1, AA1, kk1, st1, BB1, dd1, zs1, rfl, hR1, hL1, hM1⟩ := open_state (hval 1 27 v1 rfl rfl) h1 hw1
  clear hA0 hval0 hsz0
  refine (statePuts_walk cc0 ep0 sq0 AA0 st0 kk0 BB0 zs0 dd0 cc1 ep1 sq1 AA1 st1 kk1 BB1 zs1 dd1 W hR0 hR1 hL0 hM0 hL1 hM1).mono fun e W' ⟨he, bel⟩ => ?_
  subst he
  exact ⟨_, rfl, _, _, _, [], _, [], hW', trodAll_mk1 (shut_bool Try.underlying4 _), (trodAll_cons_mk (Below.trod laidOut (by kernel_rfl) (of_decide_eq_true (by kernel_rfl)) k0 bel lt0) (trodAll_cons_mk (Below.trod laidOut (by kernel_rfl) (of_decide_eq_true (by kernel_rfl)) k1 bel lt1) trodAll_mk0)), rfl, bel.frame _, fun h => by cases h⟩

theorem over : Rows.statePutsRow.holds Try.pinned (OpenSpec.ofChange Rows.statePutsSpec) :=
  OpenClaim.holds_of_wide 4 Try.f4 rfl rfl rfl rfl rfl rfl rfl ⟨rfl, rfl, rfl, rfl, rfl⟩ rfl rfl rfl rfl rfl (by kernel_rfl) Try.func4 (by kernel_rfl)
    (of_decide_eq_true (by kernel_rfl)) (by unfold Func.isWrapper; first | (rw [if_pos (by decide +kernel)]; kernel_rfl) | (rw [if_neg (by decide +kernel)]; exact ⟨rfl, rfl⟩))
    (fun os started H enc _ => lifted os started H enc)

end Go.Proofs.Ytaceaemombnhkaa.statePuts

namespace Go.Proofs.Ytaceaemombnhkaa
theorem statePuts_holds : Rows.StatePutsSaid := statePuts.over
#print axioms statePuts_holds
end Go.Proofs.Ytaceaemombnhkaa
