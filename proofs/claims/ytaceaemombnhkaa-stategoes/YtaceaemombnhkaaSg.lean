/- The contract of Right. -/
import Derived.Test.YtaceaemombnhkaaSe
import Derived.Test.YtaceaemombnhkaaSf
namespace Go.Proofs.Ytaceaemombnhkaa
set_option linter.unusedVariables false
set_option maxRecDepth 100000
set_option linter.unusedSimpArgs false
open Go.RowKit
open Go.RowKit (wrap64)

/-- Within Right, behind boundsOf: the state's block and the bounds'. -/
def RgtIn (c : Cf) (ep sq : Int) (A : Option Addr) (st : List Int) (k : Nat) (D : Option Addr) (zs : List Zn) (d : Nat) (w : World) (B g : Nat) (w1 : World) : Prop := StIn c ep sq A st k D zs d w w1 ∧ Box w1 g 81 #[.int .i64 1, .int .i64 1099511627776, .int .i64 0, .int .i64 1099511627776, .int .i64 0, .int .i64 2, .int .i64 0, .int .i64 1099511627776, .int .i64 (-1), .int .i64 (slotsC c - 1), .int .i64 0, .int .i64 (sizeC c), .int .i64 0, .int .i64 2, .int .i64 1, .int .i64 (sizeC c), .int .i64 (c.u * c.b)] ∧ B ≤ w1.heap.size ∧ w.heap.size < B ∧ g < B
theorem RgtIn.later {c : Cf} {ep sq : Int} {A : Option Addr} {st : List Int} {k : Nat} {D : Option Addr} {zs : List Zn} {d : Nat} {w w1 w2 : World} {B g : Nat} (h : RgtIn c ep sq A st k D zs d w B g w1) (hb : Below w1.heap.size w1 w2) : RgtIn c ep sq A st k D zs d w B g w2 :=
  ⟨h.1.later hb, h.2.1.later hb, Nat.le_trans h.2.2.1 hb.size, h.2.2.2⟩
theorem RgtIn.st {c : Cf} {ep sq : Int} {A : Option Addr} {st : List Int} {k : Nat} {D : Option Addr} {zs : List Zn} {d : Nat} {w w1 : World} {B g : Nat} (h : RgtIn c ep sq A st k D zs d w B g w1) : StAt w1 (LT w1.heap.size) A st k D zs d := h.1.2.1
theorem ZoneR.reb {c : Cf} {P Q : Prop} {z : Zn} (h : ZoneR c P z) (hp : P → Q) : ZoneR c Q z := ⟨h.gen, h.slot, h.have_, h.pars, fun hw => ⟨(h.whole hw).1, hp (h.whole hw).2⟩, h.end_, h.full⟩
set_option maxHeartbeats 4000000 in
theorem right_any (c : Cf) (ep sq : Int) (A : Option Addr) (st : List Int) (k : Nat) (D : Option Addr) (zs : List Zn) (d : Nat) (w : World) (h : StAt w (LT w.heap.size) A st k D zs d) (hl1 : st.length ≤ 1000000) (hl2 : zs.length ≤ 1000000) :
    Calls Try.prog 24 #[(.agg #[.int .i64 c.id, .int .i64 c.m, .int .i64 c.u, .int .i64 c.b, .int .i64 c.cp, .int .i64 c.z, .int .i64 c.s, .int .i64 c.mt, .int .i64 c.o, .int .i64 c.a, .int .i64 c.l, .int .i64 ep, .int .i64 sq, .slice A st.length k, .slice D zs.length d])] w (SaysP w (RightS ⟨c, ep, sq, st, zs⟩)) := by
  go_enter Try.func24, Try.ntmps24
  go_upto_region 1 with fail
  have HV := Lib.hid (StIn.new (c := c) (ep := ep) (sq := sq) h)
  generalize (w.alloc (.cells #[.int .i64 c.id, .int .i64 c.m, .int .i64 c.u, .int .i64 c.b, .int .i64 c.cp, .int .i64 c.z, .int .i64 c.s, .int .i64 c.mt, .int .i64 c.o, .int .i64 c.a, .int .i64 c.l, .int .i64 ep, .int .i64 sq, .slice A st.length k, .slice D zs.length d] 27)) = w0 at HV ⊢
  clear h
  obtain ⟨y0, y1, y2, y3, y4, y5, y6, y7, y8, y9, y10, y11, y12, y13, y14⟩ := box15 HV.out.1
  go_wp2_with fail
  refine (check_any c w0).mono ?_
  rintro e w1 ⟨rfl, hb⟩
  have HV1 := Lib.hid (HV.out.later hb)
  clear hb HV y0 y1 y2 y3 y4 y5 y6 y7 y8 y9 y10 y11 y12 y13 y14
  obtain ⟨y0, y1, y2, y3, y4, y5, y6, y7, y8, y9, y10, y11, y12, y13, y14⟩ := box15 HV1.out.1
  by_cases hc : checkC c = 0
  · have hcb : (checkC c != 0) = false := by simp [hc]
    have HC := Lib.hid hc
    clear hc
    by_cases h1 : (st.length : Int) = c.m
    · have h1b : ((st.length : Int) != c.m) = false := by simp [h1]
      have H1 := Lib.hid h1
      clear h1
      by_cases h2 : (zs.length : Int) = c.z
      · have h2b : ((zs.length : Int) != c.z) = false := by simp [h2]
        have H2 := Lib.hid h2
        clear h2
        go_wp2_with fail
        refine (bounds_any c w1 (check_good0 HC.out)).mono ?_
        rintro e w2 ⟨rfl, hb⟩
        have HV2 := Lib.hid (HV1.out.later hb)
        clear hb HV1 y0 y1 y2 y3 y4 y5 y6 y7 y8 y9 y10 y11 y12 y13 y14 hcb h1b h2b
        obtain ⟨y0, y1, y2, y3, y4, y5, y6, y7, y8, y9, y10, y11, y12, y13, y14⟩ := box15 HV2.out.1
        go_upto_region 6 with fail
        have HX5 : Hid (StIn c ep sq A st k D zs d w (w2.alloc (.cells #[.int .i64 1, .int .i64 1099511627776, .int .i64 0, .int .i64 1099511627776, .int .i64 0, .int .i64 2, .int .i64 0, .int .i64 1099511627776, .int .i64 (-1), .int .i64 (slotsC c - 1), .int .i64 0, .int .i64 (sizeC c), .int .i64 0, .int .i64 2, .int .i64 1, .int .i64 (sizeC c), .int .i64 (c.u * c.b)] 81)).drew ∧ Box (w2.alloc (.cells #[.int .i64 1, .int .i64 1099511627776, .int .i64 0, .int .i64 1099511627776, .int .i64 0, .int .i64 2, .int .i64 0, .int .i64 1099511627776, .int .i64 (-1), .int .i64 (slotsC c - 1), .int .i64 0, .int .i64 (sizeC c), .int .i64 0, .int .i64 2, .int .i64 1, .int .i64 (sizeC c), .int .i64 (c.u * c.b)] 81)).drew w2.heap.size 81 #[.int .i64 1, .int .i64 1099511627776, .int .i64 0, .int .i64 1099511627776, .int .i64 0, .int .i64 2, .int .i64 0, .int .i64 1099511627776, .int .i64 (-1), .int .i64 (slotsC c - 1), .int .i64 0, .int .i64 (sizeC c), .int .i64 0, .int .i64 2, .int .i64 1, .int .i64 (sizeC c), .int .i64 (c.u * c.b)]) := ⟨(HV2.out.later (below_one w2 (.cells #[.int .i64 1, .int .i64 1099511627776, .int .i64 0, .int .i64 1099511627776, .int .i64 0, .int .i64 2, .int .i64 0, .int .i64 1099511627776, .int .i64 (-1), .int .i64 (slotsC c - 1), .int .i64 0, .int .i64 (sizeC c), .int .i64 0, .int .i64 2, .int .i64 1, .int .i64 (sizeC c), .int .i64 (c.u * c.b)] 81))).later (Below.refl _ _).drew, (Box.fresh w2 81 #[.int .i64 1, .int .i64 1099511627776, .int .i64 0, .int .i64 1099511627776, .int .i64 0, .int .i64 2, .int .i64 0, .int .i64 1099511627776, .int .i64 (-1), .int .i64 (slotsC c - 1), .int .i64 0, .int .i64 (sizeC c), .int .i64 0, .int .i64 2, .int .i64 1, .int .i64 (sizeC c), .int .i64 (c.u * c.b)]).later (Below.refl _ _).drew⟩
        clear HV2 y0 y1 y2 y3 y4 y5 y6 y7 y8 y9 y10 y11 y12 y13 y14
        refine wpB_start (w2.alloc (.cells #[.int .i64 1, .int .i64 1099511627776, .int .i64 0, .int .i64 1099511627776, .int .i64 0, .int .i64 2, .int .i64 0, .int .i64 1099511627776, .int .i64 (-1), .int .i64 (slotsC c - 1), .int .i64 0, .int .i64 (sizeC c), .int .i64 0, .int .i64 2, .int .i64 1, .int .i64 (sizeC c), .int .i64 (c.u * c.b)] 81)).drew.heap.size (by kernel_rfl) ?_
        generalize (w2.alloc (.cells #[.int .i64 1, .int .i64 1099511627776, .int .i64 0, .int .i64 1099511627776, .int .i64 0, .int .i64 2, .int .i64 0, .int .i64 1099511627776, .int .i64 (-1), .int .i64 (slotsC c - 1), .int .i64 0, .int .i64 (sizeC c), .int .i64 0, .int .i64 2, .int .i64 1, .int .i64 (sizeC c), .int .i64 (c.u * c.b)] 81)).drew = w6 at HX5 ⊢
        generalize w2.heap.size = g at HX5 ⊢
        have HX6 : Hid (RgtIn c ep sq A st k D zs d w w6.heap.size g w6) := ⟨HX5.out.1, HX5.out.2, Nat.le_refl _, HX5.out.1.1.lt, HX5.out.2.lt⟩
        clear HX5
        have y0 := Box.at_ (B := w6.heap.size) HX6.out.1.1 HX6.out.2.2.2.1 (i := 0) rfl
        have y1 := Box.at_ (B := w6.heap.size) HX6.out.1.1 HX6.out.2.2.2.1 (i := 1) rfl
        have y2 := Box.at_ (B := w6.heap.size) HX6.out.1.1 HX6.out.2.2.2.1 (i := 2) rfl
        have y3 := Box.at_ (B := w6.heap.size) HX6.out.1.1 HX6.out.2.2.2.1 (i := 3) rfl
        have y4 := Box.at_ (B := w6.heap.size) HX6.out.1.1 HX6.out.2.2.2.1 (i := 4) rfl
        have y5 := Box.at_ (B := w6.heap.size) HX6.out.1.1 HX6.out.2.2.2.1 (i := 5) rfl
        have y6 := Box.at_ (B := w6.heap.size) HX6.out.1.1 HX6.out.2.2.2.1 (i := 6) rfl
        have y7 := Box.at_ (B := w6.heap.size) HX6.out.1.1 HX6.out.2.2.2.1 (i := 7) rfl
        have y8 := Box.at_ (B := w6.heap.size) HX6.out.1.1 HX6.out.2.2.2.1 (i := 8) rfl
        have y9 := Box.at_ (B := w6.heap.size) HX6.out.1.1 HX6.out.2.2.2.1 (i := 9) rfl
        have y10 := Box.at_ (B := w6.heap.size) HX6.out.1.1 HX6.out.2.2.2.1 (i := 10) rfl
        have y11 := Box.at_ (B := w6.heap.size) HX6.out.1.1 HX6.out.2.2.2.1 (i := 11) rfl
        have y12 := Box.at_ (B := w6.heap.size) HX6.out.1.1 HX6.out.2.2.2.1 (i := 12) rfl
        have y13 := Box.at_ (B := w6.heap.size) HX6.out.1.1 HX6.out.2.2.2.1 (i := 13) rfl
        have y14 := Box.at_ (B := w6.heap.size) HX6.out.1.1 HX6.out.2.2.2.1 (i := 14) rfl
        have z0 := Box.at_ (B := w6.heap.size) HX6.out.2.1 HX6.out.2.2.2.2 (i := 0) rfl
        have z1 := Box.at_ (B := w6.heap.size) HX6.out.2.1 HX6.out.2.2.2.2 (i := 1) rfl
        have z2 := Box.at_ (B := w6.heap.size) HX6.out.2.1 HX6.out.2.2.2.2 (i := 2) rfl
        have z3 := Box.at_ (B := w6.heap.size) HX6.out.2.1 HX6.out.2.2.2.2 (i := 3) rfl
        have z4 := Box.at_ (B := w6.heap.size) HX6.out.2.1 HX6.out.2.2.2.2 (i := 4) rfl
        have z5 := Box.at_ (B := w6.heap.size) HX6.out.2.1 HX6.out.2.2.2.2 (i := 5) rfl
        have z6 := Box.at_ (B := w6.heap.size) HX6.out.2.1 HX6.out.2.2.2.2 (i := 6) rfl
        have z7 := Box.at_ (B := w6.heap.size) HX6.out.2.1 HX6.out.2.2.2.2 (i := 7) rfl
        have z8 := Box.at_ (B := w6.heap.size) HX6.out.2.1 HX6.out.2.2.2.2 (i := 8) rfl
        have z9 := Box.at_ (B := w6.heap.size) HX6.out.2.1 HX6.out.2.2.2.2 (i := 9) rfl
        have z10 := Box.at_ (B := w6.heap.size) HX6.out.2.1 HX6.out.2.2.2.2 (i := 10) rfl
        have z11 := Box.at_ (B := w6.heap.size) HX6.out.2.1 HX6.out.2.2.2.2 (i := 11) rfl
        have z12 := Box.at_ (B := w6.heap.size) HX6.out.2.1 HX6.out.2.2.2.2 (i := 12) rfl
        have z13 := Box.at_ (B := w6.heap.size) HX6.out.2.1 HX6.out.2.2.2.2 (i := 13) rfl
        have z14 := Box.at_ (B := w6.heap.size) HX6.out.2.1 HX6.out.2.2.2.2 (i := 14) rfl
        have z15 := Box.at_ (B := w6.heap.size) HX6.out.2.1 HX6.out.2.2.2.2 (i := 15) rfl
        have z16 := Box.at_ (B := w6.heap.size) HX6.out.2.1 HX6.out.2.2.2.2 (i := 16) rfl
        refine wpB_take (i := 0) (d := 27) (v := ?v6k1x0) rfl rfl (by kernel_rfl) (by kernel_rfl) (by kernel_rfl) (fun _ _ _ h => h) (by rfl) ?y6k1x0 ?r6k1x0
        case y6k1x0 => (intro w' hSw; go_simp; try (with_reducible rfl))
        simp only [Act.put, List.setIfInBounds_toArray, List.set_cons_zero, List.set_cons_succ]
        refine wpB_take (i := 1) (d := 28) (v := ?v6k1x1) rfl rfl (by kernel_rfl) (by kernel_rfl) (by kernel_rfl) (fun _ _ _ h => h) (by rfl) ?y6k1x1 ?r6k1x1
        case y6k1x1 => (intro w' hSw; go_simp; try (with_reducible rfl))
        simp only [Act.put, List.setIfInBounds_toArray, List.set_cons_zero, List.set_cons_succ]
        refine wpB_take (i := 2) (d := 29) (v := ?v6k1x2) rfl rfl (by kernel_rfl) (by kernel_rfl) (by kernel_rfl) (fun _ _ _ h => h) (by rfl) ?y6k1x2 ?r6k1x2
        case y6k1x2 => (intro w' hSw; go_simp; try (with_reducible rfl))
        simp only [Act.put, List.setIfInBounds_toArray, List.set_cons_zero, List.set_cons_succ]
        refine wpB_take (i := 3) (d := 30) (v := ?v6k1x3) rfl rfl (by kernel_rfl) (by kernel_rfl) (by kernel_rfl) (fun _ _ _ h => h) (by rfl) ?y6k1x3 ?r6k1x3
        case y6k1x3 => (intro w' hSw; go_simp; try (with_reducible rfl))
        simp only [Act.put, List.setIfInBounds_toArray, List.set_cons_zero, List.set_cons_succ]
        refine wpB_do (i := 4) (by kernel_rfl) rfl (by rfl) (fun K hK => ?_)
        go_simp
        refine (has_any 1 1099511627776 ep w6).mono ?_
        rintro e w7 ⟨b, rfl, hbb, hb⟩
        have HX7 := Lib.hid (HX6.out.later hb)
        have HE := Lib.hid hbb
        have hbk := hb.mono HX6.out.2.2.1
        go_simp
        refine hK.out w6.heap.size _ _ (Nat.le_refl _) hbk ?_
        clear hK hb hbb hbk HX6 y0 y1 y2 y3 y4 y5 y6 y7 y8 y9 y10 y11 y12 y13 y14 z0 z1 z2 z3 z4 z5 z6 z7 z8 z9 z10 z11 z12 z13 z14 z15 z16
        cases b with
        | false =>
          as_aux_lemma =>
          have HNN : Hid (¬ (1 ≤ ep ∧ ep ≤ 1099511627776)) := fun h => by have h1 := HE.out.2 h; simp at h1
          clear HE
          refine wpB_take (i := 5) (d := 32) (v := ?v6n2x5) rfl rfl (by kernel_rfl) (by kernel_rfl) (by kernel_rfl) (fun _ _ _ h => h) (by rfl) ?y6n2x5 ?r6n2x5
          case y6n2x5 => (intro w' hSw; go_simp; try (with_reducible rfl))
          simp only [Act.put, List.setIfInBounds_toArray, List.set_cons_zero, List.set_cons_succ]
          refine wpB_skip (i := 6) (d := 33) rfl rfl (by kernel_rfl) (by kernel_rfl) (by kernel_rfl) (fun _ _ _ h => h) (by rfl) ?_
          simp only [Act.put, List.setIfInBounds_toArray, List.set_cons_zero, List.set_cons_succ]
          refine wpB_skip (i := 7) (d := 34) rfl rfl (by kernel_rfl) (by kernel_rfl) (by kernel_rfl) (fun _ _ _ h => h) (by rfl) ?_
          simp only [Act.put, List.setIfInBounds_toArray, List.set_cons_zero, List.set_cons_succ]
          refine wpB_skip (i := 8) (d := 35) rfl rfl (by kernel_rfl) (by kernel_rfl) (by kernel_rfl) (fun _ _ _ h => h) (by rfl) ?_
          simp only [Act.put, List.setIfInBounds_toArray, List.set_cons_zero, List.set_cons_succ]
          refine wpB_skip (i := 9) (d := 36) rfl rfl (by kernel_rfl) (by kernel_rfl) (by kernel_rfl) (fun _ _ _ h => h) (by rfl) ?_
          simp only [Act.put, List.setIfInBounds_toArray, List.set_cons_zero, List.set_cons_succ]
          refine wpB_skip (i := 10) (d := 37) rfl rfl (by kernel_rfl) (by kernel_rfl) (by kernel_rfl) (fun _ _ _ h => h) (by rfl) ?_
          simp only [Act.put, List.setIfInBounds_toArray, List.set_cons_zero, List.set_cons_succ]
          refine wpB_take (i := 11) (d := 38) (v := ?v6n2x11) rfl rfl (by kernel_rfl) (by kernel_rfl) (by kernel_rfl) (fun _ _ _ h => h) (by rfl) ?y6n2x11 ?r6n2x11
          case y6n2x11 => (intro w' hSw; go_simp; try (with_reducible rfl))
          simp only [Act.put, List.setIfInBounds_toArray, List.set_cons_zero, List.set_cons_succ]
          refine wpB_take (i := 12) (d := 39) (v := ?v6n2x12) rfl rfl (by kernel_rfl) (by kernel_rfl) (by kernel_rfl) (fun _ _ _ h => h) (by rfl) ?y6n2x12 ?r6n2x12
          case y6n2x12 => (intro w' hSw; go_simp; try (with_reducible rfl))
          simp only [Act.put, List.setIfInBounds_toArray, List.set_cons_zero, List.set_cons_succ]
          refine wpB_skip (i := 13) (d := 40) rfl rfl (by kernel_rfl) (by kernel_rfl) (by kernel_rfl) (fun _ _ _ h => h) (by rfl) ?_
          simp only [Act.put, List.setIfInBounds_toArray, List.set_cons_zero, List.set_cons_succ]
          refine wpB_skip (i := 14) (d := 41) rfl rfl (by kernel_rfl) (by kernel_rfl) (by kernel_rfl) (fun _ _ _ h => h) (by rfl) ?_
          simp only [Act.put, List.setIfInBounds_toArray, List.set_cons_zero, List.set_cons_succ]
          refine wpB_skip (i := 15) (d := 42) rfl rfl (by kernel_rfl) (by kernel_rfl) (by kernel_rfl) (fun _ _ _ h => h) (by rfl) ?_
          simp only [Act.put, List.setIfInBounds_toArray, List.set_cons_zero, List.set_cons_succ]
          refine wpB_skip (i := 16) (d := 43) rfl rfl (by kernel_rfl) (by kernel_rfl) (by kernel_rfl) (fun _ _ _ h => h) (by rfl) ?_
          simp only [Act.put, List.setIfInBounds_toArray, List.set_cons_zero, List.set_cons_succ]
          refine wpB_take (i := 17) (d := 44) (v := ?v6n2x17) rfl rfl (by kernel_rfl) (by kernel_rfl) (by kernel_rfl) (fun _ _ _ h => h) (by rfl) ?y6n2x17 ?r6n2x17
          case y6n2x17 => (intro w' hSw; go_simp; try (with_reducible rfl))
          simp only [Act.put, List.setIfInBounds_toArray, List.set_cons_zero, List.set_cons_succ]
          refine wpB_take (i := 18) (d := 45) (v := ?v6n2x18) rfl rfl (by kernel_rfl) (by kernel_rfl) (by kernel_rfl) (fun _ _ _ h => h) (by rfl) ?y6n2x18 ?r6n2x18
          case y6n2x18 => (intro w' hSw; go_simp; try (with_reducible rfl))
          simp only [Act.put, List.setIfInBounds_toArray, List.set_cons_zero, List.set_cons_succ]
          refine wpB_skip (i := 19) (d := 46) rfl rfl (by kernel_rfl) (by kernel_rfl) (by kernel_rfl) (fun _ _ _ h => h) (by rfl) ?_
          simp only [Act.put, List.setIfInBounds_toArray, List.set_cons_zero, List.set_cons_succ]
          refine wpB_skip (i := 20) (d := 47) rfl rfl (by kernel_rfl) (by kernel_rfl) (by kernel_rfl) (fun _ _ _ h => h) (by rfl) ?_
          simp only [Act.put, List.setIfInBounds_toArray, List.set_cons_zero, List.set_cons_succ]
          refine wpB_skip (i := 21) (d := 48) rfl rfl (by kernel_rfl) (by kernel_rfl) (by kernel_rfl) (fun _ _ _ h => h) (by rfl) ?_
          simp only [Act.put, List.setIfInBounds_toArray, List.set_cons_zero, List.set_cons_succ]
          refine wpB_skip (i := 22) (d := 49) rfl rfl (by kernel_rfl) (by kernel_rfl) (by kernel_rfl) (fun _ _ _ h => h) (by rfl) ?_
          simp only [Act.put, List.setIfInBounds_toArray, List.set_cons_zero, List.set_cons_succ]
          refine wpB_skip (i := 23) (d := 50) rfl rfl (by kernel_rfl) (by kernel_rfl) (by kernel_rfl) (fun _ _ _ h => h) (by rfl) ?_
          simp only [Act.put, List.setIfInBounds_toArray, List.set_cons_zero, List.set_cons_succ]
          refine wpB_skip (i := 24) (d := 51) rfl rfl (by kernel_rfl) (by kernel_rfl) (by kernel_rfl) (fun _ _ _ h => h) (by rfl) ?_
          simp only [Act.put, List.setIfInBounds_toArray, List.set_cons_zero, List.set_cons_succ]
          refine wpB_take (i := 25) (d := 52) (v := ?v6n2x25) rfl rfl (by kernel_rfl) (by kernel_rfl) (by kernel_rfl) (fun _ _ _ h => h) (by rfl) ?y6n2x25 ?r6n2x25
          case y6n2x25 => (intro w' hSw; go_simp; try (with_reducible rfl))
          simp only [Act.put, List.setIfInBounds_toArray, List.set_cons_zero, List.set_cons_succ]
          refine wpB_take (i := 26) (d := 53) (v := ?v6n2x26) rfl rfl (by kernel_rfl) (by kernel_rfl) (by kernel_rfl) (fun _ _ _ h => h) (by rfl) ?y6n2x26 ?r6n2x26
          case y6n2x26 => (intro w' hSw; go_simp; try (with_reducible rfl))
          simp only [Act.put, List.setIfInBounds_toArray, List.set_cons_zero, List.set_cons_succ]
          refine wpB_skip (i := 27) (d := 54) rfl rfl (by kernel_rfl) (by kernel_rfl) (by kernel_rfl) (fun _ _ _ h => h) (by rfl) ?_
          simp only [Act.put, List.setIfInBounds_toArray, List.set_cons_zero, List.set_cons_succ]
          refine wpB_skip (i := 28) (d := 55) rfl rfl (by kernel_rfl) (by kernel_rfl) (by kernel_rfl) (fun _ _ _ h => h) (by rfl) ?_
          simp only [Act.put, List.setIfInBounds_toArray, List.set_cons_zero, List.set_cons_succ]
          refine wpB_take (i := 29) (d := 56) (v := ?v6n2x29) rfl rfl (by kernel_rfl) (by kernel_rfl) (by kernel_rfl) (fun _ _ _ h => h) (by rfl) ?y6n2x29 ?r6n2x29
          case y6n2x29 => (intro w' hSw; go_simp; try (with_reducible rfl))
          simp only [Act.put, List.setIfInBounds_toArray, List.set_cons_zero, List.set_cons_succ]
          refine wpB_take (i := 30) (d := 2) (v := ?v6n2x30) rfl rfl (by kernel_rfl) (by kernel_rfl) (by kernel_rfl) (fun _ _ _ h => h) (by rfl) ?y6n2x30 ?r6n2x30
          case y6n2x30 => (intro w' hSw; go_simp; try (with_reducible rfl))
          simp only [Act.put, List.setIfInBounds_toArray, List.set_cons_zero, List.set_cons_succ]
          refine wpB_done (by kernel_rfl) ?_
          go_wp2
          go_ret
          exact SaysP.no (fun h => HNN.out h.ep) HX7.out.1.2.2
        | true =>
          as_aux_lemma =>
          have H3 := Lib.hid (HE.out.1 rfl)
          clear HE
          have y0 := Box.at_ (B := w6.heap.size) HX7.out.1.1 HX7.out.2.2.2.1 (i := 0) rfl
          have y1 := Box.at_ (B := w6.heap.size) HX7.out.1.1 HX7.out.2.2.2.1 (i := 1) rfl
          have y2 := Box.at_ (B := w6.heap.size) HX7.out.1.1 HX7.out.2.2.2.1 (i := 2) rfl
          have y3 := Box.at_ (B := w6.heap.size) HX7.out.1.1 HX7.out.2.2.2.1 (i := 3) rfl
          have y4 := Box.at_ (B := w6.heap.size) HX7.out.1.1 HX7.out.2.2.2.1 (i := 4) rfl
          have y5 := Box.at_ (B := w6.heap.size) HX7.out.1.1 HX7.out.2.2.2.1 (i := 5) rfl
          have y6 := Box.at_ (B := w6.heap.size) HX7.out.1.1 HX7.out.2.2.2.1 (i := 6) rfl
          have y7 := Box.at_ (B := w6.heap.size) HX7.out.1.1 HX7.out.2.2.2.1 (i := 7) rfl
          have y8 := Box.at_ (B := w6.heap.size) HX7.out.1.1 HX7.out.2.2.2.1 (i := 8) rfl
          have y9 := Box.at_ (B := w6.heap.size) HX7.out.1.1 HX7.out.2.2.2.1 (i := 9) rfl
          have y10 := Box.at_ (B := w6.heap.size) HX7.out.1.1 HX7.out.2.2.2.1 (i := 10) rfl
          have y11 := Box.at_ (B := w6.heap.size) HX7.out.1.1 HX7.out.2.2.2.1 (i := 11) rfl
          have y12 := Box.at_ (B := w6.heap.size) HX7.out.1.1 HX7.out.2.2.2.1 (i := 12) rfl
          have y13 := Box.at_ (B := w6.heap.size) HX7.out.1.1 HX7.out.2.2.2.1 (i := 13) rfl
          have y14 := Box.at_ (B := w6.heap.size) HX7.out.1.1 HX7.out.2.2.2.1 (i := 14) rfl
          have z0 := Box.at_ (B := w6.heap.size) HX7.out.2.1 HX7.out.2.2.2.2 (i := 0) rfl
          have z1 := Box.at_ (B := w6.heap.size) HX7.out.2.1 HX7.out.2.2.2.2 (i := 1) rfl
          have z2 := Box.at_ (B := w6.heap.size) HX7.out.2.1 HX7.out.2.2.2.2 (i := 2) rfl
          have z3 := Box.at_ (B := w6.heap.size) HX7.out.2.1 HX7.out.2.2.2.2 (i := 3) rfl
          have z4 := Box.at_ (B := w6.heap.size) HX7.out.2.1 HX7.out.2.2.2.2 (i := 4) rfl
          have z5 := Box.at_ (B := w6.heap.size) HX7.out.2.1 HX7.out.2.2.2.2 (i := 5) rfl
          have z6 := Box.at_ (B := w6.heap.size) HX7.out.2.1 HX7.out.2.2.2.2 (i := 6) rfl
          have z7 := Box.at_ (B := w6.heap.size) HX7.out.2.1 HX7.out.2.2.2.2 (i := 7) rfl
          have z8 := Box.at_ (B := w6.heap.size) HX7.out.2.1 HX7.out.2.2.2.2 (i := 8) rfl
          have z9 := Box.at_ (B := w6.heap.size) HX7.out.2.1 HX7.out.2.2.2.2 (i := 9) rfl
          have z10 := Box.at_ (B := w6.heap.size) HX7.out.2.1 HX7.out.2.2.2.2 (i := 10) rfl
          have z11 := Box.at_ (B := w6.heap.size) HX7.out.2.1 HX7.out.2.2.2.2 (i := 11) rfl
          have z12 := Box.at_ (B := w6.heap.size) HX7.out.2.1 HX7.out.2.2.2.2 (i := 12) rfl
          have z13 := Box.at_ (B := w6.heap.size) HX7.out.2.1 HX7.out.2.2.2.2 (i := 13) rfl
          have z14 := Box.at_ (B := w6.heap.size) HX7.out.2.1 HX7.out.2.2.2.2 (i := 14) rfl
          have z15 := Box.at_ (B := w6.heap.size) HX7.out.2.1 HX7.out.2.2.2.2 (i := 15) rfl
          have z16 := Box.at_ (B := w6.heap.size) HX7.out.2.1 HX7.out.2.2.2.2 (i := 16) rfl
          refine wpB_take (i := 5) (d := 32) (v := ?v6k3x5) rfl rfl (by kernel_rfl) (by kernel_rfl) (by kernel_rfl) (fun _ _ _ h => h) (by rfl) ?y6k3x5 ?r6k3x5
          case y6k3x5 => (intro w' hSw; go_simp; try (with_reducible rfl))
          simp only [Act.put, List.setIfInBounds_toArray, List.set_cons_zero, List.set_cons_succ]
          refine wpB_take (i := 6) (d := 33) (v := ?v6k3x6) rfl rfl (by kernel_rfl) (by kernel_rfl) (by kernel_rfl) (fun _ _ _ h => h) (by rfl) ?y6k3x6 ?r6k3x6
          case y6k3x6 => (intro w' hSw; go_simp; try (with_reducible rfl))
          simp only [Act.put, List.setIfInBounds_toArray, List.set_cons_zero, List.set_cons_succ]
          refine wpB_take (i := 7) (d := 34) (v := ?v6k3x7) rfl rfl (by kernel_rfl) (by kernel_rfl) (by kernel_rfl) (fun _ _ _ h => h) (by rfl) ?y6k3x7 ?r6k3x7
          case y6k3x7 => (intro w' hSw; go_simp; try (with_reducible rfl))
          simp only [Act.put, List.setIfInBounds_toArray, List.set_cons_zero, List.set_cons_succ]
          refine wpB_take (i := 8) (d := 35) (v := ?v6k3x8) rfl rfl (by kernel_rfl) (by kernel_rfl) (by kernel_rfl) (fun _ _ _ h => h) (by rfl) ?y6k3x8 ?r6k3x8
          case y6k3x8 => (intro w' hSw; go_simp; try (with_reducible rfl))
          simp only [Act.put, List.setIfInBounds_toArray, List.set_cons_zero, List.set_cons_succ]
          refine wpB_take (i := 9) (d := 36) (v := ?v6k3x9) rfl rfl (by kernel_rfl) (by kernel_rfl) (by kernel_rfl) (fun _ _ _ h => h) (by rfl) ?y6k3x9 ?r6k3x9
          case y6k3x9 => (intro w' hSw; go_simp; try (with_reducible rfl))
          simp only [Act.put, List.setIfInBounds_toArray, List.set_cons_zero, List.set_cons_succ]
          refine wpB_do (i := 10) (by kernel_rfl) rfl (by rfl) (fun K hK => ?_)
          go_simp
          refine (has_any 0 1099511627776 sq w7).mono ?_
          rintro e w8 ⟨b, rfl, hbb, hb⟩
          have HX8 := Lib.hid (HX7.out.later hb)
          have HE := Lib.hid hbb
          have hbk := hb.mono HX7.out.2.2.1
          go_simp
          refine hK.out w6.heap.size _ _ (Nat.le_refl _) hbk ?_
          clear hK hb hbb hbk HX7 y0 y1 y2 y3 y4 y5 y6 y7 y8 y9 y10 y11 y12 y13 y14 z0 z1 z2 z3 z4 z5 z6 z7 z8 z9 z10 z11 z12 z13 z14 z15 z16
          cases b with
          | false =>
            as_aux_lemma =>
            have HNN : Hid (¬ (0 ≤ sq ∧ sq ≤ 1099511627776)) := fun h => by have h1 := HE.out.2 h; simp at h1
            clear HE
            refine wpB_take (i := 11) (d := 38) (v := ?v6n4x11) rfl rfl (by kernel_rfl) (by kernel_rfl) (by kernel_rfl) (fun _ _ _ h => h) (by rfl) ?y6n4x11 ?r6n4x11
            case y6n4x11 => (intro w' hSw; go_simp; try (with_reducible rfl))
            simp only [Act.put, List.setIfInBounds_toArray, List.set_cons_zero, List.set_cons_succ]
            refine wpB_take (i := 12) (d := 39) (v := ?v6n4x12) rfl rfl (by kernel_rfl) (by kernel_rfl) (by kernel_rfl) (fun _ _ _ h => h) (by rfl) ?y6n4x12 ?r6n4x12
            case y6n4x12 => (intro w' hSw; go_simp; try (with_reducible rfl))
            simp only [Act.put, List.setIfInBounds_toArray, List.set_cons_zero, List.set_cons_succ]
            refine wpB_skip (i := 13) (d := 40) rfl rfl (by kernel_rfl) (by kernel_rfl) (by kernel_rfl) (fun _ _ _ h => h) (by rfl) ?_
            simp only [Act.put, List.setIfInBounds_toArray, List.set_cons_zero, List.set_cons_succ]
            refine wpB_skip (i := 14) (d := 41) rfl rfl (by kernel_rfl) (by kernel_rfl) (by kernel_rfl) (fun _ _ _ h => h) (by rfl) ?_
            simp only [Act.put, List.setIfInBounds_toArray, List.set_cons_zero, List.set_cons_succ]
            refine wpB_skip (i := 15) (d := 42) rfl rfl (by kernel_rfl) (by kernel_rfl) (by kernel_rfl) (fun _ _ _ h => h) (by rfl) ?_
            simp only [Act.put, List.setIfInBounds_toArray, List.set_cons_zero, List.set_cons_succ]
            refine wpB_skip (i := 16) (d := 43) rfl rfl (by kernel_rfl) (by kernel_rfl) (by kernel_rfl) (fun _ _ _ h => h) (by rfl) ?_
            simp only [Act.put, List.setIfInBounds_toArray, List.set_cons_zero, List.set_cons_succ]
            refine wpB_take (i := 17) (d := 44) (v := ?v6n4x17) rfl rfl (by kernel_rfl) (by kernel_rfl) (by kernel_rfl) (fun _ _ _ h => h) (by rfl) ?y6n4x17 ?r6n4x17
            case y6n4x17 => (intro w' hSw; go_simp; try (with_reducible rfl))
            simp only [Act.put, List.setIfInBounds_toArray, List.set_cons_zero, List.set_cons_succ]
            refine wpB_take (i := 18) (d := 45) (v := ?v6n4x18) rfl rfl (by kernel_rfl) (by kernel_rfl) (by kernel_rfl) (fun _ _ _ h => h) (by rfl) ?y6n4x18 ?r6n4x18
            case y6n4x18 => (intro w' hSw; go_simp; try (with_reducible rfl))
            simp only [Act.put, List.setIfInBounds_toArray, List.set_cons_zero, List.set_cons_succ]
            refine wpB_skip (i := 19) (d := 46) rfl rfl (by kernel_rfl) (by kernel_rfl) (by kernel_rfl) (fun _ _ _ h => h) (by rfl) ?_
            simp only [Act.put, List.setIfInBounds_toArray, List.set_cons_zero, List.set_cons_succ]
            refine wpB_skip (i := 20) (d := 47) rfl rfl (by kernel_rfl) (by kernel_rfl) (by kernel_rfl) (fun _ _ _ h => h) (by rfl) ?_
            simp only [Act.put, List.setIfInBounds_toArray, List.set_cons_zero, List.set_cons_succ]
            refine wpB_skip (i := 21) (d := 48) rfl rfl (by kernel_rfl) (by kernel_rfl) (by kernel_rfl) (fun _ _ _ h => h) (by rfl) ?_
            simp only [Act.put, List.setIfInBounds_toArray, List.set_cons_zero, List.set_cons_succ]
            refine wpB_skip (i := 22) (d := 49) rfl rfl (by kernel_rfl) (by kernel_rfl) (by kernel_rfl) (fun _ _ _ h => h) (by rfl) ?_
            simp only [Act.put, List.setIfInBounds_toArray, List.set_cons_zero, List.set_cons_succ]
            refine wpB_skip (i := 23) (d := 50) rfl rfl (by kernel_rfl) (by kernel_rfl) (by kernel_rfl) (fun _ _ _ h => h) (by rfl) ?_
            simp only [Act.put, List.setIfInBounds_toArray, List.set_cons_zero, List.set_cons_succ]
            refine wpB_skip (i := 24) (d := 51) rfl rfl (by kernel_rfl) (by kernel_rfl) (by kernel_rfl) (fun _ _ _ h => h) (by rfl) ?_
            simp only [Act.put, List.setIfInBounds_toArray, List.set_cons_zero, List.set_cons_succ]
            refine wpB_take (i := 25) (d := 52) (v := ?v6n4x25) rfl rfl (by kernel_rfl) (by kernel_rfl) (by kernel_rfl) (fun _ _ _ h => h) (by rfl) ?y6n4x25 ?r6n4x25
            case y6n4x25 => (intro w' hSw; go_simp; try (with_reducible rfl))
            simp only [Act.put, List.setIfInBounds_toArray, List.set_cons_zero, List.set_cons_succ]
            refine wpB_take (i := 26) (d := 53) (v := ?v6n4x26) rfl rfl (by kernel_rfl) (by kernel_rfl) (by kernel_rfl) (fun _ _ _ h => h) (by rfl) ?y6n4x26 ?r6n4x26
            case y6n4x26 => (intro w' hSw; go_simp; try (with_reducible rfl))
            simp only [Act.put, List.setIfInBounds_toArray, List.set_cons_zero, List.set_cons_succ]
            refine wpB_skip (i := 27) (d := 54) rfl rfl (by kernel_rfl) (by kernel_rfl) (by kernel_rfl) (fun _ _ _ h => h) (by rfl) ?_
            simp only [Act.put, List.setIfInBounds_toArray, List.set_cons_zero, List.set_cons_succ]
            refine wpB_skip (i := 28) (d := 55) rfl rfl (by kernel_rfl) (by kernel_rfl) (by kernel_rfl) (fun _ _ _ h => h) (by rfl) ?_
            simp only [Act.put, List.setIfInBounds_toArray, List.set_cons_zero, List.set_cons_succ]
            refine wpB_take (i := 29) (d := 56) (v := ?v6n4x29) rfl rfl (by kernel_rfl) (by kernel_rfl) (by kernel_rfl) (fun _ _ _ h => h) (by rfl) ?y6n4x29 ?r6n4x29
            case y6n4x29 => (intro w' hSw; go_simp; try (with_reducible rfl))
            simp only [Act.put, List.setIfInBounds_toArray, List.set_cons_zero, List.set_cons_succ]
            refine wpB_take (i := 30) (d := 2) (v := ?v6n4x30) rfl rfl (by kernel_rfl) (by kernel_rfl) (by kernel_rfl) (fun _ _ _ h => h) (by rfl) ?y6n4x30 ?r6n4x30
            case y6n4x30 => (intro w' hSw; go_simp; try (with_reducible rfl))
            simp only [Act.put, List.setIfInBounds_toArray, List.set_cons_zero, List.set_cons_succ]
            refine wpB_done (by kernel_rfl) ?_
            go_wp2
            go_ret
            exact SaysP.no (fun h => HNN.out h.sq) HX8.out.1.2.2
          | true =>
            as_aux_lemma =>
            have H4 := Lib.hid (HE.out.1 rfl)
            clear HE
            have y0 := Box.at_ (B := w6.heap.size) HX8.out.1.1 HX8.out.2.2.2.1 (i := 0) rfl
            have y1 := Box.at_ (B := w6.heap.size) HX8.out.1.1 HX8.out.2.2.2.1 (i := 1) rfl
            have y2 := Box.at_ (B := w6.heap.size) HX8.out.1.1 HX8.out.2.2.2.1 (i := 2) rfl
            have y3 := Box.at_ (B := w6.heap.size) HX8.out.1.1 HX8.out.2.2.2.1 (i := 3) rfl
            have y4 := Box.at_ (B := w6.heap.size) HX8.out.1.1 HX8.out.2.2.2.1 (i := 4) rfl
            have y5 := Box.at_ (B := w6.heap.size) HX8.out.1.1 HX8.out.2.2.2.1 (i := 5) rfl
            have y6 := Box.at_ (B := w6.heap.size) HX8.out.1.1 HX8.out.2.2.2.1 (i := 6) rfl
            have y7 := Box.at_ (B := w6.heap.size) HX8.out.1.1 HX8.out.2.2.2.1 (i := 7) rfl
            have y8 := Box.at_ (B := w6.heap.size) HX8.out.1.1 HX8.out.2.2.2.1 (i := 8) rfl
            have y9 := Box.at_ (B := w6.heap.size) HX8.out.1.1 HX8.out.2.2.2.1 (i := 9) rfl
            have y10 := Box.at_ (B := w6.heap.size) HX8.out.1.1 HX8.out.2.2.2.1 (i := 10) rfl
            have y11 := Box.at_ (B := w6.heap.size) HX8.out.1.1 HX8.out.2.2.2.1 (i := 11) rfl
            have y12 := Box.at_ (B := w6.heap.size) HX8.out.1.1 HX8.out.2.2.2.1 (i := 12) rfl
            have y13 := Box.at_ (B := w6.heap.size) HX8.out.1.1 HX8.out.2.2.2.1 (i := 13) rfl
            have y14 := Box.at_ (B := w6.heap.size) HX8.out.1.1 HX8.out.2.2.2.1 (i := 14) rfl
            have z0 := Box.at_ (B := w6.heap.size) HX8.out.2.1 HX8.out.2.2.2.2 (i := 0) rfl
            have z1 := Box.at_ (B := w6.heap.size) HX8.out.2.1 HX8.out.2.2.2.2 (i := 1) rfl
            have z2 := Box.at_ (B := w6.heap.size) HX8.out.2.1 HX8.out.2.2.2.2 (i := 2) rfl
            have z3 := Box.at_ (B := w6.heap.size) HX8.out.2.1 HX8.out.2.2.2.2 (i := 3) rfl
            have z4 := Box.at_ (B := w6.heap.size) HX8.out.2.1 HX8.out.2.2.2.2 (i := 4) rfl
            have z5 := Box.at_ (B := w6.heap.size) HX8.out.2.1 HX8.out.2.2.2.2 (i := 5) rfl
            have z6 := Box.at_ (B := w6.heap.size) HX8.out.2.1 HX8.out.2.2.2.2 (i := 6) rfl
            have z7 := Box.at_ (B := w6.heap.size) HX8.out.2.1 HX8.out.2.2.2.2 (i := 7) rfl
            have z8 := Box.at_ (B := w6.heap.size) HX8.out.2.1 HX8.out.2.2.2.2 (i := 8) rfl
            have z9 := Box.at_ (B := w6.heap.size) HX8.out.2.1 HX8.out.2.2.2.2 (i := 9) rfl
            have z10 := Box.at_ (B := w6.heap.size) HX8.out.2.1 HX8.out.2.2.2.2 (i := 10) rfl
            have z11 := Box.at_ (B := w6.heap.size) HX8.out.2.1 HX8.out.2.2.2.2 (i := 11) rfl
            have z12 := Box.at_ (B := w6.heap.size) HX8.out.2.1 HX8.out.2.2.2.2 (i := 12) rfl
            have z13 := Box.at_ (B := w6.heap.size) HX8.out.2.1 HX8.out.2.2.2.2 (i := 13) rfl
            have z14 := Box.at_ (B := w6.heap.size) HX8.out.2.1 HX8.out.2.2.2.2 (i := 14) rfl
            have z15 := Box.at_ (B := w6.heap.size) HX8.out.2.1 HX8.out.2.2.2.2 (i := 15) rfl
            have z16 := Box.at_ (B := w6.heap.size) HX8.out.2.1 HX8.out.2.2.2.2 (i := 16) rfl
            refine wpB_take (i := 11) (d := 38) (v := ?v6k5x11) rfl rfl (by kernel_rfl) (by kernel_rfl) (by kernel_rfl) (fun _ _ _ h => h) (by rfl) ?y6k5x11 ?r6k5x11
            case y6k5x11 => (intro w' hSw; go_simp; try (with_reducible rfl))
            simp only [Act.put, List.setIfInBounds_toArray, List.set_cons_zero, List.set_cons_succ]
            refine wpB_take (i := 12) (d := 39) (v := ?v6k5x12) rfl rfl (by kernel_rfl) (by kernel_rfl) (by kernel_rfl) (fun _ _ _ h => h) (by rfl) ?y6k5x12 ?r6k5x12
            case y6k5x12 => (intro w' hSw; go_simp; try (with_reducible rfl))
            simp only [Act.put, List.setIfInBounds_toArray, List.set_cons_zero, List.set_cons_succ]
            refine wpB_take (i := 13) (d := 40) (v := ?v6k5x13) rfl rfl (by kernel_rfl) (by kernel_rfl) (by kernel_rfl) (fun _ _ _ h => h) (by rfl) ?y6k5x13 ?r6k5x13
            case y6k5x13 => (intro w' hSw; go_simp; try (with_reducible rfl))
            simp only [Act.put, List.setIfInBounds_toArray, List.set_cons_zero, List.set_cons_succ]
            refine wpB_take (i := 14) (d := 41) (v := ?v6k5x14) rfl rfl (by kernel_rfl) (by kernel_rfl) (by kernel_rfl) (fun _ _ _ h => h) (by rfl) ?y6k5x14 ?r6k5x14
            case y6k5x14 => (intro w' hSw; go_simp; try (with_reducible rfl))
            simp only [Act.put, List.setIfInBounds_toArray, List.set_cons_zero, List.set_cons_succ]
            refine wpB_take (i := 15) (d := 42) (v := ?v6k5x15) rfl rfl (by kernel_rfl) (by kernel_rfl) (by kernel_rfl) (fun _ _ _ h => h) (by rfl) ?y6k5x15 ?r6k5x15
            case y6k5x15 => (intro w' hSw; go_simp; try (with_reducible rfl))
            simp only [Act.put, List.setIfInBounds_toArray, List.set_cons_zero, List.set_cons_succ]
            refine wpB_do (i := 16) (by kernel_rfl) rfl (by rfl) (fun K hK => ?_)
            go_simp
            refine (stand_any c A st k w8 HX8.out.st.1 hl1).mono ?_
            rintro e w9 ⟨b, rfl, hbb, hb⟩
            have HX9 := Lib.hid (HX8.out.later hb)
            have HE := Lib.hid hbb
            have hbk := hb.mono HX8.out.2.2.1
            go_simp
            refine hK.out w6.heap.size _ _ (Nat.le_refl _) hbk ?_
            clear hK hb hbb hbk HX8 y0 y1 y2 y3 y4 y5 y6 y7 y8 y9 y10 y11 y12 y13 y14 z0 z1 z2 z3 z4 z5 z6 z7 z8 z9 z10 z11 z12 z13 z14 z15 z16
            cases b with
            | false =>
              as_aux_lemma =>
              have HNN : Hid (¬ StandR st) := fun h => by have h1 := HE.out.2 h; simp at h1
              clear HE
              refine wpB_take (i := 17) (d := 44) (v := ?v6n6x17) rfl rfl (by kernel_rfl) (by kernel_rfl) (by kernel_rfl) (fun _ _ _ h => h) (by rfl) ?y6n6x17 ?r6n6x17
              case y6n6x17 => (intro w' hSw; go_simp; try (with_reducible rfl))
              simp only [Act.put, List.setIfInBounds_toArray, List.set_cons_zero, List.set_cons_succ]
              refine wpB_take (i := 18) (d := 45) (v := ?v6n6x18) rfl rfl (by kernel_rfl) (by kernel_rfl) (by kernel_rfl) (fun _ _ _ h => h) (by rfl) ?y6n6x18 ?r6n6x18
              case y6n6x18 => (intro w' hSw; go_simp; try (with_reducible rfl))
              simp only [Act.put, List.setIfInBounds_toArray, List.set_cons_zero, List.set_cons_succ]
              refine wpB_skip (i := 19) (d := 46) rfl rfl (by kernel_rfl) (by kernel_rfl) (by kernel_rfl) (fun _ _ _ h => h) (by rfl) ?_
              simp only [Act.put, List.setIfInBounds_toArray, List.set_cons_zero, List.set_cons_succ]
              refine wpB_skip (i := 20) (d := 47) rfl rfl (by kernel_rfl) (by kernel_rfl) (by kernel_rfl) (fun _ _ _ h => h) (by rfl) ?_
              simp only [Act.put, List.setIfInBounds_toArray, List.set_cons_zero, List.set_cons_succ]
              refine wpB_skip (i := 21) (d := 48) rfl rfl (by kernel_rfl) (by kernel_rfl) (by kernel_rfl) (fun _ _ _ h => h) (by rfl) ?_
              simp only [Act.put, List.setIfInBounds_toArray, List.set_cons_zero, List.set_cons_succ]
              refine wpB_skip (i := 22) (d := 49) rfl rfl (by kernel_rfl) (by kernel_rfl) (by kernel_rfl) (fun _ _ _ h => h) (by rfl) ?_
              simp only [Act.put, List.setIfInBounds_toArray, List.set_cons_zero, List.set_cons_succ]
              refine wpB_skip (i := 23) (d := 50) rfl rfl (by kernel_rfl) (by kernel_rfl) (by kernel_rfl) (fun _ _ _ h => h) (by rfl) ?_
              simp only [Act.put, List.setIfInBounds_toArray, List.set_cons_zero, List.set_cons_succ]
              refine wpB_skip (i := 24) (d := 51) rfl rfl (by kernel_rfl) (by kernel_rfl) (by kernel_rfl) (fun _ _ _ h => h) (by rfl) ?_
              simp only [Act.put, List.setIfInBounds_toArray, List.set_cons_zero, List.set_cons_succ]
              refine wpB_take (i := 25) (d := 52) (v := ?v6n6x25) rfl rfl (by kernel_rfl) (by kernel_rfl) (by kernel_rfl) (fun _ _ _ h => h) (by rfl) ?y6n6x25 ?r6n6x25
              case y6n6x25 => (intro w' hSw; go_simp; try (with_reducible rfl))
              simp only [Act.put, List.setIfInBounds_toArray, List.set_cons_zero, List.set_cons_succ]
              refine wpB_take (i := 26) (d := 53) (v := ?v6n6x26) rfl rfl (by kernel_rfl) (by kernel_rfl) (by kernel_rfl) (fun _ _ _ h => h) (by rfl) ?y6n6x26 ?r6n6x26
              case y6n6x26 => (intro w' hSw; go_simp; try (with_reducible rfl))
              simp only [Act.put, List.setIfInBounds_toArray, List.set_cons_zero, List.set_cons_succ]
              refine wpB_skip (i := 27) (d := 54) rfl rfl (by kernel_rfl) (by kernel_rfl) (by kernel_rfl) (fun _ _ _ h => h) (by rfl) ?_
              simp only [Act.put, List.setIfInBounds_toArray, List.set_cons_zero, List.set_cons_succ]
              refine wpB_skip (i := 28) (d := 55) rfl rfl (by kernel_rfl) (by kernel_rfl) (by kernel_rfl) (fun _ _ _ h => h) (by rfl) ?_
              simp only [Act.put, List.setIfInBounds_toArray, List.set_cons_zero, List.set_cons_succ]
              refine wpB_take (i := 29) (d := 56) (v := ?v6n6x29) rfl rfl (by kernel_rfl) (by kernel_rfl) (by kernel_rfl) (fun _ _ _ h => h) (by rfl) ?y6n6x29 ?r6n6x29
              case y6n6x29 => (intro w' hSw; go_simp; try (with_reducible rfl))
              simp only [Act.put, List.setIfInBounds_toArray, List.set_cons_zero, List.set_cons_succ]
              refine wpB_take (i := 30) (d := 2) (v := ?v6n6x30) rfl rfl (by kernel_rfl) (by kernel_rfl) (by kernel_rfl) (fun _ _ _ h => h) (by rfl) ?y6n6x30 ?r6n6x30
              case y6n6x30 => (intro w' hSw; go_simp; try (with_reducible rfl))
              simp only [Act.put, List.setIfInBounds_toArray, List.set_cons_zero, List.set_cons_succ]
              refine wpB_done (by kernel_rfl) ?_
              go_wp2
              go_ret
              exact SaysP.no (fun h => HNN.out h.stand) HX9.out.1.2.2
            | true =>
              as_aux_lemma =>
              have H5 := Lib.hid (HE.out.1 rfl)
              clear HE
              have y0 := Box.at_ (B := w6.heap.size) HX9.out.1.1 HX9.out.2.2.2.1 (i := 0) rfl
              have y1 := Box.at_ (B := w6.heap.size) HX9.out.1.1 HX9.out.2.2.2.1 (i := 1) rfl
              have y2 := Box.at_ (B := w6.heap.size) HX9.out.1.1 HX9.out.2.2.2.1 (i := 2) rfl
              have y3 := Box.at_ (B := w6.heap.size) HX9.out.1.1 HX9.out.2.2.2.1 (i := 3) rfl
              have y4 := Box.at_ (B := w6.heap.size) HX9.out.1.1 HX9.out.2.2.2.1 (i := 4) rfl
              have y5 := Box.at_ (B := w6.heap.size) HX9.out.1.1 HX9.out.2.2.2.1 (i := 5) rfl
              have y6 := Box.at_ (B := w6.heap.size) HX9.out.1.1 HX9.out.2.2.2.1 (i := 6) rfl
              have y7 := Box.at_ (B := w6.heap.size) HX9.out.1.1 HX9.out.2.2.2.1 (i := 7) rfl
              have y8 := Box.at_ (B := w6.heap.size) HX9.out.1.1 HX9.out.2.2.2.1 (i := 8) rfl
              have y9 := Box.at_ (B := w6.heap.size) HX9.out.1.1 HX9.out.2.2.2.1 (i := 9) rfl
              have y10 := Box.at_ (B := w6.heap.size) HX9.out.1.1 HX9.out.2.2.2.1 (i := 10) rfl
              have y11 := Box.at_ (B := w6.heap.size) HX9.out.1.1 HX9.out.2.2.2.1 (i := 11) rfl
              have y12 := Box.at_ (B := w6.heap.size) HX9.out.1.1 HX9.out.2.2.2.1 (i := 12) rfl
              have y13 := Box.at_ (B := w6.heap.size) HX9.out.1.1 HX9.out.2.2.2.1 (i := 13) rfl
              have y14 := Box.at_ (B := w6.heap.size) HX9.out.1.1 HX9.out.2.2.2.1 (i := 14) rfl
              have z0 := Box.at_ (B := w6.heap.size) HX9.out.2.1 HX9.out.2.2.2.2 (i := 0) rfl
              have z1 := Box.at_ (B := w6.heap.size) HX9.out.2.1 HX9.out.2.2.2.2 (i := 1) rfl
              have z2 := Box.at_ (B := w6.heap.size) HX9.out.2.1 HX9.out.2.2.2.2 (i := 2) rfl
              have z3 := Box.at_ (B := w6.heap.size) HX9.out.2.1 HX9.out.2.2.2.2 (i := 3) rfl
              have z4 := Box.at_ (B := w6.heap.size) HX9.out.2.1 HX9.out.2.2.2.2 (i := 4) rfl
              have z5 := Box.at_ (B := w6.heap.size) HX9.out.2.1 HX9.out.2.2.2.2 (i := 5) rfl
              have z6 := Box.at_ (B := w6.heap.size) HX9.out.2.1 HX9.out.2.2.2.2 (i := 6) rfl
              have z7 := Box.at_ (B := w6.heap.size) HX9.out.2.1 HX9.out.2.2.2.2 (i := 7) rfl
              have z8 := Box.at_ (B := w6.heap.size) HX9.out.2.1 HX9.out.2.2.2.2 (i := 8) rfl
              have z9 := Box.at_ (B := w6.heap.size) HX9.out.2.1 HX9.out.2.2.2.2 (i := 9) rfl
              have z10 := Box.at_ (B := w6.heap.size) HX9.out.2.1 HX9.out.2.2.2.2 (i := 10) rfl
              have z11 := Box.at_ (B := w6.heap.size) HX9.out.2.1 HX9.out.2.2.2.2 (i := 11) rfl
              have z12 := Box.at_ (B := w6.heap.size) HX9.out.2.1 HX9.out.2.2.2.2 (i := 12) rfl
              have z13 := Box.at_ (B := w6.heap.size) HX9.out.2.1 HX9.out.2.2.2.2 (i := 13) rfl
              have z14 := Box.at_ (B := w6.heap.size) HX9.out.2.1 HX9.out.2.2.2.2 (i := 14) rfl
              have z15 := Box.at_ (B := w6.heap.size) HX9.out.2.1 HX9.out.2.2.2.2 (i := 15) rfl
              have z16 := Box.at_ (B := w6.heap.size) HX9.out.2.1 HX9.out.2.2.2.2 (i := 16) rfl
              refine wpB_take (i := 17) (d := 44) (v := ?v6k7x17) rfl rfl (by kernel_rfl) (by kernel_rfl) (by kernel_rfl) (fun _ _ _ h => h) (by rfl) ?y6k7x17 ?r6k7x17
              case y6k7x17 => (intro w' hSw; go_simp; try (with_reducible rfl))
              simp only [Act.put, List.setIfInBounds_toArray, List.set_cons_zero, List.set_cons_succ]
              refine wpB_take (i := 18) (d := 45) (v := ?v6k7x18) rfl rfl (by kernel_rfl) (by kernel_rfl) (by kernel_rfl) (fun _ _ _ h => h) (by rfl) ?y6k7x18 ?r6k7x18
              case y6k7x18 => (intro w' hSw; go_simp; try (with_reducible rfl))
              simp only [Act.put, List.setIfInBounds_toArray, List.set_cons_zero, List.set_cons_succ]
              refine wpB_take (i := 19) (d := 46) (v := ?v6k7x19) rfl rfl (by kernel_rfl) (by kernel_rfl) (by kernel_rfl) (fun _ _ _ h => h) (by rfl) ?y6k7x19 ?r6k7x19
              case y6k7x19 => (intro w' hSw; go_simp; try (with_reducible rfl))
              simp only [Act.put, List.setIfInBounds_toArray, List.set_cons_zero, List.set_cons_succ]
              refine wpB_take (i := 20) (d := 47) (v := ?v6k7x20) rfl rfl (by kernel_rfl) (by kernel_rfl) (by kernel_rfl) (fun _ _ _ h => h) (by rfl) ?y6k7x20 ?r6k7x20
              case y6k7x20 => (intro w' hSw; go_simp; try (with_reducible rfl))
              simp only [Act.put, List.setIfInBounds_toArray, List.set_cons_zero, List.set_cons_succ]
              refine wpB_take (i := 21) (d := 48) (v := ?v6k7x21) rfl rfl (by kernel_rfl) (by kernel_rfl) (by kernel_rfl) (fun _ _ _ h => h) (by rfl) ?y6k7x21 ?r6k7x21
              case y6k7x21 => (intro w' hSw; go_simp; try (with_reducible rfl))
              simp only [Act.put, List.setIfInBounds_toArray, List.set_cons_zero, List.set_cons_succ]
              refine wpB_take (i := 22) (d := 49) (v := ?v6k7x22) rfl rfl (by kernel_rfl) (by kernel_rfl) (by kernel_rfl) (fun _ _ _ h => h) (by rfl) ?y6k7x22 ?r6k7x22
              case y6k7x22 => (intro w' hSw; go_simp; try (with_reducible rfl))
              simp only [Act.put, List.setIfInBounds_toArray, List.set_cons_zero, List.set_cons_succ]
              refine wpB_do (i := 23) (by kernel_rfl) rfl (by rfl) (fun K hK => ?_)
              go_simp
              refine (rebuilds_any c ep sq A st k D zs d w9 HX9.out.st.1 hl1).mono ?_
              rintro e w10 ⟨r, rfl, hbb, hb⟩
              have HX10 := Lib.hid (HX9.out.later hb)
              have HR := Lib.hid hbb
              have hbk := hb.mono HX9.out.2.2.1
              go_simp
              refine hK.out w6.heap.size _ _ (Nat.le_refl _) hbk ?_
              clear hK hb hbb hbk HX9 y0 y1 y2 y3 y4 y5 y6 y7 y8 y9 y10 y11 y12 y13 y14 z0 z1 z2 z3 z4 z5 z6 z7 z8 z9 z10 z11 z12 z13 z14 z15 z16
              have y0 := Box.at_ (B := w6.heap.size) HX10.out.1.1 HX10.out.2.2.2.1 (i := 0) rfl
              have y1 := Box.at_ (B := w6.heap.size) HX10.out.1.1 HX10.out.2.2.2.1 (i := 1) rfl
              have y2 := Box.at_ (B := w6.heap.size) HX10.out.1.1 HX10.out.2.2.2.1 (i := 2) rfl
              have y3 := Box.at_ (B := w6.heap.size) HX10.out.1.1 HX10.out.2.2.2.1 (i := 3) rfl
              have y4 := Box.at_ (B := w6.heap.size) HX10.out.1.1 HX10.out.2.2.2.1 (i := 4) rfl
              have y5 := Box.at_ (B := w6.heap.size) HX10.out.1.1 HX10.out.2.2.2.1 (i := 5) rfl
              have y6 := Box.at_ (B := w6.heap.size) HX10.out.1.1 HX10.out.2.2.2.1 (i := 6) rfl
              have y7 := Box.at_ (B := w6.heap.size) HX10.out.1.1 HX10.out.2.2.2.1 (i := 7) rfl
              have y8 := Box.at_ (B := w6.heap.size) HX10.out.1.1 HX10.out.2.2.2.1 (i := 8) rfl
              have y9 := Box.at_ (B := w6.heap.size) HX10.out.1.1 HX10.out.2.2.2.1 (i := 9) rfl
              have y10 := Box.at_ (B := w6.heap.size) HX10.out.1.1 HX10.out.2.2.2.1 (i := 10) rfl
              have y11 := Box.at_ (B := w6.heap.size) HX10.out.1.1 HX10.out.2.2.2.1 (i := 11) rfl
              have y12 := Box.at_ (B := w6.heap.size) HX10.out.1.1 HX10.out.2.2.2.1 (i := 12) rfl
              have y13 := Box.at_ (B := w6.heap.size) HX10.out.1.1 HX10.out.2.2.2.1 (i := 13) rfl
              have y14 := Box.at_ (B := w6.heap.size) HX10.out.1.1 HX10.out.2.2.2.1 (i := 14) rfl
              have z0 := Box.at_ (B := w6.heap.size) HX10.out.2.1 HX10.out.2.2.2.2 (i := 0) rfl
              have z1 := Box.at_ (B := w6.heap.size) HX10.out.2.1 HX10.out.2.2.2.2 (i := 1) rfl
              have z2 := Box.at_ (B := w6.heap.size) HX10.out.2.1 HX10.out.2.2.2.2 (i := 2) rfl
              have z3 := Box.at_ (B := w6.heap.size) HX10.out.2.1 HX10.out.2.2.2.2 (i := 3) rfl
              have z4 := Box.at_ (B := w6.heap.size) HX10.out.2.1 HX10.out.2.2.2.2 (i := 4) rfl
              have z5 := Box.at_ (B := w6.heap.size) HX10.out.2.1 HX10.out.2.2.2.2 (i := 5) rfl
              have z6 := Box.at_ (B := w6.heap.size) HX10.out.2.1 HX10.out.2.2.2.2 (i := 6) rfl
              have z7 := Box.at_ (B := w6.heap.size) HX10.out.2.1 HX10.out.2.2.2.2 (i := 7) rfl
              have z8 := Box.at_ (B := w6.heap.size) HX10.out.2.1 HX10.out.2.2.2.2 (i := 8) rfl
              have z9 := Box.at_ (B := w6.heap.size) HX10.out.2.1 HX10.out.2.2.2.2 (i := 9) rfl
              have z10 := Box.at_ (B := w6.heap.size) HX10.out.2.1 HX10.out.2.2.2.2 (i := 10) rfl
              have z11 := Box.at_ (B := w6.heap.size) HX10.out.2.1 HX10.out.2.2.2.2 (i := 11) rfl
              have z12 := Box.at_ (B := w6.heap.size) HX10.out.2.1 HX10.out.2.2.2.2 (i := 12) rfl
              have z13 := Box.at_ (B := w6.heap.size) HX10.out.2.1 HX10.out.2.2.2.2 (i := 13) rfl
              have z14 := Box.at_ (B := w6.heap.size) HX10.out.2.1 HX10.out.2.2.2.2 (i := 14) rfl
              have z15 := Box.at_ (B := w6.heap.size) HX10.out.2.1 HX10.out.2.2.2.2 (i := 15) rfl
              have z16 := Box.at_ (B := w6.heap.size) HX10.out.2.1 HX10.out.2.2.2.2 (i := 16) rfl
              refine wpB_do (i := 24) (by kernel_rfl) rfl (by rfl) (fun K hK => ?_)
              go_simp
              refine (be_any c D zs d r w10 HX10.out.st.2.1 hl2).mono ?_
              rintro e w11 ⟨b, rfl, hbb, hb⟩
              have HX11 := Lib.hid (HX10.out.later hb)
              have HE := Lib.hid hbb
              have hbk := hb.mono HX10.out.2.2.1
              go_simp
              refine hK.out w6.heap.size _ _ (Nat.le_refl _) hbk ?_
              clear hK hb hbb hbk HX10 y0 y1 y2 y3 y4 y5 y6 y7 y8 y9 y10 y11 y12 y13 y14 z0 z1 z2 z3 z4 z5 z6 z7 z8 z9 z10 z11 z12 z13 z14 z15 z16
              cases b with
              | false =>
                as_aux_lemma =>
                have HNN : Hid (¬ ∀ z ∈ zs, ZoneR c (2 ∈ st) z) := fun h => by have h1 := HE.out.2 (fun z hz => (h z hz).reb HR.out.2); simp at h1
                clear HE
                refine wpB_take (i := 25) (d := 52) (v := ?v6n9x25) rfl rfl (by kernel_rfl) (by kernel_rfl) (by kernel_rfl) (fun _ _ _ h => h) (by rfl) ?y6n9x25 ?r6n9x25
                case y6n9x25 => (intro w' hSw; go_simp; try (with_reducible rfl))
                simp only [Act.put, List.setIfInBounds_toArray, List.set_cons_zero, List.set_cons_succ]
                refine wpB_take (i := 26) (d := 53) (v := ?v6n9x26) rfl rfl (by kernel_rfl) (by kernel_rfl) (by kernel_rfl) (fun _ _ _ h => h) (by rfl) ?y6n9x26 ?r6n9x26
                case y6n9x26 => (intro w' hSw; go_simp; try (with_reducible rfl))
                simp only [Act.put, List.setIfInBounds_toArray, List.set_cons_zero, List.set_cons_succ]
                refine wpB_skip (i := 27) (d := 54) rfl rfl (by kernel_rfl) (by kernel_rfl) (by kernel_rfl) (fun _ _ _ h => h) (by rfl) ?_
                simp only [Act.put, List.setIfInBounds_toArray, List.set_cons_zero, List.set_cons_succ]
                refine wpB_skip (i := 28) (d := 55) rfl rfl (by kernel_rfl) (by kernel_rfl) (by kernel_rfl) (fun _ _ _ h => h) (by rfl) ?_
                simp only [Act.put, List.setIfInBounds_toArray, List.set_cons_zero, List.set_cons_succ]
                refine wpB_take (i := 29) (d := 56) (v := ?v6n9x29) rfl rfl (by kernel_rfl) (by kernel_rfl) (by kernel_rfl) (fun _ _ _ h => h) (by rfl) ?y6n9x29 ?r6n9x29
                case y6n9x29 => (intro w' hSw; go_simp; try (with_reducible rfl))
                simp only [Act.put, List.setIfInBounds_toArray, List.set_cons_zero, List.set_cons_succ]
                refine wpB_take (i := 30) (d := 2) (v := ?v6n9x30) rfl rfl (by kernel_rfl) (by kernel_rfl) (by kernel_rfl) (fun _ _ _ h => h) (by rfl) ?y6n9x30 ?r6n9x30
                case y6n9x30 => (intro w' hSw; go_simp; try (with_reducible rfl))
                simp only [Act.put, List.setIfInBounds_toArray, List.set_cons_zero, List.set_cons_succ]
                refine wpB_done (by kernel_rfl) ?_
                go_wp2
                go_ret
                exact SaysP.no (fun h => HNN.out h.be) HX11.out.1.2.2
              | true =>
                as_aux_lemma =>
                have H7 : Hid (∀ z ∈ zs, ZoneR c (2 ∈ st) z) := fun z hz => (HE.out.1 rfl z hz).reb HR.out.1
                clear HE
                have y0 := Box.at_ (B := w6.heap.size) HX11.out.1.1 HX11.out.2.2.2.1 (i := 0) rfl
                have y1 := Box.at_ (B := w6.heap.size) HX11.out.1.1 HX11.out.2.2.2.1 (i := 1) rfl
                have y2 := Box.at_ (B := w6.heap.size) HX11.out.1.1 HX11.out.2.2.2.1 (i := 2) rfl
                have y3 := Box.at_ (B := w6.heap.size) HX11.out.1.1 HX11.out.2.2.2.1 (i := 3) rfl
                have y4 := Box.at_ (B := w6.heap.size) HX11.out.1.1 HX11.out.2.2.2.1 (i := 4) rfl
                have y5 := Box.at_ (B := w6.heap.size) HX11.out.1.1 HX11.out.2.2.2.1 (i := 5) rfl
                have y6 := Box.at_ (B := w6.heap.size) HX11.out.1.1 HX11.out.2.2.2.1 (i := 6) rfl
                have y7 := Box.at_ (B := w6.heap.size) HX11.out.1.1 HX11.out.2.2.2.1 (i := 7) rfl
                have y8 := Box.at_ (B := w6.heap.size) HX11.out.1.1 HX11.out.2.2.2.1 (i := 8) rfl
                have y9 := Box.at_ (B := w6.heap.size) HX11.out.1.1 HX11.out.2.2.2.1 (i := 9) rfl
                have y10 := Box.at_ (B := w6.heap.size) HX11.out.1.1 HX11.out.2.2.2.1 (i := 10) rfl
                have y11 := Box.at_ (B := w6.heap.size) HX11.out.1.1 HX11.out.2.2.2.1 (i := 11) rfl
                have y12 := Box.at_ (B := w6.heap.size) HX11.out.1.1 HX11.out.2.2.2.1 (i := 12) rfl
                have y13 := Box.at_ (B := w6.heap.size) HX11.out.1.1 HX11.out.2.2.2.1 (i := 13) rfl
                have y14 := Box.at_ (B := w6.heap.size) HX11.out.1.1 HX11.out.2.2.2.1 (i := 14) rfl
                have z0 := Box.at_ (B := w6.heap.size) HX11.out.2.1 HX11.out.2.2.2.2 (i := 0) rfl
                have z1 := Box.at_ (B := w6.heap.size) HX11.out.2.1 HX11.out.2.2.2.2 (i := 1) rfl
                have z2 := Box.at_ (B := w6.heap.size) HX11.out.2.1 HX11.out.2.2.2.2 (i := 2) rfl
                have z3 := Box.at_ (B := w6.heap.size) HX11.out.2.1 HX11.out.2.2.2.2 (i := 3) rfl
                have z4 := Box.at_ (B := w6.heap.size) HX11.out.2.1 HX11.out.2.2.2.2 (i := 4) rfl
                have z5 := Box.at_ (B := w6.heap.size) HX11.out.2.1 HX11.out.2.2.2.2 (i := 5) rfl
                have z6 := Box.at_ (B := w6.heap.size) HX11.out.2.1 HX11.out.2.2.2.2 (i := 6) rfl
                have z7 := Box.at_ (B := w6.heap.size) HX11.out.2.1 HX11.out.2.2.2.2 (i := 7) rfl
                have z8 := Box.at_ (B := w6.heap.size) HX11.out.2.1 HX11.out.2.2.2.2 (i := 8) rfl
                have z9 := Box.at_ (B := w6.heap.size) HX11.out.2.1 HX11.out.2.2.2.2 (i := 9) rfl
                have z10 := Box.at_ (B := w6.heap.size) HX11.out.2.1 HX11.out.2.2.2.2 (i := 10) rfl
                have z11 := Box.at_ (B := w6.heap.size) HX11.out.2.1 HX11.out.2.2.2.2 (i := 11) rfl
                have z12 := Box.at_ (B := w6.heap.size) HX11.out.2.1 HX11.out.2.2.2.2 (i := 12) rfl
                have z13 := Box.at_ (B := w6.heap.size) HX11.out.2.1 HX11.out.2.2.2.2 (i := 13) rfl
                have z14 := Box.at_ (B := w6.heap.size) HX11.out.2.1 HX11.out.2.2.2.2 (i := 14) rfl
                have z15 := Box.at_ (B := w6.heap.size) HX11.out.2.1 HX11.out.2.2.2.2 (i := 15) rfl
                have z16 := Box.at_ (B := w6.heap.size) HX11.out.2.1 HX11.out.2.2.2.2 (i := 16) rfl
                refine wpB_take (i := 25) (d := 52) (v := ?v6k10x25) rfl rfl (by kernel_rfl) (by kernel_rfl) (by kernel_rfl) (fun _ _ _ h => h) (by rfl) ?y6k10x25 ?r6k10x25
                case y6k10x25 => (intro w' hSw; go_simp; try (with_reducible rfl))
                simp only [Act.put, List.setIfInBounds_toArray, List.set_cons_zero, List.set_cons_succ]
                refine wpB_take (i := 26) (d := 53) (v := ?v6k10x26) rfl rfl (by kernel_rfl) (by kernel_rfl) (by kernel_rfl) (fun _ _ _ h => h) (by rfl) ?y6k10x26 ?r6k10x26
                case y6k10x26 => (intro w' hSw; go_simp; try (with_reducible rfl))
                simp only [Act.put, List.setIfInBounds_toArray, List.set_cons_zero, List.set_cons_succ]
                refine wpB_take (i := 27) (d := 54) (v := ?v6k10x27) rfl rfl (by kernel_rfl) (by kernel_rfl) (by kernel_rfl) (fun _ _ _ h => h) (by rfl) ?y6k10x27 ?r6k10x27
                case y6k10x27 => (intro w' hSw; go_simp; try (with_reducible rfl))
                simp only [Act.put, List.setIfInBounds_toArray, List.set_cons_zero, List.set_cons_succ]
                refine wpB_do (i := 28) (by kernel_rfl) rfl (by rfl) (fun K hK => ?_)
                go_simp
                refine (apart_any c ep sq A st k D zs d w11 HX11.out.st hl2 (fun z hz => (H7.out z hz).slot)).mono ?_
                rintro e w12 ⟨b, rfl, hbb, hb⟩
                have HX12 := Lib.hid (HX11.out.later hb)
                have HE := Lib.hid hbb
                have hbk := hb.mono HX11.out.2.2.1
                go_simp
                refine hK.out w6.heap.size _ _ (Nat.le_refl _) hbk ?_
                clear hK hb hbb hbk HX11 y0 y1 y2 y3 y4 y5 y6 y7 y8 y9 y10 y11 y12 y13 y14 z0 z1 z2 z3 z4 z5 z6 z7 z8 z9 z10 z11 z12 z13 z14 z15 z16
                refine wpB_take (i := 29) (d := 56) (v := ?v6k11x29) rfl rfl (by kernel_rfl) (by kernel_rfl) (by kernel_rfl) (fun _ _ _ h => h) (by rfl) ?y6k11x29 ?r6k11x29
                case y6k11x29 => (intro w' hSw; go_simp; try (with_reducible rfl))
                simp only [Act.put, List.setIfInBounds_toArray, List.set_cons_zero, List.set_cons_succ]
                refine wpB_take (i := 30) (d := 2) (v := ?v6k11x30) rfl rfl (by kernel_rfl) (by kernel_rfl) (by kernel_rfl) (fun _ _ _ h => h) (by rfl) ?y6k11x30 ?r6k11x30
                case y6k11x30 => (intro w' hSw; go_simp; try (with_reducible rfl))
                simp only [Act.put, List.setIfInBounds_toArray, List.set_cons_zero, List.set_cons_succ]
                refine wpB_done (by kernel_rfl) ?_
                go_wp2
                go_ret
                exact ⟨b, rfl, HE.out.trans ⟨fun h => ⟨HC.out, H1.out, H2.out, H3.out, H4.out, H5.out, H7.out, h⟩, fun h => h.apart⟩, HX12.out.1.2.2⟩
      · have h2b : ((zs.length : Int) != c.z) = true := by simpa using h2
        have H2 := Lib.hid h2
        clear h2
        go_wp2
        go_ret
        exact SaysP.no (fun h => H2.out h.zone) HV1.out.2.2
    · have h1b : ((st.length : Int) != c.m) = true := by simpa using h1
      have H1 := Lib.hid h1
      clear h1
      go_wp2
      go_ret
      exact SaysP.no (fun h => H1.out h.stat) HV1.out.2.2
  · have hcb : (checkC c != 0) = true := by simpa using hc
    have HC := Lib.hid hc
    clear hc
    go_wp2
    go_ret
    exact SaysP.no (fun h => HC.out h.conf) HV1.out.2.2
end Go.Proofs.Ytaceaemombnhkaa
