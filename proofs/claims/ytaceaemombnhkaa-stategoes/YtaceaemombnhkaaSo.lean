/- The contract of the reference's Same. -/
import Derived.Test.YtaceaemombnhkaaSi
import Derived.BigQuiet
namespace Go.Proofs.Ytaceaemombnhkaa
set_option linter.unusedVariables false
set_option maxRecDepth 100000
set_option linter.unusedSimpArgs false
open Go.RowKit
open Go.RowKit (wrap64)

/-- Two states that came in as values. -/
structure Two (c : Cf) (ep sq : Int) (A : Option Addr) (st : List Int) (k : Nat) (D : Option Addr) (zs : List Zn) (d : Nat) (c2 : Cf) (ep2 sq2 : Int) (A2 : Option Addr) (st2 : List Int) (k2 : Nat) (D2 : Option Addr) (zs2 : List Zn) (d2 : Nat) (w wr : World) : Prop where
  one : Box wr w.heap.size 27 #[.int .i64 c.id, .int .i64 c.m, .int .i64 c.u, .int .i64 c.b, .int .i64 c.cp, .int .i64 c.z, .int .i64 c.s, .int .i64 c.mt, .int .i64 c.o, .int .i64 c.a, .int .i64 c.l, .int .i64 ep, .int .i64 sq, .slice A st.length k, .slice D zs.length d]
  two : Box wr (w.heap.size + 1) 27 #[.int .i64 c2.id, .int .i64 c2.m, .int .i64 c2.u, .int .i64 c2.b, .int .i64 c2.cp, .int .i64 c2.z, .int .i64 c2.s, .int .i64 c2.mt, .int .i64 c2.o, .int .i64 c2.a, .int .i64 c2.l, .int .i64 ep2, .int .i64 sq2, .slice A2 st2.length k2, .slice D2 zs2.length d2]
  st1 : StAt wr (LT w.heap.size) A st k D zs d
  st2 : StAt wr (LT w.heap.size) A2 st2 k2 D2 zs2 d2
  below : Below w.heap.size w wr
theorem Two.later {c : Cf} {ep sq : Int} {A : Option Addr} {st : List Int} {k : Nat} {D : Option Addr} {zs : List Zn} {d : Nat} {c2 : Cf} {ep2 sq2 : Int} {A2 : Option Addr} {st2 : List Int} {k2 : Nat} {D2 : Option Addr} {zs2 : List Zn} {d2 : Nat} {w wr w2 : World} (h : Two c ep sq A st k D zs d c2 ep2 sq2 A2 st2 k2 D2 zs2 d2 w wr) (hb : Below wr.heap.size wr w2) : Two c ep sq A st k D zs d c2 ep2 sq2 A2 st2 k2 D2 zs2 d2 w w2 :=
  have hb2 : Below w.heap.size wr w2 := hb.mono h.below.size
  ⟨h.one.later hb, h.two.later hb, h.st1.keep (Kept.below hb2), h.st2.keep (Kept.below hb2), h.below.trans hb2⟩
theorem join2 {C F : Nat → Nat → World → Prop} {G : Prop} (main : (∀ a b w, F a b w → C a b w) → G) (J : ∀ a b w, F a b w → C a b w) : G := main J
set_option maxHeartbeats 8000000 in
theorem rsame_any (c : Cf) (ep sq : Int) (A : Option Addr) (st : List Int) (k : Nat) (D : Option Addr) (zs : List Zn) (d : Nat) (c2 : Cf) (ep2 sq2 : Int) (A2 : Option Addr) (st2 : List Int) (k2 : Nat) (D2 : Option Addr) (zs2 : List Zn) (d2 : Nat) (w : World) (h : StAt w (LT w.heap.size) A st k D zs d) (h2 : StAt w (LT w.heap.size) A2 st2 k2 D2 zs2 d2) (hl1 : st.length ≤ 1000000) (hl2 : zs.length ≤ 1000000) :
    Calls Try.prog 11 #[(.agg #[.int .i64 c.id, .int .i64 c.m, .int .i64 c.u, .int .i64 c.b, .int .i64 c.cp, .int .i64 c.z, .int .i64 c.s, .int .i64 c.mt, .int .i64 c.o, .int .i64 c.a, .int .i64 c.l, .int .i64 ep, .int .i64 sq, .slice A st.length k, .slice D zs.length d]), (.agg #[.int .i64 c2.id, .int .i64 c2.m, .int .i64 c2.u, .int .i64 c2.b, .int .i64 c2.cp, .int .i64 c2.z, .int .i64 c2.s, .int .i64 c2.mt, .int .i64 c2.o, .int .i64 c2.a, .int .i64 c2.l, .int .i64 ep2, .int .i64 sq2, .slice A2 st2.length k2, .slice D2 zs2.length d2])] w (SaysP w ((⟨c, ep, sq, st, zs⟩ : St) = ⟨c2, ep2, sq2, st2, zs2⟩)) := by
  go_enter Try.func11, Try.ntmps11
  go_upto_region 1 with fail
  have HT : Hid (Two c ep sq A st k D zs d c2 ep2 sq2 A2 st2 k2 D2 zs2 d2 w ((w.alloc (.cells #[.int .i64 c.id, .int .i64 c.m, .int .i64 c.u, .int .i64 c.b, .int .i64 c.cp, .int .i64 c.z, .int .i64 c.s, .int .i64 c.mt, .int .i64 c.o, .int .i64 c.a, .int .i64 c.l, .int .i64 ep, .int .i64 sq, .slice A st.length k, .slice D zs.length d] 27)).alloc (.cells #[.int .i64 c2.id, .int .i64 c2.m, .int .i64 c2.u, .int .i64 c2.b, .int .i64 c2.cp, .int .i64 c2.z, .int .i64 c2.s, .int .i64 c2.mt, .int .i64 c2.o, .int .i64 c2.a, .int .i64 c2.l, .int .i64 ep2, .int .i64 sq2, .slice A2 st2.length k2, .slice D2 zs2.length d2] 27))) := by
    obtain ⟨b1, b2, b3, _⟩ := two_boxes' w 27 27 #[.int .i64 c.id, .int .i64 c.m, .int .i64 c.u, .int .i64 c.b, .int .i64 c.cp, .int .i64 c.z, .int .i64 c.s, .int .i64 c.mt, .int .i64 c.o, .int .i64 c.a, .int .i64 c.l, .int .i64 ep, .int .i64 sq, .slice A st.length k, .slice D zs.length d] #[.int .i64 c2.id, .int .i64 c2.m, .int .i64 c2.u, .int .i64 c2.b, .int .i64 c2.cp, .int .i64 c2.z, .int .i64 c2.s, .int .i64 c2.mt, .int .i64 c2.o, .int .i64 c2.a, .int .i64 c2.l, .int .i64 ep2, .int .i64 sq2, .slice A2 st2.length k2, .slice D2 zs2.length d2]
    exact ⟨b1, b2, h.keep (Kept.below b3), h2.keep (Kept.below b3), b3⟩
  generalize ((w.alloc (.cells #[.int .i64 c.id, .int .i64 c.m, .int .i64 c.u, .int .i64 c.b, .int .i64 c.cp, .int .i64 c.z, .int .i64 c.s, .int .i64 c.mt, .int .i64 c.o, .int .i64 c.a, .int .i64 c.l, .int .i64 ep, .int .i64 sq, .slice A st.length k, .slice D zs.length d] 27)).alloc (.cells #[.int .i64 c2.id, .int .i64 c2.m, .int .i64 c2.u, .int .i64 c2.b, .int .i64 c2.cp, .int .i64 c2.z, .int .i64 c2.s, .int .i64 c2.mt, .int .i64 c2.o, .int .i64 c2.a, .int .i64 c2.l, .int .i64 ep2, .int .i64 sq2, .slice A2 st2.length k2, .slice D2 zs2.length d2] 27)) = w0 at HT ⊢
  clear h h2
  obtain ⟨y0, y1, y2, y3, y4, y5, y6, y7, y8, y9, y10, y11, y12, y13, y14⟩ := box15 HT.out.one
  obtain ⟨x0, x1, x2, x3, x4, x5, x6, x7, x8, x9, x10, x11, x12, x13, x14⟩ := box15 HT.out.two
  by_cases hc : c = c2
  case neg =>
    have HC := Lib.hid hc
    clear hc
    go_upto_region 2 with fail
    all_goals first
      | (exfalso; refine HC.out ?_; obtain ⟨⟩ := c; obtain ⟨⟩ := c2; simp_all; done)
      | (go_wp2; go_ret; exact SaysP.no (fun h => HC.out (by injection h)) HT.out.below)
  subst hc
  by_cases he : ep = ep2
  case neg =>
    have hbb : (ep != ep2) = true := by simpa using he
    have HE := Lib.hid he
    clear he
    go_wp2
    go_ret
    exact SaysP.no (fun h => HE.out (by injection h)) HT.out.below
  subst he
  by_cases he : sq = sq2
  case neg =>
    have hbb : (sq != sq2) = true := by simpa using he
    have HE := Lib.hid he
    clear he
    go_wp2
    go_ret
    exact SaysP.no (fun h => HE.out (by injection h)) HT.out.below
  subst he
  by_cases h1 : (st.length : Int) = (st2.length : Int)
  case neg =>
    have hbb : ((st.length : Int) != (st2.length : Int)) = true := by simpa using h1
    have HE := Lib.hid h1
    clear h1
    go_wp2
    go_ret
    exact SaysP.no (fun h => HE.out (by injection h with _ _ _ h4; rw [h4])) HT.out.below
  have h1b : ((st.length : Int) != (st2.length : Int)) = false := by simp [h1]
  by_cases h2 : (zs.length : Int) = (zs2.length : Int)
  case neg =>
    have hbb : ((zs.length : Int) != (zs2.length : Int)) = true := by simpa using h2
    have HE := Lib.hid h2
    clear h1 h2
    go_wp2
    go_ret
    exact SaysP.no (fun h => HE.out (by injection h with _ _ _ _ h5; rw [h5])) HT.out.below
  have h2b : ((zs.length : Int) != (zs2.length : Int)) = false := by simp [h2]
  have HLN : Hid (st.length = st2.length ∧ zs.length = zs2.length) := ⟨by omega, by omega⟩
  clear h1 h2
  go_wp2
  clear h1b h2b y0 y1 y2 y3 y4 y5 y6 y7 y8 y9 y10 y11 y12 y13 y14 x0 x1 x2 x3 x4 x5 x6 x7 x8 x9 x10 x11 x12 x13 x14
  go_loopw [5] (fun i wr => ∃ q : Nat, q ≤ st.length ∧ i = .int .i64 q ∧ (∀ j (hj : j < st.length) (hj2 : j < st2.length), j < q → st[j] = st2[j]) ∧ Two c ep sq A st k D zs d c ep sq A2 st2 k2 D2 zs2 d2 w wr) (fun i _ => st.length - (intOf i).toNat)
  case atStart => exact ⟨0, by omega, rfl, fun j _ _ hj => absurd hj (Nat.not_lt_zero j), HT.out⟩
  case round =>
    clear HT
    obtain ⟨q, hq, rfl, hall, hst⟩ := hrel
    have HT := Lib.hid hst
    clear hst
    obtain ⟨y0, y1, y2, y3, y4, y5, y6, y7, y8, y9, y10, y11, y12, y13, y14⟩ := box15 HT.out.one
    obtain ⟨x0, x1, x2, x3, x4, x5, x6, x7, x8, x9, x10, x11, x12, x13, x14⟩ := box15 HT.out.two
    have hln := HLN.out
    by_cases hlt : q < st.length
    · have hlt2 : q < st2.length := by omega
      obtain ⟨g, off, rfl, hg, hc⟩ := HT.out.st1.1 (by omega)
      obtain ⟨g2, off2, rfl, hg2, hc2⟩ := HT.out.st2.1 (by omega)
      have c0 := hc q hlt
      have c1 := hc2 q hlt2
      by_cases he : st[q] = st2[q]
      · have heb : (st[q] != st2[q]) = false := by simp [he]
        have HN : Hid (∀ j (hj : j < st.length) (hj2 : j < st2.length), j < q + 1 → st[j] = st2[j]) := fun j hj hj2 hjk => by
          rcases Nat.lt_or_ge j q with h1 | h1
          · exact hall j hj hj2 h1
          · obtain rfl : j = q := by omega
            exact he
        clear hall hc hc2 he
        generalize st[q] = m1 at c0 heb
        generalize st2[q] = m2 at c1 heb
        go_upto_region 6 with fail
        go_quiet (fail)
        have HQ := Lib.hid (HT.out.later (below_drewN (Below.refl _ _) nq))
        generalize wr.drewN nq = w5 at HQ ⊢
        clear HT c0 c1 y0 y1 y2 y3 y4 y5 y6 y7 y8 y9 y10 y11 y12 y13 y14 x0 x1 x2 x3 x4 x5 x6 x7 x8 x9 x10 x11 x12 x13 x14
        go_wp2
        go_roundw
        case rel => exact ⟨q + 1, by omega, by go_num, HN.out, HQ.out⟩
        case measure => simp [intOf]; omega
      · have heb : (st[q] != st2[q]) = true := by simpa using he
        have HE : Hid (¬ st = st2) := fun h => he (by simp only [h])
        clear hall hc hc2 he
        generalize st[q] = m1 at c0 heb
        generalize st2[q] = m2 at c1 heb
        go_upto_region 6 with fail
        go_quiet (fail)
        have HQ : Hid (Below w.heap.size w (wr.drewN nq)) := below_drewN HT.out.below nq
        generalize wr.drewN nq = w5 at HQ ⊢
        clear HT c0 c1 y0 y1 y2 y3 y4 y5 y6 y7 y8 y9 y10 y11 y12 y13 y14 x0 x1 x2 x3 x4 x5 x6 x7 x8 x9 x10 x11 x12 x13 x14
        go_wp2
        go_ret
        exact SaysP.no (fun h => HE.out (by injection h)) HQ.out
    · obtain rfl : q = st.length := by omega
      have HST : Hid (st = st2) := List.ext_getElem hln.1 (fun j hj hj2 => hall j hj hj2 hj)
      clear hall hln
      go_wp2
      clear y0 y1 y2 y3 y4 y5 y6 y7 y8 y9 y10 y11 y12 y13 y14 x0 x1 x2 x3 x4 x5 x6 x7 x8 x9 x10 x11 x12 x13 x14
      go_loopw [6, 7, 8, 9] (fun i _ _ _ wr => ∃ q : Nat, q ≤ zs.length ∧ i = .int .i64 q ∧ (∀ j (hj : j < zs.length) (hj2 : j < zs2.length), j < q → zs[j] = zs2[j]) ∧ Two c ep sq A st k D zs d c ep sq A2 st2 k2 D2 zs2 d2 w wr) (fun i _ _ _ _ => zs.length - (intOf i).toNat)
      case atStart => exact ⟨0, by omega, rfl, fun j _ _ hj => absurd hj (Nat.not_lt_zero j), HT.out⟩
      case round =>
        clear HT
        obtain ⟨q, hq, rfl, hall, hst⟩ := hrel
        have HT := Lib.hid hst
        have HALL := Lib.hid hall
        clear hst hall
        obtain ⟨y0, y1, y2, y3, y4, y5, y6, y7, y8, y9, y10, y11, y12, y13, y14⟩ := box15 HT.out.one
        by_cases hlt : q < zs.length
        · have hlt2 : q < zs2.length := by have := HLN.out; omega
          obtain ⟨x0, x1, x2, x3, x4, x5, x6, x7, x8, x9, x10, x11, x12, x13, x14⟩ := box15 HT.out.two
          obtain ⟨g, off, rfl, hg, hc⟩ := HT.out.st1.2.1 (by omega)
          obtain ⟨g2, off2, rfl, hg2, hc2⟩ := HT.out.st2.2.1 (by omega)
          obtain ⟨Y, y, c0, c1, c2, c3, c4, c5, hps, _, hpl⟩ := hc q hlt
          obtain ⟨Y2, yc2, e0, e1, e2, e3, e4, e5, hps2, _, hpl2⟩ := hc2 q hlt2
          have HNE : Hid (zs[q] ≠ zs2[q] → ¬ zs = zs2) := fun hx h => hx (by simp only [h])
          have HN : Hid (zs[q] = zs2[q] → ∀ j (hj : j < zs.length) (hj2 : j < zs2.length), j < q + 1 → zs[j] = zs2[j]) := fun he j hj hj2 hjk => by
            rcases Nat.lt_or_ge j q with h1 | h1
            · exact HALL.out j hj hj2 h1
            · obtain rfl : j = q := by omega
              exact he
          have HP : Hid (PrsAt wr (LT w.heap.size) Y zs[q].ps ∧ PrsAt wr (LT w.heap.size) Y2 zs2[q].ps) := ⟨hps, hps2⟩
          clear hc hc2 hps hps2 HALL
          generalize zs[q] = p at c0 c1 c2 c3 c4 c5 HNE HN HP hpl
          generalize zs2[q] = p2 at e0 e1 e2 e3 e4 e5 HNE HN HP hpl2
          obtain ⟨gen, slot, full, zw, whole, ps⟩ := p
          obtain ⟨gen2, slot2, full2, zw2, whole2, ps2⟩ := p2
          dsimp only at c0 c1 c2 c3 c4 c5 e0 e1 e2 e3 e4 e5 hpl hpl2
          have HP : Hid (PrsAt wr (LT w.heap.size) Y ps ∧ PrsAt wr (LT w.heap.size) Y2 ps2) := HP.out
          have hg' : g < wr.heap.size := Nat.lt_of_lt_of_le hg HT.out.below.size
          have hg2' : g2 < wr.heap.size := Nat.lt_of_lt_of_le hg2 HT.out.below.size
          go_upto_region 11 with fail
          clear y0 y1 y2 y3 y4 y5 y6 y7 y8 y9 y10 y11 y12 y13 y14 x0 x1 x2 x3 x4 x5 x6 x7 x8 x9 x10 x11 x12 x13 x14
          refine wpB_start wr.heap.size (by kernel_rfl) ?_
          have hdd : ∀ w', Below wr.heap.size wr.drew w' → Below wr.heap.size wr w' := fun w' h => ⟨h.os, h.tape, h.output, h.size, h.block⟩
          have zc0 := fun w' h => cellB c0 hg' w' (hdd w' h)
          have zc1 := fun w' h => cellB c1 hg' w' (hdd w' h)
          have zc2 := fun w' h => cellB c2 hg' w' (hdd w' h)
          have zc3 := fun w' h => cellB c3 hg' w' (hdd w' h)
          have zc4 := fun w' h => cellB c4 hg' w' (hdd w' h)
          have zc5 := fun w' h => cellB c5 hg' w' (hdd w' h)
          have ze0 := fun w' h => cellB e0 hg2' w' (hdd w' h)
          have ze1 := fun w' h => cellB e1 hg2' w' (hdd w' h)
          have ze2 := fun w' h => cellB e2 hg2' w' (hdd w' h)
          have ze3 := fun w' h => cellB e3 hg2' w' (hdd w' h)
          have ze4 := fun w' h => cellB e4 hg2' w' (hdd w' h)
          have ze5 := fun w' h => cellB e5 hg2' w' (hdd w' h)
          have HT1 : Hid (Two c ep sq A st k (some ⟨g, off, none⟩) zs d c ep sq A2 st2 k2 (some ⟨g2, off2, none⟩) zs2 d2 w wr.drew ∧ wr.drew.heap.size = wr.heap.size ∧ PrsAt wr.drew (LT w.heap.size) Y ps ∧ PrsAt wr.drew (LT w.heap.size) Y2 ps2) := ⟨HT.out.later (Below.refl _ _).drew, rfl, HP.out.1, HP.out.2⟩
          have hs1 : w.heap.size < wr.heap.size := HT.out.one.lt
          have hs2 : w.heap.size + 1 < wr.heap.size := HT.out.two.lt
          generalize hB : wr.heap.size = B at *
          generalize wr.drew = w1 at *
          clear hdd HT HP hB c0 e0 c1 e1 c2 e2 c3 e3 c4 e4 c5 e5 hg hg2 hg' hg2'
          have y0 := Box.at_ (B := B) HT1.out.1.one hs1 (i := 0) rfl
          have y1 := Box.at_ (B := B) HT1.out.1.one hs1 (i := 1) rfl
          have y2 := Box.at_ (B := B) HT1.out.1.one hs1 (i := 2) rfl
          have y3 := Box.at_ (B := B) HT1.out.1.one hs1 (i := 3) rfl
          have y4 := Box.at_ (B := B) HT1.out.1.one hs1 (i := 4) rfl
          have y5 := Box.at_ (B := B) HT1.out.1.one hs1 (i := 5) rfl
          have y6 := Box.at_ (B := B) HT1.out.1.one hs1 (i := 6) rfl
          have y7 := Box.at_ (B := B) HT1.out.1.one hs1 (i := 7) rfl
          have y8 := Box.at_ (B := B) HT1.out.1.one hs1 (i := 8) rfl
          have y9 := Box.at_ (B := B) HT1.out.1.one hs1 (i := 9) rfl
          have y10 := Box.at_ (B := B) HT1.out.1.one hs1 (i := 10) rfl
          have y11 := Box.at_ (B := B) HT1.out.1.one hs1 (i := 11) rfl
          have y12 := Box.at_ (B := B) HT1.out.1.one hs1 (i := 12) rfl
          have y13 := Box.at_ (B := B) HT1.out.1.one hs1 (i := 13) rfl
          have y14 := Box.at_ (B := B) HT1.out.1.one hs1 (i := 14) rfl
          have x0 := Box.at_ (B := B) HT1.out.1.two hs2 (i := 0) rfl
          have x1 := Box.at_ (B := B) HT1.out.1.two hs2 (i := 1) rfl
          have x2 := Box.at_ (B := B) HT1.out.1.two hs2 (i := 2) rfl
          have x3 := Box.at_ (B := B) HT1.out.1.two hs2 (i := 3) rfl
          have x4 := Box.at_ (B := B) HT1.out.1.two hs2 (i := 4) rfl
          have x5 := Box.at_ (B := B) HT1.out.1.two hs2 (i := 5) rfl
          have x6 := Box.at_ (B := B) HT1.out.1.two hs2 (i := 6) rfl
          have x7 := Box.at_ (B := B) HT1.out.1.two hs2 (i := 7) rfl
          have x8 := Box.at_ (B := B) HT1.out.1.two hs2 (i := 8) rfl
          have x9 := Box.at_ (B := B) HT1.out.1.two hs2 (i := 9) rfl
          have x10 := Box.at_ (B := B) HT1.out.1.two hs2 (i := 10) rfl
          have x11 := Box.at_ (B := B) HT1.out.1.two hs2 (i := 11) rfl
          have x12 := Box.at_ (B := B) HT1.out.1.two hs2 (i := 12) rfl
          have x13 := Box.at_ (B := B) HT1.out.1.two hs2 (i := 13) rfl
          have x14 := Box.at_ (B := B) HT1.out.1.two hs2 (i := 14) rfl
          refine wpB_take (i := 0) (d := 72) (v := ?v11x0) rfl rfl (by kernel_rfl) (by kernel_rfl) (by kernel_rfl) (fun _ _ _ h => h) (by rfl) ?y11x0 ?r11x0
          case y11x0 => (intro w' hSw; go_simp; try (with_reducible rfl))
          simp only [Act.put, List.setIfInBounds_toArray, List.set_cons_zero, List.set_cons_succ]
          refine wpB_take (i := 1) (d := 73) (v := ?v11x1) rfl rfl (by kernel_rfl) (by kernel_rfl) (by kernel_rfl) (fun _ _ _ h => h) (by rfl) ?y11x1 ?r11x1
          case y11x1 => (intro w' hSw; go_simp; try (with_reducible rfl))
          simp only [Act.put, List.setIfInBounds_toArray, List.set_cons_zero, List.set_cons_succ]
          refine wpB_take (i := 2) (d := 74) (v := ?v11x2) rfl rfl (by kernel_rfl) (by kernel_rfl) (by kernel_rfl) (fun _ _ _ h => h) (by rfl) ?y11x2 ?r11x2
          case y11x2 => (intro w' hSw; go_simp; try (with_reducible rfl))
          simp only [Act.put, List.setIfInBounds_toArray, List.set_cons_zero, List.set_cons_succ]
          refine wpB_take (i := 3) (d := 75) (v := ?v11x3) rfl rfl (by kernel_rfl) (by kernel_rfl) (by kernel_rfl) (fun _ _ _ h => h) (by rfl) ?y11x3 ?r11x3
          case y11x3 => (intro w' hSw; go_simp; try (with_reducible rfl))
          simp only [Act.put, List.setIfInBounds_toArray, List.set_cons_zero, List.set_cons_succ]
          refine wpB_take (i := 4) (d := 76) (v := ?v11x4) rfl rfl (by kernel_rfl) (by kernel_rfl) (by kernel_rfl) (fun _ _ _ h => h) (by rfl) ?y11x4 ?r11x4
          case y11x4 => (intro w' hSw; go_simp; try (with_reducible rfl))
          simp only [Act.put, List.setIfInBounds_toArray, List.set_cons_zero, List.set_cons_succ]
          refine wpB_take (i := 5) (d := 77) (v := ?v11x5) rfl rfl (by kernel_rfl) (by kernel_rfl) (by kernel_rfl) (fun _ _ _ h => h) (by rfl) ?y11x5 ?r11x5
          case y11x5 => (intro w' hSw; go_simp; try (with_reducible rfl))
          simp only [Act.put, List.setIfInBounds_toArray, List.set_cons_zero, List.set_cons_succ]
          refine wpB_take (i := 6) (d := 78) (v := ?v11x6) rfl rfl (by kernel_rfl) (by kernel_rfl) (by kernel_rfl) (fun _ _ _ h => h) (by rfl) ?y11x6 ?r11x6
          case y11x6 => (intro w' hSw; go_simp; try (with_reducible rfl))
          simp only [Act.put, List.setIfInBounds_toArray, List.set_cons_zero, List.set_cons_succ]
          refine wpB_take (i := 7) (d := 79) (v := ?v11x7) rfl rfl (by kernel_rfl) (by kernel_rfl) (by kernel_rfl) (fun _ _ _ h => h) (by rfl) ?y11x7 ?r11x7
          case y11x7 => (intro w' hSw; go_simp; try (with_reducible rfl))
          simp only [Act.put, List.setIfInBounds_toArray, List.set_cons_zero, List.set_cons_succ]
          refine wpB_take (i := 8) (d := 80) (v := ?v11x8) rfl rfl (by kernel_rfl) (by kernel_rfl) (by kernel_rfl) (fun _ _ _ h => h) (by rfl) ?y11x8 ?r11x8
          case y11x8 => (intro w' hSw; go_simp; try (with_reducible rfl))
          simp only [Act.put, List.setIfInBounds_toArray, List.set_cons_zero, List.set_cons_succ]
          refine wpB_take (i := 9) (d := 81) (v := ?v11x9) rfl rfl (by kernel_rfl) (by kernel_rfl) (by kernel_rfl) (fun _ _ _ h => h) (by rfl) ?y11x9 ?r11x9
          case y11x9 => (intro w' hSw; go_simp; try (with_reducible rfl))
          simp only [Act.put, List.setIfInBounds_toArray, List.set_cons_zero, List.set_cons_succ]
          clear y0 y1 y2 y3 y4 y5 y6 y7 y8 y9 y10 y11 y12 y13 y14 x0 x1 x2 x3 x4 x5 x6 x7 x8 x9 x10 x11 x12 x13 x14 zc0 ze0 zc1 ze1 zc2 ze2 zc3 ze3 zc4 ze4 zc5 ze5
          apply join2 (F := fun a b wx => Box wx a 51 #[.int .i64 gen, .int .i64 slot, .bool full, .int .i64 zw, .bool whole, .slice Y ps.length y] ∧ Box wx b 51 #[.int .i64 gen2, .int .i64 slot2, .bool full2, .int .i64 zw2, .bool whole2, .slice Y2 ps2.length yc2] ∧ Two c ep sq A st k (some ⟨g, off, none⟩) zs d c ep sq A2 st2 k2 (some ⟨g2, off2, none⟩) zs2 d2 w wx ∧ PrsAt wx (LT w.heap.size) Y ps ∧ PrsAt wx (LT w.heap.size) Y2 ps2)
          case main =>
            intro J
            refine wpB_two (i := 10) (j := 11) (by kernel_rfl) rfl rfl (by rfl) (by rfl) (fun K hK => ?_) (fun K hK => ?_)
            · go_simp
              refine hK.out B _ _ (Nat.le_refl _) ((Below.refl _ _).alloc (by have := HT1.out.2.1; omega) _) ?_
              clear hK
              refine wpB_do (i := 11) (by kernel_rfl) rfl (by rfl) (fun K hK => ?_)
              go_simp
              refine hK.out B _ _ (Nat.le_refl _) ((Below.refl _ _).alloc (by have := HT1.out.2.1; simp; omega) _) ?_
              clear hK
              obtain ⟨h1, h2, h3, _⟩ := two_boxes' w1 51 51 #[.int .i64 0, .int .i64 0, .bool false, .int .i64 0, .bool false, .slice none 0 0] #[.int .i64 0, .int .i64 0, .bool false, .int .i64 0, .bool false, .slice none 0 0]
              have HX : Box ((w1.alloc (.cells #[.int .i64 0, .int .i64 0, .bool false, .int .i64 0, .bool false, .slice none 0 0] 51)).alloc (.cells #[.int .i64 0, .int .i64 0, .bool false, .int .i64 0, .bool false, .slice none 0 0] 51)) w1.heap.size 51 #[.int .i64 0, .int .i64 0, .bool false, .int .i64 0, .bool false, .slice none 0 0] ∧ Box ((w1.alloc (.cells #[.int .i64 0, .int .i64 0, .bool false, .int .i64 0, .bool false, .slice none 0 0] 51)).alloc (.cells #[.int .i64 0, .int .i64 0, .bool false, .int .i64 0, .bool false, .slice none 0 0] 51)) (w1.heap.size + 1) 51 #[.int .i64 0, .int .i64 0, .bool false, .int .i64 0, .bool false, .slice none 0 0] ∧ Two c ep sq A st k (some ⟨g, off, none⟩) zs d c ep sq A2 st2 k2 (some ⟨g2, off2, none⟩) zs2 d2 w ((w1.alloc (.cells #[.int .i64 0, .int .i64 0, .bool false, .int .i64 0, .bool false, .slice none 0 0] 51)).alloc (.cells #[.int .i64 0, .int .i64 0, .bool false, .int .i64 0, .bool false, .slice none 0 0] 51)) ∧ PrsAt ((w1.alloc (.cells #[.int .i64 0, .int .i64 0, .bool false, .int .i64 0, .bool false, .slice none 0 0] 51)).alloc (.cells #[.int .i64 0, .int .i64 0, .bool false, .int .i64 0, .bool false, .slice none 0 0] 51)) (LT w.heap.size) Y ps ∧ PrsAt ((w1.alloc (.cells #[.int .i64 0, .int .i64 0, .bool false, .int .i64 0, .bool false, .slice none 0 0] 51)).alloc (.cells #[.int .i64 0, .int .i64 0, .bool false, .int .i64 0, .bool false, .slice none 0 0] 51)) (LT w.heap.size) Y2 ps2 ∧ w1.heap.size ≠ (w1.heap.size + 1) ∧ B ≤ w1.heap.size ∧ B ≤ (w1.heap.size + 1) := by
                have hb := h3.mono HT1.out.1.below.size
                have hz := HT1.out.2.1
                exact ⟨h1, h2, HT1.out.1.later h3, HT1.out.2.2.1.keep (Kept.below hb), HT1.out.2.2.2.keep (Kept.below hb), by omega, by omega, by omega⟩
              have HX := Lib.hid HX
              clear h1 h2 h3
              generalize ((w1.alloc (.cells #[.int .i64 0, .int .i64 0, .bool false, .int .i64 0, .bool false, .slice none 0 0] 51)).alloc (.cells #[.int .i64 0, .int .i64 0, .bool false, .int .i64 0, .bool false, .slice none 0 0] 51)) = w2 at HX ⊢
              generalize (w1.heap.size + 1) = b at HX ⊢
              generalize w1.heap.size = a at HX ⊢
              obtain ⟨y0, y1, y2, y3, y4, y5⟩ := box6 HX.out.1
              obtain ⟨f0, f1, f2, f3, f4, f5⟩ := froz6 HX.out.1
              refine wpB_do (i := 12) (by kernel_rfl) rfl (by rfl) (fun K hK => ?_)
              go_simp
              have h1 := sets_box0 [.int .i64 gen, .int .i64 slot, .bool full, .int .i64 zw, .bool whole, .slice Y ps.length y] HX.out.1 rfl
              have h2 := sets_below (B := B) [.int .i64 gen, .int .i64 slot, .bool full, .int .i64 zw, .bool whole, .slice Y ps.length y] 0 w2 (Below.refl _ _) HX.out.2.2.2.2.2.2.1
              have h3 := sets_turn (g := a) (gs := [a]) [.int .i64 gen, .int .i64 slot, .bool full, .int .i64 zw, .bool whole, .slice Y ps.length y] 0 w2 (Turn.refl _ _) (by simp)
              simp only [sets, Nat.zero_add, Nat.reduceAdd] at h1 h2 h3
              refine hK.out B _ _ (Nat.le_refl _) h2 ?_
              have HY : Hid (Box ((((((w2.setCell ⟨a, 0, none⟩ (.int .i64 gen)).setCell ⟨a, 1, none⟩ (.int .i64 slot)).setCell ⟨a, 2, none⟩ (.bool full)).setCell ⟨a, 3, none⟩ (.int .i64 zw)).setCell ⟨a, 4, none⟩ (.bool whole)).setCell ⟨a, 5, none⟩ (.slice Y ps.length y)) a 51 #[.int .i64 gen, .int .i64 slot, .bool full, .int .i64 zw, .bool whole, .slice Y ps.length y] ∧ Box ((((((w2.setCell ⟨a, 0, none⟩ (.int .i64 gen)).setCell ⟨a, 1, none⟩ (.int .i64 slot)).setCell ⟨a, 2, none⟩ (.bool full)).setCell ⟨a, 3, none⟩ (.int .i64 zw)).setCell ⟨a, 4, none⟩ (.bool whole)).setCell ⟨a, 5, none⟩ (.slice Y ps.length y)) b 51 #[.int .i64 0, .int .i64 0, .bool false, .int .i64 0, .bool false, .slice none 0 0] ∧ Two c ep sq A st k (some ⟨g, off, none⟩) zs d c ep sq A2 st2 k2 (some ⟨g2, off2, none⟩) zs2 d2 w ((((((w2.setCell ⟨a, 0, none⟩ (.int .i64 gen)).setCell ⟨a, 1, none⟩ (.int .i64 slot)).setCell ⟨a, 2, none⟩ (.bool full)).setCell ⟨a, 3, none⟩ (.int .i64 zw)).setCell ⟨a, 4, none⟩ (.bool whole)).setCell ⟨a, 5, none⟩ (.slice Y ps.length y)) ∧ PrsAt ((((((w2.setCell ⟨a, 0, none⟩ (.int .i64 gen)).setCell ⟨a, 1, none⟩ (.int .i64 slot)).setCell ⟨a, 2, none⟩ (.bool full)).setCell ⟨a, 3, none⟩ (.int .i64 zw)).setCell ⟨a, 4, none⟩ (.bool whole)).setCell ⟨a, 5, none⟩ (.slice Y ps.length y)) (LT w.heap.size) Y ps ∧ PrsAt ((((((w2.setCell ⟨a, 0, none⟩ (.int .i64 gen)).setCell ⟨a, 1, none⟩ (.int .i64 slot)).setCell ⟨a, 2, none⟩ (.bool full)).setCell ⟨a, 3, none⟩ (.int .i64 zw)).setCell ⟨a, 4, none⟩ (.bool whole)).setCell ⟨a, 5, none⟩ (.slice Y ps.length y)) (LT w.heap.size) Y2 ps2 ∧ B ≤ b) := by
                have hx := HX.out
                have hb : Below w.heap.size w2 ((((((w2.setCell ⟨a, 0, none⟩ (.int .i64 gen)).setCell ⟨a, 1, none⟩ (.int .i64 slot)).setCell ⟨a, 2, none⟩ (.bool full)).setCell ⟨a, 3, none⟩ (.int .i64 zw)).setCell ⟨a, 4, none⟩ (.bool whole)).setCell ⟨a, 5, none⟩ (.slice Y ps.length y)) := h2.mono (by omega)
                exact ⟨h1, hx.2.1.turn h3 (by simpa using (Ne.symm hx.2.2.2.2.2.1)), ⟨hx.2.2.1.one.turn h3 (by have := hx.2.2.2.2.2.2.1; simp; omega), hx.2.2.1.two.turn h3 (by have := hx.2.2.2.2.2.2.1; simp; omega), hx.2.2.1.st1.keep (Kept.below hb), hx.2.2.1.st2.keep (Kept.below hb), hx.2.2.1.below.trans hb⟩, hx.2.2.2.1.keep (Kept.below hb), hx.2.2.2.2.1.keep (Kept.below hb), hx.2.2.2.2.2.2.2⟩
              have hab : a ≠ b := HX.out.2.2.2.2.2.1
              generalize ((((((w2.setCell ⟨a, 0, none⟩ (.int .i64 gen)).setCell ⟨a, 1, none⟩ (.int .i64 slot)).setCell ⟨a, 2, none⟩ (.bool full)).setCell ⟨a, 3, none⟩ (.int .i64 zw)).setCell ⟨a, 4, none⟩ (.bool whole)).setCell ⟨a, 5, none⟩ (.slice Y ps.length y)) = w3 at HY ⊢
              clear h1 h2 h3 hK HX y0 y1 y2 y3 y4 y5 f0 f1 f2 f3 f4 f5
              obtain ⟨y0, y1, y2, y3, y4, y5⟩ := box6 HY.out.2.1
              obtain ⟨f0, f1, f2, f3, f4, f5⟩ := froz6 HY.out.2.1
              refine wpB_do (i := 13) (by kernel_rfl) rfl (by rfl) (fun K hK => ?_)
              go_simp
              have h1 := sets_box0 [.int .i64 gen2, .int .i64 slot2, .bool full2, .int .i64 zw2, .bool whole2, .slice Y2 ps2.length yc2] HY.out.2.1 rfl
              have h2 := sets_below (B := B) [.int .i64 gen2, .int .i64 slot2, .bool full2, .int .i64 zw2, .bool whole2, .slice Y2 ps2.length yc2] 0 w3 (Below.refl _ _) HY.out.2.2.2.2.2
              have h3 := sets_turn (g := b) (gs := [b]) [.int .i64 gen2, .int .i64 slot2, .bool full2, .int .i64 zw2, .bool whole2, .slice Y2 ps2.length yc2] 0 w3 (Turn.refl _ _) (by simp)
              simp only [sets, Nat.zero_add, Nat.reduceAdd] at h1 h2 h3
              refine hK.out B _ _ (Nat.le_refl _) h2 ?_
              have HZ : Box ((((((w3.setCell ⟨b, 0, none⟩ (.int .i64 gen2)).setCell ⟨b, 1, none⟩ (.int .i64 slot2)).setCell ⟨b, 2, none⟩ (.bool full2)).setCell ⟨b, 3, none⟩ (.int .i64 zw2)).setCell ⟨b, 4, none⟩ (.bool whole2)).setCell ⟨b, 5, none⟩ (.slice Y2 ps2.length yc2)) a 51 #[.int .i64 gen, .int .i64 slot, .bool full, .int .i64 zw, .bool whole, .slice Y ps.length y] ∧ Box ((((((w3.setCell ⟨b, 0, none⟩ (.int .i64 gen2)).setCell ⟨b, 1, none⟩ (.int .i64 slot2)).setCell ⟨b, 2, none⟩ (.bool full2)).setCell ⟨b, 3, none⟩ (.int .i64 zw2)).setCell ⟨b, 4, none⟩ (.bool whole2)).setCell ⟨b, 5, none⟩ (.slice Y2 ps2.length yc2)) b 51 #[.int .i64 gen2, .int .i64 slot2, .bool full2, .int .i64 zw2, .bool whole2, .slice Y2 ps2.length yc2] ∧ Two c ep sq A st k (some ⟨g, off, none⟩) zs d c ep sq A2 st2 k2 (some ⟨g2, off2, none⟩) zs2 d2 w ((((((w3.setCell ⟨b, 0, none⟩ (.int .i64 gen2)).setCell ⟨b, 1, none⟩ (.int .i64 slot2)).setCell ⟨b, 2, none⟩ (.bool full2)).setCell ⟨b, 3, none⟩ (.int .i64 zw2)).setCell ⟨b, 4, none⟩ (.bool whole2)).setCell ⟨b, 5, none⟩ (.slice Y2 ps2.length yc2)) ∧ PrsAt ((((((w3.setCell ⟨b, 0, none⟩ (.int .i64 gen2)).setCell ⟨b, 1, none⟩ (.int .i64 slot2)).setCell ⟨b, 2, none⟩ (.bool full2)).setCell ⟨b, 3, none⟩ (.int .i64 zw2)).setCell ⟨b, 4, none⟩ (.bool whole2)).setCell ⟨b, 5, none⟩ (.slice Y2 ps2.length yc2)) (LT w.heap.size) Y ps ∧ PrsAt ((((((w3.setCell ⟨b, 0, none⟩ (.int .i64 gen2)).setCell ⟨b, 1, none⟩ (.int .i64 slot2)).setCell ⟨b, 2, none⟩ (.bool full2)).setCell ⟨b, 3, none⟩ (.int .i64 zw2)).setCell ⟨b, 4, none⟩ (.bool whole2)).setCell ⟨b, 5, none⟩ (.slice Y2 ps2.length yc2)) (LT w.heap.size) Y2 ps2 := by
                have hx := HY.out
                have hb : Below w.heap.size w3 ((((((w3.setCell ⟨b, 0, none⟩ (.int .i64 gen2)).setCell ⟨b, 1, none⟩ (.int .i64 slot2)).setCell ⟨b, 2, none⟩ (.bool full2)).setCell ⟨b, 3, none⟩ (.int .i64 zw2)).setCell ⟨b, 4, none⟩ (.bool whole2)).setCell ⟨b, 5, none⟩ (.slice Y2 ps2.length yc2)) := h2.mono (by omega)
                exact ⟨hx.1.turn h3 (by simpa using hab), h1, ⟨hx.2.2.1.one.turn h3 (by have := hx.2.2.2.2.2; simp; omega), hx.2.2.1.two.turn h3 (by have := hx.2.2.2.2.2; simp; omega), hx.2.2.1.st1.keep (Kept.below hb), hx.2.2.1.st2.keep (Kept.below hb), hx.2.2.1.below.trans hb⟩, hx.2.2.2.1.keep (Kept.below hb), hx.2.2.2.2.1.keep (Kept.below hb)⟩
              generalize ((((((w3.setCell ⟨b, 0, none⟩ (.int .i64 gen2)).setCell ⟨b, 1, none⟩ (.int .i64 slot2)).setCell ⟨b, 2, none⟩ (.bool full2)).setCell ⟨b, 3, none⟩ (.int .i64 zw2)).setCell ⟨b, 4, none⟩ (.bool whole2)).setCell ⟨b, 5, none⟩ (.slice Y2 ps2.length yc2)) = w4 at HZ ⊢
              clear h1 h2 h3 hK HY y0 y1 y2 y3 y4 y5 f0 f1 f2 f3 f4 f5
              change wpB _ _ _ _ _ _ #[true, true, true, true, true, true, true, true, true, true, true, true, true, true] _ _
              try simp only [Act.put, List.setIfInBounds_toArray, List.set_cons_zero, List.set_cons_succ]
              exact J a b w4 HZ
            · go_simp
              refine hK.out B _ _ (Nat.le_refl _) ((Below.refl _ _).alloc (by have := HT1.out.2.1; omega) _) ?_
              clear hK
              refine wpB_do (i := 10) (by kernel_rfl) rfl (by rfl) (fun K hK => ?_)
              go_simp
              refine hK.out B _ _ (Nat.le_refl _) ((Below.refl _ _).alloc (by have := HT1.out.2.1; simp; omega) _) ?_
              clear hK
              obtain ⟨h1, h2, h3, _⟩ := two_boxes' w1 51 51 #[.int .i64 0, .int .i64 0, .bool false, .int .i64 0, .bool false, .slice none 0 0] #[.int .i64 0, .int .i64 0, .bool false, .int .i64 0, .bool false, .slice none 0 0]
              have HX : Box ((w1.alloc (.cells #[.int .i64 0, .int .i64 0, .bool false, .int .i64 0, .bool false, .slice none 0 0] 51)).alloc (.cells #[.int .i64 0, .int .i64 0, .bool false, .int .i64 0, .bool false, .slice none 0 0] 51)) (w1.heap.size + 1) 51 #[.int .i64 0, .int .i64 0, .bool false, .int .i64 0, .bool false, .slice none 0 0] ∧ Box ((w1.alloc (.cells #[.int .i64 0, .int .i64 0, .bool false, .int .i64 0, .bool false, .slice none 0 0] 51)).alloc (.cells #[.int .i64 0, .int .i64 0, .bool false, .int .i64 0, .bool false, .slice none 0 0] 51)) w1.heap.size 51 #[.int .i64 0, .int .i64 0, .bool false, .int .i64 0, .bool false, .slice none 0 0] ∧ Two c ep sq A st k (some ⟨g, off, none⟩) zs d c ep sq A2 st2 k2 (some ⟨g2, off2, none⟩) zs2 d2 w ((w1.alloc (.cells #[.int .i64 0, .int .i64 0, .bool false, .int .i64 0, .bool false, .slice none 0 0] 51)).alloc (.cells #[.int .i64 0, .int .i64 0, .bool false, .int .i64 0, .bool false, .slice none 0 0] 51)) ∧ PrsAt ((w1.alloc (.cells #[.int .i64 0, .int .i64 0, .bool false, .int .i64 0, .bool false, .slice none 0 0] 51)).alloc (.cells #[.int .i64 0, .int .i64 0, .bool false, .int .i64 0, .bool false, .slice none 0 0] 51)) (LT w.heap.size) Y ps ∧ PrsAt ((w1.alloc (.cells #[.int .i64 0, .int .i64 0, .bool false, .int .i64 0, .bool false, .slice none 0 0] 51)).alloc (.cells #[.int .i64 0, .int .i64 0, .bool false, .int .i64 0, .bool false, .slice none 0 0] 51)) (LT w.heap.size) Y2 ps2 ∧ (w1.heap.size + 1) ≠ w1.heap.size ∧ B ≤ (w1.heap.size + 1) ∧ B ≤ w1.heap.size := by
                have hb := h3.mono HT1.out.1.below.size
                have hz := HT1.out.2.1
                exact ⟨h2, h1, HT1.out.1.later h3, HT1.out.2.2.1.keep (Kept.below hb), HT1.out.2.2.2.keep (Kept.below hb), by omega, by omega, by omega⟩
              have HX := Lib.hid HX
              clear h1 h2 h3
              generalize ((w1.alloc (.cells #[.int .i64 0, .int .i64 0, .bool false, .int .i64 0, .bool false, .slice none 0 0] 51)).alloc (.cells #[.int .i64 0, .int .i64 0, .bool false, .int .i64 0, .bool false, .slice none 0 0] 51)) = w2 at HX ⊢
              generalize (w1.heap.size + 1) = a at HX ⊢
              generalize w1.heap.size = b at HX ⊢
              obtain ⟨y0, y1, y2, y3, y4, y5⟩ := box6 HX.out.1
              obtain ⟨f0, f1, f2, f3, f4, f5⟩ := froz6 HX.out.1
              refine wpB_do (i := 12) (by kernel_rfl) rfl (by rfl) (fun K hK => ?_)
              go_simp
              have h1 := sets_box0 [.int .i64 gen, .int .i64 slot, .bool full, .int .i64 zw, .bool whole, .slice Y ps.length y] HX.out.1 rfl
              have h2 := sets_below (B := B) [.int .i64 gen, .int .i64 slot, .bool full, .int .i64 zw, .bool whole, .slice Y ps.length y] 0 w2 (Below.refl _ _) HX.out.2.2.2.2.2.2.1
              have h3 := sets_turn (g := a) (gs := [a]) [.int .i64 gen, .int .i64 slot, .bool full, .int .i64 zw, .bool whole, .slice Y ps.length y] 0 w2 (Turn.refl _ _) (by simp)
              simp only [sets, Nat.zero_add, Nat.reduceAdd] at h1 h2 h3
              refine hK.out B _ _ (Nat.le_refl _) h2 ?_
              have HY : Hid (Box ((((((w2.setCell ⟨a, 0, none⟩ (.int .i64 gen)).setCell ⟨a, 1, none⟩ (.int .i64 slot)).setCell ⟨a, 2, none⟩ (.bool full)).setCell ⟨a, 3, none⟩ (.int .i64 zw)).setCell ⟨a, 4, none⟩ (.bool whole)).setCell ⟨a, 5, none⟩ (.slice Y ps.length y)) a 51 #[.int .i64 gen, .int .i64 slot, .bool full, .int .i64 zw, .bool whole, .slice Y ps.length y] ∧ Box ((((((w2.setCell ⟨a, 0, none⟩ (.int .i64 gen)).setCell ⟨a, 1, none⟩ (.int .i64 slot)).setCell ⟨a, 2, none⟩ (.bool full)).setCell ⟨a, 3, none⟩ (.int .i64 zw)).setCell ⟨a, 4, none⟩ (.bool whole)).setCell ⟨a, 5, none⟩ (.slice Y ps.length y)) b 51 #[.int .i64 0, .int .i64 0, .bool false, .int .i64 0, .bool false, .slice none 0 0] ∧ Two c ep sq A st k (some ⟨g, off, none⟩) zs d c ep sq A2 st2 k2 (some ⟨g2, off2, none⟩) zs2 d2 w ((((((w2.setCell ⟨a, 0, none⟩ (.int .i64 gen)).setCell ⟨a, 1, none⟩ (.int .i64 slot)).setCell ⟨a, 2, none⟩ (.bool full)).setCell ⟨a, 3, none⟩ (.int .i64 zw)).setCell ⟨a, 4, none⟩ (.bool whole)).setCell ⟨a, 5, none⟩ (.slice Y ps.length y)) ∧ PrsAt ((((((w2.setCell ⟨a, 0, none⟩ (.int .i64 gen)).setCell ⟨a, 1, none⟩ (.int .i64 slot)).setCell ⟨a, 2, none⟩ (.bool full)).setCell ⟨a, 3, none⟩ (.int .i64 zw)).setCell ⟨a, 4, none⟩ (.bool whole)).setCell ⟨a, 5, none⟩ (.slice Y ps.length y)) (LT w.heap.size) Y ps ∧ PrsAt ((((((w2.setCell ⟨a, 0, none⟩ (.int .i64 gen)).setCell ⟨a, 1, none⟩ (.int .i64 slot)).setCell ⟨a, 2, none⟩ (.bool full)).setCell ⟨a, 3, none⟩ (.int .i64 zw)).setCell ⟨a, 4, none⟩ (.bool whole)).setCell ⟨a, 5, none⟩ (.slice Y ps.length y)) (LT w.heap.size) Y2 ps2 ∧ B ≤ b) := by
                have hx := HX.out
                have hb : Below w.heap.size w2 ((((((w2.setCell ⟨a, 0, none⟩ (.int .i64 gen)).setCell ⟨a, 1, none⟩ (.int .i64 slot)).setCell ⟨a, 2, none⟩ (.bool full)).setCell ⟨a, 3, none⟩ (.int .i64 zw)).setCell ⟨a, 4, none⟩ (.bool whole)).setCell ⟨a, 5, none⟩ (.slice Y ps.length y)) := h2.mono (by omega)
                exact ⟨h1, hx.2.1.turn h3 (by simpa using (Ne.symm hx.2.2.2.2.2.1)), ⟨hx.2.2.1.one.turn h3 (by have := hx.2.2.2.2.2.2.1; simp; omega), hx.2.2.1.two.turn h3 (by have := hx.2.2.2.2.2.2.1; simp; omega), hx.2.2.1.st1.keep (Kept.below hb), hx.2.2.1.st2.keep (Kept.below hb), hx.2.2.1.below.trans hb⟩, hx.2.2.2.1.keep (Kept.below hb), hx.2.2.2.2.1.keep (Kept.below hb), hx.2.2.2.2.2.2.2⟩
              have hab : a ≠ b := HX.out.2.2.2.2.2.1
              generalize ((((((w2.setCell ⟨a, 0, none⟩ (.int .i64 gen)).setCell ⟨a, 1, none⟩ (.int .i64 slot)).setCell ⟨a, 2, none⟩ (.bool full)).setCell ⟨a, 3, none⟩ (.int .i64 zw)).setCell ⟨a, 4, none⟩ (.bool whole)).setCell ⟨a, 5, none⟩ (.slice Y ps.length y)) = w3 at HY ⊢
              clear h1 h2 h3 hK HX y0 y1 y2 y3 y4 y5 f0 f1 f2 f3 f4 f5
              obtain ⟨y0, y1, y2, y3, y4, y5⟩ := box6 HY.out.2.1
              obtain ⟨f0, f1, f2, f3, f4, f5⟩ := froz6 HY.out.2.1
              refine wpB_do (i := 13) (by kernel_rfl) rfl (by rfl) (fun K hK => ?_)
              go_simp
              have h1 := sets_box0 [.int .i64 gen2, .int .i64 slot2, .bool full2, .int .i64 zw2, .bool whole2, .slice Y2 ps2.length yc2] HY.out.2.1 rfl
              have h2 := sets_below (B := B) [.int .i64 gen2, .int .i64 slot2, .bool full2, .int .i64 zw2, .bool whole2, .slice Y2 ps2.length yc2] 0 w3 (Below.refl _ _) HY.out.2.2.2.2.2
              have h3 := sets_turn (g := b) (gs := [b]) [.int .i64 gen2, .int .i64 slot2, .bool full2, .int .i64 zw2, .bool whole2, .slice Y2 ps2.length yc2] 0 w3 (Turn.refl _ _) (by simp)
              simp only [sets, Nat.zero_add, Nat.reduceAdd] at h1 h2 h3
              refine hK.out B _ _ (Nat.le_refl _) h2 ?_
              have HZ : Box ((((((w3.setCell ⟨b, 0, none⟩ (.int .i64 gen2)).setCell ⟨b, 1, none⟩ (.int .i64 slot2)).setCell ⟨b, 2, none⟩ (.bool full2)).setCell ⟨b, 3, none⟩ (.int .i64 zw2)).setCell ⟨b, 4, none⟩ (.bool whole2)).setCell ⟨b, 5, none⟩ (.slice Y2 ps2.length yc2)) a 51 #[.int .i64 gen, .int .i64 slot, .bool full, .int .i64 zw, .bool whole, .slice Y ps.length y] ∧ Box ((((((w3.setCell ⟨b, 0, none⟩ (.int .i64 gen2)).setCell ⟨b, 1, none⟩ (.int .i64 slot2)).setCell ⟨b, 2, none⟩ (.bool full2)).setCell ⟨b, 3, none⟩ (.int .i64 zw2)).setCell ⟨b, 4, none⟩ (.bool whole2)).setCell ⟨b, 5, none⟩ (.slice Y2 ps2.length yc2)) b 51 #[.int .i64 gen2, .int .i64 slot2, .bool full2, .int .i64 zw2, .bool whole2, .slice Y2 ps2.length yc2] ∧ Two c ep sq A st k (some ⟨g, off, none⟩) zs d c ep sq A2 st2 k2 (some ⟨g2, off2, none⟩) zs2 d2 w ((((((w3.setCell ⟨b, 0, none⟩ (.int .i64 gen2)).setCell ⟨b, 1, none⟩ (.int .i64 slot2)).setCell ⟨b, 2, none⟩ (.bool full2)).setCell ⟨b, 3, none⟩ (.int .i64 zw2)).setCell ⟨b, 4, none⟩ (.bool whole2)).setCell ⟨b, 5, none⟩ (.slice Y2 ps2.length yc2)) ∧ PrsAt ((((((w3.setCell ⟨b, 0, none⟩ (.int .i64 gen2)).setCell ⟨b, 1, none⟩ (.int .i64 slot2)).setCell ⟨b, 2, none⟩ (.bool full2)).setCell ⟨b, 3, none⟩ (.int .i64 zw2)).setCell ⟨b, 4, none⟩ (.bool whole2)).setCell ⟨b, 5, none⟩ (.slice Y2 ps2.length yc2)) (LT w.heap.size) Y ps ∧ PrsAt ((((((w3.setCell ⟨b, 0, none⟩ (.int .i64 gen2)).setCell ⟨b, 1, none⟩ (.int .i64 slot2)).setCell ⟨b, 2, none⟩ (.bool full2)).setCell ⟨b, 3, none⟩ (.int .i64 zw2)).setCell ⟨b, 4, none⟩ (.bool whole2)).setCell ⟨b, 5, none⟩ (.slice Y2 ps2.length yc2)) (LT w.heap.size) Y2 ps2 := by
                have hx := HY.out
                have hb : Below w.heap.size w3 ((((((w3.setCell ⟨b, 0, none⟩ (.int .i64 gen2)).setCell ⟨b, 1, none⟩ (.int .i64 slot2)).setCell ⟨b, 2, none⟩ (.bool full2)).setCell ⟨b, 3, none⟩ (.int .i64 zw2)).setCell ⟨b, 4, none⟩ (.bool whole2)).setCell ⟨b, 5, none⟩ (.slice Y2 ps2.length yc2)) := h2.mono (by omega)
                exact ⟨hx.1.turn h3 (by simpa using hab), h1, ⟨hx.2.2.1.one.turn h3 (by have := hx.2.2.2.2.2; simp; omega), hx.2.2.1.two.turn h3 (by have := hx.2.2.2.2.2; simp; omega), hx.2.2.1.st1.keep (Kept.below hb), hx.2.2.1.st2.keep (Kept.below hb), hx.2.2.1.below.trans hb⟩, hx.2.2.2.1.keep (Kept.below hb), hx.2.2.2.2.1.keep (Kept.below hb)⟩
              generalize ((((((w3.setCell ⟨b, 0, none⟩ (.int .i64 gen2)).setCell ⟨b, 1, none⟩ (.int .i64 slot2)).setCell ⟨b, 2, none⟩ (.bool full2)).setCell ⟨b, 3, none⟩ (.int .i64 zw2)).setCell ⟨b, 4, none⟩ (.bool whole2)).setCell ⟨b, 5, none⟩ (.slice Y2 ps2.length yc2)) = w4 at HZ ⊢
              clear h1 h2 h3 hK HY y0 y1 y2 y3 y4 y5 f0 f1 f2 f3 f4 f5
              change wpB _ _ _ _ _ _ #[true, true, true, true, true, true, true, true, true, true, true, true, true, true] _ _
              try simp only [Act.put, List.setIfInBounds_toArray, List.set_cons_zero, List.set_cons_succ]
              exact J a b w4 HZ
          case J =>
            intro a b w5 HX0
            have HX := Lib.hid HX0
            clear HX0
            refine wpB_done (by kernel_rfl) ?_
            obtain ⟨z0, z1, z2, z3, z4, z5⟩ := box6 HX.out.1
            obtain ⟨v0, v1, v2, v3, v4, v5⟩ := box6 HX.out.2.1
            by_cases hq2 : gen = gen2
            case neg =>
              have hbb : (gen != gen2) = true := by simpa using hq2
              have HE := Lib.hid hq2
              clear hq2
              go_wp2
              go_ret
              exact SaysP.no (fun h => HNE.out (fun hz => HE.out (congrArg Zn.gen hz)) (by first | exact congrArg St.zs h | exact h.2)) HX.out.2.2.1.below
            subst hq2
            by_cases hq2 : slot = slot2
            case neg =>
              have hbb : (slot != slot2) = true := by simpa using hq2
              have HE := Lib.hid hq2
              clear hq2
              go_wp2
              go_ret
              exact SaysP.no (fun h => HNE.out (fun hz => HE.out (congrArg Zn.slot hz)) (by first | exact congrArg St.zs h | exact h.2)) HX.out.2.2.1.below
            subst hq2
            by_cases hq2 : full = full2
            case neg =>
              have hbb : (full != full2) = true := by simpa using hq2
              have HE := Lib.hid hq2
              clear hq2
              go_wp2
              go_ret
              exact SaysP.no (fun h => HNE.out (fun hz => HE.out (congrArg Zn.full hz)) (by first | exact congrArg St.zs h | exact h.2)) HX.out.2.2.1.below
            subst hq2
            by_cases hq2 : zw = zw2
            case neg =>
              have hbb : (zw != zw2) = true := by simpa using hq2
              have HE := Lib.hid hq2
              clear hq2
              go_wp2
              go_ret
              exact SaysP.no (fun h => HNE.out (fun hz => HE.out (congrArg Zn.w hz)) (by first | exact congrArg St.zs h | exact h.2)) HX.out.2.2.1.below
            subst hq2
            by_cases hq2 : whole = whole2
            case neg =>
              have hbb : (whole != whole2) = true := by simpa using hq2
              have HE := Lib.hid hq2
              clear hq2
              go_wp2
              go_ret
              exact SaysP.no (fun h => HNE.out (fun hz => HE.out (congrArg Zn.whole hz)) (by first | exact congrArg St.zs h | exact h.2)) HX.out.2.2.1.below
            subst hq2
            by_cases hq2 : (ps.length : Int) = (ps2.length : Int)
            case neg =>
              have hbb : ((ps.length : Int) != (ps2.length : Int)) = true := by simpa using hq2
              have HE := Lib.hid hq2
              clear hq2
              go_wp2
              go_ret
              exact SaysP.no (fun h => HNE.out (fun hz => HE.out (congrArg (fun z : Zn => (z.ps.length : Int)) hz)) (by first | exact congrArg St.zs h | exact h.2)) HX.out.2.2.1.below
            have hbb : ((ps.length : Int) != (ps2.length : Int)) = false := by simp [hq2]
            have HPL : Hid (ps.length = ps2.length) := by show _ = _; omega
            clear hq2
            go_wp2
            clear hbb z0 z1 z2 z3 z4 z5 v0 v1 v2 v3 v4 v5
            go_loopw [9] (fun i wr => ∃ m : Nat, m ≤ ps.length ∧ i = .int .i64 m ∧ (∀ j (hj : j < ps.length) (hj2 : j < ps2.length), j < m → ps[j] = ps2[j]) ∧ Box wr a 51 #[.int .i64 gen, .int .i64 slot, .bool full, .int .i64 zw, .bool whole, .slice Y ps.length y] ∧ Box wr b 51 #[.int .i64 gen, .int .i64 slot, .bool full, .int .i64 zw, .bool whole, .slice Y2 ps2.length yc2] ∧ Two c ep sq A st k (some ⟨g, off, none⟩) zs d c ep sq A2 st2 k2 (some ⟨g2, off2, none⟩) zs2 d2 w wr ∧ PrsAt wr (LT w.heap.size) Y ps ∧ PrsAt wr (LT w.heap.size) Y2 ps2) (fun i _ => ps.length - (intOf i).toNat)
            case atStart => exact ⟨0, by omega, rfl, fun j _ _ hj => absurd hj (Nat.not_lt_zero j), HX.out⟩
            case round =>
              clear HX
              obtain ⟨m, hm, rfl, hall, hst⟩ := hrel
              have HX := Lib.hid hst
              have HALL := Lib.hid hall
              clear hst hall
              by_cases hlm : m < ps.length
              · have hlm2 : m < ps2.length := by have := HPL.out; omega
                obtain ⟨g3, off3, hY, hg3, hc⟩ := HX.out.2.2.2.1 (by omega)
                subst hY
                obtain ⟨g4, off4, hY2, hg4, hc2⟩ := HX.out.2.2.2.2 (by omega)
                subst hY2
                obtain ⟨V, v, c0, c1, hV, _, _⟩ := hc m hlm
                obtain ⟨V2, v2, e0, e1, hV2, _, _⟩ := hc2 m hlm2
                have HNP : Hid (ps[m] ≠ ps2[m] → ¬ ps = ps2) := fun hx h => hx (by simp only [h])
                have HN3 : Hid (ps[m] = ps2[m] → ∀ j (hj : j < ps.length) (hj2 : j < ps2.length), j < m + 1 → ps[j] = ps2[j]) := fun he j hj hj2 hjk => by
                  rcases Nat.lt_or_ge j m with h1 | h1
                  · exact HALL.out j hj hj2 h1
                  · obtain rfl : j = m := by omega
                    exact he
                have HRD : Hid (Rd wr w.heap.size V ps[m].b ∧ Rd wr w.heap.size V2 ps2[m].b) := ⟨hV.lt, hV2.lt⟩
                clear hc hc2 hV hV2 HALL
                generalize ps[m] = p1 at c0 c1 HNP HN3 HRD
                generalize ps2[m] = p2 at e0 e1 HNP HN3 HRD
                obtain ⟨pw, pb⟩ := p1
                obtain ⟨pw2, pb2⟩ := p2
                dsimp only at c0 c1 e0 e1
                have HRD : Hid (Rd wr w.heap.size V pb ∧ Rd wr w.heap.size V2 pb2) := HRD.out
                have hszw := HX.out.2.2.1.below.size
                have ha := HX.out.1.lt
                have hb := HX.out.2.1.lt
                have hg3' : g3 < wr.heap.size := Nat.lt_of_lt_of_le hg3 hszw
                have hg4' : g4 < wr.heap.size := Nat.lt_of_lt_of_le hg4 hszw
                clear hg3 hg4
                obtain ⟨z0, z1, z2, z3, z4, z5⟩ := box6 HX.out.1
                go_upto_region 17 with fail
                clear z0 z1 z2 z3 z4 z5
                refine wpB_start wr.heap.size (by kernel_rfl) ?_
                have hdd : ∀ w', Below wr.heap.size wr.drew w' → Below wr.heap.size wr w' := fun w' h => ⟨h.os, h.tape, h.output, h.size, h.block⟩
                have k0 := fun w' h => cellB c0 hg3' w' (hdd w' h)
                have k1 := fun w' h => cellB c1 hg3' w' (hdd w' h)
                have l0 := fun w' h => cellB e0 hg4' w' (hdd w' h)
                have l1 := fun w' h => cellB e1 hg4' w' (hdd w' h)
                have cv1 : ∀ w', Below wr.heap.size wr.drew w' → (convert 28 9 (.slice V pb.length v)).run Try.prog w' = .ok (.string ⟨pb.toArray⟩) w' := fun w' h => conv_any V v _ pb w' (HRD.out.1.below ((hdd w' h).mono hszw))
                have cv2 : ∀ w', Below wr.heap.size wr.drew w' → (convert 28 9 (.slice V2 pb2.length v2)).run Try.prog w' = .ok (.string ⟨pb2.toArray⟩) w' := fun w' h => conv_any V2 v2 _ pb2 w' (HRD.out.2.below ((hdd w' h).mono hszw))
                have HXd : Hid (Box wr.drew a 51 #[.int .i64 gen, .int .i64 slot, .bool full, .int .i64 zw, .bool whole, .slice (some ⟨g3, off3, none⟩) ps.length y] ∧ Box wr.drew b 51 #[.int .i64 gen, .int .i64 slot, .bool full, .int .i64 zw, .bool whole, .slice (some ⟨g4, off4, none⟩) ps2.length yc2] ∧ Two c ep sq A st k (some ⟨g, off, none⟩) zs d c ep sq A2 st2 k2 (some ⟨g2, off2, none⟩) zs2 d2 w wr.drew ∧ PrsAt wr.drew (LT w.heap.size) (some ⟨g3, off3, none⟩) ps ∧ PrsAt wr.drew (LT w.heap.size) (some ⟨g4, off4, none⟩) ps2) := ⟨HX.out.1.later (Below.refl _ _).drew, HX.out.2.1.later (Below.refl _ _).drew, HX.out.2.2.1.later (Below.refl _ _).drew, HX.out.2.2.2.1, HX.out.2.2.2.2⟩
                generalize hB3 : wr.heap.size = B3 at *
                generalize wr.drew = w6 at *
                clear hdd HX HRD hB3 c0 c1 e0 e1 hg3' hg4'
                have z0 := Box.at_ (B := B3) HXd.out.1 ha (i := 0) rfl
                have z1 := Box.at_ (B := B3) HXd.out.1 ha (i := 1) rfl
                have z2 := Box.at_ (B := B3) HXd.out.1 ha (i := 2) rfl
                have z3 := Box.at_ (B := B3) HXd.out.1 ha (i := 3) rfl
                have z4 := Box.at_ (B := B3) HXd.out.1 ha (i := 4) rfl
                have z5 := Box.at_ (B := B3) HXd.out.1 ha (i := 5) rfl
                have u0 := Box.at_ (B := B3) HXd.out.2.1 hb (i := 0) rfl
                have u1 := Box.at_ (B := B3) HXd.out.2.1 hb (i := 1) rfl
                have u2 := Box.at_ (B := B3) HXd.out.2.1 hb (i := 2) rfl
                have u3 := Box.at_ (B := B3) HXd.out.2.1 hb (i := 3) rfl
                have u4 := Box.at_ (B := B3) HXd.out.2.1 hb (i := 4) rfl
                have u5 := Box.at_ (B := B3) HXd.out.2.1 hb (i := 5) rfl
                by_cases hw2 : pw = pw2
                case neg =>
                  have hwb : (pw != pw2) = true := by simpa using hw2
                  have HE := Lib.hid (HNP.out (fun h => hw2 (congrArg Pr.w h)))
                  clear hw2
                  refine wpB_take (i := 0) (d := 131) (v := ?v17nx0) rfl rfl (by kernel_rfl) (by kernel_rfl) (by kernel_rfl) (fun _ _ _ h => h) (by rfl) ?y17nx0 ?r17nx0
                  case y17nx0 => (intro w' hSw; go_simp; try (with_reducible rfl))
                  simp only [Act.put, List.setIfInBounds_toArray, List.set_cons_zero, List.set_cons_succ]
                  refine wpB_take (i := 1) (d := 132) (v := ?v17nx1) rfl rfl (by kernel_rfl) (by kernel_rfl) (by kernel_rfl) (fun _ _ _ h => h) (by rfl) ?y17nx1 ?r17nx1
                  case y17nx1 => (intro w' hSw; go_simp; try (with_reducible rfl))
                  simp only [Act.put, List.setIfInBounds_toArray, List.set_cons_zero, List.set_cons_succ]
                  refine wpB_take (i := 2) (d := 133) (v := ?v17nx2) rfl rfl (by kernel_rfl) (by kernel_rfl) (by kernel_rfl) (fun _ _ _ h => h) (by rfl) ?y17nx2 ?r17nx2
                  case y17nx2 => (intro w' hSw; go_simp; try (with_reducible rfl))
                  simp only [Act.put, List.setIfInBounds_toArray, List.set_cons_zero, List.set_cons_succ]
                  refine wpB_take (i := 3) (d := 134) (v := ?v17nx3) rfl rfl (by kernel_rfl) (by kernel_rfl) (by kernel_rfl) (fun _ _ _ h => h) (by rfl) ?y17nx3 ?r17nx3
                  case y17nx3 => (intro w' hSw; go_simp; try (with_reducible rfl))
                  simp only [Act.put, List.setIfInBounds_toArray, List.set_cons_zero, List.set_cons_succ]
                  refine wpB_take (i := 4) (d := 135) (v := ?v17nx4) rfl rfl (by kernel_rfl) (by kernel_rfl) (by kernel_rfl) (fun _ _ _ h => h) (by rfl) ?y17nx4 ?r17nx4
                  case y17nx4 => (intro w' hSw; go_simp; try (with_reducible rfl))
                  simp only [Act.put, List.setIfInBounds_toArray, List.set_cons_zero, List.set_cons_succ]
                  refine wpB_take (i := 5) (d := 136) (v := ?v17nx5) rfl rfl (by kernel_rfl) (by kernel_rfl) (by kernel_rfl) (fun _ _ _ h => h) (by rfl) ?y17nx5 ?r17nx5
                  case y17nx5 => (intro w' hSw; go_simp; try (with_reducible rfl))
                  simp only [Act.put, List.setIfInBounds_toArray, List.set_cons_zero, List.set_cons_succ]
                  refine wpB_take (i := 6) (d := 137) (v := ?v17nx6) rfl rfl (by kernel_rfl) (by kernel_rfl) (by kernel_rfl) (fun _ _ _ h => h) (by rfl) ?y17nx6 ?r17nx6
                  case y17nx6 => (intro w' hSw; go_simp; try (with_reducible rfl))
                  simp only [Act.put, List.setIfInBounds_toArray, List.set_cons_zero, List.set_cons_succ]
                  refine wpB_take (i := 7) (d := 138) (v := ?v17nx7) rfl rfl (by kernel_rfl) (by kernel_rfl) (by kernel_rfl) (fun _ _ _ h => h) (by rfl) ?y17nx7 ?r17nx7
                  case y17nx7 => (intro w' hSw; go_simp; try (with_reducible rfl))
                  simp only [Act.put, List.setIfInBounds_toArray, List.set_cons_zero, List.set_cons_succ]
                  refine wpB_take (i := 8) (d := 139) (v := ?v17nx8) rfl rfl (by kernel_rfl) (by kernel_rfl) (by kernel_rfl) (fun _ _ _ h => h) (by rfl) ?y17nx8 ?r17nx8
                  case y17nx8 => (intro w' hSw; go_simp; try (with_reducible rfl))
                  simp only [Act.put, List.setIfInBounds_toArray, List.set_cons_zero, List.set_cons_succ]
                  refine wpB_take (i := 9) (d := 140) (v := ?v17nx9) rfl rfl (by kernel_rfl) (by kernel_rfl) (by kernel_rfl) (fun _ _ _ h => h) (by rfl) ?y17nx9 ?r17nx9
                  case y17nx9 => (intro w' hSw; go_simp; try (with_reducible rfl))
                  simp only [Act.put, List.setIfInBounds_toArray, List.set_cons_zero, List.set_cons_succ]
                  refine wpB_take (i := 10) (d := 141) (v := ?v17nx10) rfl rfl (by kernel_rfl) (by kernel_rfl) (by kernel_rfl) (fun _ _ _ h => h) (by rfl) ?y17nx10 ?r17nx10
                  case y17nx10 => (intro w' hSw; go_simp; try (with_reducible rfl))
                  simp only [Act.put, List.setIfInBounds_toArray, List.set_cons_zero, List.set_cons_succ]
                  refine wpB_take (i := 11) (d := 142) (v := ?v17nx11) rfl rfl (by kernel_rfl) (by kernel_rfl) (by kernel_rfl) (fun _ _ _ h => h) (by rfl) ?y17nx11 ?r17nx11
                  case y17nx11 => (intro w' hSw; go_simp; try (with_reducible rfl))
                  simp only [Act.put, List.setIfInBounds_toArray, List.set_cons_zero, List.set_cons_succ]
                  refine wpB_take (i := 12) (d := 143) (v := ?v17nx12) rfl rfl (by kernel_rfl) (by kernel_rfl) (by kernel_rfl) (fun _ _ _ h => h) (by rfl) ?y17nx12 ?r17nx12
                  case y17nx12 => (intro w' hSw; go_simp; try (with_reducible rfl))
                  simp only [Act.put, List.setIfInBounds_toArray, List.set_cons_zero, List.set_cons_succ]
                  refine wpB_take (i := 13) (d := 144) (v := ?v17nx13) rfl rfl (by kernel_rfl) (by kernel_rfl) (by kernel_rfl) (fun _ _ _ h => h) (by rfl) ?y17nx13 ?r17nx13
                  case y17nx13 => (intro w' hSw; go_simp; try (with_reducible rfl))
                  simp only [Act.put, List.setIfInBounds_toArray, List.set_cons_zero, List.set_cons_succ]
                  refine wpB_skip (i := 14) (d := 145) rfl rfl (by kernel_rfl) (by kernel_rfl) (by kernel_rfl) (fun _ _ _ h => h) (by rfl) ?_
                  simp only [Act.put, List.setIfInBounds_toArray, List.set_cons_zero, List.set_cons_succ]
                  refine wpB_skip (i := 15) (d := 146) rfl rfl (by kernel_rfl) (by kernel_rfl) (by kernel_rfl) (fun _ _ _ h => h) (by rfl) ?_
                  simp only [Act.put, List.setIfInBounds_toArray, List.set_cons_zero, List.set_cons_succ]
                  refine wpB_skip (i := 16) (d := 147) rfl rfl (by kernel_rfl) (by kernel_rfl) (by kernel_rfl) (fun _ _ _ h => h) (by rfl) ?_
                  simp only [Act.put, List.setIfInBounds_toArray, List.set_cons_zero, List.set_cons_succ]
                  refine wpB_skip (i := 17) (d := 148) rfl rfl (by kernel_rfl) (by kernel_rfl) (by kernel_rfl) (fun _ _ _ h => h) (by rfl) ?_
                  simp only [Act.put, List.setIfInBounds_toArray, List.set_cons_zero, List.set_cons_succ]
                  refine wpB_skip (i := 18) (d := 149) rfl rfl (by kernel_rfl) (by kernel_rfl) (by kernel_rfl) (fun _ _ _ h => h) (by rfl) ?_
                  simp only [Act.put, List.setIfInBounds_toArray, List.set_cons_zero, List.set_cons_succ]
                  refine wpB_skip (i := 19) (d := 150) rfl rfl (by kernel_rfl) (by kernel_rfl) (by kernel_rfl) (fun _ _ _ h => h) (by rfl) ?_
                  simp only [Act.put, List.setIfInBounds_toArray, List.set_cons_zero, List.set_cons_succ]
                  refine wpB_skip (i := 20) (d := 151) rfl rfl (by kernel_rfl) (by kernel_rfl) (by kernel_rfl) (fun _ _ _ h => h) (by rfl) ?_
                  simp only [Act.put, List.setIfInBounds_toArray, List.set_cons_zero, List.set_cons_succ]
                  refine wpB_skip (i := 21) (d := 152) rfl rfl (by kernel_rfl) (by kernel_rfl) (by kernel_rfl) (fun _ _ _ h => h) (by rfl) ?_
                  simp only [Act.put, List.setIfInBounds_toArray, List.set_cons_zero, List.set_cons_succ]
                  refine wpB_skip (i := 22) (d := 153) rfl rfl (by kernel_rfl) (by kernel_rfl) (by kernel_rfl) (fun _ _ _ h => h) (by rfl) ?_
                  simp only [Act.put, List.setIfInBounds_toArray, List.set_cons_zero, List.set_cons_succ]
                  refine wpB_skip (i := 23) (d := 154) rfl rfl (by kernel_rfl) (by kernel_rfl) (by kernel_rfl) (fun _ _ _ h => h) (by rfl) ?_
                  simp only [Act.put, List.setIfInBounds_toArray, List.set_cons_zero, List.set_cons_succ]
                  refine wpB_skip (i := 24) (d := 155) rfl rfl (by kernel_rfl) (by kernel_rfl) (by kernel_rfl) (fun _ _ _ h => h) (by rfl) ?_
                  simp only [Act.put, List.setIfInBounds_toArray, List.set_cons_zero, List.set_cons_succ]
                  refine wpB_skip (i := 25) (d := 156) rfl rfl (by kernel_rfl) (by kernel_rfl) (by kernel_rfl) (fun _ _ _ h => h) (by rfl) ?_
                  simp only [Act.put, List.setIfInBounds_toArray, List.set_cons_zero, List.set_cons_succ]
                  refine wpB_skip (i := 26) (d := 157) rfl rfl (by kernel_rfl) (by kernel_rfl) (by kernel_rfl) (fun _ _ _ h => h) (by rfl) ?_
                  simp only [Act.put, List.setIfInBounds_toArray, List.set_cons_zero, List.set_cons_succ]
                  refine wpB_skip (i := 27) (d := 158) rfl rfl (by kernel_rfl) (by kernel_rfl) (by kernel_rfl) (fun _ _ _ h => h) (by rfl) ?_
                  simp only [Act.put, List.setIfInBounds_toArray, List.set_cons_zero, List.set_cons_succ]
                  refine wpB_skip (i := 28) (d := 159) rfl rfl (by kernel_rfl) (by kernel_rfl) (by kernel_rfl) (fun _ _ _ h => h) (by rfl) ?_
                  simp only [Act.put, List.setIfInBounds_toArray, List.set_cons_zero, List.set_cons_succ]
                  refine wpB_take (i := 29) (d := 160) (v := ?v17nx29) rfl rfl (by kernel_rfl) (by kernel_rfl) (by kernel_rfl) (fun _ _ _ h => h) (by rfl) ?y17nx29 ?r17nx29
                  case y17nx29 => (intro w' hSw; go_simp; try (with_reducible rfl))
                  simp only [Act.put, List.setIfInBounds_toArray, List.set_cons_zero, List.set_cons_succ]
                  refine wpB_done (by kernel_rfl) ?_
                  have HQ := Lib.hid HXd.out.2.2.1.below
                  clear HXd z0 z1 z2 z3 z4 z5 u0 u1 u2 u3 u4 u5 k0 k1 l0 l1 cv1 cv2
                  go_wp2
                  go_ret
                  exact SaysP.no (fun h => HNE.out (fun hz => HE.out (congrArg Zn.ps hz)) (by first | exact congrArg St.zs h | exact h.2)) HQ.out
                have hwb : (pw != pw2) = false := by simp [hw2]
                by_cases hp2 : pb = pb2
                case neg =>
                  have hpb : (pb == pb2) = false := by simpa using hp2
                  have HE := Lib.hid (HNP.out (fun h => hp2 (congrArg Pr.b h)))
                  clear hp2 hw2
                  refine wpB_take (i := 0) (d := 131) (v := ?v17mx0) rfl rfl (by kernel_rfl) (by kernel_rfl) (by kernel_rfl) (fun _ _ _ h => h) (by rfl) ?y17mx0 ?r17mx0
                  case y17mx0 => (intro w' hSw; go_simp; try (with_reducible rfl))
                  simp only [Act.put, List.setIfInBounds_toArray, List.set_cons_zero, List.set_cons_succ]
                  refine wpB_take (i := 1) (d := 132) (v := ?v17mx1) rfl rfl (by kernel_rfl) (by kernel_rfl) (by kernel_rfl) (fun _ _ _ h => h) (by rfl) ?y17mx1 ?r17mx1
                  case y17mx1 => (intro w' hSw; go_simp; try (with_reducible rfl))
                  simp only [Act.put, List.setIfInBounds_toArray, List.set_cons_zero, List.set_cons_succ]
                  refine wpB_take (i := 2) (d := 133) (v := ?v17mx2) rfl rfl (by kernel_rfl) (by kernel_rfl) (by kernel_rfl) (fun _ _ _ h => h) (by rfl) ?y17mx2 ?r17mx2
                  case y17mx2 => (intro w' hSw; go_simp; try (with_reducible rfl))
                  simp only [Act.put, List.setIfInBounds_toArray, List.set_cons_zero, List.set_cons_succ]
                  refine wpB_take (i := 3) (d := 134) (v := ?v17mx3) rfl rfl (by kernel_rfl) (by kernel_rfl) (by kernel_rfl) (fun _ _ _ h => h) (by rfl) ?y17mx3 ?r17mx3
                  case y17mx3 => (intro w' hSw; go_simp; try (with_reducible rfl))
                  simp only [Act.put, List.setIfInBounds_toArray, List.set_cons_zero, List.set_cons_succ]
                  refine wpB_take (i := 4) (d := 135) (v := ?v17mx4) rfl rfl (by kernel_rfl) (by kernel_rfl) (by kernel_rfl) (fun _ _ _ h => h) (by rfl) ?y17mx4 ?r17mx4
                  case y17mx4 => (intro w' hSw; go_simp; try (with_reducible rfl))
                  simp only [Act.put, List.setIfInBounds_toArray, List.set_cons_zero, List.set_cons_succ]
                  refine wpB_take (i := 5) (d := 136) (v := ?v17mx5) rfl rfl (by kernel_rfl) (by kernel_rfl) (by kernel_rfl) (fun _ _ _ h => h) (by rfl) ?y17mx5 ?r17mx5
                  case y17mx5 => (intro w' hSw; go_simp; try (with_reducible rfl))
                  simp only [Act.put, List.setIfInBounds_toArray, List.set_cons_zero, List.set_cons_succ]
                  refine wpB_take (i := 6) (d := 137) (v := ?v17mx6) rfl rfl (by kernel_rfl) (by kernel_rfl) (by kernel_rfl) (fun _ _ _ h => h) (by rfl) ?y17mx6 ?r17mx6
                  case y17mx6 => (intro w' hSw; go_simp; try (with_reducible rfl))
                  simp only [Act.put, List.setIfInBounds_toArray, List.set_cons_zero, List.set_cons_succ]
                  refine wpB_take (i := 7) (d := 138) (v := ?v17mx7) rfl rfl (by kernel_rfl) (by kernel_rfl) (by kernel_rfl) (fun _ _ _ h => h) (by rfl) ?y17mx7 ?r17mx7
                  case y17mx7 => (intro w' hSw; go_simp; try (with_reducible rfl))
                  simp only [Act.put, List.setIfInBounds_toArray, List.set_cons_zero, List.set_cons_succ]
                  refine wpB_take (i := 8) (d := 139) (v := ?v17mx8) rfl rfl (by kernel_rfl) (by kernel_rfl) (by kernel_rfl) (fun _ _ _ h => h) (by rfl) ?y17mx8 ?r17mx8
                  case y17mx8 => (intro w' hSw; go_simp; try (with_reducible rfl))
                  simp only [Act.put, List.setIfInBounds_toArray, List.set_cons_zero, List.set_cons_succ]
                  refine wpB_take (i := 9) (d := 140) (v := ?v17mx9) rfl rfl (by kernel_rfl) (by kernel_rfl) (by kernel_rfl) (fun _ _ _ h => h) (by rfl) ?y17mx9 ?r17mx9
                  case y17mx9 => (intro w' hSw; go_simp; try (with_reducible rfl))
                  simp only [Act.put, List.setIfInBounds_toArray, List.set_cons_zero, List.set_cons_succ]
                  refine wpB_take (i := 10) (d := 141) (v := ?v17mx10) rfl rfl (by kernel_rfl) (by kernel_rfl) (by kernel_rfl) (fun _ _ _ h => h) (by rfl) ?y17mx10 ?r17mx10
                  case y17mx10 => (intro w' hSw; go_simp; try (with_reducible rfl))
                  simp only [Act.put, List.setIfInBounds_toArray, List.set_cons_zero, List.set_cons_succ]
                  refine wpB_take (i := 11) (d := 142) (v := ?v17mx11) rfl rfl (by kernel_rfl) (by kernel_rfl) (by kernel_rfl) (fun _ _ _ h => h) (by rfl) ?y17mx11 ?r17mx11
                  case y17mx11 => (intro w' hSw; go_simp; try (with_reducible rfl))
                  simp only [Act.put, List.setIfInBounds_toArray, List.set_cons_zero, List.set_cons_succ]
                  refine wpB_take (i := 12) (d := 143) (v := ?v17mx12) rfl rfl (by kernel_rfl) (by kernel_rfl) (by kernel_rfl) (fun _ _ _ h => h) (by rfl) ?y17mx12 ?r17mx12
                  case y17mx12 => (intro w' hSw; go_simp; try (with_reducible rfl))
                  simp only [Act.put, List.setIfInBounds_toArray, List.set_cons_zero, List.set_cons_succ]
                  refine wpB_take (i := 13) (d := 144) (v := ?v17mx13) rfl rfl (by kernel_rfl) (by kernel_rfl) (by kernel_rfl) (fun _ _ _ h => h) (by rfl) ?y17mx13 ?r17mx13
                  case y17mx13 => (intro w' hSw; go_simp; try (with_reducible rfl))
                  simp only [Act.put, List.setIfInBounds_toArray, List.set_cons_zero, List.set_cons_succ]
                  refine wpB_take (i := 14) (d := 145) (v := ?v17mx14) rfl rfl (by kernel_rfl) (by kernel_rfl) (by kernel_rfl) (fun _ _ _ h => h) (by rfl) ?y17mx14 ?r17mx14
                  case y17mx14 => (intro w' hSw; go_simp; try (with_reducible rfl))
                  simp only [Act.put, List.setIfInBounds_toArray, List.set_cons_zero, List.set_cons_succ]
                  refine wpB_take (i := 15) (d := 146) (v := ?v17mx15) rfl rfl (by kernel_rfl) (by kernel_rfl) (by kernel_rfl) (fun _ _ _ h => h) (by rfl) ?y17mx15 ?r17mx15
                  case y17mx15 => (intro w' hSw; go_simp; try (with_reducible rfl))
                  simp only [Act.put, List.setIfInBounds_toArray, List.set_cons_zero, List.set_cons_succ]
                  refine wpB_take (i := 16) (d := 147) (v := ?v17mx16) rfl rfl (by kernel_rfl) (by kernel_rfl) (by kernel_rfl) (fun _ _ _ h => h) (by rfl) ?y17mx16 ?r17mx16
                  case y17mx16 => (intro w' hSw; go_simp; try (with_reducible rfl))
                  simp only [Act.put, List.setIfInBounds_toArray, List.set_cons_zero, List.set_cons_succ]
                  refine wpB_take (i := 17) (d := 148) (v := ?v17mx17) rfl rfl (by kernel_rfl) (by kernel_rfl) (by kernel_rfl) (fun _ _ _ h => h) (by rfl) ?y17mx17 ?r17mx17
                  case y17mx17 => (intro w' hSw; go_simp; try (with_reducible rfl))
                  simp only [Act.put, List.setIfInBounds_toArray, List.set_cons_zero, List.set_cons_succ]
                  refine wpB_take (i := 18) (d := 149) (v := ?v17mx18) rfl rfl (by kernel_rfl) (by kernel_rfl) (by kernel_rfl) (fun _ _ _ h => h) (by rfl) ?y17mx18 ?r17mx18
                  case y17mx18 => (intro w' hSw; go_simp; try (with_reducible rfl))
                  simp only [Act.put, List.setIfInBounds_toArray, List.set_cons_zero, List.set_cons_succ]
                  refine wpB_take (i := 19) (d := 150) (v := ?v17mx19) rfl rfl (by kernel_rfl) (by kernel_rfl) (by kernel_rfl) (fun _ _ _ h => h) (by rfl) ?y17mx19 ?r17mx19
                  case y17mx19 => (intro w' hSw; go_simp; try (with_reducible rfl))
                  simp only [Act.put, List.setIfInBounds_toArray, List.set_cons_zero, List.set_cons_succ]
                  refine wpB_take (i := 20) (d := 151) (v := ?v17mx20) rfl rfl (by kernel_rfl) (by kernel_rfl) (by kernel_rfl) (fun _ _ _ h => h) (by rfl) ?y17mx20 ?r17mx20
                  case y17mx20 => (intro w' hSw; go_simp; try (with_reducible rfl))
                  simp only [Act.put, List.setIfInBounds_toArray, List.set_cons_zero, List.set_cons_succ]
                  refine wpB_take (i := 21) (d := 152) (v := ?v17mx21) rfl rfl (by kernel_rfl) (by kernel_rfl) (by kernel_rfl) (fun _ _ _ h => h) (by rfl) ?y17mx21 ?r17mx21
                  case y17mx21 => (intro w' hSw; go_simp; try (with_reducible rfl))
                  simp only [Act.put, List.setIfInBounds_toArray, List.set_cons_zero, List.set_cons_succ]
                  refine wpB_take (i := 22) (d := 153) (v := ?v17mx22) rfl rfl (by kernel_rfl) (by kernel_rfl) (by kernel_rfl) (fun _ _ _ h => h) (by rfl) ?y17mx22 ?r17mx22
                  case y17mx22 => (intro w' hSw; go_simp; try (with_reducible rfl))
                  simp only [Act.put, List.setIfInBounds_toArray, List.set_cons_zero, List.set_cons_succ]
                  refine wpB_take (i := 23) (d := 154) (v := ?v17mx23) rfl rfl (by kernel_rfl) (by kernel_rfl) (by kernel_rfl) (fun _ _ _ h => h) (by rfl) ?y17mx23 ?r17mx23
                  case y17mx23 => (intro w' hSw; go_simp; try (with_reducible rfl))
                  simp only [Act.put, List.setIfInBounds_toArray, List.set_cons_zero, List.set_cons_succ]
                  refine wpB_take (i := 24) (d := 155) (v := ?v17mx24) rfl rfl (by kernel_rfl) (by kernel_rfl) (by kernel_rfl) (fun _ _ _ h => h) (by rfl) ?y17mx24 ?r17mx24
                  case y17mx24 => (intro w' hSw; go_simp; try (with_reducible rfl))
                  simp only [Act.put, List.setIfInBounds_toArray, List.set_cons_zero, List.set_cons_succ]
                  refine wpB_take (i := 25) (d := 156) (v := ?v17mx25) rfl rfl (by kernel_rfl) (by kernel_rfl) (by kernel_rfl) (fun _ _ _ h => h) (by rfl) ?y17mx25 ?r17mx25
                  case y17mx25 => (intro w' hSw; go_simp; try (with_reducible rfl))
                  simp only [Act.put, List.setIfInBounds_toArray, List.set_cons_zero, List.set_cons_succ]
                  refine wpB_take (i := 26) (d := 157) (v := ?v17mx26) rfl rfl (by kernel_rfl) (by kernel_rfl) (by kernel_rfl) (fun _ _ _ h => h) (by rfl) ?y17mx26 ?r17mx26
                  case y17mx26 => (intro w' hSw; go_simp; try (with_reducible rfl))
                  simp only [Act.put, List.setIfInBounds_toArray, List.set_cons_zero, List.set_cons_succ]
                  refine wpB_take (i := 27) (d := 158) (v := ?v17mx27) rfl rfl (by kernel_rfl) (by kernel_rfl) (by kernel_rfl) (fun _ _ _ h => h) (by rfl) ?y17mx27 ?r17mx27
                  case y17mx27 => (intro w' hSw; go_simp; try (with_reducible rfl))
                  simp only [Act.put, List.setIfInBounds_toArray, List.set_cons_zero, List.set_cons_succ]
                  refine wpB_take (i := 28) (d := 159) (v := ?v17mx28) rfl rfl (by kernel_rfl) (by kernel_rfl) (by kernel_rfl) (fun _ _ _ h => h) (by rfl) ?y17mx28 ?r17mx28
                  case y17mx28 => (intro w' hSw; go_simp; try (with_reducible rfl))
                  simp only [Act.put, List.setIfInBounds_toArray, List.set_cons_zero, List.set_cons_succ]
                  refine wpB_take (i := 29) (d := 160) (v := ?v17mx29) rfl rfl (by kernel_rfl) (by kernel_rfl) (by kernel_rfl) (fun _ _ _ h => h) (by rfl) ?y17mx29 ?r17mx29
                  case y17mx29 => (intro w' hSw; go_simp; try (with_reducible rfl))
                  simp only [Act.put, List.setIfInBounds_toArray, List.set_cons_zero, List.set_cons_succ]
                  refine wpB_done (by kernel_rfl) ?_
                  have HQ := Lib.hid HXd.out.2.2.1.below
                  clear HXd z0 z1 z2 z3 z4 z5 u0 u1 u2 u3 u4 u5 k0 k1 l0 l1 cv1 cv2
                  go_wp2
                  go_ret
                  exact SaysP.no (fun h => HNE.out (fun hz => HE.out (congrArg Zn.ps hz)) (by first | exact congrArg St.zs h | exact h.2)) HQ.out
                have HN4 := Lib.hid (HN3.out (by rw [hw2, hp2]))
                have hpb : (pb == pb2) = true := by simp [hp2]
                clear hp2 hw2
                refine wpB_take (i := 0) (d := 131) (v := ?v17kx0) rfl rfl (by kernel_rfl) (by kernel_rfl) (by kernel_rfl) (fun _ _ _ h => h) (by rfl) ?y17kx0 ?r17kx0
                case y17kx0 => (intro w' hSw; go_simp; try (with_reducible rfl))
                simp only [Act.put, List.setIfInBounds_toArray, List.set_cons_zero, List.set_cons_succ]
                refine wpB_take (i := 1) (d := 132) (v := ?v17kx1) rfl rfl (by kernel_rfl) (by kernel_rfl) (by kernel_rfl) (fun _ _ _ h => h) (by rfl) ?y17kx1 ?r17kx1
                case y17kx1 => (intro w' hSw; go_simp; try (with_reducible rfl))
                simp only [Act.put, List.setIfInBounds_toArray, List.set_cons_zero, List.set_cons_succ]
                refine wpB_take (i := 2) (d := 133) (v := ?v17kx2) rfl rfl (by kernel_rfl) (by kernel_rfl) (by kernel_rfl) (fun _ _ _ h => h) (by rfl) ?y17kx2 ?r17kx2
                case y17kx2 => (intro w' hSw; go_simp; try (with_reducible rfl))
                simp only [Act.put, List.setIfInBounds_toArray, List.set_cons_zero, List.set_cons_succ]
                refine wpB_take (i := 3) (d := 134) (v := ?v17kx3) rfl rfl (by kernel_rfl) (by kernel_rfl) (by kernel_rfl) (fun _ _ _ h => h) (by rfl) ?y17kx3 ?r17kx3
                case y17kx3 => (intro w' hSw; go_simp; try (with_reducible rfl))
                simp only [Act.put, List.setIfInBounds_toArray, List.set_cons_zero, List.set_cons_succ]
                refine wpB_take (i := 4) (d := 135) (v := ?v17kx4) rfl rfl (by kernel_rfl) (by kernel_rfl) (by kernel_rfl) (fun _ _ _ h => h) (by rfl) ?y17kx4 ?r17kx4
                case y17kx4 => (intro w' hSw; go_simp; try (with_reducible rfl))
                simp only [Act.put, List.setIfInBounds_toArray, List.set_cons_zero, List.set_cons_succ]
                refine wpB_take (i := 5) (d := 136) (v := ?v17kx5) rfl rfl (by kernel_rfl) (by kernel_rfl) (by kernel_rfl) (fun _ _ _ h => h) (by rfl) ?y17kx5 ?r17kx5
                case y17kx5 => (intro w' hSw; go_simp; try (with_reducible rfl))
                simp only [Act.put, List.setIfInBounds_toArray, List.set_cons_zero, List.set_cons_succ]
                refine wpB_take (i := 6) (d := 137) (v := ?v17kx6) rfl rfl (by kernel_rfl) (by kernel_rfl) (by kernel_rfl) (fun _ _ _ h => h) (by rfl) ?y17kx6 ?r17kx6
                case y17kx6 => (intro w' hSw; go_simp; try (with_reducible rfl))
                simp only [Act.put, List.setIfInBounds_toArray, List.set_cons_zero, List.set_cons_succ]
                refine wpB_take (i := 7) (d := 138) (v := ?v17kx7) rfl rfl (by kernel_rfl) (by kernel_rfl) (by kernel_rfl) (fun _ _ _ h => h) (by rfl) ?y17kx7 ?r17kx7
                case y17kx7 => (intro w' hSw; go_simp; try (with_reducible rfl))
                simp only [Act.put, List.setIfInBounds_toArray, List.set_cons_zero, List.set_cons_succ]
                refine wpB_take (i := 8) (d := 139) (v := ?v17kx8) rfl rfl (by kernel_rfl) (by kernel_rfl) (by kernel_rfl) (fun _ _ _ h => h) (by rfl) ?y17kx8 ?r17kx8
                case y17kx8 => (intro w' hSw; go_simp; try (with_reducible rfl))
                simp only [Act.put, List.setIfInBounds_toArray, List.set_cons_zero, List.set_cons_succ]
                refine wpB_take (i := 9) (d := 140) (v := ?v17kx9) rfl rfl (by kernel_rfl) (by kernel_rfl) (by kernel_rfl) (fun _ _ _ h => h) (by rfl) ?y17kx9 ?r17kx9
                case y17kx9 => (intro w' hSw; go_simp; try (with_reducible rfl))
                simp only [Act.put, List.setIfInBounds_toArray, List.set_cons_zero, List.set_cons_succ]
                refine wpB_take (i := 10) (d := 141) (v := ?v17kx10) rfl rfl (by kernel_rfl) (by kernel_rfl) (by kernel_rfl) (fun _ _ _ h => h) (by rfl) ?y17kx10 ?r17kx10
                case y17kx10 => (intro w' hSw; go_simp; try (with_reducible rfl))
                simp only [Act.put, List.setIfInBounds_toArray, List.set_cons_zero, List.set_cons_succ]
                refine wpB_take (i := 11) (d := 142) (v := ?v17kx11) rfl rfl (by kernel_rfl) (by kernel_rfl) (by kernel_rfl) (fun _ _ _ h => h) (by rfl) ?y17kx11 ?r17kx11
                case y17kx11 => (intro w' hSw; go_simp; try (with_reducible rfl))
                simp only [Act.put, List.setIfInBounds_toArray, List.set_cons_zero, List.set_cons_succ]
                refine wpB_take (i := 12) (d := 143) (v := ?v17kx12) rfl rfl (by kernel_rfl) (by kernel_rfl) (by kernel_rfl) (fun _ _ _ h => h) (by rfl) ?y17kx12 ?r17kx12
                case y17kx12 => (intro w' hSw; go_simp; try (with_reducible rfl))
                simp only [Act.put, List.setIfInBounds_toArray, List.set_cons_zero, List.set_cons_succ]
                refine wpB_take (i := 13) (d := 144) (v := ?v17kx13) rfl rfl (by kernel_rfl) (by kernel_rfl) (by kernel_rfl) (fun _ _ _ h => h) (by rfl) ?y17kx13 ?r17kx13
                case y17kx13 => (intro w' hSw; go_simp; try (with_reducible rfl))
                simp only [Act.put, List.setIfInBounds_toArray, List.set_cons_zero, List.set_cons_succ]
                refine wpB_take (i := 14) (d := 145) (v := ?v17kx14) rfl rfl (by kernel_rfl) (by kernel_rfl) (by kernel_rfl) (fun _ _ _ h => h) (by rfl) ?y17kx14 ?r17kx14
                case y17kx14 => (intro w' hSw; go_simp; try (with_reducible rfl))
                simp only [Act.put, List.setIfInBounds_toArray, List.set_cons_zero, List.set_cons_succ]
                refine wpB_take (i := 15) (d := 146) (v := ?v17kx15) rfl rfl (by kernel_rfl) (by kernel_rfl) (by kernel_rfl) (fun _ _ _ h => h) (by rfl) ?y17kx15 ?r17kx15
                case y17kx15 => (intro w' hSw; go_simp; try (with_reducible rfl))
                simp only [Act.put, List.setIfInBounds_toArray, List.set_cons_zero, List.set_cons_succ]
                refine wpB_take (i := 16) (d := 147) (v := ?v17kx16) rfl rfl (by kernel_rfl) (by kernel_rfl) (by kernel_rfl) (fun _ _ _ h => h) (by rfl) ?y17kx16 ?r17kx16
                case y17kx16 => (intro w' hSw; go_simp; try (with_reducible rfl))
                simp only [Act.put, List.setIfInBounds_toArray, List.set_cons_zero, List.set_cons_succ]
                refine wpB_take (i := 17) (d := 148) (v := ?v17kx17) rfl rfl (by kernel_rfl) (by kernel_rfl) (by kernel_rfl) (fun _ _ _ h => h) (by rfl) ?y17kx17 ?r17kx17
                case y17kx17 => (intro w' hSw; go_simp; try (with_reducible rfl))
                simp only [Act.put, List.setIfInBounds_toArray, List.set_cons_zero, List.set_cons_succ]
                refine wpB_take (i := 18) (d := 149) (v := ?v17kx18) rfl rfl (by kernel_rfl) (by kernel_rfl) (by kernel_rfl) (fun _ _ _ h => h) (by rfl) ?y17kx18 ?r17kx18
                case y17kx18 => (intro w' hSw; go_simp; try (with_reducible rfl))
                simp only [Act.put, List.setIfInBounds_toArray, List.set_cons_zero, List.set_cons_succ]
                refine wpB_take (i := 19) (d := 150) (v := ?v17kx19) rfl rfl (by kernel_rfl) (by kernel_rfl) (by kernel_rfl) (fun _ _ _ h => h) (by rfl) ?y17kx19 ?r17kx19
                case y17kx19 => (intro w' hSw; go_simp; try (with_reducible rfl))
                simp only [Act.put, List.setIfInBounds_toArray, List.set_cons_zero, List.set_cons_succ]
                refine wpB_take (i := 20) (d := 151) (v := ?v17kx20) rfl rfl (by kernel_rfl) (by kernel_rfl) (by kernel_rfl) (fun _ _ _ h => h) (by rfl) ?y17kx20 ?r17kx20
                case y17kx20 => (intro w' hSw; go_simp; try (with_reducible rfl))
                simp only [Act.put, List.setIfInBounds_toArray, List.set_cons_zero, List.set_cons_succ]
                refine wpB_take (i := 21) (d := 152) (v := ?v17kx21) rfl rfl (by kernel_rfl) (by kernel_rfl) (by kernel_rfl) (fun _ _ _ h => h) (by rfl) ?y17kx21 ?r17kx21
                case y17kx21 => (intro w' hSw; go_simp; try (with_reducible rfl))
                simp only [Act.put, List.setIfInBounds_toArray, List.set_cons_zero, List.set_cons_succ]
                refine wpB_take (i := 22) (d := 153) (v := ?v17kx22) rfl rfl (by kernel_rfl) (by kernel_rfl) (by kernel_rfl) (fun _ _ _ h => h) (by rfl) ?y17kx22 ?r17kx22
                case y17kx22 => (intro w' hSw; go_simp; try (with_reducible rfl))
                simp only [Act.put, List.setIfInBounds_toArray, List.set_cons_zero, List.set_cons_succ]
                refine wpB_take (i := 23) (d := 154) (v := ?v17kx23) rfl rfl (by kernel_rfl) (by kernel_rfl) (by kernel_rfl) (fun _ _ _ h => h) (by rfl) ?y17kx23 ?r17kx23
                case y17kx23 => (intro w' hSw; go_simp; try (with_reducible rfl))
                simp only [Act.put, List.setIfInBounds_toArray, List.set_cons_zero, List.set_cons_succ]
                refine wpB_take (i := 24) (d := 155) (v := ?v17kx24) rfl rfl (by kernel_rfl) (by kernel_rfl) (by kernel_rfl) (fun _ _ _ h => h) (by rfl) ?y17kx24 ?r17kx24
                case y17kx24 => (intro w' hSw; go_simp; try (with_reducible rfl))
                simp only [Act.put, List.setIfInBounds_toArray, List.set_cons_zero, List.set_cons_succ]
                refine wpB_take (i := 25) (d := 156) (v := ?v17kx25) rfl rfl (by kernel_rfl) (by kernel_rfl) (by kernel_rfl) (fun _ _ _ h => h) (by rfl) ?y17kx25 ?r17kx25
                case y17kx25 => (intro w' hSw; go_simp; try (with_reducible rfl))
                simp only [Act.put, List.setIfInBounds_toArray, List.set_cons_zero, List.set_cons_succ]
                refine wpB_take (i := 26) (d := 157) (v := ?v17kx26) rfl rfl (by kernel_rfl) (by kernel_rfl) (by kernel_rfl) (fun _ _ _ h => h) (by rfl) ?y17kx26 ?r17kx26
                case y17kx26 => (intro w' hSw; go_simp; try (with_reducible rfl))
                simp only [Act.put, List.setIfInBounds_toArray, List.set_cons_zero, List.set_cons_succ]
                refine wpB_take (i := 27) (d := 158) (v := ?v17kx27) rfl rfl (by kernel_rfl) (by kernel_rfl) (by kernel_rfl) (fun _ _ _ h => h) (by rfl) ?y17kx27 ?r17kx27
                case y17kx27 => (intro w' hSw; go_simp; try (with_reducible rfl))
                simp only [Act.put, List.setIfInBounds_toArray, List.set_cons_zero, List.set_cons_succ]
                refine wpB_take (i := 28) (d := 159) (v := ?v17kx28) rfl rfl (by kernel_rfl) (by kernel_rfl) (by kernel_rfl) (fun _ _ _ h => h) (by rfl) ?y17kx28 ?r17kx28
                case y17kx28 => (intro w' hSw; go_simp; try (with_reducible rfl))
                simp only [Act.put, List.setIfInBounds_toArray, List.set_cons_zero, List.set_cons_succ]
                refine wpB_take (i := 29) (d := 160) (v := ?v17kx29) rfl rfl (by kernel_rfl) (by kernel_rfl) (by kernel_rfl) (fun _ _ _ h => h) (by rfl) ?y17kx29 ?r17kx29
                case y17kx29 => (intro w' hSw; go_simp; try (with_reducible rfl))
                simp only [Act.put, List.setIfInBounds_toArray, List.set_cons_zero, List.set_cons_succ]
                refine wpB_done (by kernel_rfl) ?_
                clear z0 z1 z2 z3 z4 z5 u0 u1 u2 u3 u4 u5 k0 k1 l0 l1 cv1 cv2
                go_wp2
                go_roundw
                case rel => exact ⟨m + 1, by omega, by go_num, HN4.out, HXd.out⟩
                case measure => simp [intOf]; omega
              · obtain rfl : m = ps.length := by omega
                have HPP : Hid (ps = ps2) := List.ext_getElem HPL.out (fun j hj hj2 => HALL.out j hj hj2 hj)
                have HNZ := Lib.hid (HN.out (by rw [HPP.out]))
                obtain ⟨z0, z1, z2, z3, z4, z5⟩ := box6 HX.out.1
                have HQ := Lib.hid HX.out.2.2.1
                clear HX
                go_wp2
                go_roundw
                case rel => exact ⟨q + 1, by omega, by go_num, HNZ.out, HQ.out⟩
                case measure => simp [intOf]; omega
        · obtain rfl : q = zs.length := by omega
          have HZZ : Hid (zs = zs2) := List.ext_getElem HLN.out.2 (fun j hj hj2 => HALL.out j hj hj2 hj)
          have HQ := Lib.hid HT.out.below
          go_wp2
          go_ret
          exact SaysP.yes (by rw [HST.out, HZZ.out]) HQ.out
end Go.Proofs.Ytaceaemombnhkaa
