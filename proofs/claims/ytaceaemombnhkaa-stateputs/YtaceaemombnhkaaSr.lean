/- The contracts of slices.Equal of ints, Same. -/
import Derived.Test.YtaceaemombnhkaaSq
namespace Go.Proofs.Ytaceaemombnhkaa
set_option linter.unusedVariables false
set_option maxRecDepth 100000
set_option linter.unusedSimpArgs false
open Go.RowKit
open Go.RowKit (wrap64)

set_option maxHeartbeats 4000000 in
theorem equalIs_any (A A2 : Option Addr) (st st2 : List Int) (k k2 : Nat) (w : World) (h1 : IntsAt w (LT w.heap.size) A st) (h2 : IntsAt w (LT w.heap.size) A2 st2) (hl : st.length ≤ 1000000) :
    Calls Try.prog 38 #[.slice A st.length k, .slice A2 st2.length k2] w (SaysP w (st = st2)) := by
  have HP : Hid (∀ w', Below w.heap.size w w' → IntsAt w' (LT w.heap.size) A st ∧ IntsAt w' (LT w.heap.size) A2 st2) := fun w' hb => ⟨h1.keep (Kept.below hb), h2.keep (Kept.below hb)⟩
  clear h1 h2
  go_enter Try.func38, Try.ntmps38
  by_cases hn : (st.length : Int) = (st2.length : Int)
  case neg =>
    have hnb : ((st.length : Int) != (st2.length : Int)) = true := by simpa using hn
    have HE := Lib.hid hn
    clear hn
    go_wp2
    go_ret
    exact SaysP.no (fun h => HE.out (by rw [h])) (Below.refl _ _)
  have hnb : ((st.length : Int) != (st2.length : Int)) = false := by simp [hn]
  have HN : Hid (st.length = st2.length) := by show _ = _; omega
  clear hn
  go_wp2
  clear hnb
  go_loopw [5, 13] (fun _ i wr => ∃ m : Nat, m ≤ st.length ∧ i = .int .i64 m ∧ (∀ j (hj : j < st.length) (hj2 : j < st2.length), j < m → st[j] = st2[j]) ∧ Below w.heap.size w wr) (fun _ i _ => st.length - (intOf i).toNat)
  case atStart => exact ⟨0, by omega, rfl, fun j _ _ hj => absurd hj (Nat.not_lt_zero j), Below.refl _ _⟩
  case round =>
    obtain ⟨m, hm, rfl, hall, hb0⟩ := hrel
    have HB := Lib.hid hb0
    have HALL := Lib.hid hall
    clear hall hb0
    by_cases hlm : m < st.length
    · have hlm2 : m < st2.length := by have := HN.out; omega
      obtain ⟨g, off, rfl, hg, hc⟩ := (HP.out wr HB.out).1 (by omega)
      obtain ⟨g2, off2, rfl, hg2, hc2⟩ := (HP.out wr HB.out).2 (by omega)
      have c0 := hc m hlm
      have e0 := hc2 m hlm2
      have HNP : Hid (st[m] ≠ st2[m] → ¬ st = st2) := fun hx h => hx (by simp only [h])
      have HN3 : Hid (st[m] = st2[m] → ∀ j (hj : j < st.length) (hj2 : j < st2.length), j < m + 1 → st[j] = st2[j]) := fun he j hj hj2 hjk => by
        rcases Nat.lt_or_ge j m with h1 | h1
        · exact HALL.out j hj hj2 h1
        · obtain rfl : j = m := by omega
          exact he
      have hln : (m : Int) < (st2.length : Int) := by omega
      clear hc hc2 HALL hg hg2
      generalize st[m] = a at c0 HNP HN3
      generalize st2[m] = b at e0 HNP HN3
      by_cases he : a = b
      · have heb : (a != b) = false := by simp [he]
        have HQ := Lib.hid (HN3.out he)
        clear he
        go_upto_region 6 with fail
        go_quiet (fail)
        have HB4 : Hid (Below w.heap.size w (wr.drewN nq)) := below_drewN HB.out nq
        generalize wr.drewN nq = w5 at HB4 ⊢
        clear HB c0 e0
        go_wp2
        go_roundw
        case rel => exact ⟨m + 1, by omega, by go_num, HQ.out, HB4.out⟩
        case measure => simp [intOf]; omega
      · have heb : (a != b) = true := by simpa using he
        have HQ := Lib.hid (HNP.out he)
        clear he
        go_upto_region 6 with fail
        go_quiet (fail)
        have HB4 : Hid (Below w.heap.size w (wr.drewN nq)) := below_drewN HB.out nq
        generalize wr.drewN nq = w5 at HB4 ⊢
        clear HB c0 e0
        go_wp2
        go_ret
        exact SaysP.no HQ.out HB4.out
    · obtain rfl : m = st.length := by omega
      have HPP : Hid (st = st2) := List.ext_getElem HN.out (fun j hj hj2 => HALL.out j hj hj2 hj)
      go_wp2
      go_ret
      exact SaysP.yes HPP.out HB.out
set_option maxHeartbeats 8000000 in
theorem same_any (c : Cf) (ep sq : Int) (A : Option Addr) (st : List Int) (k : Nat) (D : Option Addr) (zs : List Zn) (d : Nat) (c2 : Cf) (ep2 sq2 : Int) (A2 : Option Addr) (st2 : List Int) (k2 : Nat) (D2 : Option Addr) (zs2 : List Zn) (d2 : Nat) (w : World) (h : StAt w (LT w.heap.size) A st k D zs d) (h2 : StAt w (LT w.heap.size) A2 st2 k2 D2 zs2 d2) (hl1 : st.length ≤ 1000000) (hl2 : zs.length ≤ 1000000) (hl5 : ∀ z ∈ zs, z.ps.length ≤ 1000000) :
    Calls Try.prog 15 #[(.agg #[.int .i64 c.id, .int .i64 c.m, .int .i64 c.u, .int .i64 c.b, .int .i64 c.cp, .int .i64 c.z, .int .i64 c.s, .int .i64 c.mt, .int .i64 c.o, .int .i64 c.a, .int .i64 c.l, .int .i64 ep, .int .i64 sq, .slice A st.length k, .slice D zs.length d]), (.agg #[.int .i64 c2.id, .int .i64 c2.m, .int .i64 c2.u, .int .i64 c2.b, .int .i64 c2.cp, .int .i64 c2.z, .int .i64 c2.s, .int .i64 c2.mt, .int .i64 c2.o, .int .i64 c2.a, .int .i64 c2.l, .int .i64 ep2, .int .i64 sq2, .slice A2 st2.length k2, .slice D2 zs2.length d2])] w (SaysP w ((⟨c, ep, sq, st, zs⟩ : St) = ⟨c2, ep2, sq2, st2, zs2⟩)) := by
  go_enter Try.func15, Try.ntmps15
  go_upto_region 1 with fail
  have HT : Hid (Two c ep sq A st k D zs d c2 ep2 sq2 A2 st2 k2 D2 zs2 d2 w ((w.alloc (.cells #[.int .i64 c.id, .int .i64 c.m, .int .i64 c.u, .int .i64 c.b, .int .i64 c.cp, .int .i64 c.z, .int .i64 c.s, .int .i64 c.mt, .int .i64 c.o, .int .i64 c.a, .int .i64 c.l, .int .i64 ep, .int .i64 sq, .slice A st.length k, .slice D zs.length d] 27)).alloc (.cells #[.int .i64 c2.id, .int .i64 c2.m, .int .i64 c2.u, .int .i64 c2.b, .int .i64 c2.cp, .int .i64 c2.z, .int .i64 c2.s, .int .i64 c2.mt, .int .i64 c2.o, .int .i64 c2.a, .int .i64 c2.l, .int .i64 ep2, .int .i64 sq2, .slice A2 st2.length k2, .slice D2 zs2.length d2] 27))) := by
    obtain ⟨b1, b2, b3, _⟩ := two_boxes' w 27 27 #[.int .i64 c.id, .int .i64 c.m, .int .i64 c.u, .int .i64 c.b, .int .i64 c.cp, .int .i64 c.z, .int .i64 c.s, .int .i64 c.mt, .int .i64 c.o, .int .i64 c.a, .int .i64 c.l, .int .i64 ep, .int .i64 sq, .slice A st.length k, .slice D zs.length d] #[.int .i64 c2.id, .int .i64 c2.m, .int .i64 c2.u, .int .i64 c2.b, .int .i64 c2.cp, .int .i64 c2.z, .int .i64 c2.s, .int .i64 c2.mt, .int .i64 c2.o, .int .i64 c2.a, .int .i64 c2.l, .int .i64 ep2, .int .i64 sq2, .slice A2 st2.length k2, .slice D2 zs2.length d2]
    exact ⟨b1, b2, h.keep (Kept.below b3), h2.keep (Kept.below b3), b3⟩
  generalize ((w.alloc (.cells #[.int .i64 c.id, .int .i64 c.m, .int .i64 c.u, .int .i64 c.b, .int .i64 c.cp, .int .i64 c.z, .int .i64 c.s, .int .i64 c.mt, .int .i64 c.o, .int .i64 c.a, .int .i64 c.l, .int .i64 ep, .int .i64 sq, .slice A st.length k, .slice D zs.length d] 27)).alloc (.cells #[.int .i64 c2.id, .int .i64 c2.m, .int .i64 c2.u, .int .i64 c2.b, .int .i64 c2.cp, .int .i64 c2.z, .int .i64 c2.s, .int .i64 c2.mt, .int .i64 c2.o, .int .i64 c2.a, .int .i64 c2.l, .int .i64 ep2, .int .i64 sq2, .slice A2 st2.length k2, .slice D2 zs2.length d2] 27)) = w0 at HT ⊢
  clear h h2
  obtain ⟨y0, y1, y2, y3, y4, y5, y6, y7, y8, y9, y10, y11, y12, y13, y14⟩ := box15 HT.out.one
  obtain ⟨x0, x1, x2, x3, x4, x5, x6, x7, x8, x9, x10, x11, x12, x13, x14⟩ := box15 HT.out.two
  by_cases hc : c = c2
  case neg =>
    have HC := Lib.hid hc
    clear hc
    go_wp2_with fail
    all_goals first
      | (exfalso; refine HC.out ?_; obtain ⟨⟩ := c; obtain ⟨⟩ := c2; simp_all; done)
      | (go_ret; exact SaysP.no (fun h => HC.out (congrArg St.c h)) HT.out.below)
  subst hc
  by_cases he : ep = ep2
  case neg =>
    have hbb : (ep == ep2) = false := by simpa using he
    have HE := Lib.hid he
    clear he
    go_wp2
    go_ret
    exact SaysP.no (fun h => HE.out (by first | exact congrArg St.ep h | exact h.1)) HT.out.below
  subst he
  by_cases he : sq = sq2
  case neg =>
    have hbb : (sq == sq2) = false := by simpa using he
    have HE := Lib.hid he
    clear he
    go_wp2
    go_ret
    exact SaysP.no (fun h => HE.out (by first | exact congrArg St.sq h | exact h.1)) HT.out.below
  subst he
  go_wp2_with fail
  refine (equalIs_any A A2 st st2 k k2 w0 (HT.out.st1.1.mono (LT.up HT.out.below.size)) (HT.out.st2.1.mono (LT.up HT.out.below.size)) hl1).mono ?_
  rintro e w1 ⟨b, rfl, hb, hbl⟩
  have HT1 := Lib.hid (HT.out.later hbl)
  have HE := Lib.hid hb
  clear hb hbl HT y0 y1 y2 y3 y4 y5 y6 y7 y8 y9 y10 y11 y12 y13 y14 x0 x1 x2 x3 x4 x5 x6 x7 x8 x9 x10 x11 x12 x13 x14
  obtain ⟨y0, y1, y2, y3, y4, y5, y6, y7, y8, y9, y10, y11, y12, y13, y14⟩ := box15 HT1.out.one
  obtain ⟨x0, x1, x2, x3, x4, x5, x6, x7, x8, x9, x10, x11, x12, x13, x14⟩ := box15 HT1.out.two
  cases b with
  | false =>
    have HQ : Hid (¬ st = st2) := fun h => by have := HE.out.2 h; simp at this
    go_wp2
    go_ret
    exact SaysP.no (fun h => HQ.out (by first | exact congrArg St.st h | exact h.1)) HT1.out.below
  | true =>
    have HQ := Lib.hid (HE.out.1 rfl)
    go_wp2_with fail
    refine (equalZs_any D D2 zs zs2 d d2 w1 (HT1.out.st1.2.1.mono (LT.up HT1.out.below.size)) (HT1.out.st2.2.1.mono (LT.up HT1.out.below.size)) hl2 hl5).mono ?_
    rintro e w2 ⟨b, rfl, hb, hbl⟩
    have HB := Lib.hid (HT1.out.below.trans (hbl.mono HT1.out.below.size))
    have HE2 := Lib.hid hb
    clear hb hbl HT1 y0 y1 y2 y3 y4 y5 y6 y7 y8 y9 y10 y11 y12 y13 y14 x0 x1 x2 x3 x4 x5 x6 x7 x8 x9 x10 x11 x12 x13 x14
    go_wp2
    go_ret
    exact ⟨b, rfl, HE2.out.trans ⟨fun h => by rw [HQ.out, h], fun h => congrArg St.zs h⟩, HB.out⟩
end Go.Proofs.Ytaceaemombnhkaa
