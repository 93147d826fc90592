/- The contract of the reference's Put. -/
import Derived.Test.YtmebbggmdfejkaaRf
import Derived.Deep.DeepCutAuto
import Derived.BigQuiet
namespace Go.Proofs.Ytmebbggmdfejkaa
set_option linter.unusedVariables false
set_option linter.unusedSimpArgs false
open Go.RowKit
open Go.RowKit (wrap64)

theorem own_off {w : World} {base k : Nat} {v : Value} {l : List UInt8} {t : TypeId} {cs : Array Value} (h : Own w base 5 v l) (hb : Box w k t cs) (hne : t ≠ 5) : some k ≠ v.ownBlock := by
  rcases h.2 with ⟨rfl, _⟩ | ⟨g, cap, cur, rfl, _, hh, _⟩
  · simp [Value.ownBlock]
  · simp only [Value.ownBlock]
    intro e
    injection e with e
    subst e
    have hx := hb.symm.trans hh
    simp at hx
    exact hne hx.2
theorem Box.grown {w w' : World} {k : Nat} {t : TypeId} {cs : Array Value} {row : Option Nat} (hb : Box w k t cs) (hg : w.grownBy w' row) (hn : some k ≠ row) : Box w' k t cs := (hg.block k hb.lt hn).trans hb
theorem own_below {w w' : World} {base : Nat} {v : Value} {l : List UInt8} (h : Own w base 5 v l) (hg : w.grownBy w' v.ownBlock) (hb : base ≤ w.heap.size) : Below base w w' :=
  (Below.refl _ _).grown hg hb (fun g hg' => (World.ownsRow.lt h g hg').1)
/-- The reference's row of bytes beside the record and its list. -/
def RowR (w : World) (n : Nat → Int) (v : Value) (q : Nat) (b : Value) (l : List UInt8) (wr : World) : Prop := Own wr w.heap.size 5 b l ∧ RecAt wr w.heap.size n v ∧ LstAt wr q n ∧ Below w.heap.size w wr
theorem RowR.later {w wr w2 : World} {n : Nat → Int} {v b : Value} {q : Nat} {l : List UInt8} (h : RowR w n v q b l wr) (hb : Below wr.heap.size wr w2) : RowR w n v q b l w2 :=
  ⟨h.1.later hb, h.2.1.later hb, h.2.2.1.later hb, h.2.2.2.trans (hb.mono h.2.2.2.size)⟩
theorem RowR.grown {w wr w2 : World} {n : Nat → Int} {v b b2 : Value} {q : Nat} {l l2 : List UInt8} (h : RowR w n v q b l wr) (hg : wr.grownBy w2 b.ownBlock) (ho : Own w2 w.heap.size 5 b2 l2) : RowR w n v q b2 l2 w2 :=
  ⟨ho, Box.grown h.2.1 hg (own_off h.1 h.2.1 (by decide)), Box.grown h.2.2.1 hg (own_off h.1 h.2.2.1 (by decide)), h.2.2.2.trans (own_below h.1 hg h.2.2.2.size)⟩
set_option maxRecDepth 100000 in
set_option maxHeartbeats 2000000 in
theorem rput_no1 (n : Nat → Int) (A : Option Addr) (c : Nat) (l : List UInt8) (bl : Int) (w : World) (hl : Rd w w.heap.size A l) (hm1 : l.length ≤ maxLen) (hr : rightB n l.length = false) : Calls Try.prog 12 #[.agg #[.int .i64 (n 0), .int .i64 (n 1), .int .i64 (n 2), .int .i64 (n 3), .int .i64 (n 4), .int .i64 (n 5), .int .i64 (n 6), .int .i64 (n 7), .int .i64 (n 8), .slice A l.length c], .int .i64 bl] w (GaveB w []) := by
  go_enter Try.func12, Try.ntmps12
  go_wp2_with fail
  have HA : Hid (∀ w', Below w.heap.size w w' → Rd w' w.heap.size A l) := fun w' h => hl.below h
  clear hl
  have HV0 : Hid (RecAt (w.alloc (.cells #[.int .i64 (n 0), .int .i64 (n 1), .int .i64 (n 2), .int .i64 (n 3), .int .i64 (n 4), .int .i64 (n 5), .int .i64 (n 6), .int .i64 (n 7), .int .i64 (n 8), .slice A l.length c] 24)) w.heap.size n (.slice A l.length c) ∧ Below w.heap.size w (w.alloc (.cells #[.int .i64 (n 0), .int .i64 (n 1), .int .i64 (n 2), .int .i64 (n 3), .int .i64 (n 4), .int .i64 (n 5), .int .i64 (n 6), .int .i64 (n 7), .int .i64 (n 8), .slice A l.length c] 24))) := ⟨Box.fresh w 24 _, (Below.refl _ _).alloc (Nat.le_refl _) _⟩
  generalize (w.alloc (.cells #[.int .i64 (n 0), .int .i64 (n 1), .int .i64 (n 2), .int .i64 (n 3), .int .i64 (n 4), .int .i64 (n 5), .int .i64 (n 6), .int .i64 (n 7), .int .i64 (n 8), .slice A l.length c] 24)) = w0 at HV0 ⊢
  obtain ⟨y0, y1, y2, y3, y4, y5, y6, y7, y8, y9⟩ := box10 HV0.out.1
  refine (rright_any n A l.length c w0 hm1).mono ?_
  rintro e w1 ⟨rfl, hb⟩
  have HV1 : Hid (RecAt w1 w.heap.size n (.slice A l.length c) ∧ Below w.heap.size w w1) := ⟨HV0.out.1.later hb, HV0.out.2.trans (hb.mono HV0.out.2.size)⟩
  clear hb HV0
  clear y0 y1 y2 y3 y4 y5 y6 y7 y8 y9
  rw [hr]
  clear hr hm1
  go_wp2
  go_ret
  exact ⟨none, 0, rfl, Rd.nil, Nat.le_refl _, HV1.out.2⟩
set_option maxRecDepth 100000 in
set_option maxHeartbeats 2000000 in
theorem rput_no2 (n : Nat → Int) (A : Option Addr) (c : Nat) (l : List UInt8) (bl : Int) (w : World) (hl : Rd w w.heap.size A l) (hm1 : l.length ≤ maxLen) (hr : rightB n l.length = true) (hm : bl < 1) : Calls Try.prog 12 #[.agg #[.int .i64 (n 0), .int .i64 (n 1), .int .i64 (n 2), .int .i64 (n 3), .int .i64 (n 4), .int .i64 (n 5), .int .i64 (n 6), .int .i64 (n 7), .int .i64 (n 8), .slice A l.length c], .int .i64 bl] w (GaveB w []) := by
  go_enter Try.func12, Try.ntmps12
  go_wp2_with fail
  have HA : Hid (∀ w', Below w.heap.size w w' → Rd w' w.heap.size A l) := fun w' h => hl.below h
  clear hl
  have HV0 : Hid (RecAt (w.alloc (.cells #[.int .i64 (n 0), .int .i64 (n 1), .int .i64 (n 2), .int .i64 (n 3), .int .i64 (n 4), .int .i64 (n 5), .int .i64 (n 6), .int .i64 (n 7), .int .i64 (n 8), .slice A l.length c] 24)) w.heap.size n (.slice A l.length c) ∧ Below w.heap.size w (w.alloc (.cells #[.int .i64 (n 0), .int .i64 (n 1), .int .i64 (n 2), .int .i64 (n 3), .int .i64 (n 4), .int .i64 (n 5), .int .i64 (n 6), .int .i64 (n 7), .int .i64 (n 8), .slice A l.length c] 24))) := ⟨Box.fresh w 24 _, (Below.refl _ _).alloc (Nat.le_refl _) _⟩
  generalize (w.alloc (.cells #[.int .i64 (n 0), .int .i64 (n 1), .int .i64 (n 2), .int .i64 (n 3), .int .i64 (n 4), .int .i64 (n 5), .int .i64 (n 6), .int .i64 (n 7), .int .i64 (n 8), .slice A l.length c] 24)) = w0 at HV0 ⊢
  obtain ⟨y0, y1, y2, y3, y4, y5, y6, y7, y8, y9⟩ := box10 HV0.out.1
  refine (rright_any n A l.length c w0 hm1).mono ?_
  rintro e w1 ⟨rfl, hb⟩
  have HV1 : Hid (RecAt w1 w.heap.size n (.slice A l.length c) ∧ Below w.heap.size w w1) := ⟨HV0.out.1.later hb, HV0.out.2.trans (hb.mono HV0.out.2.size)⟩
  clear hb HV0
  clear y0 y1 y2 y3 y4 y5 y6 y7 y8 y9
  rw [hr]
  clear hr hm1
  go_wp2
  go_ret
  exact ⟨none, 0, rfl, Rd.nil, Nat.le_refl _, HV1.out.2⟩
set_option maxRecDepth 100000 in
set_option maxHeartbeats 2000000 in
theorem rput_no3 (n : Nat → Int) (A : Option Addr) (c : Nat) (l : List UInt8) (bl : Int) (w : World) (hl : Rd w w.heap.size A l) (hm1 : l.length ≤ maxLen) (hr : rightB n l.length = true) (hm : ¬ bl < 1) (hm2 : 4096 < bl) : Calls Try.prog 12 #[.agg #[.int .i64 (n 0), .int .i64 (n 1), .int .i64 (n 2), .int .i64 (n 3), .int .i64 (n 4), .int .i64 (n 5), .int .i64 (n 6), .int .i64 (n 7), .int .i64 (n 8), .slice A l.length c], .int .i64 bl] w (GaveB w []) := by
  go_enter Try.func12, Try.ntmps12
  go_wp2_with fail
  have HA : Hid (∀ w', Below w.heap.size w w' → Rd w' w.heap.size A l) := fun w' h => hl.below h
  clear hl
  have HV0 : Hid (RecAt (w.alloc (.cells #[.int .i64 (n 0), .int .i64 (n 1), .int .i64 (n 2), .int .i64 (n 3), .int .i64 (n 4), .int .i64 (n 5), .int .i64 (n 6), .int .i64 (n 7), .int .i64 (n 8), .slice A l.length c] 24)) w.heap.size n (.slice A l.length c) ∧ Below w.heap.size w (w.alloc (.cells #[.int .i64 (n 0), .int .i64 (n 1), .int .i64 (n 2), .int .i64 (n 3), .int .i64 (n 4), .int .i64 (n 5), .int .i64 (n 6), .int .i64 (n 7), .int .i64 (n 8), .slice A l.length c] 24))) := ⟨Box.fresh w 24 _, (Below.refl _ _).alloc (Nat.le_refl _) _⟩
  generalize (w.alloc (.cells #[.int .i64 (n 0), .int .i64 (n 1), .int .i64 (n 2), .int .i64 (n 3), .int .i64 (n 4), .int .i64 (n 5), .int .i64 (n 6), .int .i64 (n 7), .int .i64 (n 8), .slice A l.length c] 24)) = w0 at HV0 ⊢
  obtain ⟨y0, y1, y2, y3, y4, y5, y6, y7, y8, y9⟩ := box10 HV0.out.1
  refine (rright_any n A l.length c w0 hm1).mono ?_
  rintro e w1 ⟨rfl, hb⟩
  have HV1 : Hid (RecAt w1 w.heap.size n (.slice A l.length c) ∧ Below w.heap.size w w1) := ⟨HV0.out.1.later hb, HV0.out.2.trans (hb.mono HV0.out.2.size)⟩
  clear hb HV0
  clear y0 y1 y2 y3 y4 y5 y6 y7 y8 y9
  rw [hr]
  clear hr hm1
  go_wp2
  go_ret
  exact ⟨none, 0, rfl, Rd.nil, Nat.le_refl _, HV1.out.2⟩
set_option maxRecDepth 100000 in
set_option maxHeartbeats 2000000 in
theorem rput_go (n : Nat → Int) (A : Option Addr) (c : Nat) (l : List UInt8) (bl : Int) (w : World) (hl : Rd w w.heap.size A l) (hm1 : l.length ≤ maxLen) (hr : rightB n l.length = true) (hm : mayB bl = true) (R : List UInt8) (hR : (headL (payL n l) ++ payL n l) ++ zeros (padN (96 + l.length) bl.toNat) = R) : Calls Try.prog 12 #[.agg #[.int .i64 (n 0), .int .i64 (n 1), .int .i64 (n 2), .int .i64 (n 3), .int .i64 (n 4), .int .i64 (n 5), .int .i64 (n 6), .int .i64 (n 7), .int .i64 (n 8), .slice A l.length c], .int .i64 bl] w (GaveB w R) := by
  obtain ⟨i0, hi, hz0, hz1, hz2⟩ := info_parts Try.info5
  have H1 := Lib.hid hi
  have H2 := Lib.hid hz0
  have H3 := Lib.hid hz1
  have H4 := Lib.hid hz2
  clear hi hz0 hz1 hz2
  have HR : Hid ((headL (payL n l) ++ payL n l) ++ zeros (padN (96 + l.length) bl.toNat) = R) := hR
  clear hR
  have h1 := (rightB_iff.1 hr).2
  have HU := Lib.hid (unitOf_may hm)
  obtain ⟨hm2, hm3⟩ := mayB_iff.1 hm
  have m1 : ¬ bl < 1 := by omega
  have m2 : ¬ 4096 < bl := by omega
  go_enter Try.func12, Try.ntmps12
  go_wp2_with fail
  have HA : Hid (∀ w', Below w.heap.size w w' → Rd w' w.heap.size A l) := fun w' h => hl.below h
  clear hl
  have HV0 : Hid (RecAt (w.alloc (.cells #[.int .i64 (n 0), .int .i64 (n 1), .int .i64 (n 2), .int .i64 (n 3), .int .i64 (n 4), .int .i64 (n 5), .int .i64 (n 6), .int .i64 (n 7), .int .i64 (n 8), .slice A l.length c] 24)) w.heap.size n (.slice A l.length c) ∧ Below w.heap.size w (w.alloc (.cells #[.int .i64 (n 0), .int .i64 (n 1), .int .i64 (n 2), .int .i64 (n 3), .int .i64 (n 4), .int .i64 (n 5), .int .i64 (n 6), .int .i64 (n 7), .int .i64 (n 8), .slice A l.length c] 24))) := ⟨Box.fresh w 24 _, (Below.refl _ _).alloc (Nat.le_refl _) _⟩
  generalize (w.alloc (.cells #[.int .i64 (n 0), .int .i64 (n 1), .int .i64 (n 2), .int .i64 (n 3), .int .i64 (n 4), .int .i64 (n 5), .int .i64 (n 6), .int .i64 (n 7), .int .i64 (n 8), .slice A l.length c] 24)) = w0 at HV0 ⊢
  obtain ⟨y0, y1, y2, y3, y4, y5, y6, y7, y8, y9⟩ := box10 HV0.out.1
  refine (rright_any n A l.length c w0 hm1).mono ?_
  rintro e w1 ⟨rfl, hb⟩
  have HV1 : Hid (RecAt w1 w.heap.size n (.slice A l.length c) ∧ Below w.heap.size w w1) := ⟨HV0.out.1.later hb, HV0.out.2.trans (hb.mono HV0.out.2.size)⟩
  clear hb HV0
  clear y0 y1 y2 y3 y4 y5 y6 y7 y8 y9
  rw [hr]
  obtain ⟨y0, y1, y2, y3, y4, y5, y6, y7, y8, y9⟩ := box10 HV1.out.1
  clear hr hm
  go_wp2_with fail
  refine (rlist_any n (.slice A l.length c) w1).mono ?_
  rintro e w2 ⟨q, rfl, hq, hb⟩
  have HV2 : Hid (RowR w n (.slice A l.length c) q (.slice none 0 0) [] w2) := ⟨World.ownsRow_nil _ _ _ _, HV1.out.1.later hb, hq, HV1.out.2.trans (hb.mono HV1.out.2.size)⟩
  clear hq hb HV1 y0 y1 y2 y3 y4 y5 y6 y7 y8 y9
  go_wp2
  go_loopw [5, 7] (fun b i wr => ∃ k : Nat, k ≤ 9 ∧ i = .int .i64 k ∧ RowR w n (.slice A l.length c) q b (numsL n k) wr) (fun _ i _ => 9 - (intOf i).toNat)
  case atStart => exact ⟨0, by omega, rfl, HV2.out⟩
  case round =>
    clear HV2
    obtain ⟨k, hk, rfl, hst⟩ := hrel
    have HS := Lib.hid hst
    have HL := Lib.hid (numsL_length n k)
    clear hst
    by_cases hlt : k < 9
    · have z0 := HS.out.2.2.1.num hlt
      have HN : Hid (numsL n k ++ le8 (n k) = numsL n (k + 1)) := rfl
      generalize numsL n k = L at HS HL HN
      generalize n k = x at z0 HN
      go_wp2_with fail
      refine (refInt_any x wr).mono ?_
      rintro e w3 ⟨v3, rfl, ho, hb⟩
      obtain ⟨D, d, rfl, hd, _, _⟩ := ho.rd
      have HS3 := Lib.hid (HS.out.later hb)
      have HD := Lib.hid hd
      have H8 := Lib.hid (le8_length x)
      have hs3 := HS3.out.2.2.2.size
      clear ho hb hd HS z0
      generalize le8 x = e8 at HD H8 HN ⊢
      go_wp2_with (at_builtin; refine wpList_app _ rfl (.tmp 28) (.tmp 33) 22 rfl w.heap.size 5 i0 Try.underlying22 H1.out H2.out H3.out H4.out _ L rfl HS3.out.1 w3.heap.size D d e8 rfl HD.out (by rw [HL.out, H8.out]; omega) hs3 ?_; intro v' w4 ho' hg hb')
      have HQ := Lib.hid (HS3.out.grown hg ho')
      rw [HN.out] at HQ
      clear ho' hg hb' HS3 HD hs3 HL HN
      go_wp2
      go_roundw
      case rel => exact ⟨k + 1, by omega, by go_num, HQ.out⟩
      case measure => simp [intOf]; omega
    · obtain rfl : k = 9 := by omega
      have y9 := HS.out.2.1.body
      have HX := Lib.hid ((HA.out wr HS.out.2.2.2).more HS.out.2.2.2.size)
      obtain ⟨P, hP⟩ : ∃ P, payL n l = P := ⟨_, rfl⟩
      have HP : Hid (numsL n 9 ++ (le8 l.length ++ l) = P) := by
        show _ = P
        rw [← hP]
        unfold payL
        rw [List.append_assoc]
      have HPL : Hid (P.length = 80 + l.length) := by
        show P.length = _
        rw [← hP, payL_length]
      rw [hP] at HR
      clear hP HA
      generalize numsL n 9 = L at HS HL HP
      go_wp2_with fail
      refine (refBytes_any A c l wr HX.out (by omega)).mono ?_
      rintro e w3 ⟨v3, rfl, ho, hb⟩
      obtain ⟨D, d, rfl, hd, _, _⟩ := ho.rd
      have HS3 := Lib.hid (HS.out.later hb)
      have HD := Lib.hid hd
      have H8 : Hid ((le8 l.length ++ l).length = 8 + l.length) := by
        show _ = _
        rw [List.length_append, le8_length]
      have hs3 := HS3.out.2.2.2.size
      clear ho hb hd HS y9 HX
      generalize le8 l.length ++ l = e8 at HD H8 HP ⊢
      go_upto_region 10 with (at_builtin; refine wpList_app _ rfl (.tmp 35) (.tmp 38) 22 rfl w.heap.size 5 i0 Try.underlying22 H1.out H2.out H3.out H4.out _ L rfl HS3.out.1 w3.heap.size D d e8 rfl HD.out (by rw [HL.out, H8.out]; omega) hs3 ?_; intro v' w4 ho' hg hb')
      have HB4 := Lib.hid (HS3.out.grown hg ho').2.2.2
      rw [HP.out] at ho'
      obtain ⟨E, ce, rfl, hd4, _, _⟩ := ho'.rd
      have HO4 := Lib.hid ho'
      have HD4 := Lib.hid hd4
      clear ho' hg hb' hd4 HS3 HD hs3 HP H8 HL
      go_wp2_with fail
      refine (refInt_any (P.length : Int) w4).mono ?_
      rintro e w5 ⟨v5, rfl, ho5, hb⟩
      have HO5 := Lib.hid ho5
      have HE5 := Lib.hid (HD4.out.below hb)
      have HD5 := Lib.hid (HD4.out.later hb)
      have HB5 := Lib.hid (HB4.out.trans (hb.mono HB4.out.size))
      have HQ4 := Lib.hid HB4.out.size
      have hq5 := hb.size
      clear ho5 hb HD4 HB4 HO4
      generalize w4.heap.size = q4 at HO5 HE5 HQ4 hq5
      have hcr := crcN_lt P
      go_wp2_with fail
      refine (rof_any E ce _ P w5 HD5.out (by rw [HPL.out]; omega)).mono ?_
      rintro e w' ⟨rfl, rfl⟩
      have HH : Hid (le8 (P.length : Int) ++ le8 (crcN P : Nat) = headL P) := rfl
      generalize crcN P = cr at hcr HH ⊢
      go_wp2_with fail
      refine (refInt_any (cr : Int) w5).mono ?_
      rintro e w6 ⟨v6, rfl, ho6, hb⟩
      obtain ⟨G, cg, rfl, hd6, _, _⟩ := ho6.rd
      have HO6 := Lib.hid (HO5.out.later hb)
      have HE6 := Lib.hid (HE5.out.below (hb.mono hq5))
      have HG6 := Lib.hid hd6
      have HB6 := Lib.hid (HB5.out.trans (hb.mono HB5.out.size))
      have HHL := Lib.hid (headL_length P)
      have H8 := Lib.hid (le8_length (P.length : Int))
      have H9 := Lib.hid (le8_length (cr : Int))
      have hs6 := Nat.le_trans hq5 hb.size
      clear ho6 hb hd6 HO5 HD5 HE5 HB5 hcr hq5
      generalize le8 (P.length : Int) = ea at HO6 HH H8
      generalize le8 (cr : Int) = eb at HG6 HH H9 ⊢
      go_upto_region 11 with (at_builtin; refine wpList_app _ rfl (.tmp 42) (.tmp 46) 22 rfl q4 5 i0 Try.underlying22 H1.out H2.out H3.out H4.out _ ea rfl HO6.out w6.heap.size G cg eb rfl HG6.out (by rw [H8.out, H9.out]; omega) hs6 ?_; intro v7 w7 ho7 hg hb')
      rw [HH.out] at ho7
      have HB7 := Lib.hid (HB6.out.trans ((own_below HO6.out hg hs6).mono HQ4.out))
      have HO7 := Lib.hid (ho7.mono HQ4.out)
      have HD7 : Hid (Rd w7 w7.heap.size E P) := by
        show Rd w7 w7.heap.size E P
        exact (HE6.out.below (own_below HO6.out hg hs6)).more (Nat.le_trans hs6 hg.size)
      clear ho7 hg hb' HO6 HE6 HG6 HB6 hs6 HH H8 H9
      have hs7 := HB7.out.size
      generalize headL P = Hd at HO7 HHL HR
      go_wp2_with (at_builtin; refine wpList_app _ rfl (.tmp 48) (.tmp 49) 22 rfl w.heap.size 5 i0 Try.underlying22 H1.out H2.out H3.out H4.out _ Hd rfl HO7.out w7.heap.size E ce P rfl HD7.out (by rw [HHL.out, HPL.out]; omega) hs7 ?_; intro v8 w8 ho8 hg hb')
      obtain ⟨D8, d8, rfl, hd8, hc8, _⟩ := ho8.rd
      have HB8 := Lib.hid (HB7.out.trans (own_below HO7.out hg hs7))
      have HD8 := Lib.hid hd8
      have HL8 : Hid ((Hd ++ P).length = 96 + l.length) := by
        show (Hd ++ P).length = _
        rw [List.length_append, HHL.out, HPL.out]
        omega
      clear ho8 hg hb' hd8 hc8 HO7 HD7 HB7 hs7
      generalize Hd ++ P = M at HD8 HL8 HR ⊢
      have HPad : Calls Try.prog 31 #[.slice D8 M.length d8, .int .i64 bl] w8 (GaveO w8 R) := by
        have h := refPad_any D8 d8 bl M w8 HD8.out (by rw [HL8.out]; omega)
        rw [← HR.out, ← HL8.out, ← HU.out]
        exact h
      have HPd := Lib.hid HPad
      clear HPad
      go_wp2_with fail
      with_reducible refine HPd.out.mono ?_
      rintro e w9 ⟨v9, rfl, ho9, hb9⟩
      obtain ⟨D9, d9, rfl, hd9, hc9, _⟩ := ho9.rd
      have HQ := Lib.hid (And.intro hd9 (And.intro hc9 (HB8.out.trans (hb9.mono HB8.out.size))))
      clear hd9 hc9 hb9 ho9
      go_wp2
      go_ret
      exact ⟨D9, d9, rfl, HQ.out.1, HQ.out.2.1, HQ.out.2.2⟩
theorem rput_any (n : Nat → Int) (A : Option Addr) (c : Nat) (l : List UInt8) (bl : Int) (w : World) (hl : Rd w w.heap.size A l) (hm1 : l.length ≤ maxLen) : Calls Try.prog 12 #[.agg #[.int .i64 (n 0), .int .i64 (n 1), .int .i64 (n 2), .int .i64 (n 3), .int .i64 (n 4), .int .i64 (n 5), .int .i64 (n 6), .int .i64 (n 7), .int .i64 (n 8), .slice A l.length c], .int .i64 bl] w (GaveB w (putL n l bl)) := by
  unfold putL
  cases hr : rightB n l.length
  · exact rput_no1 n A c l bl w hl hm1 hr
  · cases hm : mayB bl
    · by_cases h1 : bl < 1
      · exact rput_no2 n A c l bl w hl hm1 hr h1
      · by_cases h2 : 4096 < bl
        · exact rput_no3 n A c l bl w hl hm1 hr h1 h2
        · exact absurd ((mayB_iff (bl := bl)).2 ⟨by omega, by omega⟩) (by rw [hm]; decide)
    · exact rput_go n A c l bl w hl hm1 hr hm _ rfl
end Go.Proofs.Ytmebbggmdfejkaa
