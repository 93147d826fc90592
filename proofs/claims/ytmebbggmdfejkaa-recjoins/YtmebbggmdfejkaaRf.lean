/- The contract of Put. -/
import Derived.Test.YtmebbggmdfejkaaRe
import Derived.Deep.DeepCutAuto
import Derived.BigQuiet
namespace Go.Proofs.Ytmebbggmdfejkaa
set_option linter.unusedVariables false
set_option linter.unusedSimpArgs false
open Go.RowKit
open Go.RowKit (wrap64)

theorem int_nil (v : Int) (w : World) : Calls Try.prog 23 #[.slice none 0 0, .int .i64 v] w fun e w' => e = .returned (.slice (some ⟨w.heap.size, 0, none⟩) 8 8) ∧ w.alloc (.cells (cBs (le8 v)).toArray 5) = w' :=
  int_any none 0 v [] w Rd.nil (by simp)
theorem int_eight (k : Nat) (u v : Int) (w : World) (h : Rd w w.heap.size (some ⟨k, 0, none⟩) (le8 u)) : Calls Try.prog 23 #[.slice (some ⟨k, 0, none⟩) 8 8, .int .i64 v] w fun e w' => e = .returned (.slice (some ⟨w.heap.size, 0, none⟩) 16 16) ∧ w.alloc (.cells (cBs (le8 u ++ le8 v)).toArray 5) = w' := by
  have h2 := int_any (some ⟨k, 0, none⟩) 8 v (le8 u) w h (by rw [le8_length]; omega)
  rw [le8_length] at h2
  exact h2
theorem own_head (w : World) (base : Nat) (p : List UInt8) (hb : base ≤ w.heap.size) : Own (w.alloc (.cells (cBs (headL p)).toArray 5)) base 5 (.slice (some ⟨w.heap.size, 0, none⟩) 16 16) (headL p) := by
  have h := own_lit w base (headL p) hb (by rw [headL_length]; omega)
  rw [headL_length] at h
  exact h
theorem unitOf_may {bl : Int} (h : mayB bl = true) : unitOf bl = bl.toNat := by
  have := mayB_iff.1 h
  unfold unitOf
  rw [if_neg (by omega), if_neg (by omega)]
theorem crcN_lt (p : List UInt8) : crcN p < 4294967296 := by unfold crcN; omega
set_option maxRecDepth 100000 in
set_option maxHeartbeats 2000000 in
theorem put_no1 (n : Nat → Int) (A : Option Addr) (c : Nat) (l : List UInt8) (bl : Int) (w : World) (hl : Rd w w.heap.size A l) (hm1 : l.length ≤ maxLen) (hr : rightB n l.length = false) : Calls Try.prog 9 #[.agg #[.int .i64 (n 0), .int .i64 (n 1), .int .i64 (n 2), .int .i64 (n 3), .int .i64 (n 4), .int .i64 (n 5), .int .i64 (n 6), .int .i64 (n 7), .int .i64 (n 8), .slice A l.length c], .int .i64 bl] w (GaveB w []) := by
  go_enter Try.func9, Try.ntmps9
  go_wp2_with fail
  have HA : Hid (∀ w', Below w.heap.size w w' → Rd w' w.heap.size A l) := fun w' h => hl.below h
  clear hl
  have HV0 : Hid (RecAt (w.alloc (.cells #[.int .i64 (n 0), .int .i64 (n 1), .int .i64 (n 2), .int .i64 (n 3), .int .i64 (n 4), .int .i64 (n 5), .int .i64 (n 6), .int .i64 (n 7), .int .i64 (n 8), .slice A l.length c] 24)) w.heap.size n (.slice A l.length c) ∧ Below w.heap.size w (w.alloc (.cells #[.int .i64 (n 0), .int .i64 (n 1), .int .i64 (n 2), .int .i64 (n 3), .int .i64 (n 4), .int .i64 (n 5), .int .i64 (n 6), .int .i64 (n 7), .int .i64 (n 8), .slice A l.length c] 24))) := ⟨Box.fresh w 24 _, (Below.refl _ _).alloc (Nat.le_refl _) _⟩
  generalize (w.alloc (.cells #[.int .i64 (n 0), .int .i64 (n 1), .int .i64 (n 2), .int .i64 (n 3), .int .i64 (n 4), .int .i64 (n 5), .int .i64 (n 6), .int .i64 (n 7), .int .i64 (n 8), .slice A l.length c] 24)) = w0 at HV0 ⊢
  obtain ⟨y0, y1, y2, y3, y4, y5, y6, y7, y8, y9⟩ := box10 HV0.out.1
  refine (right_any n A l.length c w0 hm1).mono ?_
  rintro e w1 ⟨rfl, hb⟩
  have HV1 : Hid (RecAt w1 w.heap.size n (.slice A l.length c) ∧ Below w.heap.size w w1) := ⟨HV0.out.1.later hb, HV0.out.2.trans (hb.mono HV0.out.2.size)⟩
  clear hb HV0
  clear y0 y1 y2 y3 y4 y5 y6 y7 y8 y9
  rw [hr]
  clear hr hm1
  go_wp2
  go_ret
  exact ⟨none, 0, rfl, Rd.nil, Nat.le_refl _, HV1.out.2⟩
set_option maxRecDepth 100000 in
set_option maxHeartbeats 2000000 in
theorem put_no2 (n : Nat → Int) (A : Option Addr) (c : Nat) (l : List UInt8) (bl : Int) (w : World) (hl : Rd w w.heap.size A l) (hm1 : l.length ≤ maxLen) (hr : rightB n l.length = true) (hm : mayB bl = false) : Calls Try.prog 9 #[.agg #[.int .i64 (n 0), .int .i64 (n 1), .int .i64 (n 2), .int .i64 (n 3), .int .i64 (n 4), .int .i64 (n 5), .int .i64 (n 6), .int .i64 (n 7), .int .i64 (n 8), .slice A l.length c], .int .i64 bl] w (GaveB w []) := by
  go_enter Try.func9, Try.ntmps9
  go_wp2_with fail
  have HA : Hid (∀ w', Below w.heap.size w w' → Rd w' w.heap.size A l) := fun w' h => hl.below h
  clear hl
  have HV0 : Hid (RecAt (w.alloc (.cells #[.int .i64 (n 0), .int .i64 (n 1), .int .i64 (n 2), .int .i64 (n 3), .int .i64 (n 4), .int .i64 (n 5), .int .i64 (n 6), .int .i64 (n 7), .int .i64 (n 8), .slice A l.length c] 24)) w.heap.size n (.slice A l.length c) ∧ Below w.heap.size w (w.alloc (.cells #[.int .i64 (n 0), .int .i64 (n 1), .int .i64 (n 2), .int .i64 (n 3), .int .i64 (n 4), .int .i64 (n 5), .int .i64 (n 6), .int .i64 (n 7), .int .i64 (n 8), .slice A l.length c] 24))) := ⟨Box.fresh w 24 _, (Below.refl _ _).alloc (Nat.le_refl _) _⟩
  generalize (w.alloc (.cells #[.int .i64 (n 0), .int .i64 (n 1), .int .i64 (n 2), .int .i64 (n 3), .int .i64 (n 4), .int .i64 (n 5), .int .i64 (n 6), .int .i64 (n 7), .int .i64 (n 8), .slice A l.length c] 24)) = w0 at HV0 ⊢
  obtain ⟨y0, y1, y2, y3, y4, y5, y6, y7, y8, y9⟩ := box10 HV0.out.1
  refine (right_any n A l.length c w0 hm1).mono ?_
  rintro e w1 ⟨rfl, hb⟩
  have HV1 : Hid (RecAt w1 w.heap.size n (.slice A l.length c) ∧ Below w.heap.size w w1) := ⟨HV0.out.1.later hb, HV0.out.2.trans (hb.mono HV0.out.2.size)⟩
  clear hb HV0
  clear y0 y1 y2 y3 y4 y5 y6 y7 y8 y9
  rw [hr]
  go_wp2_with fail
  refine (mayBe_any _ w1).mono ?_
  rintro e w' ⟨rfl, rfl⟩
  rw [hm]
  clear hr hm hm1
  go_wp2
  go_ret
  exact ⟨none, 0, rfl, Rd.nil, Nat.le_refl _, HV1.out.2⟩
set_option maxRecDepth 100000 in
set_option maxHeartbeats 2000000 in
theorem put_go (n : Nat → Int) (A : Option Addr) (c : Nat) (l : List UInt8) (bl : Int) (w : World) (hl : Rd w w.heap.size A l) (hm1 : l.length ≤ maxLen) (hr : rightB n l.length = true) (hm : mayB bl = true)(R : List UInt8) (hR : (headL (payL n l) ++ payL n l) ++ zeros (padN (96 + l.length) bl.toNat) = R) : Calls Try.prog 9 #[.agg #[.int .i64 (n 0), .int .i64 (n 1), .int .i64 (n 2), .int .i64 (n 3), .int .i64 (n 4), .int .i64 (n 5), .int .i64 (n 6), .int .i64 (n 7), .int .i64 (n 8), .slice A l.length c], .int .i64 bl] w (GaveB w R) := by
  obtain ⟨i0, hi, hz0, hz1, hz2⟩ := info_parts Try.info5
  have H1 := Lib.hid hi
  have H2 := Lib.hid hz0
  have H3 := Lib.hid hz1
  have H4 := Lib.hid hz2
  clear hi hz0 hz1 hz2
  have HR : Hid ((headL (payL n l) ++ payL n l) ++ zeros (padN (96 + l.length) bl.toNat) = R) := hR
  clear hR
  have h1 := (rightB_iff.1 hr).2
  have HU := Lib.hid (unitOf_may hm)
  go_enter Try.func9, Try.ntmps9
  go_wp2_with fail
  have HA : Hid (∀ w', Below w.heap.size w w' → Rd w' w.heap.size A l) := fun w' h => hl.below h
  clear hl
  have HV0 : Hid (RecAt (w.alloc (.cells #[.int .i64 (n 0), .int .i64 (n 1), .int .i64 (n 2), .int .i64 (n 3), .int .i64 (n 4), .int .i64 (n 5), .int .i64 (n 6), .int .i64 (n 7), .int .i64 (n 8), .slice A l.length c] 24)) w.heap.size n (.slice A l.length c) ∧ Below w.heap.size w (w.alloc (.cells #[.int .i64 (n 0), .int .i64 (n 1), .int .i64 (n 2), .int .i64 (n 3), .int .i64 (n 4), .int .i64 (n 5), .int .i64 (n 6), .int .i64 (n 7), .int .i64 (n 8), .slice A l.length c] 24))) := ⟨Box.fresh w 24 _, (Below.refl _ _).alloc (Nat.le_refl _) _⟩
  generalize (w.alloc (.cells #[.int .i64 (n 0), .int .i64 (n 1), .int .i64 (n 2), .int .i64 (n 3), .int .i64 (n 4), .int .i64 (n 5), .int .i64 (n 6), .int .i64 (n 7), .int .i64 (n 8), .slice A l.length c] 24)) = w0 at HV0 ⊢
  obtain ⟨y0, y1, y2, y3, y4, y5, y6, y7, y8, y9⟩ := box10 HV0.out.1
  refine (right_any n A l.length c w0 hm1).mono ?_
  rintro e w1 ⟨rfl, hb⟩
  have HV1 : Hid (RecAt w1 w.heap.size n (.slice A l.length c) ∧ Below w.heap.size w w1) := ⟨HV0.out.1.later hb, HV0.out.2.trans (hb.mono HV0.out.2.size)⟩
  clear hb HV0
  clear y0 y1 y2 y3 y4 y5 y6 y7 y8 y9
  rw [hr]
  go_wp2_with fail
  refine (mayBe_any _ w1).mono ?_
  rintro e w' ⟨rfl, rfl⟩
  rw [hm]
  obtain ⟨y0, y1, y2, y3, y4, y5, y6, y7, y8, y9⟩ := box10 HV1.out.1
  have HL := Lib.hid (payL_length n l)
  have HX := Lib.hid ((HA.out w1 HV1.out.2).more HV1.out.2.size)
  clear hr hm hm1 HA
  go_wp2_with fail
  refine (payload_any n A c l w1 HX.out h1).mono ?_
  rintro e w2 ⟨D, d, rfl, hd, hcd, hb, hf⟩
  have HB2 := Lib.hid (HV1.out.2.trans (hb.mono HV1.out.2.size))
  have HD := Lib.hid hd
  clear hd hb hf HV1 HX y0 y1 y2 y3 y4 y5 y6 y7 y8 y9
  generalize payL n l = P at HD HL HR hcd ⊢
  go_wp2_with fail
  refine (int_nil _ w2).mono ?_
  rintro e w3 ⟨rfl, hw3⟩
  have HN3 : Hid (Rd w3 w3.heap.size (some ⟨w2.heap.size, 0, none⟩) (le8 (P.length : Int)) ∧ Below w2.heap.size w2 w3) := by
    subst hw3
    exact ⟨(Rd.new w2 _ 5).more (by simp), (Below.refl _ _).alloc (Nat.le_refl _) _⟩
  have HD3 := Lib.hid (HD.out.later HN3.out.2)
  have HB3 := Lib.hid (HB2.out.trans (HN3.out.2.mono HB2.out.size))
  clear hw3 HD HB2
  generalize w2.heap.size = q at HN3 ⊢
  have hcr := crcN_lt P
  go_wp2_with fail
  refine (of_any D d P w3 HD3.out (by rw [HL.out]; omega)).mono ?_
  rintro e w4 ⟨rfl, hw4⟩
  have hb4 : Below w3.heap.size w3 w4 := by
    subst hw4
    exact (Below.refl _ _).alloc (Nat.le_refl _) _
  have HN4 := Lib.hid (HN3.out.1.later hb4)
  have HD4 := Lib.hid (HD3.out.later hb4)
  have HB4 := Lib.hid (HB3.out.trans (hb4.mono HB3.out.size))
  have HH : Hid (le8 (P.length : Int) ++ le8 (crcN P : Nat) = headL P) := rfl
  clear hw4 hb4 HN3 HD3 HB3
  generalize crcN P = cr at hcr HH ⊢
  go_wp2_with fail
  refine (int_eight q (P.length : Int) cr w4 HN4.out).mono ?_
  rintro e w5 ⟨rfl, hw5⟩
  rw [HH.out] at hw5
  have HO5 : Hid (Own w5 w.heap.size 5 (.slice (some ⟨w4.heap.size, 0, none⟩) 16 16) (headL P) ∧ Below w4.heap.size w4 w5) := by
    subst hw5
    exact ⟨own_head w4 w.heap.size P HB4.out.size, (Below.refl _ _).alloc (Nat.le_refl _) _⟩
  have HD5 := Lib.hid (HD4.out.later HO5.out.2)
  have HB5 := Lib.hid (HB4.out.trans (HO5.out.2.mono HB4.out.size))
  have HHL := Lib.hid (headL_length P)
  have hs5 := HB5.out.size
  clear hw5 HN4 HD4 HB4 HH hcr
  generalize w4.heap.size = q2 at HO5 ⊢
  generalize headL P = Hd at HO5 HHL HR ⊢
  go_wp2_with (at_builtin; refine wpList_app _ rfl (.tmp 24) (.tmp 25) 22 rfl w.heap.size 5 i0 Try.underlying22 H1.out H2.out H3.out H4.out _ Hd rfl HO5.out.1 w5.heap.size D d P rfl HD5.out (by rw [HHL.out, HL.out]; omega) hs5 ?_; intro v' w6 ho' hg hb')
  obtain ⟨D6, d6, rfl, hd6, hc6, _⟩ := ho'.rd
  have HB6 : Hid (Below w.heap.size w w6) := HB5.out.grown hg hs5 (fun g hg' => (World.ownsRow.lt HO5.out.1 g hg').1)
  have HD6 := Lib.hid hd6
  have HL6 : Hid ((Hd ++ P).length = 96 + l.length) := by
    show (Hd ++ P).length = _
    rw [List.length_append, HHL.out, HL.out]
    omega
  clear ho' hg hb' hd6 hc6 HO5 HD5 HB5 hs5
  generalize Hd ++ P = M at HD6 HL6 HR ⊢
  have HPad : Calls Try.prog 25 #[.slice D6 M.length d6, .int .i64 bl] w6 (Gave w6 R) := by
    have h := pad_any D6 d6 bl M w6 HD6.out (by rw [HL6.out]; omega)
    rw [← HR.out, ← HL6.out, ← HU.out]
    exact h
  have HPd := Lib.hid HPad
  clear HPad
  go_wp2_with fail
  with_reducible refine HPd.out.mono ?_
  rintro e w7 ⟨D7, d7, rfl, hd7, hc7, hb7, hf7⟩
  have HQ := Lib.hid (And.intro hd7 (And.intro hc7 (HB6.out.trans (hb7.mono HB6.out.size))))
  clear hd7 hc7 hb7 hf7
  go_wp2
  go_ret
  exact ⟨D7, d7, rfl, HQ.out.1, HQ.out.2.1, HQ.out.2.2⟩
theorem put_any (n : Nat → Int) (A : Option Addr) (c : Nat) (l : List UInt8) (bl : Int) (w : World) (hl : Rd w w.heap.size A l) (hm1 : l.length ≤ maxLen) : Calls Try.prog 9 #[.agg #[.int .i64 (n 0), .int .i64 (n 1), .int .i64 (n 2), .int .i64 (n 3), .int .i64 (n 4), .int .i64 (n 5), .int .i64 (n 6), .int .i64 (n 7), .int .i64 (n 8), .slice A l.length c], .int .i64 bl] w (GaveB w (putL n l bl)) := by
  unfold putL
  cases hr : rightB n l.length
  · exact put_no1 n A c l bl w hl hm1 hr
  · cases hm : mayB bl
    · exact put_no2 n A c l bl w hl hm1 hr hm
    · exact put_go n A c l bl w hl hm1 hr hm _ rfl
end Go.Proofs.Ytmebbggmdfejkaa
