/- Contracts of payload, Blocks, the law's live. -/
import Derived.Test.YtmebbggmdfejkaaRd
import Derived.Deep.DeepCutAuto
import Derived.BigQuiet
namespace Go.Proofs.Ytmebbggmdfejkaa
set_option linter.unusedVariables false
set_option linter.unusedSimpArgs false
open Go.RowKit
open Go.RowKit (wrap64)

theorem bytes_gave (A X : Option Addr) (c d : Nat) (l x r : List UInt8) (w : World) (hr : Rd w w.heap.size A l) (hx : Rd w w.heap.size X x) (hl : l.length ≤ 2000000) (hxl : x.length ≤ 2000000) (hR : (l ++ le8 x.length) ++ x = r) : Calls Try.prog 39 #[.slice A l.length c, .slice X x.length d] w (Gave w r) := by
  refine (bytes_any A X c d l x w hr hx hl hxl).mono ?_
  rintro e w' ⟨rfl, rfl⟩
  subst hR
  have h : ((l ++ le8 x.length) ++ x).length = l.length + (8 + x.length) := by rw [List.length_append, List.length_append, le8_length]; omega
  exact ⟨_, _, by rw [h], (Rd.new w _ 5).more (by simp), Nat.le_of_eq h, (Below.refl _ _).alloc (Nat.le_refl _) _, Fresh.some (Nat.le_refl _)⟩
set_option maxRecDepth 100000 in
set_option maxHeartbeats 2000000 in
theorem payload_any (n : Nat → Int) (A : Option Addr) (c : Nat) (l : List UInt8) (w : World) (hl : Rd w w.heap.size A l) (hb1 : l.length ≤ 1048576) : Calls Try.prog 22 #[.agg #[.int .i64 (n 0), .int .i64 (n 1), .int .i64 (n 2), .int .i64 (n 3), .int .i64 (n 4), .int .i64 (n 5), .int .i64 (n 6), .int .i64 (n 7), .int .i64 (n 8), .slice A l.length c]] w (Gave w (payL n l)) := by
  go_enter Try.func22, Try.ntmps22
  go_wp2_with fail
  have HA : Hid (∀ w', Below w.heap.size w w' → Rd w' w.heap.size A l) := fun w' h => hl.below h
  clear hl
  have HV0 : Hid (RecAt (w.alloc (.cells #[.int .i64 (n 0), .int .i64 (n 1), .int .i64 (n 2), .int .i64 (n 3), .int .i64 (n 4), .int .i64 (n 5), .int .i64 (n 6), .int .i64 (n 7), .int .i64 (n 8), .slice A l.length c] 24)) w.heap.size n (.slice A l.length c) ∧ Below w.heap.size w (w.alloc (.cells #[.int .i64 (n 0), .int .i64 (n 1), .int .i64 (n 2), .int .i64 (n 3), .int .i64 (n 4), .int .i64 (n 5), .int .i64 (n 6), .int .i64 (n 7), .int .i64 (n 8), .slice A l.length c] 24))) := ⟨Box.fresh w 24 _, (Below.refl _ _).alloc (Nat.le_refl _) _⟩
  generalize (w.alloc (.cells #[.int .i64 (n 0), .int .i64 (n 1), .int .i64 (n 2), .int .i64 (n 3), .int .i64 (n 4), .int .i64 (n 5), .int .i64 (n 6), .int .i64 (n 7), .int .i64 (n 8), .slice A l.length c] 24)) = w0 at HV0 ⊢
  refine (fields_any w.heap.size w0).mono ?_
  rintro e w1 ⟨rfl, hF, hb⟩
  have HV1 : Hid (RecAt w1 w.heap.size n (.slice A l.length c) ∧ FldAt w1 w0.heap.size w.heap.size ∧ Below w.heap.size w w1) := ⟨HV0.out.1.later hb, hF, HV0.out.2.trans (hb.mono HV0.out.2.size)⟩
  generalize w0.heap.size = F at HV1 ⊢
  clear hF hb HV0
  go_wp2
  go_loopw [3, 8] (fun b i wr => ∃ k : Nat, k ≤ 9 ∧ i = .int .i64 k ∧ (∃ D d, b = .slice D (numsL n k).length d ∧ Rd wr wr.heap.size D (numsL n k)) ∧ RecAt wr w.heap.size n (.slice A l.length c) ∧ FldAt wr F w.heap.size ∧ Below w.heap.size w wr) (fun _ i _ => 9 - (intOf i).toNat)
  case atStart => exact ⟨0, by omega, rfl, ⟨none, 0, rfl, Rd.nil⟩, HV1.out⟩
  case round =>
    clear HV1
    obtain ⟨k, hk, rfl, ⟨D, d, rfl, hd⟩, hst⟩ := hrel
    have HS := Lib.hid hst
    have HD := Lib.hid hd
    have HL := Lib.hid (numsL_length n k)
    clear hst hd
    by_cases hlt : k < 9
    · obtain ⟨f0, f1, f2⟩ := HS.out.2.1.at_ hlt
      have HN : Hid (numsL n k ++ le8 (n k) = numsL n (k + 1)) := rfl
      have y0 := HS.out.1.num hlt
      generalize numsL n k = L at HD HL HN ⊢
      go_upto_region 5 with fail
      have HW : Hid (RecAt (wr.alloc (.cells #[.pointer (some ⟨w.heap.size, k, none⟩), .int .i64 (loF k), .int .i64 (hiF k)] 54)) w.heap.size n (.slice A l.length c) ∧ FldAt (wr.alloc (.cells #[.pointer (some ⟨w.heap.size, k, none⟩), .int .i64 (loF k), .int .i64 (hiF k)] 54)) F w.heap.size ∧ Below w.heap.size w (wr.alloc (.cells #[.pointer (some ⟨w.heap.size, k, none⟩), .int .i64 (loF k), .int .i64 (hiF k)] 54)) ∧ Rd (wr.alloc (.cells #[.pointer (some ⟨w.heap.size, k, none⟩), .int .i64 (loF k), .int .i64 (hiF k)] 54)) (wr.alloc (.cells #[.pointer (some ⟨w.heap.size, k, none⟩), .int .i64 (loF k), .int .i64 (hiF k)] 54)).heap.size D L) := ⟨HS.out.1.later ((Below.refl _ _).alloc (Nat.le_refl _) _), HS.out.2.1.later ((Below.refl _ _).alloc (Nat.le_refl _) _), HS.out.2.2.alloc HS.out.2.2.size _, HD.out.later ((Below.refl _ _).alloc (Nat.le_refl _) _)⟩
      obtain ⟨b0, b1, b2⟩ := box3 (Box.fresh wr 54 #[.pointer (some ⟨w.heap.size, k, none⟩), .int .i64 (loF k), .int .i64 (hiF k)])
      have z0 := HW.out.1.num hlt
      clear HS HD f0 f1 f2 y0
      generalize (wr.alloc (.cells #[.pointer (some ⟨w.heap.size, k, none⟩), .int .i64 (loF k), .int .i64 (hiF k)] 54)) = w3 at HW b0 b1 b2 z0 ⊢
      generalize wr.heap.size = Bx at b0 b1 b2 ⊢
      generalize n k = x at z0 HN
      generalize loF k = lo at b1 ⊢
      generalize hiF k = hi at b2 ⊢
      go_wp2_with fail
      refine (int_gave D d x L w3 HW.out.2.2.2 (by rw [HL.out]; omega)).mono ?_
      rintro e w4 ⟨D2, d2, rfl, hd2, _, hb, _⟩
      have HQ : Hid (RecAt w4 w.heap.size n (.slice A l.length c) ∧ FldAt w4 F w.heap.size ∧ Below w.heap.size w w4) := ⟨HW.out.1.later hb, HW.out.2.1.later hb, HW.out.2.2.1.trans (hb.mono HW.out.2.2.1.size)⟩
      have HD2 := Lib.hid hd2
      clear hb hd2 HW b0 b1 b2 z0 HL
      rw [HN.out] at HD2 ⊢
      generalize hN2 : numsL n (k + 1) = L2 at HD2 ⊢
      have HN2 := Lib.hid hN2
      clear hN2 HN
      go_wp2
      go_roundw
      case rel => exact ⟨k + 1, by omega, by go_num, ⟨D2, d2, by rw [HN2.out], by rw [HN2.out]; exact HD2.out⟩, HQ.out⟩
      case measure => simp [intOf]; omega
    · obtain rfl : k = 9 := by omega
      have y9 := HS.out.1.body
      have HX := Lib.hid ((HA.out wr HS.out.2.2).more HS.out.2.2.size)
      obtain ⟨P, hP⟩ : ∃ P, payL n l = P := ⟨_, rfl⟩
      have HE := Lib.hid hP
      have HP : Hid ((numsL n 9 ++ le8 l.length) ++ l = P) := hP
      clear hP
      generalize numsL n 9 = L at HD HL HP ⊢
      go_wp2_with fail
      refine (bytes_gave D A d c L l P wr HD.out HX.out (by rw [HL.out]; omega) (by omega) HP.out).mono ?_
      rintro e w4 ⟨D2, d2, rfl, hd2, hc2, hb, hf2⟩
      have HQ := Lib.hid (And.intro hd2 (And.intro hc2 (And.intro (HS.out.2.2.trans (hb.mono HS.out.2.2.size)) (show Fresh w.heap.size D2 from fun ad h => Nat.le_trans HS.out.2.2.size (hf2 ad h)))))
      clear hd2 hc2 hb hf2 HS y9
      go_wp2
      go_ret
      rw [HE.out]
      exact ⟨D2, d2, rfl, HQ.out.1, HQ.out.2.1, HQ.out.2.2.1, HQ.out.2.2.2⟩
/-- How many blocks Put lays. -/
def blkB (n : Nat → Int) (len : Nat) (bl : Int) : Nat := if (rightB n len && mayB bl) = true then spanN (80 + len) bl.toNat else 0
theorem ret_i64 {a b : Int} (h : a = b) : Ending.returned (.int .i64 a) = .returned (.int .i64 b) := by rw [h]
set_option maxRecDepth 100000 in
set_option maxHeartbeats 2000000 in
theorem blocks_no1 (n : Nat → Int) (A : Option Addr) (len c : Nat) (bl : Int) (w : World) (hl : len ≤ maxLen) (hr : rightB n len = false) : Calls Try.prog 13 #[.agg #[.int .i64 (n 0), .int .i64 (n 1), .int .i64 (n 2), .int .i64 (n 3), .int .i64 (n 4), .int .i64 (n 5), .int .i64 (n 6), .int .i64 (n 7), .int .i64 (n 8), .slice A len c], .int .i64 bl] w (Says w (.int .i64 0)) := by
  go_enter Try.func13, Try.ntmps13
  go_wp2_with fail
  have HV0 : Hid (RecAt (w.alloc (.cells #[.int .i64 (n 0), .int .i64 (n 1), .int .i64 (n 2), .int .i64 (n 3), .int .i64 (n 4), .int .i64 (n 5), .int .i64 (n 6), .int .i64 (n 7), .int .i64 (n 8), .slice A len c] 24)) w.heap.size n (.slice A len c) ∧ Below w.heap.size w (w.alloc (.cells #[.int .i64 (n 0), .int .i64 (n 1), .int .i64 (n 2), .int .i64 (n 3), .int .i64 (n 4), .int .i64 (n 5), .int .i64 (n 6), .int .i64 (n 7), .int .i64 (n 8), .slice A len c] 24))) := ⟨Box.fresh w 24 _, (Below.refl _ _).alloc (Nat.le_refl _) _⟩
  generalize (w.alloc (.cells #[.int .i64 (n 0), .int .i64 (n 1), .int .i64 (n 2), .int .i64 (n 3), .int .i64 (n 4), .int .i64 (n 5), .int .i64 (n 6), .int .i64 (n 7), .int .i64 (n 8), .slice A len c] 24)) = w0 at HV0 ⊢
  obtain ⟨y0, y1, y2, y3, y4, y5, y6, y7, y8, y9⟩ := box10 HV0.out.1
  refine (right_any n A len c w0 hl).mono ?_
  rintro e w1 ⟨rfl, hb⟩
  have HV1 : Hid (RecAt w1 w.heap.size n (.slice A len c) ∧ Below w.heap.size w w1) := ⟨HV0.out.1.later hb, HV0.out.2.trans (hb.mono HV0.out.2.size)⟩
  clear hb HV0
  clear y0 y1 y2 y3 y4 y5 y6 y7 y8 y9
  rw [hr]
  clear hr hl
  go_wp2
  go_ret
  exact ⟨rfl, HV1.out.2⟩
set_option maxRecDepth 100000 in
set_option maxHeartbeats 2000000 in
theorem blocks_no2 (n : Nat → Int) (A : Option Addr) (len c : Nat) (bl : Int) (w : World) (hl : len ≤ maxLen) (hr : rightB n len = true) (hm : mayB bl = false) : Calls Try.prog 13 #[.agg #[.int .i64 (n 0), .int .i64 (n 1), .int .i64 (n 2), .int .i64 (n 3), .int .i64 (n 4), .int .i64 (n 5), .int .i64 (n 6), .int .i64 (n 7), .int .i64 (n 8), .slice A len c], .int .i64 bl] w (Says w (.int .i64 0)) := by
  go_enter Try.func13, Try.ntmps13
  go_wp2_with fail
  have HV0 : Hid (RecAt (w.alloc (.cells #[.int .i64 (n 0), .int .i64 (n 1), .int .i64 (n 2), .int .i64 (n 3), .int .i64 (n 4), .int .i64 (n 5), .int .i64 (n 6), .int .i64 (n 7), .int .i64 (n 8), .slice A len c] 24)) w.heap.size n (.slice A len c) ∧ Below w.heap.size w (w.alloc (.cells #[.int .i64 (n 0), .int .i64 (n 1), .int .i64 (n 2), .int .i64 (n 3), .int .i64 (n 4), .int .i64 (n 5), .int .i64 (n 6), .int .i64 (n 7), .int .i64 (n 8), .slice A len c] 24))) := ⟨Box.fresh w 24 _, (Below.refl _ _).alloc (Nat.le_refl _) _⟩
  generalize (w.alloc (.cells #[.int .i64 (n 0), .int .i64 (n 1), .int .i64 (n 2), .int .i64 (n 3), .int .i64 (n 4), .int .i64 (n 5), .int .i64 (n 6), .int .i64 (n 7), .int .i64 (n 8), .slice A len c] 24)) = w0 at HV0 ⊢
  obtain ⟨y0, y1, y2, y3, y4, y5, y6, y7, y8, y9⟩ := box10 HV0.out.1
  refine (right_any n A len c w0 hl).mono ?_
  rintro e w1 ⟨rfl, hb⟩
  have HV1 : Hid (RecAt w1 w.heap.size n (.slice A len c) ∧ Below w.heap.size w w1) := ⟨HV0.out.1.later hb, HV0.out.2.trans (hb.mono HV0.out.2.size)⟩
  clear hb HV0
  clear y0 y1 y2 y3 y4 y5 y6 y7 y8 y9
  rw [hr]
  go_wp2_with fail
  refine (mayBe_any _ w1).mono ?_
  rintro e w' ⟨rfl, rfl⟩
  rw [hm]
  clear hr hm hl
  go_wp2
  go_ret
  exact ⟨rfl, HV1.out.2⟩
set_option maxRecDepth 100000 in
set_option maxHeartbeats 2000000 in
theorem blocks_go (n : Nat → Int) (A : Option Addr) (len c : Nat) (b : Nat) (w : World) (hl : len ≤ maxLen) (hr : rightB n len = true) (hm : mayB (b : Int) = true) : Calls Try.prog 13 #[.agg #[.int .i64 (n 0), .int .i64 (n 1), .int .i64 (n 2), .int .i64 (n 3), .int .i64 (n 4), .int .i64 (n 5), .int .i64 (n 6), .int .i64 (n 7), .int .i64 (n 8), .slice A len c], .int .i64 (b : Int)] w (Says w (.int .i64 (spanN (80 + len) b : Nat))) := by
  have h1 := (rightB_iff.1 hr).2
  have h2 := mayB_iff.1 hm
  go_enter Try.func13, Try.ntmps13
  go_wp2_with fail
  have HV0 : Hid (RecAt (w.alloc (.cells #[.int .i64 (n 0), .int .i64 (n 1), .int .i64 (n 2), .int .i64 (n 3), .int .i64 (n 4), .int .i64 (n 5), .int .i64 (n 6), .int .i64 (n 7), .int .i64 (n 8), .slice A len c] 24)) w.heap.size n (.slice A len c) ∧ Below w.heap.size w (w.alloc (.cells #[.int .i64 (n 0), .int .i64 (n 1), .int .i64 (n 2), .int .i64 (n 3), .int .i64 (n 4), .int .i64 (n 5), .int .i64 (n 6), .int .i64 (n 7), .int .i64 (n 8), .slice A len c] 24))) := ⟨Box.fresh w 24 _, (Below.refl _ _).alloc (Nat.le_refl _) _⟩
  generalize (w.alloc (.cells #[.int .i64 (n 0), .int .i64 (n 1), .int .i64 (n 2), .int .i64 (n 3), .int .i64 (n 4), .int .i64 (n 5), .int .i64 (n 6), .int .i64 (n 7), .int .i64 (n 8), .slice A len c] 24)) = w0 at HV0 ⊢
  obtain ⟨y0, y1, y2, y3, y4, y5, y6, y7, y8, y9⟩ := box10 HV0.out.1
  refine (right_any n A len c w0 hl).mono ?_
  rintro e w1 ⟨rfl, hb⟩
  have HV1 : Hid (RecAt w1 w.heap.size n (.slice A len c) ∧ Below w.heap.size w w1) := ⟨HV0.out.1.later hb, HV0.out.2.trans (hb.mono HV0.out.2.size)⟩
  clear hb HV0
  clear y0 y1 y2 y3 y4 y5 y6 y7 y8 y9
  rw [hr]
  go_wp2_with fail
  refine (mayBe_any _ w1).mono ?_
  rintro e w' ⟨rfl, rfl⟩
  rw [hm]
  have y9 := HV1.out.1.body
  clear hr hm hl
  go_wp2_with fail
  refine (span_any (80 + len) b w1 (by omega) (by omega) (by omega)).mono ?_
  rintro e w' ⟨rfl, rfl⟩
  go_wp2
  go_ret
  exact ⟨rfl, HV1.out.2⟩
theorem blocks_any (n : Nat → Int) (A : Option Addr) (len c : Nat) (bl : Int) (w : World) (hl : len ≤ maxLen) : Calls Try.prog 13 #[.agg #[.int .i64 (n 0), .int .i64 (n 1), .int .i64 (n 2), .int .i64 (n 3), .int .i64 (n 4), .int .i64 (n 5), .int .i64 (n 6), .int .i64 (n 7), .int .i64 (n 8), .slice A len c], .int .i64 bl] w (Says w (.int .i64 (blkB n len bl : Nat))) := by
  unfold blkB
  cases hr : rightB n len
  · exact blocks_no1 n A len c bl w hl hr
  · cases hm : mayB bl
    · exact blocks_no2 n A len c bl w hl hr hm
    · have h := mayB_iff.1 hm
      have e : bl = (bl.toNat : Int) := by omega
      have h2 := blocks_go n A len c bl.toNat w hl hr (by rw [← e]; exact hm)
      rw [← e] at h2
      exact h2
set_option maxRecDepth 100000 in
set_option maxHeartbeats 2000000 in
theorem live_any (w : World) : Calls Try.prog 8 #[] w (Says w (.bool true)) := by
  have h := blocks_any (fun _ => 0) none 0 0 64 w (by unfold maxLen; omega)
  have e : blkB (fun _ => 0) 0 64 = 2 := by decide +kernel
  rw [e] at h
  have H := Lib.hid h
  clear h e
  go_enter Try.func8, Try.ntmps8
  go_wp2_with fail
  refine H.out.mono ?_
  rintro e w1 ⟨rfl, hb⟩
  have HB := Lib.hid hb
  clear hb H
  go_wp2
  go_ret
  exact ⟨rfl, HB.out⟩
end Go.Proofs.Ytmebbggmdfejkaa
