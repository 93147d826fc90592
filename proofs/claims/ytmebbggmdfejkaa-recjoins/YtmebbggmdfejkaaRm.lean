/- The contract of the reference's Get. -/
import Derived.Test.YtmebbggmdfejkaaRl
import Derived.Deep.DeepCutAuto
namespace Go.Proofs.Ytmebbggmdfejkaa
set_option linter.unusedVariables false
set_option linter.unusedSimpArgs false
open Go.RowKit
open Go.RowKit (wrap64)

theorem rI_full {l : List UInt8} (h : 8 ≤ l.length) : rI l 0 (-9223372036854775808) 9223372036854775807 = (num8 l, l.drop 8, 0) := by
  rw [rI_of _ _ h, if_neg]
  have : (-9223372036854775808) ≤ num8 l ∧ num8 l ≤ 9223372036854775807 := by
    unfold num8 wrap64
    omega
  omega
theorem rof_of (A : Option Addr) (c k B : Nat) (l : List UInt8) (w : World) (hn : l.length = k) (hr : Rd w B A l) (hl : l.length ≤ 10000000) :
    Calls Try.prog 30 #[.slice A k c] w fun e w' => e = .returned (.int .u32 (crcN l : Nat)) ∧ w = w' := by
  subst hn
  exact rof_any A c B l w hr hl
/-- The numbers' cells when k of them were read. -/
def numsV (l : List UInt8) (k : Nat) : List Value := (List.range 9).map fun i => .int .i64 (nK l k i)
theorem numsV_at (l : List UInt8) (k i : Nat) (hi : i < 9) : (numsV l k)[i]? = some (.int .i64 (nK l k i)) := by
  simp [numsV, hi]
theorem numsV_set (l : List UInt8) (k : Nat) (hk : k < 9) : (numsV l k).set k (.int .i64 (rV l k)) = numsV l (k + 1) := by
  apply List.ext_getElem?
  intro j
  rw [List.getElem?_set]
  by_cases hj : j < 9
  · rw [numsV_at l (k + 1) j hj, nK_step]
    split
    · rename_i e
      subst e
      rw [if_pos rfl, if_pos (by simp [numsV]; omega)]
    · rename_i e
      rw [numsV_at l k j hj, if_neg (by omega)]
  · have h1 : (numsV l (k + 1))[j]? = none := List.getElem?_eq_none (by simp [numsV]; omega)
    have h2 : (numsV l k)[j]? = none := List.getElem?_eq_none (by simp [numsV]; omega)
    rw [h1, h2]
    split
    · rename_i e
      subst e
      simp [numsV]
      omega
    · rfl
theorem numsV_none (l : List UInt8) : (numsV l 0).toArray = #[.int .i64 0, .int .i64 0, .int .i64 0, .int .i64 0, .int .i64 0, .int .i64 0, .int .i64 0, .int .i64 0, .int .i64 0] := by simp [numsV, nK, List.range_succ]
theorem numsV_all (l : List UInt8) : (numsV l 9).toArray = #[.int .i64 (rV l 0), .int .i64 (rV l 1), .int .i64 (rV l 2), .int .i64 (rV l 3), .int .i64 (rV l 4), .int .i64 (rV l 5), .int .i64 (rV l 6), .int .i64 (rV l 7), .int .i64 (rV l 8)] := by simp [numsV, nK, List.range_succ]
theorem getE_read {b : List UInt8} {bl : Int} (hp : partE b bl = 0) (h : readB (payO b) = false) : getE b bl = 13 := by
  unfold getE
  rw [if_pos hp, h, Bool.false_and]
  rfl
theorem getE_fill {b : List UInt8} {bl : Int} (hp : partE b bl = 0) (h : zeroL (fillO b bl) = false) : getE b bl = 13 := by
  unfold getE
  rw [if_pos hp, h, Bool.and_false]
  rfl
theorem getE_good {b : List UInt8} {bl : Int} (hp : partE b bl = 0) (h : readB (payO b) = true) (h2 : zeroL (fillO b bl) = true) : getE b bl = 0 := by
  unfold getE
  rw [if_pos hp, h, h2]
  rfl
theorem getG_ok {w : World} {b P d : List UInt8} {bl : Int} {k : Nat} (he : getE b bl = 0) (hp : payO b = P) (hk : spanN (num8 b).toNat bl.toNat = k) (hd : (rY P).1 = d) {e : Ending} {w' : World} (h : GetG w (rV P) d k 0 e w') : GetG w (getN b bl) (getD b bl) (getK b bl) (getE b bl) e w' := by
  unfold getN getD getK
  rw [if_pos he, if_pos he, if_pos he, he, hp, hk, hd]
  exact h
theorem box9 {w : World} {g : Nat} {t : TypeId} {a0 a1 a2 a3 a4 a5 a6 a7 a8 : Value} (h : Box w g t #[a0, a1, a2, a3, a4, a5, a6, a7, a8]) :
    (w.cell? ⟨g, 0, none⟩ = some a0 ∧ w.cell? ⟨g, 1, none⟩ = some a1 ∧ w.cell? ⟨g, 2, none⟩ = some a2 ∧ w.cell? ⟨g, 3, none⟩ = some a3 ∧ w.cell? ⟨g, 4, none⟩ = some a4 ∧ w.cell? ⟨g, 5, none⟩ = some a5 ∧ w.cell? ⟨g, 6, none⟩ = some a6 ∧ w.cell? ⟨g, 7, none⟩ = some a7 ∧ w.cell? ⟨g, 8, none⟩ = some a8) := by
  refine ⟨?_, ?_, ?_, ?_, ?_, ?_, ?_, ?_, ?_⟩ <;> (rw [h.cell]; rfl)
/-- The reference's memory when k numbers were read. -/
structure RNumSt (w wr : World) (X : Option Addr) (P : List UInt8) (cd R at_ k : Nat) : Prop where
  rdr : Box wr R 66 #[.slice X P.length cd, .int .i64 (at_ : Int), .int .i64 (rS P k).2]
  le : at_ ≤ P.length
  left : P.drop at_ = (rS P k).1
  box : Box wr (R + 1) 69 (numsV P k).toArray
  res : RecAt wr w.heap.size (fun _ => 0) (.slice none 0 0)
  bel : Below w.heap.size w wr
  hR : w.heap.size < R
theorem RNumSt.next {w wr w2 : World} {X : Option Addr} {P : List UInt8} {cd R at_ at' k : Nat} (h : RNumSt w wr X P cd R at_ k) (hb : Below wr.heap.size wr w2) (hk : k < 9) (hle : at' ≤ P.length) (hl : P.drop at' = (rS P (k + 1)).1) :
    RNumSt w ((((w2.setCell ⟨R, 0, none⟩ (.slice X P.length cd)).setCell ⟨R, 1, none⟩ (.int .i64 (at' : Int))).setCell ⟨R, 2, none⟩ (.int .i64 (rS P (k + 1)).2)).setCell ⟨R + 1, k, none⟩ (.int .i64 (rV P k))) X P cd R at' (k + 1) := by
  have hR := h.hR
  have hT : Turn [R, R + 1] w2 ((((w2.setCell ⟨R, 0, none⟩ (.slice X P.length cd)).setCell ⟨R, 1, none⟩ (.int .i64 (at' : Int))).setCell ⟨R, 2, none⟩ (.int .i64 (rS P (k + 1)).2)).setCell ⟨R + 1, k, none⟩ (.int .i64 (rV P k))) := by
    repeat (first | with_reducible exact Turn.refl _ _ | with_reducible refine Turn.put ?_ (by simp) _)
  have hT1 : Turn [R] w2 (((w2.setCell ⟨R, 0, none⟩ (.slice X P.length cd)).setCell ⟨R, 1, none⟩ (.int .i64 (at' : Int))).setCell ⟨R, 2, none⟩ (.int .i64 (rS P (k + 1)).2)) := by
    repeat (first | with_reducible exact Turn.refl _ _ | with_reducible refine Turn.put ?_ (by simp) _)
  refine ⟨?_, hle, hl, ?_, Box.turn (Box.later h.res hb) hT (by simp <;> omega), (h.bel.trans (hb.mono h.bel.size)).trans (hT.below (by simp <;> omega) (Nat.le_trans h.bel.size hb.size)), hR⟩
  · have h1 := rdr_all (h.rdr.later hb) (.slice X P.length cd) (.int .i64 (at' : Int)) (.int .i64 (rS P (k + 1)).2)
    have h2 : Turn [R + 1] (((w2.setCell ⟨R, 0, none⟩ (.slice X P.length cd)).setCell ⟨R, 1, none⟩ (.int .i64 (at' : Int))).setCell ⟨R, 2, none⟩ (.int .i64 (rS P (k + 1)).2)) ((((w2.setCell ⟨R, 0, none⟩ (.slice X P.length cd)).setCell ⟨R, 1, none⟩ (.int .i64 (at' : Int))).setCell ⟨R, 2, none⟩ (.int .i64 (rS P (k + 1)).2)).setCell ⟨R + 1, k, none⟩ (.int .i64 (rV P k))) := (Turn.refl _ _).put (by simp) _
    exact Box.turn h1 h2 (by simp)
  · have h1 := ((h.box.later hb).turn hT1 (by simp)).store k (.int .i64 (rV P k))
    rw [List.setIfInBounds_toArray, numsV_set P k hk] at h1
    exact h1
set_option maxRecDepth 100000 in
set_option maxHeartbeats 4000000 in
theorem rget_go (A : Option Addr) (c : Nat) (b : List UInt8) (m s : Nat) (w : World) (hr : Rd w w.heap.size A b) (hc : b.length ≤ c) (hl : b.length ≤ 10000000) (hm1 : 1 ≤ m) (hm2 : m ≤ 4096) (h16 : ¬ b.length < 16) (hs : num8 b = (s : Int)) (hs2 : s ≤ 1048656) : Calls Try.prog 17 #[.slice A b.length c, .int .i64 (m : Int)] w (GetG w (getN b (m : Int)) (getD b (m : Int)) (getK b (m : Int)) (getE b (m : Int))) := by
  have m1 : ¬ (m : Int) < 1 := by omega
  have m2 : ¬ 4096 < (m : Int) := by omega
  have HI : Hid (rI b 0 0 1048656 = ((s : Int), b.drop 8, 0)) := by
    show _ = _
    rw [rI_of 0 1048656 (by omega), hs, if_neg (by omega)]
  obtain ⟨q, hq⟩ : ∃ q, num8 (b.drop 8) = q := ⟨_, rfl⟩
  have HJ : Hid (rI (b.drop 8) 0 (-9223372036854775808) 9223372036854775807 = (q, (b.drop 8).drop 8, 0)) := by
    show _ = _
    rw [rI_full (by rw [List.length_drop]; omega), hq]
  obtain ⟨K, hK⟩ : ∃ K, spanN s m = K := ⟨_, rfl⟩
  have hK1 := span_ge s m hm1
  have hK2 : spanN s m * m ≤ 16 + s + m - 1 := Nat.div_mul_le_self _ _
  rw [hK] at hK1 hK2
  obtain ⟨P, hP⟩ : ∃ P, (b.drop 16).take s = P := ⟨_, rfl⟩
  obtain ⟨F, hF⟩ : ∃ F, (b.drop (16 + s)).take (K * m - (16 + s)) = F := ⟨_, rfl⟩
  have HPO : Hid (payO b = P) := by
    show _ = P
    unfold payO
    rw [hs]
    exact hP
  have HFO : Hid (fillO b (m : Int) = F) := by
    show _ = F
    unfold fillO
    rw [hs]
    show (b.drop (16 + s)).take (spanN s m * m - (16 + s)) = F
    rw [hK]
    exact hF
  have HPE : Hid (partE b (m : Int) = if b.length < K * m then 14 else if q = (crcN P : Nat) then 0 else 15) := by
    show _ = _
    unfold partE
    rw [if_pos (mayB_iff.2 ⟨by omega, by omega⟩), if_neg h16, if_neg (by rw [hs]; omega), HPO.out, hq, hs]
    show (if b.length < spanN s m * m then _ else _) = _
    rw [hK]
  have HKE : Hid (spanN (num8 b).toNat (m : Int).toNat = K) := by
    show _ = K
    rw [hs]
    exact hK
  have HMU : Hid (∀ j : Nat, j ≤ K → wrap64 ((j : Int) * (m : Int)) = ((j * m : Nat) : Int)) := fun j hj => by
    have h1 : j * m ≤ K * m := Nat.mul_le_mul_right m hj
    have e : (j : Int) * (m : Int) = ((j * m : Nat) : Int) := by simp
    rw [e]
    generalize j * m = y at h1
    unfold wrap64
    omega
  have HP := Lib.hid hP
  have HF := Lib.hid hF
  have hKb : K ≤ 2000000 := by
    have h1 : K * 1 ≤ K * m := Nat.mul_le_mul_left K hm1
    omega
  have HK1 := Lib.hid hK1
  have HK2 := Lib.hid hK2
  clear hq hs hK hP hF hK1 hK2
  go_enter Try.func17, Try.ntmps17
  go_wp2_with fail
  have HV1 : Hid (RecAt ((w.alloc (.cells #[.int .i64 0, .int .i64 0, .int .i64 0, .int .i64 0, .int .i64 0, .int .i64 0, .int .i64 0, .int .i64 0, .int .i64 0, .slice none 0 0] 24)).alloc (.cells #[.slice A b.length c, .int .i64 0, .int .i64 0] 66)) w.heap.size (fun _ => 0) (.slice none 0 0) ∧ Box ((w.alloc (.cells #[.int .i64 0, .int .i64 0, .int .i64 0, .int .i64 0, .int .i64 0, .int .i64 0, .int .i64 0, .int .i64 0, .int .i64 0, .slice none 0 0] 24)).alloc (.cells #[.slice A b.length c, .int .i64 0, .int .i64 0] 66)) (w.heap.size + 1) 66 #[.slice A b.length c, .int .i64 0, .int .i64 0] ∧ Below w.heap.size w ((w.alloc (.cells #[.int .i64 0, .int .i64 0, .int .i64 0, .int .i64 0, .int .i64 0, .int .i64 0, .int .i64 0, .int .i64 0, .int .i64 0, .slice none 0 0] 24)).alloc (.cells #[.slice A b.length c, .int .i64 0, .int .i64 0] 66))) := by
    obtain ⟨h1, h2, h3, _⟩ := two_boxes' w 24 66 #[.int .i64 0, .int .i64 0, .int .i64 0, .int .i64 0, .int .i64 0, .int .i64 0, .int .i64 0, .int .i64 0, .int .i64 0, .slice none 0 0] #[.slice A b.length c, .int .i64 0, .int .i64 0]
    exact ⟨h1, h2, h3⟩
  generalize ((w.alloc (.cells #[.int .i64 0, .int .i64 0, .int .i64 0, .int .i64 0, .int .i64 0, .int .i64 0, .int .i64 0, .int .i64 0, .int .i64 0, .slice none 0 0] 24)).alloc (.cells #[.slice A b.length c, .int .i64 0, .int .i64 0] 66)) = w1 at HV1 ⊢
  have hr1 := (hr.below HV1.out.2.2).more HV1.out.2.2.size
  refine (ref_start A b c 0 1048656 w1 hr1 hl hc).mono ?_
  rintro e w2 ⟨at1, rfl, hle, hdr, hb⟩
  rw [HI.out] at hdr ⊢
  simp only at hdr ⊢
  have HV2 : Hid (RecAt w2 w.heap.size (fun _ => 0) (.slice none 0 0) ∧ Box w2 (w.heap.size + 1) 66 #[.slice A b.length c, .int .i64 0, .int .i64 0] ∧ Below w.heap.size w w2) := ⟨HV1.out.1.later hb, HV1.out.2.1.later hb, HV1.out.2.2.trans (hb.mono HV1.out.2.2.size)⟩
  have HDr := Lib.hid hdr
  clear hb hdr HV1 hr1
  obtain ⟨y0, y1, y2⟩ := box3 HV2.out.2.1
  obtain ⟨k0, k1, k2⟩ := froz3 HV2.out.2.1
  go_upto_region 7 with fail
  have HV3 : Hid (RecAt (((w2.setCell ⟨(w.heap.size + 1), 0, none⟩ (.slice A b.length c)).setCell ⟨(w.heap.size + 1), 1, none⟩ (.int .i64 (at1 : Int))).setCell ⟨(w.heap.size + 1), 2, none⟩ (.int .i64 0)) w.heap.size (fun _ => 0) (.slice none 0 0) ∧ Box (((w2.setCell ⟨(w.heap.size + 1), 0, none⟩ (.slice A b.length c)).setCell ⟨(w.heap.size + 1), 1, none⟩ (.int .i64 (at1 : Int))).setCell ⟨(w.heap.size + 1), 2, none⟩ (.int .i64 0)) (w.heap.size + 1) 66 #[.slice A b.length c, .int .i64 (at1 : Int), .int .i64 0] ∧ Below w.heap.size w (((w2.setCell ⟨(w.heap.size + 1), 0, none⟩ (.slice A b.length c)).setCell ⟨(w.heap.size + 1), 1, none⟩ (.int .i64 (at1 : Int))).setCell ⟨(w.heap.size + 1), 2, none⟩ (.int .i64 0))) := ⟨rec_far3 HV2.out.1 (by omega) _ _ _, rdr_all HV2.out.2.1 _ _ _, below_far3 HV2.out.2.2 (by omega) _ _ _⟩
  generalize (((w2.setCell ⟨(w.heap.size + 1), 0, none⟩ (.slice A b.length c)).setCell ⟨(w.heap.size + 1), 1, none⟩ (.int .i64 (at1 : Int))).setCell ⟨(w.heap.size + 1), 2, none⟩ (.int .i64 0)) = w3 at HV3 ⊢
  clear HV2 y0 y1 y2 k0 k1 k2
  obtain ⟨y0, y1, y2⟩ := box3 HV3.out.2.1
  obtain ⟨k0, k1, k2⟩ := froz3 HV3.out.2.1
  have hr3 := (hr.below HV3.out.2.2).more HV3.out.2.2.size
  go_wp2_with fail
  refine (refReadInt_any A b c at1 0 (-9223372036854775808) 9223372036854775807 w3 hr3 hle hl hc).mono ?_
  rintro e w4 ⟨at2, rfl, hle2, hdr2, hb⟩
  rw [HDr.out, HJ.out] at hdr2 ⊢
  simp only at hdr2 ⊢
  have HV4 : Hid (RecAt w4 w.heap.size (fun _ => 0) (.slice none 0 0) ∧ Box w4 (w.heap.size + 1) 66 #[.slice A b.length c, .int .i64 (at1 : Int), .int .i64 0] ∧ Below w.heap.size w w4) := ⟨HV3.out.1.later hb, HV3.out.2.1.later hb, HV3.out.2.2.trans (hb.mono HV3.out.2.2.size)⟩
  clear hb hdr2 HV3 hr3 y0 y1 y2 k0 k1 k2 HDr hle hle2
  obtain ⟨y0, y1, y2⟩ := box3 HV4.out.2.1
  obtain ⟨k0, k1, k2⟩ := froz3 HV4.out.2.1
  go_upto_region 10 with fail
  have HV5 : Hid (RecAt (((w4.setCell ⟨(w.heap.size + 1), 0, none⟩ (.slice A b.length c)).setCell ⟨(w.heap.size + 1), 1, none⟩ (.int .i64 (at2 : Int))).setCell ⟨(w.heap.size + 1), 2, none⟩ (.int .i64 0)) w.heap.size (fun _ => 0) (.slice none 0 0) ∧ Below w.heap.size w (((w4.setCell ⟨(w.heap.size + 1), 0, none⟩ (.slice A b.length c)).setCell ⟨(w.heap.size + 1), 1, none⟩ (.int .i64 (at2 : Int))).setCell ⟨(w.heap.size + 1), 2, none⟩ (.int .i64 0))) := ⟨rec_far3 HV4.out.1 (by omega) _ _ _, below_far3 HV4.out.2.2 (by omega) _ _ _⟩
  generalize (((w4.setCell ⟨(w.heap.size + 1), 0, none⟩ (.slice A b.length c)).setCell ⟨(w.heap.size + 1), 1, none⟩ (.int .i64 (at2 : Int))).setCell ⟨(w.heap.size + 1), 2, none⟩ (.int .i64 0)) = w5 at HV5 ⊢
  clear HV4 y0 y1 y2 k0 k1 k2 HI HJ
  go_wp2
  go_loop [10] (fun i => ∃ j : Nat, i = .int .i64 j ∧ j ≤ K) (fun i => K - (intOf i).toNat)
  case atStart => exact ⟨0, rfl, Nat.zero_le _⟩
  case round =>
    obtain ⟨j, rfl, hj⟩ := hrel
    have hmu := HMU.out j hj
    by_cases hlt : j * m < 16 + s
    · have h1 : wrap64 ((j : Int) * (m : Int)) < 16 + (s : Int) := by rw [hmu]; omega
      have h2 : j + 1 ≤ K := by
        rcases Nat.lt_or_ge j K with h | h
        · exact h
        · have := Nat.mul_le_mul_right m h
          have := HK1.out
          omega
      clear hmu hlt
      go_wp2
      go_round
      case rel => exact ⟨j + 1, by go_num, h2⟩
      case measure => simp [intOf]; omega
    · have hjK : j = K := by
        rcases Nat.lt_or_ge j K with h | h
        · exfalso
          have h3 : (j + 1) * m ≤ K * m := Nat.mul_le_mul_right m h
          rw [Nat.add_mul] at h3
          have := HK2.out
          omega
        · omega
      subst hjK
      have h1 : ¬ wrap64 ((j : Int) * (m : Int)) < 16 + (s : Int) := by rw [hmu]; omega
      clear hlt HMU hj
      by_cases hx : b.length < j * m
      · have h2 : (b.length : Int) < wrap64 ((j : Int) * (m : Int)) := by rw [hmu]; omega
        have HE : Hid (getE b (m : Int) = 14) := getE_part (by rw [HPE.out, if_pos hx]) (by decide)
        clear hmu hx
        go_upto_region 14 with fail
        obtain ⟨z0, z1, z2, z3, z4, z5, z6, z7, z8, z9⟩ := box10 HV5.out.1
        obtain ⟨f0, f1, f2, f3, f4, f5, f6, f7, f8, f9⟩ := froz10 HV5.out.1
        go_wp2
        exact bodyPost_ret (v := .tuple #[.agg #[.int .i64 0, .int .i64 0, .int .i64 0, .int .i64 0, .int .i64 0, .int .i64 0, .int .i64 0, .int .i64 0, .int .i64 0, .slice none 0 0], .int .i64 0, .int .i64 14]) (by simp [results, Try.results17, go_sem, *]) rfl (getG_err HE.out (by decide) ⟨none, 0, rfl, Rd.nil, Below.trans HV5.out.2 (by repeat (first | with_reducible exact Below.refl _ _ | with_reducible refine Below.drew ?_ | with_reducible refine Below.alloc ?_ (by first | (simp; done) | (simp; omega)) _ | with_reducible refine Below.setCell ?_ (by first | (simp; done) | (simp; omega)) _))⟩)
      · have h2 : ¬ (b.length : Int) < wrap64 ((j : Int) * (m : Int)) := by rw [hmu]; omega
        have hsb : 16 + s ≤ b.length := by
          have := HK1.out
          omega
        obtain ⟨X, hX, hsl⟩ := slice_cut A c b 16 (16 + s) 16 (16 + (s : Int)) (by omega) hsb hc rfl (by omega)
        rw [show 16 + s - 16 = s by omega] at hX hsl
        rw [HP.out] at hX
        have HPL : Hid (P.length = s) := by
          show _ = s
          rw [← HP.out, List.length_take, List.length_drop]
          omega
        have HX : Hid (Rd w w.heap.size X P) := hX _ _ hr
        have HPE2 : Hid (partE b (m : Int) = if q = (crcN P : Nat) then 0 else 15) := by
          show _ = _
          rw [HPE.out, if_neg hx]
        have hcr := crcN_lt P
        obtain ⟨cd, hcd⟩ : ∃ cd, c - 16 = cd := ⟨_, rfl⟩
        rw [hcd] at hsl
        clear hX HPE HP
        go_wp2_with fail
        refine (rof_of X cd s _ P w5 HPL.out (HX.out.below HV5.out.2) (by rw [HPL.out]; omega)).mono ?_
        rintro e w' ⟨rfl, rfl⟩
        generalize crcN P = cr at hcr HPE2 ⊢
        by_cases hqc : q = (cr : Int)
        · subst hqc
          have HP0 : Hid (partE b (m : Int) = 0) := by
            show _ = 0
            rw [HPE2.out, if_pos rfl]
          clear HPE2 hmu
          have hPL := HPL.out
          subst hPL
          go_upto_region 20 with fail
          have HN0 : Hid (RNumSt w ((w5.alloc (.cells #[.slice X P.length cd, .int .i64 0, .int .i64 0] 66)).alloc (.cells #[.int .i64 0, .int .i64 0, .int .i64 0, .int .i64 0, .int .i64 0, .int .i64 0, .int .i64 0, .int .i64 0, .int .i64 0] 69)) X P cd w5.heap.size 0 0) := by
            obtain ⟨h1, h2, h3, _⟩ := two_boxes' w5 66 69 #[.slice X P.length cd, .int .i64 0, .int .i64 0] #[.int .i64 0, .int .i64 0, .int .i64 0, .int .i64 0, .int .i64 0, .int .i64 0, .int .i64 0, .int .i64 0, .int .i64 0]
            exact ⟨h1, Nat.zero_le _, rfl, by rw [numsV_none]; exact h2, HV5.out.1.later h3, HV5.out.2.trans (h3.mono HV5.out.2.size), HV5.out.1.lt⟩
          have hPc : P.length ≤ cd := by omega
          generalize w5.heap.size = R at HN0 ⊢
          clear hsl HPL hcr HV5
          go_wp2
          go_loopw [14] (fun i wr => ∃ k at_ : Nat, k ≤ 9 ∧ i = .int .i64 k ∧ RNumSt w wr X P cd R at_ k) (fun i _ => 9 - (intOf i).toNat)
          case atStart => exact ⟨0, 0, by omega, rfl, HN0.out⟩
          case round =>
            clear HN0
            obtain ⟨k, at_, hk, rfl, hst⟩ := hrel
            have HS := Lib.hid hst
            clear hst
            by_cases hlt : k < 9
            · obtain ⟨y0, y1, y2⟩ := box3 HS.out.rdr
              obtain ⟨f0, f1, f2⟩ := froz3 HS.out.rdr
              have HRX : Hid (Rd wr wr.heap.size X P) := (HX.out.below HS.out.bel).more HS.out.bel.size
              by_cases hcase : k = 0
              · skip
                have g0 : ((k : Int) == 0) = true := by simp; omega
                have g5 : ((k : Int) == 5) = false := by simp; omega
                have HLO : Hid (loF k = 0 ∧ hiF k = 6) := ⟨by unfold loF; rw [if_neg (by omega)], by unfold hiF; rw [if_pos hcase]⟩
                clear hcase
                have hv1 : (rI (rS P k).1 (rS P k).2 0 6).1 = rV P k := by
                  rw [← HLO.out.1, ← HLO.out.2]
                  rfl
                have hv2 : ((rI (rS P k).1 (rS P k).2 0 6).2.1, (rI (rS P k).1 (rS P k).2 0 6).2.2) = rS P (k + 1) := by
                  rw [← HLO.out.1, ← HLO.out.2]
                  rfl
                have HV12 := Lib.hid (And.intro hv1 hv2)
                clear hv1 hv2
                go_wp2_with fail
                refine (refReadInt_any X P cd at_ (rS P k).2 0 6 wr HRX.out HS.out.le (by omega) hPc).mono ?_
                rintro e w3 ⟨at', rfl, hle, hdr, hb⟩
                rw [HS.out.left] at hdr ⊢
                have HN := Lib.hid (HS.out.next hb hlt hle (by rw [hdr, ← HV12.out.2]))
                obtain ⟨x0, x1, x2⟩ := box3 (HS.out.rdr.later hb)
                obtain ⟨k0, k1, k2⟩ := froz3 (HS.out.rdr.later hb)
                have hb3 := HS.out.box.later hb
                obtain ⟨u, hu⟩ : ∃ u : Int, nK P k k = u := ⟨_, rfl⟩
                have h2 : w3.cell? ⟨R + 1, k, none⟩ = some (.int .i64 u) := by
                  rw [hb3.cell, List.getElem?_toArray, numsV_at P k k hlt, hu]
                have h3 : w3.frozen? ⟨R + 1, k, none⟩ = false := hb3.frozen k
                have hE2 : (rI (rS P k).1 (rS P k).2 0 6).2.2 = (rS P (k + 1)).2 := by rw [← HV12.out.2]
                rw [HV12.out.1, hE2]
                clear hE2 hu hb hb3 HS hle hdr y0 y1 y2 f0 f1 f2 HV12 HLO HRX
                generalize rV P k = nn at HN ⊢
                generalize (rS P (k + 1)).2 = er2 at HN ⊢
                generalize (rS P k).2 = er1 at x2
                go_wp2
                go_roundw
                case rel => exact ⟨k + 1, at', by omega, by go_num, HN.out⟩
                case measure => simp [intOf]; omega
              · by_cases hcase5 : k = 5
                · skip
                  have g0 : ((k : Int) == 0) = false := by simp; omega
                  have g5 : ((k : Int) == 5) = true := by simp; omega
                  have HLO : Hid (loF k = (-1) ∧ hiF k = 1099511627776) := ⟨by unfold loF; rw [if_pos hcase5], by unfold hiF; rw [if_neg hcase]⟩
                  clear hcase hcase5
                  have hv1 : (rI (rS P k).1 (rS P k).2 (-1) 1099511627776).1 = rV P k := by
                    rw [← HLO.out.1, ← HLO.out.2]
                    rfl
                  have hv2 : ((rI (rS P k).1 (rS P k).2 (-1) 1099511627776).2.1, (rI (rS P k).1 (rS P k).2 (-1) 1099511627776).2.2) = rS P (k + 1) := by
                    rw [← HLO.out.1, ← HLO.out.2]
                    rfl
                  have HV12 := Lib.hid (And.intro hv1 hv2)
                  clear hv1 hv2
                  go_wp2_with fail
                  refine (refReadInt_any X P cd at_ (rS P k).2 (-1) 1099511627776 wr HRX.out HS.out.le (by omega) hPc).mono ?_
                  rintro e w3 ⟨at', rfl, hle, hdr, hb⟩
                  rw [HS.out.left] at hdr ⊢
                  have HN := Lib.hid (HS.out.next hb hlt hle (by rw [hdr, ← HV12.out.2]))
                  obtain ⟨x0, x1, x2⟩ := box3 (HS.out.rdr.later hb)
                  obtain ⟨k0, k1, k2⟩ := froz3 (HS.out.rdr.later hb)
                  have hb3 := HS.out.box.later hb
                  obtain ⟨u, hu⟩ : ∃ u : Int, nK P k k = u := ⟨_, rfl⟩
                  have h2 : w3.cell? ⟨R + 1, k, none⟩ = some (.int .i64 u) := by
                    rw [hb3.cell, List.getElem?_toArray, numsV_at P k k hlt, hu]
                  have h3 : w3.frozen? ⟨R + 1, k, none⟩ = false := hb3.frozen k
                  have hE2 : (rI (rS P k).1 (rS P k).2 (-1) 1099511627776).2.2 = (rS P (k + 1)).2 := by rw [← HV12.out.2]
                  rw [HV12.out.1, hE2]
                  clear hE2 hu hb hb3 HS hle hdr y0 y1 y2 f0 f1 f2 HV12 HLO HRX
                  generalize rV P k = nn at HN ⊢
                  generalize (rS P (k + 1)).2 = er2 at HN ⊢
                  generalize (rS P k).2 = er1 at x2
                  go_wp2
                  go_roundw
                  case rel => exact ⟨k + 1, at', by omega, by go_num, HN.out⟩
                  case measure => simp [intOf]; omega
                · skip
                  have g0 : ((k : Int) == 0) = false := by simp; omega
                  have g5 : ((k : Int) == 5) = false := by simp; omega
                  have HLO : Hid (loF k = 0 ∧ hiF k = 1099511627776) := ⟨by unfold loF; rw [if_neg hcase5], by unfold hiF; rw [if_neg hcase]⟩
                  clear hcase hcase5
                  have hv1 : (rI (rS P k).1 (rS P k).2 0 1099511627776).1 = rV P k := by
                    rw [← HLO.out.1, ← HLO.out.2]
                    rfl
                  have hv2 : ((rI (rS P k).1 (rS P k).2 0 1099511627776).2.1, (rI (rS P k).1 (rS P k).2 0 1099511627776).2.2) = rS P (k + 1) := by
                    rw [← HLO.out.1, ← HLO.out.2]
                    rfl
                  have HV12 := Lib.hid (And.intro hv1 hv2)
                  clear hv1 hv2
                  go_wp2_with fail
                  refine (refReadInt_any X P cd at_ (rS P k).2 0 1099511627776 wr HRX.out HS.out.le (by omega) hPc).mono ?_
                  rintro e w3 ⟨at', rfl, hle, hdr, hb⟩
                  rw [HS.out.left] at hdr ⊢
                  have HN := Lib.hid (HS.out.next hb hlt hle (by rw [hdr, ← HV12.out.2]))
                  obtain ⟨x0, x1, x2⟩ := box3 (HS.out.rdr.later hb)
                  obtain ⟨k0, k1, k2⟩ := froz3 (HS.out.rdr.later hb)
                  have hb3 := HS.out.box.later hb
                  obtain ⟨u, hu⟩ : ∃ u : Int, nK P k k = u := ⟨_, rfl⟩
                  have h2 : w3.cell? ⟨R + 1, k, none⟩ = some (.int .i64 u) := by
                    rw [hb3.cell, List.getElem?_toArray, numsV_at P k k hlt, hu]
                  have h3 : w3.frozen? ⟨R + 1, k, none⟩ = false := hb3.frozen k
                  have hE2 : (rI (rS P k).1 (rS P k).2 0 1099511627776).2.2 = (rS P (k + 1)).2 := by rw [← HV12.out.2]
                  rw [HV12.out.1, hE2]
                  clear hE2 hu hb hb3 HS hle hdr y0 y1 y2 f0 f1 f2 HV12 HLO HRX
                  generalize rV P k = nn at HN ⊢
                  generalize (rS P (k + 1)).2 = er2 at HN ⊢
                  generalize (rS P k).2 = er1 at x2
                  go_wp2
                  go_roundw
                  case rel => exact ⟨k + 1, at', by omega, by go_num, HN.out⟩
                  case measure => simp [intOf]; omega
            · obtain rfl : k = 9 := by omega
              obtain ⟨q, hq⟩ : ∃ q, rY P = q := ⟨_, rfl⟩
              obtain ⟨d, lf, er⟩ := q
              have HQ := Lib.hid hq
              clear hq
              obtain ⟨y0, y1, y2⟩ := box3 HS.out.rdr
              obtain ⟨f0, f1, f2⟩ := froz3 HS.out.rdr
              have eq : rB (P.drop at_) (rS P 9).2 1048576 = (d, lf, er) := by
                rw [HS.out.left]
                exact HQ.out
              have HEQ := Lib.hid eq
              clear eq
              go_wp2_with fail
              refine (refReadBytes_any X P cd at_ (rS P 9).2 1048576 wr w.heap.size (HX.out.below HS.out.bel) HS.out.bel.size HS.out.le (by omega) hPc).mono ?_
              rintro e w3 ⟨at', D, c', rfl, hle, hdr, hD, hb⟩
              rw [HEQ.out] at hdr hD ⊢
              simp only at hdr hD ⊢
              have HS3 : Hid (Box w3 R 66 #[.slice X P.length cd, .int .i64 (at_ : Int), .int .i64 (rS P 9).2] ∧ Box w3 (R + 1) 69 (numsV P 9).toArray ∧ RecAt w3 w.heap.size (fun _ => 0) (.slice none 0 0) ∧ Below w.heap.size w w3 ∧ w.heap.size < R ∧ Rd w3 w.heap.size D d) := ⟨HS.out.rdr.later hb, HS.out.box.later hb, HS.out.res.later hb, HS.out.bel.trans (hb.mono HS.out.bel.size), HS.out.hR, hD⟩
              have hll : lf.length = P.length - at' := by rw [← hdr, List.length_drop]
              have HLF := Lib.hid hll
              clear hb hdr hD HEQ HS y0 y1 y2 f0 f1 f2 hll
              generalize (rS P 9).2 = er9 at HS3
              obtain ⟨y0, y1, y2⟩ := box3 HS3.out.1
              obtain ⟨f0, f1, f2⟩ := froz3 HS3.out.1
              go_upto_region 30 with fail
              have HS4 : Hid (Box (((w3.setCell ⟨R, 0, none⟩ (.slice X P.length cd)).setCell ⟨R, 1, none⟩ (.int .i64 (at' : Int))).setCell ⟨R, 2, none⟩ (.int .i64 er)) R 66 #[.slice X P.length cd, .int .i64 (at' : Int), .int .i64 er] ∧ Box (((w3.setCell ⟨R, 0, none⟩ (.slice X P.length cd)).setCell ⟨R, 1, none⟩ (.int .i64 (at' : Int))).setCell ⟨R, 2, none⟩ (.int .i64 er)) (R + 1) 69 (numsV P 9).toArray ∧ RecAt (((w3.setCell ⟨R, 0, none⟩ (.slice X P.length cd)).setCell ⟨R, 1, none⟩ (.int .i64 (at' : Int))).setCell ⟨R, 2, none⟩ (.int .i64 er)) w.heap.size (fun _ => 0) (.slice none 0 0) ∧ Below w.heap.size w (((w3.setCell ⟨R, 0, none⟩ (.slice X P.length cd)).setCell ⟨R, 1, none⟩ (.int .i64 (at' : Int))).setCell ⟨R, 2, none⟩ (.int .i64 er)) ∧ Rd (((w3.setCell ⟨R, 0, none⟩ (.slice X P.length cd)).setCell ⟨R, 1, none⟩ (.int .i64 (at' : Int))).setCell ⟨R, 2, none⟩ (.int .i64 er)) w.heap.size D d) := by
                have hR := HS3.out.2.2.2.2.1
                exact ⟨rdr_all HS3.out.1 _ _ _, box_far3 HS3.out.2.1 (by omega) _ _ _, rec_far3 HS3.out.2.2.1 (by omega) _ _ _, below_far3 HS3.out.2.2.2.1 (by omega) _ _ _, ((HS3.out.2.2.2.2.2.setCell (p := ⟨R, 0, none⟩) (by simp; omega) _).setCell (p := ⟨R, 1, none⟩) (by simp; omega) _).setCell (p := ⟨R, 2, none⟩) (by simp; omega) _⟩
              generalize (((w3.setCell ⟨R, 0, none⟩ (.slice X P.length cd)).setCell ⟨R, 1, none⟩ (.int .i64 (at' : Int))).setCell ⟨R, 2, none⟩ (.int .i64 er)) = w4 at HS4 ⊢
              clear HS3 y0 y1 y2 f0 f1 f2
              obtain ⟨y0, y1, y2⟩ := box3 HS4.out.1
              have HRB : Hid (readB P = (decide (er = 0) && decide (lf.length = 0))) := by
                show readB P = _
                unfold readB
                rw [HQ.out]
              by_cases her : er = 0
              · subst her
                by_cases hat : at' < P.length
                · have HE : Hid (getE b (m : Int) = 13) := getE_read HP0.out (by rw [HPO.out, HRB.out, decide_eq_false (show ¬ lf.length = 0 by rw [HLF.out]; omega), Bool.and_false])
                  go_upto_region 31 with fail
                  obtain ⟨z0, z1, z2, z3, z4, z5, z6, z7, z8, z9⟩ := box10 HS4.out.2.2.1
                  obtain ⟨f0, f1, f2, f3, f4, f5, f6, f7, f8, f9⟩ := froz10 HS4.out.2.2.1
                  go_wp2
                  exact bodyPost_ret (v := .tuple #[.agg #[.int .i64 0, .int .i64 0, .int .i64 0, .int .i64 0, .int .i64 0, .int .i64 0, .int .i64 0, .int .i64 0, .int .i64 0, .slice none 0 0], .int .i64 0, .int .i64 13]) (by simp [results, Try.results17, go_sem, *]) rfl (getG_err HE.out (by decide) ⟨none, 0, rfl, Rd.nil, Below.trans HS4.out.2.2.2.1 (by repeat (first | with_reducible exact Below.refl _ _ | with_reducible refine Below.drew ?_ | with_reducible refine Below.alloc ?_ (by first | (simp; done) | (simp; omega)) _ | with_reducible refine Below.setCell ?_ (by first | (simp; done) | (simp; omega)) _))⟩)
                · have HRT : Hid (readB (payO b) = true) := by
                    show _ = true
                    rw [HPO.out, HRB.out, decide_eq_true (show lf.length = 0 by rw [HLF.out]; omega)]
                    rfl
                  have HFL : Hid (F.length = j * m - (16 + P.length)) := by
                    show _ = _
                    rw [← HF.out, List.length_take, List.length_drop]
                    omega
                  have HFA : Hid (∀ t, 16 + P.length ≤ t → (ht : t < j * m) → ∃ h1 : t - (16 + P.length) < F.length, ∃ h2 : t < b.length, F[t - (16 + P.length)] = b[t]) := fun t h1 h2 => by
                    refine ⟨by rw [HFL.out]; omega, by omega, ?_⟩
                    have e := HF.out
                    subst e
                    rw [List.getElem_take, List.getElem_drop]
                    congr 1
                    omega
                  have HBR : Hid (Rd w4 w.heap.size A b) := hr.below HS4.out.2.2.2.1
                  clear HF hr HX hsb HRB HLF
                  go_wp2
                  go_loop [18] (fun i => ∃ t : Nat, i = .int .i64 t ∧ 16 + P.length ≤ t ∧ t ≤ j * m ∧ zeroL (F.take (t - (16 + P.length))) = true) (fun i => j * m - (intOf i).toNat)
                  case atStart => exact ⟨16 + P.length, by go_num, Nat.le_refl _, HK1.out, by rw [Nat.sub_self]; rfl⟩
                  case round =>
                    obtain ⟨t, rfl, ht1, ht2, hz⟩ := hrel
                    have HZ := Lib.hid hz
                    clear hz
                    have hmu : wrap64 ((j : Int) * (m : Int)) = ((j * m : Nat) : Int) := by
                      have e : (j : Int) * (m : Int) = ((j * m : Nat) : Int) := by simp
                      rw [e]
                      generalize j * m = y at hx
                      unfold wrap64
                      omega
                    have hbare : (j : Int) * (m : Int) = ((j * m : Nat) : Int) := by simp
                    by_cases htl : t < j * m
                    · have c1 : (t : Int) < wrap64 ((j : Int) * (m : Int)) := by rw [hmu]; omega
                      have c2 : (t : Int) < (j : Int) * (m : Int) := by rw [hbare]; omega
                      obtain ⟨l1, l2, hFb⟩ := HFA.out t ht1 htl
                      obtain ⟨bb, off, rfl, _, hcc⟩ := HBR.out.at_ (by omega)
                      have hck := hcc t l2
                      have HT : Hid (zeroL (F.take (t + 1 - (16 + P.length))) = (zeroL (F.take (t - (16 + P.length))) && (b[t] == 0))) := by
                        show _ = _
                        rw [show t + 1 - (16 + P.length) = t - (16 + P.length) + 1 by omega]
                        unfold zeroL
                        rw [List.take_succ_eq_append_getElem l1, List.all_append, hFb]
                        simp
                      have HTF : Hid (¬ b[t] = 0 → zeroL F = false) := fun h => by
                        unfold zeroL
                        rw [List.all_eq_false]
                        exact ⟨F[t - (16 + P.length)], List.getElem_mem l1, by rw [hFb]; simpa using h⟩
                      clear hcc hFb hmu hbare
                      generalize b[t] = v at hck HT HTF
                      by_cases h0 : v = 0
                      · have hne : ((v.toNat : Int) != 0) = false := by rw [h0]; rfl
                        have HN2 : Hid (zeroL (F.take (t + 1 - (16 + P.length))) = true) := by
                          show _ = true
                          rw [HT.out, HZ.out, h0]
                          rfl
                        clear h0
                        go_wp2
                        go_round
                        case rel => exact ⟨t + 1, by go_num, by omega, by omega, HN2.out⟩
                        case measure => simp [intOf]; omega
                      · have hne : ((v.toNat : Int) != 0) = true := by
                          have : v.toNat ≠ 0 := fun h => h0 (UInt8.toNat_inj.1 h)
                          simp; omega
                        have HE : Hid (getE b (m : Int) = 13) := getE_fill HP0.out (by rw [HFO.out]; exact HTF.out h0)
                        clear h0
                        go_upto_region 36 with fail
                        obtain ⟨z0, z1, z2, z3, z4, z5, z6, z7, z8, z9⟩ := box10 HS4.out.2.2.1
                        obtain ⟨f0, f1, f2, f3, f4, f5, f6, f7, f8, f9⟩ := froz10 HS4.out.2.2.1
                        go_wp2
                        exact bodyPost_ret (v := .tuple #[.agg #[.int .i64 0, .int .i64 0, .int .i64 0, .int .i64 0, .int .i64 0, .int .i64 0, .int .i64 0, .int .i64 0, .int .i64 0, .slice none 0 0], .int .i64 0, .int .i64 13]) (by simp [results, Try.results17, go_sem, *]) rfl (getG_err HE.out (by decide) ⟨none, 0, rfl, Rd.nil, Below.trans HS4.out.2.2.2.1 (by repeat (first | with_reducible exact Below.refl _ _ | with_reducible refine Below.drew ?_ | with_reducible refine Below.alloc ?_ (by first | (simp; done) | (simp; omega)) _ | with_reducible refine Below.setCell ?_ (by first | (simp; done) | (simp; omega)) _))⟩)
                    · have c1 : ¬ (t : Int) < wrap64 ((j : Int) * (m : Int)) := by rw [hmu]; omega
                      have c2 : ¬ (t : Int) < (j : Int) * (m : Int) := by rw [hbare]; omega
                      have HE : Hid (getE b (m : Int) = 0) := by
                        have ht : t = j * m := by omega
                        have hz := HZ.out
                        rw [ht, ← HFL.out, List.take_length] at hz
                        exact getE_good HP0.out HRT.out (by rw [HFO.out]; exact hz)
                      have hbx := HS4.out.2.1
                      rw [numsV_all] at hbx
                      obtain ⟨n0, n1, n2, n3, n4, n5, n6, n7, n8⟩ := box9 hbx
                      obtain ⟨z0, z1, z2, z3, z4, z5, z6, z7, z8, z9⟩ := box10 HS4.out.2.2.1
                      obtain ⟨k0, k1, k2, k3, k4, k5, k6, k7, k8, k9⟩ := froz10 HS4.out.2.2.1
                      have HDD : Hid ((rY P).1 = d) := by
                        show _ = d
                        rw [HQ.out]
                      clear hmu hbare htl hbx
                      go_wp2
                      refine bodyPost_ret (v := .tuple #[.agg #[.int .i64 (rV P 0), .int .i64 (rV P 1), .int .i64 (rV P 2), .int .i64 (rV P 3), .int .i64 (rV P 4), .int .i64 (rV P 5), .int .i64 (rV P 6), .int .i64 (rV P 7), .int .i64 (rV P 8), .slice D d.length c'], .int .i64 (j : Int), .int .i64 0]) (by simp [results, Try.results17, go_sem, *]) rfl (getG_ok HE.out HPO.out HKE.out HDD.out ⟨D, c', rfl, ?_, Below.trans HS4.out.2.2.2.1 (by repeat (first | with_reducible exact Below.refl _ _ | with_reducible refine Below.drew ?_ | with_reducible refine Below.alloc ?_ (by first | (simp; done) | (simp; omega)) _ | with_reducible refine Below.setCell ?_ (by first | (simp; done) | (simp; omega)) _))⟩)
                      refine Rd.more (B := w.heap.size) ?_ (Nat.le_trans HS4.out.2.2.2.1.size (by simp))
                      repeat (with_reducible refine Rd.setCell ?_ (Nat.le_refl _) _)
                      exact HS4.out.2.2.2.2
              · have he2 : (er != 0) = true := by simpa using her
                have HE : Hid (getE b (m : Int) = 13) := getE_read HP0.out (by rw [HPO.out, HRB.out, decide_eq_false her, Bool.false_and])
                clear her
                go_upto_region 31 with fail
                obtain ⟨z0, z1, z2, z3, z4, z5, z6, z7, z8, z9⟩ := box10 HS4.out.2.2.1
                obtain ⟨f0, f1, f2, f3, f4, f5, f6, f7, f8, f9⟩ := froz10 HS4.out.2.2.1
                go_wp2
                exact bodyPost_ret (v := .tuple #[.agg #[.int .i64 0, .int .i64 0, .int .i64 0, .int .i64 0, .int .i64 0, .int .i64 0, .int .i64 0, .int .i64 0, .int .i64 0, .slice none 0 0], .int .i64 0, .int .i64 13]) (by simp [results, Try.results17, go_sem, *]) rfl (getG_err HE.out (by decide) ⟨none, 0, rfl, Rd.nil, Below.trans HS4.out.2.2.2.1 (by repeat (first | with_reducible exact Below.refl _ _ | with_reducible refine Below.drew ?_ | with_reducible refine Below.alloc ?_ (by first | (simp; done) | (simp; omega)) _ | with_reducible refine Below.setCell ?_ (by first | (simp; done) | (simp; omega)) _))⟩)
        · have hq2 : (q != (cr : Int)) = true := by simpa using hqc
          have HE : Hid (getE b (m : Int) = 15) := getE_part (by rw [HPE2.out, if_neg hqc]) (by decide)
          clear hqc hmu hx
          go_upto_region 17 with fail
          obtain ⟨z0, z1, z2, z3, z4, z5, z6, z7, z8, z9⟩ := box10 HV5.out.1
          obtain ⟨f0, f1, f2, f3, f4, f5, f6, f7, f8, f9⟩ := froz10 HV5.out.1
          go_wp2
          exact bodyPost_ret (v := .tuple #[.agg #[.int .i64 0, .int .i64 0, .int .i64 0, .int .i64 0, .int .i64 0, .int .i64 0, .int .i64 0, .int .i64 0, .int .i64 0, .slice none 0 0], .int .i64 0, .int .i64 15]) (by simp [results, Try.results17, go_sem, *]) rfl (getG_err HE.out (by decide) ⟨none, 0, rfl, Rd.nil, Below.trans HV5.out.2 (by repeat (first | with_reducible exact Below.refl _ _ | with_reducible refine Below.drew ?_ | with_reducible refine Below.alloc ?_ (by first | (simp; done) | (simp; omega)) _ | with_reducible refine Below.setCell ?_ (by first | (simp; done) | (simp; omega)) _))⟩)
theorem rget_any (A : Option Addr) (c : Nat) (b : List UInt8) (bl : Int) (w : World) (hr : Rd w w.heap.size A b) (hc : b.length ≤ c) (hl : b.length ≤ 10000000) : Calls Try.prog 17 #[.slice A b.length c, .int .i64 bl] w (GetG w (getN b bl) (getD b bl) (getK b bl) (getE b bl)) := by
  by_cases h1 : bl < 1
  · exact rget_low A c b bl w hr hc hl h1
  · by_cases h2 : 4096 < bl
    · exact rget_high A c b bl w hr hc hl h1 h2
    · by_cases h16 : b.length < 16
      · exact rget_few A c b bl w hr hc hl h1 h2 h16
      · by_cases hf : num8 b < 0 ∨ 1048656 < num8 b
        · exact rget_form A c b bl w hr hc hl h1 h2 h16 hf
        · have e1 : bl = (bl.toNat : Int) := by omega
          have h := rget_go A c b bl.toNat (num8 b).toNat w hr hc hl (by omega) (by omega) h16 (by omega) (by omega)
          rw [← e1] at h
          exact h
end Go.Proofs.Ytmebbggmdfejkaa
