/- Parts of bytes; the contract of xor.Split. -/
import Derived.Test.YtkjdinlebpkimaaH
namespace Go.Proofs.Ytkjdinlebpkimaa
set_option linter.unusedVariables false
set_option linter.unusedSimpArgs false
open Go.RowKit
open Go.RowKit (wrap64)

/-- The part at j. -/
def partJ (z : Nat) (b : List UInt8) (j : Nat) : List UInt8 := (b.drop (j * z)).take z
/-- The first m parts. -/
def full (z : Nat) (b : List UInt8) (m : Nat) : List (List UInt8) := (List.range m).map (partJ z b)
theorem full_length (z : Nat) (b : List UInt8) (m : Nat) : (full z b m).length = m := by simp [full]
theorem full_succ (z : Nat) (b : List UInt8) (m : Nat) : full z b (m + 1) = full z b m ++ [partJ z b m] := by simp [full, List.range_succ]
/-- The size that holds. -/
def eff (size : Int) (n : Nat) : Nat := if size < 1 then n else size.toNat
/-- All parts. -/
def splitL (b : List UInt8) (size : Int) : List (List UInt8) := if b.length = 0 then [] else full (eff size b.length) b ((b.length - 1) / eff size b.length + 1)

theorem split_done {n z m : Nat} (hz : 1 ≤ z) (hn : 1 ≤ n) (h1 : m ≤ (n - 1) / z + 1) (h2 : n ≤ m * z) : m = (n - 1) / z + 1 := by
  rcases Nat.lt_or_ge m ((n - 1) / z + 1) with h | h
  · have h3 : m * z ≤ (n - 1) / z * z := Nat.mul_le_mul_right _ (by omega)
    have h4 := Nat.div_mul_le_self (n - 1) z
    omega
  · omega
theorem split_more {n z m : Nat} (hz : 1 ≤ z) (h : m * z < n) : m + 1 ≤ (n - 1) / z + 1 := by
  have : m ≤ (n - 1) / z := (Nat.le_div_iff_mul_le (by omega)).2 (by omega)
  omega
theorem drop_next (b : List UInt8) (m z n : Nat) (h : n = z ∨ (n = (b.drop (m * z)).length ∧ n < z)) : (b.drop (m * z)).drop n = b.drop ((m + 1) * z) ∧ (b.drop (m * z)).take n = partJ z b m := by
  have e : b.drop ((m + 1) * z) = (b.drop (m * z)).drop z := by rw [List.drop_drop, Nat.add_mul, Nat.one_mul]
  rcases h with rfl | ⟨h1, h2⟩
  · exact ⟨e.symm, rfl⟩
  · rw [e]
    refine ⟨?_, ?_⟩
    · rw [List.drop_eq_nil_of_le (by omega), List.drop_eq_nil_of_le (by omega)]
    · rw [partJ, List.take_of_length_le (by omega), List.take_of_length_le (by omega)]

/-- Parts are handed back. -/
def GaveP (w : World) (ps : List (List UInt8)) (e : Ending) (w' : World) : Prop := ∃ A c, e = .returned (.slice A ps.length c) ∧ Pts w' w'.heap.size A ps ∧ Below w.heap.size w w'

theorem gaveP_of_own {w w' : World} {v : Value} {ps : List (List UInt8)} (h : OwnB w' w.heap.size v ps) (hb : Below w.heap.size w w') : GaveP w ps (.returned v) w' := by
  obtain ⟨A, c, rfl, hp⟩ := h.form
  exact ⟨A, c, rfl, hp, hb⟩
/-- The length in a slot. -/
def lenOf : Value → Nat | .slice _ n _ => n | _ => 0
/-- What is left to part. -/
def Left (wr : World) (B : Nat) (v : Value) (l : List UInt8) : Prop := ∃ A c, v = .slice A l.length c ∧ l.length ≤ c ∧ c ≤ 140737488351232 ∧ Rd wr B A l

set_option maxHeartbeats 2000000 in
theorem split_mid (A : Option Addr) (c Z : Nat) (b : List UInt8) (w : World) (hr : Rd w w.heap.size A b) (hc : b.length ≤ c) (hcm : c ≤ 140737488351232) (hl : b.length ≤ 100000) (h0 : 1 ≤ b.length) (hz : 1 ≤ Z) (hzm : Z ≤ 9223372036854775807) :
    Calls Try.prog 15 #[.slice A b.length c, .int .i64 (Z : Int)] w (GaveP w (full Z b ((b.length - 1) / Z + 1))) := by
  have hzi : ¬ (Z : Int) < 1 := by omega
  obtain ⟨i0, hi, hz0, hz1, hz2⟩ := info_parts Try.info23
  obtain ⟨q, hq⟩ : ∃ q, q = (b.length - 1) / Z := ⟨_, rfl⟩
  have hq1 : q ≤ b.length - 1 := by rw [hq]; exact Nat.div_le_self _ _
  obtain ⟨w1, hmk, ho, hg⟩ := run_make_own (P := Try.prog) w w.heap.size 22 23 i0 (.slice none 0 0) 1 Try.underlying22 hi hz0 hz1 .i64 .i64 (q + 1) (by rw [hz2]; omega) (by unfold maxLen; omega) (Nat.le_refl _)
  rw [show ((q + 1 : Nat) : Int) = (q : Int) + 1 from rfl] at hmk
  have hdiv : ((b.length : Int) - 1) / (Z : Int) = (q : Int) := by
    rw [hq, show (b.length : Int) - 1 = ((b.length - 1 : Nat) : Int) by omega]
    exact (Int.natCast_ediv _ _).symm
  have O1 : Hid (OwnB w1 w.heap.size (.slice (some ⟨w.heap.size, 0, none⟩) 0 (q + 1)) (full Z b 0)) := ⟨[], ho, Blks.nil _⟩
  have B1 : Hid (Below w.heap.size w w1) := (Below.refl _ _).grown hg (Nat.le_refl _) (fun g e => by cases e)
  have R1 : Hid (Left w1 w.heap.size (.slice A b.length c) (b.drop (0 * Z))) := ⟨A, c, by simp, by simpa using hc, hcm, by simpa using hr.below B1.out⟩
  have HQ := Lib.hid hq
  have hne : ((b.length : Int) == 0) = false := beq_eq_false_iff_ne.2 (by omega)
  have hpz : 0 < (Z : Int) := by omega
  have hpn : 0 ≤ (b.length : Int) - 1 := by omega
  clear hr hc hcm hi hz0 hz1 hz2 ho hg hq
  go_enter Try.func15, Try.ntmps15
  go_wp2
  clear hmk hdiv hpn hne
  go_loopw [0, 5] (fun bs vp wr => ∃ m : Nat, m ≤ q + 1 ∧ Left wr w.heap.size bs (b.drop (m * Z)) ∧ OwnB wr w.heap.size vp (full Z b m) ∧ Below w.heap.size w wr) (fun bs _ _ => lenOf bs)
  case atStart => exact ⟨0, by omega, R1.out, O1.out, B1.out⟩
  case round =>
    clear R1 O1 B1
    obtain ⟨m, hm, ⟨X, c1, rfl, hc1, hcm, hx⟩, ho, hb⟩ := hrel
    have hll : (b.drop (m * Z)).length = b.length - m * Z := List.length_drop ..
    have HO := Lib.hid ho
    have HB := Lib.hid hb
    clear ho hb
    by_cases hL : 0 < (b.drop (m * Z)).length
    · have hm1 : m + 1 ≤ q + 1 := by rw [HQ.out]; exact split_more hz (by omega)
      have hL1 : (b.drop (m * Z)).length ≤ b.length := by omega
      obtain ⟨HE1, HE2⟩ : Hid (∀ n, n = Z ∨ (n = (b.drop (m * Z)).length ∧ n < Z) → (b.drop (m * Z)).drop n = b.drop ((m + 1) * Z)) ∧ Hid (∀ n, n = Z ∨ (n = (b.drop (m * Z)).length ∧ n < Z) → (b.drop (m * Z)).take n = partJ Z b m) := ⟨fun n h => (drop_next b m Z n h).1, fun n h => (drop_next b m Z n h).2⟩
      have HR := Lib.hid hx
      clear hll hx HQ
      generalize b.drop (m * Z) = l at HE1 HE2 HR hc1 hL hL1 ⊢
      by_cases hzl : l.length < Z
      · have hmin : (l.length : Int) < (Z : Int) := by omega
        have H1 := Lib.hid (HE1.out l.length (.inr ⟨rfl, hzl⟩))
        have H2 := Lib.hid (HE2.out l.length (.inr ⟨rfl, hzl⟩))
        have HL : Hid ((l.take l.length).length = l.length) := by
          show (l.take l.length).length = l.length
          simp
        have HC := Lib.hid (HR.out.cut (n := l.length) (cap := c1) (Nat.le_refl _) hc1)
        clear HE1 HE2
        go_wp2_with fail
        refine (clone_blk X c1 l.length (l.take l.length) wr HL.out ((HR.out.take l.length).more HB.out.size) (by rw [HL.out]; omega)).mono ?_
        rintro e w2 ⟨u, rfl, hu, hb2⟩
        obtain ⟨Z2, cz, rfl, _⟩ := id hu
        have O2 := Lib.hid ((HO.out.later hb2).later ((Below.refl _ _).alloc (Nat.le_refl _) (.cells #[.slice Z2 (l.take l.length).length cz] 23)))
        have HS2 := Lib.hid (Nat.le_trans HB.out.size hb2.size)
        have B2 := Lib.hid ((HB.out.trans (hb2.mono HB.out.size)).alloc HS2.out (.cells #[.slice Z2 (l.take l.length).length cz] 23))
        have U2 := Lib.hid (Lst.one hu)
        have C2 := Lib.hid ((HC.out.below (hb2.mono HB.out.size)).alloc HS2.out (.cells #[.slice Z2 (l.take l.length).length cz] 23))
        clear HO HB HR hu hb2 HC
        generalize l.take l.length = t at H2 HL O2 B2 U2 C2
        go_wp2_with (first | (at_builtin; refine wpList_appB _ rfl (.tmp 28) (.tmp 33) rfl w.heap.size _ (full Z b m) rfl O2.out (some ⟨w2.heap.size, 0, none⟩) 1 [t] rfl U2.out (by rw [full_length]; simp; omega) B2.out.size ?_; intro v3 w3 ho hg hb'; have O3 := Lib.hid ho; have G3 := Lib.hid ((Below.refl w.heap.size _).grown hg B2.out.size (fun g hg' => (O2.out.lt g hg').1)); have B3 := Lib.hid (B2.out.trans G3.out); have C3 := Lib.hid (C2.out.below G3.out); clear ho hg hb' O2 B2 U2 C2 G3))
        go_roundw
        case rel =>
          refine ⟨m + 1, hm1, ⟨(if c1 = l.length then X else X.map (·.add l.length)), c1 - l.length, ?_, ?_, by omega, ?_⟩, ?_, B3.out⟩
          · rw [← H1.out, List.length_drop] <;> simp <;> omega
          · rw [← H1.out, List.length_drop]; omega
          · rw [← H1.out]
            exact C3.out
          · rw [full_succ, ← H2.out]
            exact O3.out
        case measure => simp [lenOf]; omega
      · have hmin : ¬ (l.length : Int) < (Z : Int) := by omega
        have H1 := Lib.hid (HE1.out Z (.inl rfl))
        have H2 := Lib.hid (HE2.out Z (.inl rfl))
        have HL : Hid ((l.take Z).length = Z) := by
          show (l.take Z).length = Z
          rw [List.length_take]; omega
        have HC := Lib.hid (HR.out.cut (n := Z) (cap := c1) (by omega) hc1)
        clear HE1 HE2
        go_wp2_with fail
        refine (clone_blk X c1 Z (l.take Z) wr HL.out ((HR.out.take Z).more HB.out.size) (by rw [HL.out]; omega)).mono ?_
        rintro e w2 ⟨u, rfl, hu, hb2⟩
        obtain ⟨Z2, cz, rfl, _⟩ := id hu
        have O2 := Lib.hid ((HO.out.later hb2).later ((Below.refl _ _).alloc (Nat.le_refl _) (.cells #[.slice Z2 (l.take Z).length cz] 23)))
        have HS2 := Lib.hid (Nat.le_trans HB.out.size hb2.size)
        have B2 := Lib.hid ((HB.out.trans (hb2.mono HB.out.size)).alloc HS2.out (.cells #[.slice Z2 (l.take Z).length cz] 23))
        have U2 := Lib.hid (Lst.one hu)
        have C2 := Lib.hid ((HC.out.below (hb2.mono HB.out.size)).alloc HS2.out (.cells #[.slice Z2 (l.take Z).length cz] 23))
        clear HO HB HR hu hb2 HC
        generalize l.take Z = t at H2 HL O2 B2 U2 C2
        go_wp2_with (first | (at_builtin; refine wpList_appB _ rfl (.tmp 28) (.tmp 33) rfl w.heap.size _ (full Z b m) rfl O2.out (some ⟨w2.heap.size, 0, none⟩) 1 [t] rfl U2.out (by rw [full_length]; simp; omega) B2.out.size ?_; intro v3 w3 ho hg hb'; have O3 := Lib.hid ho; have G3 := Lib.hid ((Below.refl w.heap.size _).grown hg B2.out.size (fun g hg' => (O2.out.lt g hg').1)); have B3 := Lib.hid (B2.out.trans G3.out); have C3 := Lib.hid (C2.out.below G3.out); clear ho hg hb' O2 B2 U2 C2 G3))
        go_roundw
        case rel =>
          refine ⟨m + 1, hm1, ⟨(if c1 = Z then X else X.map (·.add Z)), c1 - Z, ?_, ?_, by omega, ?_⟩, ?_, B3.out⟩
          · rw [← H1.out, List.length_drop] <;> simp <;> omega
          · rw [← H1.out, List.length_drop]; omega
          · rw [← H1.out]
            exact C3.out
          · rw [full_succ, ← H2.out]
            exact O3.out
        case measure => simp [lenOf]; omega
    · have hmq : m = q + 1 := by
        rw [HQ.out]
        exact split_done hz h0 (by rw [← HQ.out]; exact hm) (by omega)
      have h00 : (b.drop (m * Z)).length = 0 := by omega
      subst hmq
      have HF := Lib.hid HO.out
      rw [HQ.out] at HF
      rw [h00]
      clear hll h00 hL hx HQ HO
      go_wp2
      go_ret
      exact gaveP_of_own HF.out HB.out

set_option maxHeartbeats 2000000 in
theorem split_low (A : Option Addr) (c : Nat) (sz : Int) (b : List UInt8) (w : World) (hr : Rd w w.heap.size A b) (hc : b.length ≤ c) (hcm : c ≤ 140737488351232) (hl : b.length ≤ 100000) (h0 : 1 ≤ b.length) (hsz : sz < 1) :
    Calls Try.prog 15 #[.slice A b.length c, .int .i64 sz] w (GaveP w (full b.length b ((b.length - 1) / b.length + 1))) := by
  obtain ⟨i0, hi, hz0, hz1, hz2⟩ := info_parts Try.info23
  obtain ⟨q, hq⟩ : ∃ q, q = (b.length - 1) / b.length := ⟨_, rfl⟩
  have hq1 : q ≤ b.length - 1 := by rw [hq]; exact Nat.div_le_self _ _
  obtain ⟨w1, hmk, ho, hg⟩ := run_make_own (P := Try.prog) w w.heap.size 22 23 i0 (.slice none 0 0) 1 Try.underlying22 hi hz0 hz1 .i64 .i64 (q + 1) (by rw [hz2]; omega) (by unfold maxLen; omega) (Nat.le_refl _)
  rw [show ((q + 1 : Nat) : Int) = (q : Int) + 1 from rfl] at hmk
  have hdiv : ((b.length : Int) - 1) / (b.length : Int) = (q : Int) := by
    rw [hq, show (b.length : Int) - 1 = ((b.length - 1 : Nat) : Int) by omega]
    exact (Int.natCast_ediv _ _).symm
  have O1 : Hid (OwnB w1 w.heap.size (.slice (some ⟨w.heap.size, 0, none⟩) 0 (q + 1)) (full b.length b 0)) := ⟨[], ho, Blks.nil _⟩
  have B1 : Hid (Below w.heap.size w w1) := (Below.refl _ _).grown hg (Nat.le_refl _) (fun g e => by cases e)
  have R1 : Hid (Left w1 w.heap.size (.slice A b.length c) (b.drop (0 * b.length))) := ⟨A, c, by simp, by simpa using hc, hcm, by simpa using hr.below B1.out⟩
  have HQ := Lib.hid hq
  have hne : ((b.length : Int) == 0) = false := beq_eq_false_iff_ne.2 (by omega)
  have hpz : 0 < (b.length : Int) := by omega
  have hpn : 0 ≤ (b.length : Int) - 1 := by omega
  clear hr hc hcm hi hz0 hz1 hz2 ho hg hq
  go_enter Try.func15, Try.ntmps15
  go_wp2
  clear hmk hdiv hpn hne
  go_loopw [0, 5] (fun bs vp wr => ∃ m : Nat, m ≤ q + 1 ∧ Left wr w.heap.size bs (b.drop (m * b.length)) ∧ OwnB wr w.heap.size vp (full b.length b m) ∧ Below w.heap.size w wr) (fun bs _ _ => lenOf bs)
  case atStart => exact ⟨0, by omega, R1.out, O1.out, B1.out⟩
  case round =>
    clear R1 O1 B1
    obtain ⟨m, hm, ⟨X, c1, rfl, hc1, hcm, hx⟩, ho, hb⟩ := hrel
    have hll : (b.drop (m * b.length)).length = b.length - m * b.length := List.length_drop ..
    have HO := Lib.hid ho
    have HB := Lib.hid hb
    clear ho hb
    by_cases hL : 0 < (b.drop (m * b.length)).length
    · have hm1 : m + 1 ≤ q + 1 := by rw [HQ.out]; exact split_more h0 (by omega)
      have hL1 : (b.drop (m * b.length)).length ≤ b.length := by omega
      obtain ⟨HE1, HE2⟩ : Hid (∀ n, n = b.length ∨ (n = (b.drop (m * b.length)).length ∧ n < b.length) → (b.drop (m * b.length)).drop n = b.drop ((m + 1) * b.length)) ∧ Hid (∀ n, n = b.length ∨ (n = (b.drop (m * b.length)).length ∧ n < b.length) → (b.drop (m * b.length)).take n = partJ b.length b m) := ⟨fun n h => (drop_next b m b.length n h).1, fun n h => (drop_next b m b.length n h).2⟩
      have HR := Lib.hid hx
      clear hll hx HQ
      generalize b.drop (m * b.length) = l at HE1 HE2 HR hc1 hL hL1 ⊢
      by_cases hzl : l.length < b.length
      · have hmin : (l.length : Int) < (b.length : Int) := by omega
        have H1 := Lib.hid (HE1.out l.length (.inr ⟨rfl, hzl⟩))
        have H2 := Lib.hid (HE2.out l.length (.inr ⟨rfl, hzl⟩))
        have HL : Hid ((l.take l.length).length = l.length) := by
          show (l.take l.length).length = l.length
          simp
        have HC := Lib.hid (HR.out.cut (n := l.length) (cap := c1) (Nat.le_refl _) hc1)
        clear HE1 HE2
        go_wp2_with fail
        refine (clone_blk X c1 l.length (l.take l.length) wr HL.out ((HR.out.take l.length).more HB.out.size) (by rw [HL.out]; omega)).mono ?_
        rintro e w2 ⟨u, rfl, hu, hb2⟩
        obtain ⟨Z2, cz, rfl, _⟩ := id hu
        have O2 := Lib.hid ((HO.out.later hb2).later ((Below.refl _ _).alloc (Nat.le_refl _) (.cells #[.slice Z2 (l.take l.length).length cz] 23)))
        have HS2 := Lib.hid (Nat.le_trans HB.out.size hb2.size)
        have B2 := Lib.hid ((HB.out.trans (hb2.mono HB.out.size)).alloc HS2.out (.cells #[.slice Z2 (l.take l.length).length cz] 23))
        have U2 := Lib.hid (Lst.one hu)
        have C2 := Lib.hid ((HC.out.below (hb2.mono HB.out.size)).alloc HS2.out (.cells #[.slice Z2 (l.take l.length).length cz] 23))
        clear HO HB HR hu hb2 HC
        generalize l.take l.length = t at H2 HL O2 B2 U2 C2
        go_wp2_with (first | (at_builtin; refine wpList_appB _ rfl (.tmp 28) (.tmp 33) rfl w.heap.size _ (full b.length b m) rfl O2.out (some ⟨w2.heap.size, 0, none⟩) 1 [t] rfl U2.out (by rw [full_length]; simp; omega) B2.out.size ?_; intro v3 w3 ho hg hb'; have O3 := Lib.hid ho; have G3 := Lib.hid ((Below.refl w.heap.size _).grown hg B2.out.size (fun g hg' => (O2.out.lt g hg').1)); have B3 := Lib.hid (B2.out.trans G3.out); have C3 := Lib.hid (C2.out.below G3.out); clear ho hg hb' O2 B2 U2 C2 G3))
        go_roundw
        case rel =>
          refine ⟨m + 1, hm1, ⟨(if c1 = l.length then X else X.map (·.add l.length)), c1 - l.length, ?_, ?_, by omega, ?_⟩, ?_, B3.out⟩
          · rw [← H1.out, List.length_drop] <;> simp <;> omega
          · rw [← H1.out, List.length_drop]; omega
          · rw [← H1.out]
            exact C3.out
          · rw [full_succ, ← H2.out]
            exact O3.out
        case measure => simp [lenOf]; omega
      · have hmin : ¬ (l.length : Int) < (b.length : Int) := by omega
        have H1 := Lib.hid (HE1.out b.length (.inl rfl))
        have H2 := Lib.hid (HE2.out b.length (.inl rfl))
        have HL : Hid ((l.take b.length).length = b.length) := by
          show (l.take b.length).length = b.length
          rw [List.length_take]; omega
        have HC := Lib.hid (HR.out.cut (n := b.length) (cap := c1) (by omega) hc1)
        clear HE1 HE2
        go_wp2_with fail
        refine (clone_blk X c1 b.length (l.take b.length) wr HL.out ((HR.out.take b.length).more HB.out.size) (by rw [HL.out]; omega)).mono ?_
        rintro e w2 ⟨u, rfl, hu, hb2⟩
        obtain ⟨Z2, cz, rfl, _⟩ := id hu
        have O2 := Lib.hid ((HO.out.later hb2).later ((Below.refl _ _).alloc (Nat.le_refl _) (.cells #[.slice Z2 (l.take b.length).length cz] 23)))
        have HS2 := Lib.hid (Nat.le_trans HB.out.size hb2.size)
        have B2 := Lib.hid ((HB.out.trans (hb2.mono HB.out.size)).alloc HS2.out (.cells #[.slice Z2 (l.take b.length).length cz] 23))
        have U2 := Lib.hid (Lst.one hu)
        have C2 := Lib.hid ((HC.out.below (hb2.mono HB.out.size)).alloc HS2.out (.cells #[.slice Z2 (l.take b.length).length cz] 23))
        clear HO HB HR hu hb2 HC
        generalize l.take b.length = t at H2 HL O2 B2 U2 C2
        go_wp2_with (first | (at_builtin; refine wpList_appB _ rfl (.tmp 28) (.tmp 33) rfl w.heap.size _ (full b.length b m) rfl O2.out (some ⟨w2.heap.size, 0, none⟩) 1 [t] rfl U2.out (by rw [full_length]; simp; omega) B2.out.size ?_; intro v3 w3 ho hg hb'; have O3 := Lib.hid ho; have G3 := Lib.hid ((Below.refl w.heap.size _).grown hg B2.out.size (fun g hg' => (O2.out.lt g hg').1)); have B3 := Lib.hid (B2.out.trans G3.out); have C3 := Lib.hid (C2.out.below G3.out); clear ho hg hb' O2 B2 U2 C2 G3))
        go_roundw
        case rel =>
          refine ⟨m + 1, hm1, ⟨(if c1 = b.length then X else X.map (·.add b.length)), c1 - b.length, ?_, ?_, by omega, ?_⟩, ?_, B3.out⟩
          · rw [← H1.out, List.length_drop] <;> simp <;> omega
          · rw [← H1.out, List.length_drop]; omega
          · rw [← H1.out]
            exact C3.out
          · rw [full_succ, ← H2.out]
            exact O3.out
        case measure => simp [lenOf]; omega
    · have hmq : m = q + 1 := by
        rw [HQ.out]
        exact split_done h0 h0 (by rw [← HQ.out]; exact hm) (by omega)
      have h00 : (b.drop (m * b.length)).length = 0 := by omega
      subst hmq
      have HF := Lib.hid HO.out
      rw [HQ.out] at HF
      rw [h00]
      clear hll h00 hL hx HQ HO
      go_wp2
      go_ret
      exact gaveP_of_own HF.out HB.out

theorem split_gave (A : Option Addr) (c : Nat) (sz : Int) (b : List UInt8) (w : World) (hr : Rd w w.heap.size A b) (hc : b.length ≤ c) (hcm : c ≤ 140737488351232) (hl : b.length ≤ 100000) (hs : sz ≤ 9223372036854775807) :
    Calls Try.prog 15 #[.slice A b.length c, .int .i64 sz] w (GaveP w (splitL b sz)) := by
  unfold splitL
  by_cases h0 : b.length = 0
  · rw [if_pos h0, h0]
    clear hr hc
    go_enter Try.func15, Try.ntmps15
    go_wp2
    go_ret
    exact ⟨none, 0, rfl, fun h => by simp at h, Below.refl _ _⟩
  · rw [if_neg h0]
    unfold eff
    by_cases h1 : sz < 1
    · rw [if_pos h1]
      exact split_low A c sz b w hr hc hcm hl (by omega) h1
    · rw [if_neg h1]
      have h := split_mid A c sz.toNat b w hr hc hcm hl (by omega) (by omega) (by omega)
      rwa [show ((sz.toNat : Nat) : Int) = sz by omega] at h

end Go.Proofs.Ytkjdinlebpkimaa
