/- The contract of parted. -/
import Derived.Test.YtmebbggmdfejkaaRi
import Derived.Deep.DeepCutAuto
import Derived.BigQuiet
import Derived.IntWalk
namespace Go.Proofs.Ytmebbggmdfejkaa
set_option linter.unusedVariables false
set_option linter.unusedSimpArgs false
open Go.RowKit
open Go.RowKit (wrap64)

theorem new_of (A : Option Addr) (c k : Nat) (l : List UInt8) (w : World) (hn : l.length = k) (hr : Rd w w.heap.size A l) (hl : l.length ≤ 10000000) : Calls Try.prog 44 #[.slice A k c] w (Made w l) := by
  subst hn
  exact new_any A c l w hr hl
theorem of_of (A : Option Addr) (c k : Nat) (l : List UInt8) (w : World) (hn : l.length = k) (hr : Rd w w.heap.size A l) (hl : l.length ≤ 10000000) :
    Calls Try.prog 24 #[.slice A k c] w fun e w' => e = .returned (.int .u32 (crcN l : Nat)) ∧ Below w.heap.size w w' := by
  subst hn
  refine (of_any A c l w hr hl).mono ?_
  rintro e w' ⟨rfl, rfl⟩
  exact ⟨rfl, (Below.refl _ _).alloc (Nat.le_refl _) _⟩
/-- A cut 'b[lo:hi]', as a run equation. -/
theorem slice_cut (A : Option Addr) (c : Nat) (b : List UInt8) (lo hi : Nat) (li hj : Int) (h1 : lo ≤ hi) (h2 : hi ≤ b.length) (hc : b.length ≤ c) (e1 : li = (lo : Int)) (e2 : hj = (hi : Int)) :
    ∃ X, (∀ w B, Rd w B A b → Rd w B X ((b.drop lo).take (hi - lo))) ∧ ∀ w, (Instr.slice 22 (.slice A b.length c) (some (.int .i64 li)) (some (.int .i64 hj)) none).run Try.prog w = .ok (.slice X (hi - lo) (c - lo)) w := by
  subst e1 e2
  refine ⟨if c = lo then A else A.map (·.add lo), fun w B h => (h.cut (by omega) hc).take _, fun w => ?_⟩
  have he : Try.prog.elem 22 = 5 := by kernel_rfl
  rw [run_slice_lh w 22 A b.length c (by rw [he]; exact Try.underlying22) .i64 .i64 (lo : Int) (hi : Int) (by omega) (by omega) (by omega)]
  rw [he]
  have ht5 : Try.t5.size = 1 := by kernel_rfl
  simp [sizeOf, ht5, sliced, go_sem]
/-- What parted answers. -/
def PartG (w : World) (p f : List UInt8) (er : Int) (e : Ending) (w' : World) : Prop :=
  ∃ X cx Y cy, e = .returned (.tuple #[.slice X p.length cx, .slice Y f.length cy, .int .i64 er]) ∧ Rd w' w'.heap.size X p ∧ Rd w' w'.heap.size Y f ∧ p.length ≤ cx ∧ Below w.heap.size w w'
theorem rI_head {b : List UInt8} (h : 16 ≤ b.length) (lo hi : Int) : rI (b.take 16) 0 lo hi = if num8 b < lo ∨ hi < num8 b then (0, (b.drop 8).take 8, 13) else (num8 b, (b.drop 8).take 8, 0) := by
  rw [rI_of lo hi (by rw [List.length_take]; omega), num8_take (by omega), List.drop_take]
theorem rI_next {b : List UInt8} (h : 16 ≤ b.length) : rI ((b.drop 8).take 8) 0 (-9223372036854775808) 9223372036854775807 = (num8 (b.drop 8), ((b.drop 8).take 8).drop 8, 0) := by
  rw [rI_of _ _ (by rw [List.length_take, List.length_drop]; omega), num8_take (by omega), if_neg]
  have : (-9223372036854775808) ≤ num8 (b.drop 8) ∧ num8 (b.drop 8) ≤ 9223372036854775807 := by
    unfold num8 wrap64
    omega
  omega
theorem rI_stuck (l : List UInt8) (lo hi : Int) : rI l 13 lo hi = (0, l, 13) := by
  unfold rI
  rw [if_neg (by decide)]
set_option maxRecDepth 100000 in
set_option maxHeartbeats 2000000 in
theorem part_arg (A : Option Addr) (c : Nat) (b : List UInt8) (bl : Int) (w : World) (hr : Rd w w.heap.size A b) (hc : b.length ≤ c) (hl : b.length ≤ 10000000) (hm : mayB bl = false) : Calls Try.prog 33 #[.slice A b.length c, .int .i64 bl] w (PartG w [] [] 1) := by
  go_enter Try.func33, Try.ntmps33
  go_wp2_with fail
  refine (mayBe_any _ w).mono ?_
  rintro e w' ⟨rfl, rfl⟩
  rw [hm]
  go_wp2
  exact bodyPost_ret (v := .tuple #[.slice none 0 0, .slice none 0 0, .int .i64 1]) (by simp [results, Try.results33, go_sem, *]) rfl ⟨none, 0, none, 0, rfl, Rd.nil, Rd.nil, Nat.le_refl _, Below.refl _ _⟩
set_option maxRecDepth 100000 in
set_option maxHeartbeats 2000000 in
theorem part_few (A : Option Addr) (c : Nat) (b : List UInt8) (bl : Int) (w : World) (hr : Rd w w.heap.size A b) (hc : b.length ≤ c) (hl : b.length ≤ 10000000) (hm : mayB bl = true) (h16 : b.length < 16) : Calls Try.prog 33 #[.slice A b.length c, .int .i64 bl] w (PartG w [] [] 14) := by
  go_enter Try.func33, Try.ntmps33
  go_wp2_with fail
  refine (mayBe_any _ w).mono ?_
  rintro e w' ⟨rfl, rfl⟩
  rw [hm]
  go_wp2
  exact bodyPost_ret (v := .tuple #[.slice none 0 0, .slice none 0 0, .int .i64 14]) (by simp [results, Try.results33, go_sem, *]) rfl ⟨none, 0, none, 0, rfl, Rd.nil, Rd.nil, Nat.le_refl _, Below.refl _ _⟩
set_option maxRecDepth 100000 in
set_option maxHeartbeats 2000000 in
theorem part_form (A : Option Addr) (c : Nat) (b : List UInt8) (bl : Int) (w : World) (hr : Rd w w.heap.size A b) (hc : b.length ≤ c) (hl : b.length ≤ 10000000) (hm : mayB bl = true) (h16 : ¬ b.length < 16) (hf : num8 b < 0 ∨ 1048656 < num8 b) : Calls Try.prog 33 #[.slice A b.length c, .int .i64 bl] w (PartG w [] [] 13) := by
  have HI : Hid (rI (b.take 16) 0 0 1048656 = (0, (b.drop 8).take 8, 13)) := by
    show _ = _
    rw [rI_head (by omega), if_pos hf]
  have HJ := Lib.hid (rI_stuck ((b.drop 8).take 8) (-9223372036854775808) 9223372036854775807)
  clear hf
  go_enter Try.func33, Try.ntmps33
  go_wp2_with fail
  refine (mayBe_any _ w).mono ?_
  rintro e w' ⟨rfl, rfl⟩
  rw [hm]
  have hr16 : Hid (Rd w w.heap.size A (b.take 16)) := hr.take 16
  have hn16 : Hid ((b.take 16).length = 16) := by
    show _ = _
    rw [List.length_take]
    omega
  go_wp2_with fail
  refine (new_of A c 16 (b.take 16) w hn16.out hr16.out (by rw [hn16.out]; omega)).mono ?_
  rintro e w1 ⟨rfl, hrd, _, hb⟩
  have HV1 := Lib.hid (And.intro hrd hb)
  generalize hp : w.heap.size + 1 = p at HV1 ⊢
  have HP : Hid (w.heap.size ≤ p) := by
    show _ ≤ p
    omega
  clear hp hrd hb hr16 hn16
  go_wp2_with fail
  refine (rInt_any (b.take 16) 0 0 1048656 p w1 HV1.out.1).mono ?_
  rintro e w2 ⟨rfl, hrd, hg⟩
  rw [HI.out] at hrd ⊢
  have HV2 : Hid (Rdr w2 p ((b.drop 8).take 8) 13 ∧ Below w.heap.size w w2) := ⟨hrd, HV1.out.2.trans ((turn_of_grown hg).below (by simpa using HP.out) HV1.out.2.size)⟩
  clear hrd hg HV1
  go_wp2_with fail
  refine (rInt_any ((b.drop 8).take 8) 13 (-9223372036854775808) 9223372036854775807 p w2 HV2.out.1).mono ?_
  rintro e w3 ⟨rfl, hrd, hg⟩
  rw [HJ.out] at hrd ⊢
  have HV3 : Hid (Rdr w3 p ((b.drop 8).take 8) 13 ∧ Below w.heap.size w w3) := ⟨hrd, HV2.out.2.trans ((turn_of_grown hg).below (by simpa using HP.out) HV2.out.2.size)⟩
  clear hrd hg HV2
  go_wp2_with fail
  refine (err_any _ _ p w3 HV3.out.1).mono ?_
  rintro e w' ⟨rfl, rfl⟩
  go_wp2
  exact bodyPost_ret (v := .tuple #[.slice none 0 0, .slice none 0 0, .int .i64 13]) (by simp [results, Try.results33, go_sem, *]) rfl ⟨none, 0, none, 0, rfl, Rd.nil, Rd.nil, Nat.le_refl _, HV3.out.2⟩
set_option maxRecDepth 100000 in
set_option maxHeartbeats 2000000 in
theorem part_short (A : Option Addr) (c : Nat) (b : List UInt8) (m s : Nat) (w : World) (hr : Rd w w.heap.size A b) (hc : b.length ≤ c) (hl : b.length ≤ 10000000) (hm : mayB (m : Int) = true) (h16 : ¬ b.length < 16) (hs : num8 b = (s : Int)) (hs2 : s ≤ 1048656) (hx : b.length < spanN s m * m) : Calls Try.prog 33 #[.slice A b.length c, .int .i64 (m : Int)] w (PartG w [] [] 14) := by
  have HI : Hid (rI (b.take 16) 0 0 1048656 = ((s : Int), (b.drop 8).take 8, 0)) := by
    show _ = _
    rw [rI_head (by omega), hs, if_neg (by omega)]
  obtain ⟨q, hq⟩ : ∃ q, num8 (b.drop 8) = q := ⟨_, rfl⟩
  have HJ : Hid (rI ((b.drop 8).take 8) 0 (-9223372036854775808) 9223372036854775807 = (q, ((b.drop 8).take 8).drop 8, 0)) := by
    show _ = _
    rw [rI_next (by omega), hq]
  have HQ := Lib.hid hq
  have hm' := mayB_iff.1 hm
  obtain ⟨E, hE⟩ : ∃ E, spanN s m * m = E := ⟨_, rfl⟩
  have hE1 := span_ge s m (by omega)
  have hE2 : spanN s m * m ≤ 16 + s + m - 1 := Nat.div_mul_le_self _ _
  rw [hE] at hE1 hE2 hx
  have hmul : wrap64 ((spanN s m : Int) * (m : Int)) = (E : Int) := by
    have e : (spanN s m : Int) * (m : Int) = (E : Int) := by rw [← hE]; simp
    rw [e]
    unfold wrap64
    omega
  have HE := Lib.hid hE
  clear hq hs hE
  go_enter Try.func33, Try.ntmps33
  go_wp2_with fail
  refine (mayBe_any _ w).mono ?_
  rintro e w' ⟨rfl, rfl⟩
  rw [hm]
  have hr16 : Hid (Rd w w.heap.size A (b.take 16)) := hr.take 16
  have hn16 : Hid ((b.take 16).length = 16) := by
    show _ = _
    rw [List.length_take]
    omega
  go_wp2_with fail
  refine (new_of A c 16 (b.take 16) w hn16.out hr16.out (by rw [hn16.out]; omega)).mono ?_
  rintro e w1 ⟨rfl, hrd, _, hb⟩
  have HV1 := Lib.hid (And.intro hrd hb)
  generalize hp : w.heap.size + 1 = p at HV1 ⊢
  have HP : Hid (w.heap.size ≤ p) := by
    show _ ≤ p
    omega
  clear hp hrd hb hr16 hn16
  go_wp2_with fail
  refine (rInt_any (b.take 16) 0 0 1048656 p w1 HV1.out.1).mono ?_
  rintro e w2 ⟨rfl, hrd, hg⟩
  rw [HI.out] at hrd ⊢
  have HV2 : Hid (Rdr w2 p ((b.drop 8).take 8) 0 ∧ Below w.heap.size w w2) := ⟨hrd, HV1.out.2.trans ((turn_of_grown hg).below (by simpa using HP.out) HV1.out.2.size)⟩
  clear hrd hg HV1
  go_wp2_with fail
  refine (rInt_any ((b.drop 8).take 8) 0 (-9223372036854775808) 9223372036854775807 p w2 HV2.out.1).mono ?_
  rintro e w3 ⟨rfl, hrd, hg⟩
  rw [HJ.out] at hrd ⊢
  have HV3 : Hid (Rdr w3 p (((b.drop 8).take 8).drop 8) 0 ∧ Below w.heap.size w w3) := ⟨hrd, HV2.out.2.trans ((turn_of_grown hg).below (by simpa using HP.out) HV2.out.2.size)⟩
  clear hrd hg HV2
  go_wp2_with fail
  refine (err_any _ _ p w3 HV3.out.1).mono ?_
  rintro e w' ⟨rfl, rfl⟩
  go_wp2_with fail
  refine (span_any s m w3 (by omega) (by omega) (by omega)).mono ?_
  rintro e w' ⟨rfl, rfl⟩
  generalize spanN s m = K at hmul HE ⊢
  go_upto_region 12 with fail
  rw [hmul]
  clear hmul
  go_wp2
  exact bodyPost_ret (v := .tuple #[.slice none 0 0, .slice none 0 0, .int .i64 14]) (by simp [results, Try.results33, go_sem, *]) rfl ⟨none, 0, none, 0, rfl, Rd.nil, Rd.nil, Nat.le_refl _, HV3.out.2⟩
set_option maxRecDepth 100000 in
set_option maxHeartbeats 2000000 in
theorem part_go (A : Option Addr) (c : Nat) (b : List UInt8) (m s : Nat) (w : World) (hr : Rd w w.heap.size A b) (hc : b.length ≤ c) (hl : b.length ≤ 10000000) (hm : mayB (m : Int) = true) (h16 : ¬ b.length < 16) (hs : num8 b = (s : Int)) (hs2 : s ≤ 1048656) (hx : ¬ b.length < spanN s m * m) (P F : List UInt8) (hP : (b.drop 16).take s = P) (hF : (b.drop (16 + s)).take (spanN s m * m - (16 + s)) = F) (er : Int) (her : er = if num8 (b.drop 8) = (crcN P : Nat) then 0 else 15) : Calls Try.prog 33 #[.slice A b.length c, .int .i64 (m : Int)] w (fun e w' => (er = 0 → PartG w P F 0 e w') ∧ (¬ er = 0 → PartG w [] [] 15 e w')) := by
  have HI : Hid (rI (b.take 16) 0 0 1048656 = ((s : Int), (b.drop 8).take 8, 0)) := by
    show _ = _
    rw [rI_head (by omega), hs, if_neg (by omega)]
  obtain ⟨q, hq⟩ : ∃ q, num8 (b.drop 8) = q := ⟨_, rfl⟩
  have HJ : Hid (rI ((b.drop 8).take 8) 0 (-9223372036854775808) 9223372036854775807 = (q, ((b.drop 8).take 8).drop 8, 0)) := by
    show _ = _
    rw [rI_next (by omega), hq]
  have HQ := Lib.hid hq
  have hm' := mayB_iff.1 hm
  obtain ⟨E, hE⟩ : ∃ E, spanN s m * m = E := ⟨_, rfl⟩
  have hE1 := span_ge s m (by omega)
  have hE2 : spanN s m * m ≤ 16 + s + m - 1 := Nat.div_mul_le_self _ _
  rw [hE] at hE1 hE2 hx hF
  have hmul : wrap64 ((spanN s m : Int) * (m : Int)) = (E : Int) := by
    have e : (spanN s m : Int) * (m : Int) = (E : Int) := by rw [← hE]; simp
    rw [e]
    unfold wrap64
    omega
  have HE := Lib.hid hE
  clear hq hs hE
  go_enter Try.func33, Try.ntmps33
  go_wp2_with fail
  refine (mayBe_any _ w).mono ?_
  rintro e w' ⟨rfl, rfl⟩
  rw [hm]
  have hr16 : Hid (Rd w w.heap.size A (b.take 16)) := hr.take 16
  have hn16 : Hid ((b.take 16).length = 16) := by
    show _ = _
    rw [List.length_take]
    omega
  go_wp2_with fail
  refine (new_of A c 16 (b.take 16) w hn16.out hr16.out (by rw [hn16.out]; omega)).mono ?_
  rintro e w1 ⟨rfl, hrd, _, hb⟩
  have HV1 := Lib.hid (And.intro hrd hb)
  generalize hp : w.heap.size + 1 = p at HV1 ⊢
  have HP : Hid (w.heap.size ≤ p) := by
    show _ ≤ p
    omega
  clear hp hrd hb hr16 hn16
  go_wp2_with fail
  refine (rInt_any (b.take 16) 0 0 1048656 p w1 HV1.out.1).mono ?_
  rintro e w2 ⟨rfl, hrd, hg⟩
  rw [HI.out] at hrd ⊢
  have HV2 : Hid (Rdr w2 p ((b.drop 8).take 8) 0 ∧ Below w.heap.size w w2) := ⟨hrd, HV1.out.2.trans ((turn_of_grown hg).below (by simpa using HP.out) HV1.out.2.size)⟩
  clear hrd hg HV1
  go_wp2_with fail
  refine (rInt_any ((b.drop 8).take 8) 0 (-9223372036854775808) 9223372036854775807 p w2 HV2.out.1).mono ?_
  rintro e w3 ⟨rfl, hrd, hg⟩
  rw [HJ.out] at hrd ⊢
  have HV3 : Hid (Rdr w3 p (((b.drop 8).take 8).drop 8) 0 ∧ Below w.heap.size w w3) := ⟨hrd, HV2.out.2.trans ((turn_of_grown hg).below (by simpa using HP.out) HV2.out.2.size)⟩
  clear hrd hg HV2
  go_wp2_with fail
  refine (err_any _ _ p w3 HV3.out.1).mono ?_
  rintro e w' ⟨rfl, rfl⟩
  go_wp2_with fail
  refine (span_any s m w3 (by omega) (by omega) (by omega)).mono ?_
  rintro e w' ⟨rfl, rfl⟩
  generalize spanN s m = K at hmul HE ⊢
  go_upto_region 12 with fail
  rw [hmul]
  clear hmul
  obtain ⟨X, hX, hsl⟩ := slice_cut A c b 16 (16 + s) 16 (16 + (s : Int)) (by omega) (by omega) hc rfl (by omega)
  obtain ⟨Y, hY, hsl2⟩ := slice_cut A c b (16 + s) E (16 + (s : Int)) (E : Int) (by omega) (by omega) hc (by omega) rfl
  rw [show 16 + s - 16 = s by omega] at hX hsl
  rw [hP] at hX
  rw [hF] at hY
  have HPL : Hid (P.length = s) := by
    show _ = s
    rw [← hP, List.length_take, List.length_drop]
    omega
  have HFL : Hid (F.length = E - (16 + s)) := by
    show _ = _
    rw [← hF, List.length_take, List.length_drop]
    omega
  have HXY : Hid (Rd w3 w3.heap.size X P ∧ Rd w3 w3.heap.size Y F ∧ s ≤ c - 16) := by
    have h := (hr.below HV3.out.2).more HV3.out.2.size
    exact ⟨hX _ _ h, hY _ _ h, by omega⟩
  have HER := Lib.hid her
  clear hX hY hP hF her hr
  have hcr := crcN_lt P
  generalize hcd : c - 16 = cd at hsl HXY
  generalize hcf : c - (16 + s) = cf at hsl2
  clear hcd hcf
  go_wp2_with fail
  refine (of_of X cd s P w3 HPL.out HXY.out.1 (by rw [HPL.out]; omega)).mono ?_
  rintro e w4 ⟨rfl, hb⟩
  have HV4 : Hid (Rd w4 w4.heap.size X P ∧ Rd w4 w4.heap.size Y F ∧ s ≤ cd ∧ Below w.heap.size w w4) := ⟨HXY.out.1.later hb, HXY.out.2.1.later hb, HXY.out.2.2, HV3.out.2.trans (hb.mono HV3.out.2.size)⟩
  have HE2 : Hid (er = if q = (crcN P : Nat) then 0 else 15) := by
    show er = _
    rw [← HQ.out]
    exact HER.out
  clear hb HXY HV3 HER HQ HJ HI hsl
  generalize crcN P = cr at hcr HE2 ⊢
  by_cases hq : q = (cr : Int)
  · subst hq
    have HR : Hid (er = 0) := by
      show er = 0
      rw [HE2.out, if_pos rfl]
    have hws : IntKind.i64.wrap (16 + (s : Int)) = 16 + (s : Int) := by refine IntWalk.i64_in _ ?_; omega
    go_upto_region 17 with fail
    go_quiet (fail)
    have HV5 : Hid (Rd (w4.drewN nq) (w4.drewN nq).heap.size X P ∧ Rd (w4.drewN nq) (w4.drewN nq).heap.size Y F ∧ s ≤ cd ∧ Below w.heap.size w (w4.drewN nq)) := ⟨HV4.out.1, HV4.out.2.1, HV4.out.2.2.1, below_drewN HV4.out.2.2.2 nq⟩
    generalize w4.drewN nq = w5 at HV5 ⊢
    clear hsl2 hws HV4
    go_wp2
    exact bodyPost_ret (v := .tuple #[.slice X s cd, .slice Y (E - (16 + s)) cf, .int .i64 0]) (by simp [results, Try.results33, go_sem, *]) rfl ⟨fun _ => ⟨X, cd, Y, cf, by rw [HPL.out, HFL.out], HV5.out.1, HV5.out.2.1, by rw [HPL.out]; exact HV5.out.2.2.1, HV5.out.2.2.2⟩, fun h => absurd HR.out h⟩
  · have hq2 : (q != (cr : Int)) = true := by simpa using hq
    have HR : Hid (er = 15) := by
      show er = 15
      rw [HE2.out, if_neg hq]
    clear hq
    go_wp2
    exact bodyPost_ret (v := .tuple #[.slice none 0 0, .slice none 0 0, .int .i64 15]) (by simp [results, Try.results33, go_sem, *]) rfl ⟨fun h => absurd (h.symm.trans HR.out) (by decide), fun _ => ⟨none, 0, none, 0, rfl, Rd.nil, Rd.nil, Nat.le_refl _, HV4.out.2.2.2⟩⟩
/-- What parted answers, of any bytes. -/
def PartP (w : World) (b : List UInt8) (bl : Int) (e : Ending) (w' : World) : Prop := (partE b bl = 0 → PartG w (payO b) (fillO b bl) 0 e w') ∧ (¬ partE b bl = 0 → PartG w [] [] (partE b bl) e w')
theorem part_any (A : Option Addr) (c : Nat) (b : List UInt8) (bl : Int) (w : World) (hr : Rd w w.heap.size A b) (hc : b.length ≤ c) (hl : b.length ≤ 10000000) : Calls Try.prog 33 #[.slice A b.length c, .int .i64 bl] w (PartP w b bl) := by
  cases hm : mayB bl
  · have e : partE b bl = 1 := by unfold partE; rw [hm]; rfl
    refine (part_arg A c b bl w hr hc hl hm).mono fun ee w' h => ⟨fun h0 => absurd (e.symm.trans h0) (by decide), fun _ => by rw [e]; exact h⟩
  · by_cases h16 : b.length < 16
    · have e : partE b bl = 14 := by unfold partE; rw [if_pos hm, if_pos h16]
      refine (part_few A c b bl w hr hc hl hm h16).mono fun ee w' h => ⟨fun h0 => absurd (e.symm.trans h0) (by decide), fun _ => by rw [e]; exact h⟩
    · by_cases hf : num8 b < 0 ∨ 1048656 < num8 b
      · have e : partE b bl = 13 := by unfold partE; rw [if_pos hm, if_neg h16, if_pos hf]
        refine (part_form A c b bl w hr hc hl hm h16 hf).mono fun ee w' h => ⟨fun h0 => absurd (e.symm.trans h0) (by decide), fun _ => by rw [e]; exact h⟩
      · have hb := mayB_iff.1 hm
        have e1 : bl = (bl.toNat : Int) := by omega
        have e2 : num8 b = ((num8 b).toNat : Int) := by omega
        have e3 : (num8 b).toNat ≤ 1048656 := by omega
        by_cases hx : b.length < spanN (num8 b).toNat bl.toNat * bl.toNat
        · have e : partE b bl = 14 := by unfold partE; rw [if_pos hm, if_neg h16, if_neg hf, if_pos hx]
          have h := part_short A c b bl.toNat (num8 b).toNat w hr hc hl (by rw [← e1]; exact hm) h16 e2 e3 hx
          rw [← e1] at h
          refine h.mono fun ee w' h => ⟨fun h0 => absurd (e.symm.trans h0) (by decide), fun _ => by rw [e]; exact h⟩
        · have e : partE b bl = if num8 (b.drop 8) = (crcN (payO b) : Nat) then 0 else 15 := by unfold partE; rw [if_pos hm, if_neg h16, if_neg hf, if_neg hx]
          have h := part_go A c b bl.toNat (num8 b).toNat w hr hc hl (by rw [← e1]; exact hm) h16 e2 e3 hx (payO b) (fillO b bl) rfl rfl (partE b bl) e
          rw [← e1] at h
          refine h.mono fun ee w' h => ⟨fun h0 => h.1 h0, fun h0 => ?_⟩
          have e5 : partE b bl = 15 := by
            rw [e] at h0 ⊢
            split
            · rename_i hh; rw [if_pos hh] at h0; exact absurd rfl h0
            · rfl
          have h2 := h.2 h0
          rw [e5]
          exact h2
end Go.Proofs.Ytmebbggmdfejkaa
