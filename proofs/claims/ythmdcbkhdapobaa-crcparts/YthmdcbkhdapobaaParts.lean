/- For every a, b and c the law CrcParts returns true, and each of them reads behind the call as it read before. No condition. -/
import Derived.Test.YthmdcbkhdapobaaOf
import Derived.Test.YthmdcbkhdapobaaArg
import Derived.ProofKit
import Derived.OpenShut
import Derived.ShutString
import Derived.ChangeOld
import Derived.Below
namespace Go.Proofs.Ythmdcbkhdapobaa.crcParts
open Go.ChangeShapes Go.WideShapes Go.ChangeAt Go.RowKit
open Go.ChangeMaps (open_string shut_string)
set_option linter.unusedVariables false

theorem own : ownKnob Try.prog.godebug = none := by kernel_rfl
theorem laidOut : laidOutB Try.prog = true := by kernel_rfl

theorem Pts.three {w : World} {A B C : Option Addr} {a b c : List UInt8} (ca cb cc : Nat) (t : TypeId) (ha : Rd w w.heap.size A a) (hb : Rd w w.heap.size B b) (hc : Rd w w.heap.size C c) :
    Pts (w.alloc (.cells #[.slice A a.length ca, .slice B b.length cb, .slice C c.length cc] t)) w.heap.size (some ⟨w.heap.size, 0, none⟩) [a, b, c] := fun _ =>
  ⟨_, _, rfl, fun j hj => by
    rcases j with _ | _ | _ | j
    · exact ⟨A, ca, by rw [cell_of_row _ _ _ _ t (0, 0) (heap_alloc_new w _)]; rfl, ha.alloc (Nat.le_refl _) _⟩
    · exact ⟨B, cb, by rw [cell_of_row _ _ _ _ t (0, 0) (heap_alloc_new w _)]; rfl, hb.alloc (Nat.le_refl _) _⟩
    · exact ⟨C, cc, by rw [cell_of_row _ _ _ _ t (0, 0) (heap_alloc_new w _)]; rfl, hc.alloc (Nat.le_refl _) _⟩
    · simp at hj; omega⟩

theorem info5 : (Try.prog.info? 5).map (fun i => (i.zero, i.size, i.bytes)) = some (some (.int .u8 0), 1, 1) := by kernel_rfl
theorem own_none (w : World) : Own (w.alloc (.cells #[] 5)) w.heap.size 5 (.slice (some ⟨w.heap.size, 0, none⟩) 0 0) [] :=
  World.ownsRow_lit (e := 5) (base := w.heap.size) (size := 1) w #[] 0 (Nat.le_refl _) (by unfold maxLen; omega) (by simp)
/-- One of the call's own, and nothing old has turned. -/
def Has (w w' : World) (v : Value) (l : List UInt8) : Prop := Own w' w.heap.size 5 v l ∧ Below w.heap.size w w'
theorem Has.next {w w1 w2 : World} {v v2 : Value} {l m : List UInt8} (h : Has w w1 v l) (ho : Own w2 w.heap.size 5 v2 m) (hg : w1.grownBy w2 v.ownBlock) : Has w w2 v2 m :=
  ⟨ho, h.2.grown hg h.2.size (fun g hg' => (World.ownsRow.lt h.1 g hg').1)⟩
theorem has_none (w : World) : Has w (w.alloc (.cells #[] 5)) (.slice (some ⟨w.heap.size, 0, none⟩) 0 0) [] := ⟨own_none w, (Below.refl _ _).alloc (Nat.le_refl _) _⟩

set_option maxHeartbeats 1000000 in
theorem walk (a0 a1 a2 : Option Addr) (len0 cap0 len1 cap1 len2 cap2 : Nat) (w : World) (w0 : IsBytes w a0 len0) (w1 : IsBytes w a1 len1) (w2 : IsBytes w a2 len2) (hm0 : len0 ≤ maxLen) (hm1 : len1 ≤ maxLen) (hm2 : len2 ≤ maxLen) :
    Calls Try.prog 4 #[.slice a0 len0 cap0, .slice a1 len1 cap1, .slice a2 len2 cap2] w fun e w' => e = .returned (.bool true) ∧ Below w.heap.size w w' := by
  obtain ⟨x, rfl, hx⟩ := w0
  obtain ⟨y, rfl, hy⟩ := w1
  obtain ⟨z, rfl, hz⟩ := w2
  unfold maxLen at hm0 hm1 hm2
  by_cases hbig : 300 < x.length ∨ 300 < y.length ∨ 300 < z.length
  · by_cases h1 : 300 < x.length
    · go_enter Try.func4, Try.ntmps4
      go_wp2_with (go_at_call 5; refine (live_any _).mono ?_; rintro e w' ⟨rfl, hb⟩)
      go_ret
      exact ⟨rfl, hb⟩
    · by_cases h2 : 300 < y.length
      · go_enter Try.func4, Try.ntmps4
        go_wp2_with (go_at_call 5; refine (live_any _).mono ?_; rintro e w' ⟨rfl, hb⟩)
        go_ret
        exact ⟨rfl, hb⟩
      · have h3 : 300 < z.length := by omega
        clear hbig
        go_enter Try.func4, Try.ntmps4
        go_wp2_with (go_at_call 5; refine (live_any _).mono ?_; rintro e w' ⟨rfl, hb⟩)
        go_ret
        exact ⟨rfl, hb⟩
  · have hlx : x.length ≤ 300 := by omega
    have hly : y.length ≤ 300 := by omega
    have hlz : z.length ≤ 300 := by omega
    have HX := Lib.hid hx
    have HY := Lib.hid hy
    have HZ := Lib.hid hz
    clear hbig hm0 hm1 hm2 hx hy hz
    have d0 : decide (300 < (x.length : Int)) = false := by simp; omega
    have d1 : decide (300 < (y.length : Int)) = false := by simp; omega
    have d2 : decide (300 < (z.length : Int)) = false := by simp; omega
    obtain ⟨i0, hi, hz0, hz1, hz2⟩ := info_parts info5
    have H1 := Lib.hid hi
    have H2 := Lib.hid hz0
    have H3 := Lib.hid hz1
    have H4 := Lib.hid hz2
    clear hi hz0 hz1 hz2
    have R0 := Lib.hid (has_none w)
    go_enter Try.func4, Try.ntmps4
    go_wp2_with (first
      | (at_builtin; refine wpList_app _ rfl (.tmp 22) (.tmp 23) 22 rfl w.heap.size 5 i0 Try.underlying22 H1.out H2.out H3.out H4.out _ [] rfl R0.out.1 w.heap.size a0 cap0 x rfl (HX.out.below R0.out.2) (by simp; omega) R0.out.2.size ?_; intro v1 w1 ho hg hb'; have R1 := Lib.hid (R0.out.next ho hg); clear ho hg hb' R0)
      | (at_builtin; refine wpList_app _ rfl (.tmp 24) (.tmp 25) 22 rfl w.heap.size 5 i0 Try.underlying22 H1.out H2.out H3.out H4.out _ ([] ++ x) rfl R1.out.1 w.heap.size a1 cap1 y rfl (HY.out.below R1.out.2) (by simp; omega) R1.out.2.size ?_; intro v2 w2 ho hg hb'; have R2 := Lib.hid (R1.out.next ho hg); clear ho hg hb' R1)
      | (at_builtin; refine wpList_app _ rfl (.tmp 26) (.tmp 27) 22 rfl w.heap.size 5 i0 Try.underlying22 H1.out H2.out H3.out H4.out _ (([] ++ x) ++ y) rfl R2.out.1 w.heap.size a2 cap2 z rfl (HZ.out.below R2.out.2) (by simp; omega) R2.out.2.size ?_; intro v3 w3 ho hg hb'; have R3 := Lib.hid (R2.out.next ho hg); clear ho hg hb' R2))
    obtain ⟨A, c, rfl, hrd, hc, hfr⟩ := R3.out.1.rd
    have HB := Lib.hid R3.out.2
    have HL : Hid ([x, y, z].flatten = ((([] ++ x) ++ y) ++ z)) := by show _ = _; simp
    have hll : ((([] ++ x) ++ y) ++ z).length ≤ 900 := by simp; omega
    clear R3 hc hfr
    generalize ((([] ++ x) ++ y) ++ z) = L at hrd HL hll ⊢
    have HR := Lib.hid hrd
    have X3 := Lib.hid ((HX.out.below HB.out).more HB.out.size)
    have Y3 := Lib.hid ((HY.out.below HB.out).more HB.out.size)
    have Z3 := Lib.hid ((HZ.out.below HB.out).more HB.out.size)
    clear hrd HX HY HZ
    have HP := Lib.hid (Pts.three cap0 cap1 cap2 22 X3.out Y3.out Z3.out)
    refine (over_any _ 3 _ [x, y, z] _ HP.out (by simp) (by simp; omega)).mono ?_
    rintro e w' ⟨rfl, rfl⟩
    rw [HL.out]
    clear HL HP X3 Y3 Z3
    have hB4 := (HB.out.alloc HB.out.size (.cells #[.slice a0 x.length cap0, .slice a1 y.length cap1, .slice a2 z.length cap2] 22))
    have R4 := Lib.hid (HR.out.later ((Below.refl _ _).alloc (Nat.le_refl _) (.cells #[.slice a0 x.length cap0, .slice a1 y.length cap1, .slice a2 z.length cap2] 22)))
    generalize w3.alloc (.cells #[.slice a0 x.length cap0, .slice a1 y.length cap1, .slice a2 z.length cap2] 22) = w4 at hB4 R4 ⊢
    have B4 := Lib.hid hB4
    clear hB4 HB HR
    go_wp2_with fail
    refine (rof_any A c _ L _ R4.out (by omega)).mono ?_
    rintro e w' ⟨rfl, rfl⟩
    have HP1 := Lib.hid (Pts.one c 22 R4.out)
    go_wp2_with fail
    refine (over_any _ 1 _ [L] _ HP1.out (by simp) (by simpa using (show L.length ≤ 1000000 by omega))).mono ?_
    rintro e w' ⟨rfl, rfl⟩
    rw [show [L].flatten = L by simp]
    clear HP1
    have hB5 := B4.out.alloc B4.out.size (.cells #[.slice A L.length c] 22)
    have R5 := Lib.hid (R4.out.later ((Below.refl _ _).alloc (Nat.le_refl _) (.cells #[.slice A L.length c] 22)))
    generalize w4.alloc (.cells #[.slice A L.length c] 22) = w5 at hB5 R5 ⊢
    have B5 := Lib.hid hB5
    clear hB5 B4 R4
    go_wp2_with fail
    refine (rof_any A c _ L _ R5.out (by omega)).mono ?_
    rintro e w' ⟨rfl, rfl⟩
    go_wp2_with fail
    refine (over_any none 0 0 [] _ (fun h => by simp at h) (by simp) (by simp)).mono ?_
    rintro e w' ⟨rfl, rfl⟩
    rw [show ([] : List (List UInt8)).flatten = [] by rfl]
    go_wp2_with fail
    refine (rof_any none 0 0 [] _ Rd.nil (by simp)).mono ?_
    rintro e w' ⟨rfl, rfl⟩
    go_wp2_with fail
    refine (live_any _).mono ?_
    rintro e w6 ⟨rfl, hb⟩
    have B6 := Lib.hid (B5.out.trans (hb.mono B5.out.size))
    clear hb B5 R5
    go_wp2
    go_ret
    exact ⟨rfl, B6.out⟩

/-! ### THE ROW's STEP: WRITTEN OUT: LEAVE IT -/
set_option maxRecDepth 100000 in
theorem lifted (os : Os) (started : os.Started) (H : Type) (enc : TypeId × Value → H) :
    ReturnsInHanded {} Try.checked os 4 .any (Rows.crcPartsSpec.pre6 enc Try.prog Try.f4 Rows.crcPartsRow.domain false) (Rows.crcPartsSpec.post enc Try.prog Try.f4 false true false false) := by
  refine returnsInHanded_of_change (C := Try.checked) own started (by kernel_rfl) Try.func4
    (ChangeSpec.witness6 (enc := enc) (C := Try.checked) false ⟨#[], #[.slice none 0 0, .slice none 0 0, .slice none 0 0], []⟩ 8 (by kernel_rfl) (by kernel_rfl) (by kernel_rfl) (by kernel_rfl)) ?_
  intro W base args ds gs before hval0 hW hcnd _
  have hval : ∀ (j : Nat) t v, Try.f4.params[j]? = some t → args[j]? = some v → Value.okWide Try.prog W .any base t v := hval0
  have hW' := hW
  obtain ⟨p, q, hA0, hV, rfl, hfz, hnd⟩ := hW
  have hA : DataW.TrodAll enc Try.prog W 0 (fun _ => true) true Try.f4.params.toList args.toList ds p := hA0
  rw [Try.params4] at hA hval
  obtain ⟨v0, vs0, d0, ds0, p0, q0, hargs, rfl, rfl, h0, r0⟩ := trodAll_cons hA
  obtain ⟨v1, vs1, d1, ds1, p1, q1, rfl, rfl, rfl, h1, r1⟩ := trodAll_cons r0
  obtain ⟨v2, vs2, d2, ds2, p2, q2, rfl, rfl, rfl, h2, r2⟩ := trodAll_cons r1
  obtain ⟨rfl, rfl, rfl⟩ := trodAll_nil r2
  obtain rfl : args = #[v0, v1, v2] := by cases args; simp_all
  obtain ⟨rfl, rfl⟩ := trodVars_none hV
  obtain ⟨a0, len0, cap0, rfl⟩ := okWide_slice Try.underlying22 (hval 0 22 v0 rfl rfl)
  have k0 := h0
  have lt0 : ∀ x ∈ p0, x.block < W.heap.size := by obtain ⟨m, hm⟩ := k0; exact DataW.trod_lt m _ _ _ hm
  obtain ⟨w0, hm0⟩ : IsBytes W a0 len0 ∧ len0 ≤ maxLen := by
    obtain ⟨fuel, hf⟩ := h0
    rcases open_ints Try.underlying22 Try.underlying5 (by kernel_rfl) hf with ⟨hcs, _⟩ | ⟨x, l, c, zs, hcs, _, hl, hm, hz, _, hcell, hwz⟩
    · simp [Value.cells] at hcs
      obtain ⟨rfl, rfl, rfl⟩ := hcs
      exact ⟨⟨[], rfl, Rd.nil⟩, Nat.zero_le _⟩
    · simp [Value.cells] at hcs
      obtain ⟨rfl, rfl, rfl⟩ := hcs
      exact ⟨rd_of_ints hl (by simpa using hz) hcell hwz, Nat.le_trans hl hm⟩
  obtain ⟨a1, len1, cap1, rfl⟩ := okWide_slice Try.underlying22 (hval 1 22 v1 rfl rfl)
  have k1 := h1
  have lt1 : ∀ x ∈ p1, x.block < W.heap.size := by obtain ⟨m, hm⟩ := k1; exact DataW.trod_lt m _ _ _ hm
  obtain ⟨w1, hm1⟩ : IsBytes W a1 len1 ∧ len1 ≤ maxLen := by
    obtain ⟨fuel, hf⟩ := h1
    rcases open_ints Try.underlying22 Try.underlying5 (by kernel_rfl) hf with ⟨hcs, _⟩ | ⟨x, l, c, zs, hcs, _, hl, hm, hz, _, hcell, hwz⟩
    · simp [Value.cells] at hcs
      obtain ⟨rfl, rfl, rfl⟩ := hcs
      exact ⟨⟨[], rfl, Rd.nil⟩, Nat.zero_le _⟩
    · simp [Value.cells] at hcs
      obtain ⟨rfl, rfl, rfl⟩ := hcs
      exact ⟨rd_of_ints hl (by simpa using hz) hcell hwz, Nat.le_trans hl hm⟩
  obtain ⟨a2, len2, cap2, rfl⟩ := okWide_slice Try.underlying22 (hval 2 22 v2 rfl rfl)
  have k2 := h2
  have lt2 : ∀ x ∈ p2, x.block < W.heap.size := by obtain ⟨m, hm⟩ := k2; exact DataW.trod_lt m _ _ _ hm
  obtain ⟨w2, hm2⟩ : IsBytes W a2 len2 ∧ len2 ≤ maxLen := by
    obtain ⟨fuel, hf⟩ := h2
    rcases open_ints Try.underlying22 Try.underlying5 (by kernel_rfl) hf with ⟨hcs, _⟩ | ⟨x, l, c, zs, hcs, _, hl, hm, hz, _, hcell, hwz⟩
    · simp [Value.cells] at hcs
      obtain ⟨rfl, rfl, rfl⟩ := hcs
      exact ⟨⟨[], rfl, Rd.nil⟩, Nat.zero_le _⟩
    · simp [Value.cells] at hcs
      obtain ⟨rfl, rfl, rfl⟩ := hcs
      exact ⟨rd_of_ints hl (by simpa using hz) hcell hwz, Nat.le_trans hl hm⟩
  clear hA0 hval0
  refine (walk a0 a1 a2 len0 cap0 len1 cap1 len2 cap2 W w0 w1 w2 hm0 hm1 hm2).mono fun e W' ⟨he, bel⟩ => ?_
  subst he
  exact ⟨_, rfl, _, _, _, [], _, [], hW', trodAll_mk1 (shut_bool Try.underlying4 _), (trodAll_cons_mk (Below.trod laidOut (by kernel_rfl) (of_decide_eq_true (by kernel_rfl)) k0 bel lt0) (trodAll_cons_mk (Below.trod laidOut (by kernel_rfl) (of_decide_eq_true (by kernel_rfl)) k1 bel lt1) (trodAll_cons_mk (Below.trod laidOut (by kernel_rfl) (of_decide_eq_true (by kernel_rfl)) k2 bel lt2) trodAll_mk0))), rfl, bel.frame _, fun h => by cases h⟩

theorem over : Rows.crcPartsRow.holds Try.pinned (OpenSpec.ofChange Rows.crcPartsSpec) :=
  OpenClaim.holds_of_wide 4 Try.f4 rfl rfl rfl rfl rfl rfl rfl ⟨rfl, rfl, rfl, rfl, rfl⟩ rfl rfl rfl rfl rfl (by kernel_rfl) Try.func4 (by kernel_rfl)
    (of_decide_eq_true (by kernel_rfl)) (by unfold Func.isWrapper; first | (rw [if_pos (by decide +kernel)]; kernel_rfl) | (rw [if_neg (by decide +kernel)]; exact ⟨rfl, rfl⟩))
    (fun os started H enc _ => lifted os started H enc)

end Go.Proofs.Ythmdcbkhdapobaa.crcParts

namespace Go.Proofs.Ythmdcbkhdapobaa
theorem crcParts_holds : Rows.CrcPartsSaid := crcParts.over
#print axioms crcParts_holds
end Go.Proofs.Ythmdcbkhdapobaa
