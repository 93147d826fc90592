/- For every n, x, is, m the law PackBack returns true, and x reads behind the call as it read before. No condition. -/
import Derived.Test.YtolabagnoieofaaD
import Derived.WalkKit
import Derived.ProofKit
import Derived.OpenShut
import Derived.ShutString
import Derived.ChangeOld
import Derived.Below
namespace Go.Proofs.Ytolabagnoieofaa.packBack
open Go.ChangeShapes Go.WideShapes Go.ChangeAt Go.RowKit
open Go.ChangeMaps (open_string shut_string)
set_option linter.unusedVariables false

theorem own : ownKnob Try.prog.godebug = none := by kernel_rfl
theorem laidOut : laidOutB Try.prog = true := by kernel_rfl

/-- A slice of bytes that came in: it reads as some bytes. -/
def IsBytes (w : World) (a : Option Addr) (len : Nat) : Prop := ∃ l : List UInt8, l.length = len ∧ Rd w w.heap.size a l

set_option maxHeartbeats 1000000 in
theorem walk (a0 : Int) (a1 : Option Addr) (len1 cap1 : Nat) (a2 : Bool) (a3 : Int) (w : World) (f0 : (Lit.int .i64 a0).wf = true) (w1 : IsBytes w a1 len1) (hlm : len1 ≤ maxLen) (f3 : (Lit.int .i64 a3).wf = true) :
    Calls Try.prog 5 #[.int .i64 a0, .slice a1 len1 cap1, .bool a2, .int .i64 a3] w fun e w' => e = .returned (.bool true) ∧ Below w.heap.size w w' := by
  obtain ⟨x, rfl, hx⟩ := w1
  unfold maxLen at hlm
  by_cases h500 : 500 < x.length
  · go_enter Try.func5, Try.ntmps5
    go_wp2_with (go_at_call 6; refine (live_any _).mono ?_; rintro e w' ⟨rfl, rfl⟩)
    go_ret
    exact ⟨rfl, (Below.refl _ _).alloc (Nat.le_refl _) _⟩
  · have hle : x.length ≤ 500 := by omega
    clear h500 hlm
    go_enter Try.func5, Try.ntmps5
    go_wp2_with fail
    refine (int_gave none 0 a0 [] w Rd.nil (by simp)).mono ?_
    rintro e w1 ⟨A1, c1, rfl, hr1, _, hb1, _⟩
    have hN1 : ([] ++ le8 a0).length ≤ 8 := by simp [le8_length]
    generalize hL1 : [] ++ le8 a0 = L1 at hr1 hN1 ⊢
    have HL1 := Lib.hid hL1
    clear hL1
    have hx1 := hx.later hb1
    go_wp2_with fail
    refine (bytes_gave A1 a1 c1 cap1 L1 x w1 hr1 hx1 (by omega) (by omega)).mono ?_
    rintro e w2 ⟨A2, c2, rfl, hr2, _, hb2, _⟩
    have hN2 : ((L1 ++ le8 x.length) ++ x).length ≤ 600 := by rw [List.length_append, List.length_append, le8_length]; omega
    generalize hL2 : (L1 ++ le8 x.length) ++ x = L2 at hr2 hN2 ⊢
    have HL2 := Lib.hid hL2
    clear hL2 hr1 hN1
    go_wp2_with fail
    refine (flag_gave A2 c2 a2 L2 w2 hr2 (by omega)).mono ?_
    rintro e w3 ⟨A3, c3, rfl, hr3, _, hb3, _⟩
    have hN3 : (L2 ++ [if a2 then 1 else 0]).length ≤ 601 := by simp; omega
    generalize hL3 : L2 ++ [if a2 then 1 else 0] = L3 at hr3 hN3 ⊢
    have HL3 := Lib.hid hL3
    clear hL3 hr2 hN2
    go_wp2_with fail
    refine (int_gave A3 c3 a3 L3 w3 hr3 (by omega)).mono ?_
    rintro e w4 ⟨A4, c4, rfl, hr4, _, hb4, _⟩
    have hN4 : (L3 ++ le8 a3).length ≤ 700 := by rw [List.length_append, le8_length]; omega
    generalize hL4 : L3 ++ le8 a3 = L4 at hr4 hN4 ⊢
    have HL : Hid (L4 = le8 a0 ++ (le8 x.length ++ (x ++ ((if a2 then 1 else 0) :: (le8 a3 ++ []))))) := by
      show L4 = _
      rw [← hL4, ← HL3.out, ← HL2.out, ← HL1.out]
      simp
    clear hL4 hr3 hN3 HL1 HL2 HL3
    go_wp2_with fail
    refine (new_any A4 c4 L4 w4 hr4 (by omega)).mono ?_
    rintro e w5 ⟨rfl, hR5, hS5, hb5⟩
    have hB5 := Lib.hid (below_trans hb1 (below_trans hb2 (below_trans hb3 (below_trans hb4 hb5))))
    have hP : Hid (w.heap.size ≤ w4.heap.size + 1 ∧ w.heap.size ≤ w5.heap.size) := by
      have h1 := hb1.size
      have h2 := hb2.size
      have h3 := hb3.size
      have h4 := hb4.size
      have h5 := hb5.size
      exact ⟨by omega, by omega⟩
    rw [HL.out] at hR5
    clear hb1 hb2 hb3 hb4 hb5 hr4 hN4 hx1 hS5 HL
    generalize w4.heap.size + 1 = p at hR5 hP ⊢
    have hI := rInt_any _ 0 a0 a0 p w5 hR5
    rw [rI_back f0 (Int.le_refl _) (Int.le_refl _)] at hI
    have HI := Lib.hid hI
    clear hI hR5
    go_wp2_with fail
    refine HI.out.mono ?_
    rintro e w6 ⟨rfl, hR6, hg6⟩
    have hI := rBytes_any _ 0 x.length p w6 hR6
    rw [rB_back x _ (by omega)] at hI
    have HI2 := Lib.hid hI
    clear hI hR6 HI
    go_wp2_with fail
    refine HI2.out.mono ?_
    rintro e w7 ⟨A7, c7, rfl, hr7, hR7, hg7, hoff⟩
    have hI := rFlag_any _ 0 p w7 hR7
    rw [rF_back a2 _] at hI
    have HI3 := Lib.hid hI
    clear hI hR7 HI2
    go_wp2_with fail
    refine HI3.out.mono ?_
    rintro e w8 ⟨rfl, hR8, hg8⟩
    have hI := rInt_any _ 0 a3 a3 p w8 hR8
    rw [rI_back f3 (Int.le_refl _) (Int.le_refl _)] at hI
    have HI4 := Lib.hid hI
    clear hI hR8 HI3
    go_wp2_with fail
    refine HI4.out.mono ?_
    rintro e w9 ⟨rfl, hR9, hg9⟩
    clear HI4
    have hr9 := (hr7.off hoff hg8 (Nat.le_refl _)).off hoff hg9 hg8.size
    have hg := turned_trans (turned_trans (turned_trans hg6 hg7) hg8) hg9
    have hB9 : Hid (Below w.heap.size w w9) := hB5.out.trans (below_of_turned hg hP.out.1 hP.out.2)
    have hx9 : Rd w9 w.heap.size a1 x := hx.below hB9.out
    have hcv1 := conv_any A7 c7 _ x w9 hr9
    have hcv2 := conv_any a1 cap1 _ x w9 hx9
    clear hr9 hx9 hr7 hoff hg6 hg7 hg8 hg9 hg hB5 hP hx
    go_wp2_with (first | (go_at_call 16; refine (rInt_nil _ _ _).mono ?_; rintro e w' ⟨rfl, rfl⟩) | (go_at_call 18; refine (rBytes_nil _ _).mono ?_; rintro e w' ⟨rfl, rfl⟩))
    refine (left_nil _).mono ?_
    rintro e w' ⟨rfl, rfl⟩
    go_wp2_with fail
    refine (left_any [] 0 p _ hR9).mono ?_
    rintro e w' ⟨rfl, rfl⟩
    go_wp2_with fail
    refine (err_any [] 0 p _ hR9).mono ?_
    rintro e w' ⟨rfl, rfl⟩
    go_wp2_with (first | (go_at_call 22; refine (code_any _ _).mono ?_; rintro e w' ⟨rfl, rfl⟩) | (go_at_call 20; refine (rFlag_nil _).mono ?_; rintro e w' ⟨rfl, rfl⟩) | (go_at_call 23; refine (err_nil _).mono ?_; rintro e w' ⟨rfl, rfl⟩) | (go_at_call 6; refine (live_any _).mono ?_; rintro e w' ⟨rfl, rfl⟩))
    go_ret
    exact ⟨rfl, hB9.out.alloc hB9.out.size _⟩

/-! ### THE ROW's STEP: WRITTEN OUT: LEAVE IT -/
set_option maxRecDepth 100000 in
theorem lifted (os : Os) (started : os.Started) (H : Type) (enc : TypeId × Value → H) :
    ReturnsInHanded {} Try.checked os 5 .any (Rows.packBackSpec.pre6 enc Try.prog Try.f5 Rows.packBackRow.domain false) (Rows.packBackSpec.post enc Try.prog Try.f5 false true false false) := by
  refine returnsInHanded_of_change (C := Try.checked) own started (by kernel_rfl) Try.func5
    (ChangeSpec.witness6 (enc := enc) (C := Try.checked) false ⟨#[], #[.int .i64 0, .slice none 0 0, .bool false, .int .i64 0], []⟩ 8 (by kernel_rfl) (by kernel_rfl) (by kernel_rfl) (by kernel_rfl)) ?_
  intro W base args ds gs before hval0 hW hcnd _
  have hval : ∀ (j : Nat) t v, Try.f5.params[j]? = some t → args[j]? = some v → Value.okWide Try.prog W .any base t v := hval0
  have hW' := hW
  obtain ⟨p, q, hA0, hV, rfl, hfz, hnd⟩ := hW
  have hA : DataW.TrodAll enc Try.prog W 0 (fun _ => true) true Try.f5.params.toList args.toList ds p := hA0
  rw [Try.params5] at hA hval
  obtain ⟨v0, vs0, d0, ds0, p0, q0, hargs, rfl, rfl, h0, r0⟩ := trodAll_cons hA
  obtain ⟨v1, vs1, d1, ds1, p1, q1, rfl, rfl, rfl, h1, r1⟩ := trodAll_cons r0
  obtain ⟨v2, vs2, d2, ds2, p2, q2, rfl, rfl, rfl, h2, r2⟩ := trodAll_cons r1
  obtain ⟨v3, vs3, d3, ds3, p3, q3, rfl, rfl, rfl, h3, r3⟩ := trodAll_cons r2
  obtain ⟨rfl, rfl, rfl⟩ := trodAll_nil r3
  obtain rfl : args = #[v0, v1, v2, v3] := by cases args; simp_all
  obtain ⟨rfl, rfl⟩ := trodVars_none hV
  obtain ⟨a0, rfl, rfl, rfl, w0⟩ := open_int Try.underlying3 (hval 0 3 v0 rfl rfl) h0
  obtain ⟨a1, len1, cap1, rfl⟩ := okWide_slice Try.underlying22 (hval 1 22 v1 rfl rfl)
  have k1 := h1
  have lt1 : ∀ x ∈ p1, x.block < W.heap.size := by obtain ⟨m, hm⟩ := k1; exact DataW.trod_lt m _ _ _ hm
  obtain ⟨w1, hlm⟩ : IsBytes W a1 len1 ∧ len1 ≤ maxLen := by
    obtain ⟨fuel, hf⟩ := h1
    rcases open_ints Try.underlying22 Try.underlying5 (by kernel_rfl) hf with ⟨hcs, _⟩ | ⟨x, l, c, zs, hcs, _, hl, hm, hz, _, hcell, hwz⟩
    · simp [Value.cells] at hcs
      obtain ⟨rfl, rfl, rfl⟩ := hcs
      exact ⟨⟨[], rfl, Rd.nil⟩, Nat.zero_le _⟩
    · simp [Value.cells] at hcs
      obtain ⟨rfl, rfl, rfl⟩ := hcs
      exact ⟨rd_of_ints hl (by simpa using hz) hcell hwz, Nat.le_trans hl hm⟩
  obtain ⟨a2, rfl, rfl, rfl⟩ := open_bool Try.underlying4 (hval 2 4 v2 rfl rfl) h2
  obtain ⟨a3, rfl, rfl, rfl, w3⟩ := open_int Try.underlying3 (hval 3 3 v3 rfl rfl) h3
  clear hA0 hval0
  refine (walk a0 a1 len1 cap1 a2 a3 W w0 w1 hlm w3).mono fun e W' ⟨he, bel⟩ => ?_
  subst he
  exact ⟨_, rfl, _, _, _, [], _, [], hW', trodAll_mk1 (shut_bool Try.underlying4 _), (trodAll_cons_mk (shut_int Try.underlying3 w0) (trodAll_cons_mk (Below.trod laidOut (by kernel_rfl) (of_decide_eq_true (by kernel_rfl)) k1 bel lt1) (trodAll_cons_mk (shut_bool Try.underlying4 _) (trodAll_cons_mk (shut_int Try.underlying3 w3) trodAll_mk0)))), rfl, bel.frame _, fun h => by cases h⟩

theorem over : Rows.packBackRow.holds Try.pinned (OpenSpec.ofChange Rows.packBackSpec) :=
  OpenClaim.holds_of_wide 5 Try.f5 rfl rfl rfl rfl rfl rfl rfl ⟨rfl, rfl, rfl, rfl, rfl⟩ rfl rfl rfl rfl rfl (by kernel_rfl) Try.func5 (by kernel_rfl)
    (of_decide_eq_true (by kernel_rfl)) (by unfold Func.isWrapper; first | (rw [if_pos (by decide +kernel)]; kernel_rfl) | (rw [if_neg (by decide +kernel)]; exact ⟨rfl, rfl⟩))
    (fun os started H enc _ => lifted os started H enc)

end Go.Proofs.Ytolabagnoieofaa.packBack

namespace Go.Proofs.Ytolabagnoieofaa
theorem packBack_holds : Rows.PackBackSaid := packBack.over
#print axioms packBack_holds
end Go.Proofs.Ytolabagnoieofaa
