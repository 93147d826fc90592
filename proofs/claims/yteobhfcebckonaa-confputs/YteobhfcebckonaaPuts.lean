/- For all settings the law ConfPuts returns true: the walk. -/
import Derived.Test.YteobhfcebckonaaS
import Derived.Test.YteobhfcebckonaaQ
import Derived.Test.YteobhfcebckonaaI
import Derived.Deep.CutBlock
namespace Go.Proofs.Yteobhfcebckonaa
set_option linter.unusedVariables false
set_option linter.unusedSimpArgs false
open Go.RowKit
open Go.RowKit (wrap64)

set_option maxRecDepth 100000 in
set_option maxHeartbeats 8000000 in
theorem confPuts_walk (c : Cf) (w : World) (hw : c.wf) : Calls Try.prog 4 #[(.agg #[.int .i64 c.id, .int .i64 c.m, .int .i64 c.u, .int .i64 c.b, .int .i64 c.cp, .int .i64 c.z, .int .i64 c.s, .int .i64 c.mt, .int .i64 c.o, .int .i64 c.a, .int .i64 c.l])] w (Says w (.bool true)) := by
  have HF : Hid (∀ (d : Cf) (er : Int), getC (les c 11) = (d, er) → (allIn (-4611686018427387904) 4611686018427387904 c.list = true → d = c ∧ er = 0) ∧ (allIn (-4611686018427387904) 4611686018427387904 c.list = false → er = 13)) := by
    intro d er h
    refine ⟨fun hi => ?_, fun hi => ?_⟩
    · rw [get_in hw hi] at h
      injection h with h1 h2
      exact ⟨h1.symm, h2.symm⟩
    · have := get_out hw hi
      rw [h] at this
      exact this
  have HL := Lib.hid (les_length c 11 (Nat.le_refl _))
  clear hw
  go_enter Try.func4, Try.ntmps4
  go_wp2_with fail
  have HV0 := Lib.hid (At.new c w)
  generalize (w.alloc (.cells #[.int .i64 c.id, .int .i64 c.m, .int .i64 c.u, .int .i64 c.b, .int .i64 c.cp, .int .i64 c.z, .int .i64 c.s, .int .i64 c.mt, .int .i64 c.o, .int .i64 c.a, .int .i64 c.l] 23)) = w0 at HV0 ⊢
  refine (put_any c w0).mono ?_
  rintro e w1 ⟨A, cp, rfl, hr1, hcp, hb⟩
  have HV1 := Lib.hid (And.intro (HV0.out.later hb) (And.intro hr1 hcp))
  clear hb HV0 hr1 hcp
  generalize hL : les c 11 = L at HF HL HV1 ⊢
  have HLL := Lib.hid hL
  clear hL
  go_wp2_with fail
  refine (get_any A cp L w1 HV1.out.2.1 (by rw [HL.out]; omega)).mono ?_
  rintro e w2 ⟨rfl, hb⟩
  have HE := Lib.hid HF.out
  generalize hq : getC L = q at HF ⊢
  obtain ⟨d, er⟩ := q
  have HD := Lib.hid (HF.out d er rfl)
  have HQ := Lib.hid hq
  clear hq HF HE
  simp only
  have HV2 : Hid (At c w (w2.alloc (.cells #[.int .i64 d.id, .int .i64 d.m, .int .i64 d.u, .int .i64 d.b, .int .i64 d.cp, .int .i64 d.z, .int .i64 d.s, .int .i64 d.mt, .int .i64 d.o, .int .i64 d.a, .int .i64 d.l] 23)) ∧ Rd (w2.alloc (.cells #[.int .i64 d.id, .int .i64 d.m, .int .i64 d.u, .int .i64 d.b, .int .i64 d.cp, .int .i64 d.z, .int .i64 d.s, .int .i64 d.mt, .int .i64 d.o, .int .i64 d.a, .int .i64 d.l] 23)) w1.heap.size A L ∧ Box (w2.alloc (.cells #[.int .i64 d.id, .int .i64 d.m, .int .i64 d.u, .int .i64 d.b, .int .i64 d.cp, .int .i64 d.z, .int .i64 d.s, .int .i64 d.mt, .int .i64 d.o, .int .i64 d.a, .int .i64 d.l] 23)) w2.heap.size 23 #[.int .i64 d.id, .int .i64 d.m, .int .i64 d.u, .int .i64 d.b, .int .i64 d.cp, .int .i64 d.z, .int .i64 d.s, .int .i64 d.mt, .int .i64 d.o, .int .i64 d.a, .int .i64 d.l] ∧ w1.heap.size ≤ w2.heap.size) := by
    have hb2 : Below w1.heap.size w1 (w2.alloc (.cells #[.int .i64 d.id, .int .i64 d.m, .int .i64 d.u, .int .i64 d.b, .int .i64 d.cp, .int .i64 d.z, .int .i64 d.s, .int .i64 d.mt, .int .i64 d.o, .int .i64 d.a, .int .i64 d.l] 23)) := hb.alloc hb.size _
    exact ⟨HV1.out.1.later hb2, HV1.out.2.1.below hb2, Box.fresh w2 23 _, hb.size⟩
  go_wp2_with fail
  generalize (w2.alloc (.cells #[.int .i64 d.id, .int .i64 d.m, .int .i64 d.u, .int .i64 d.b, .int .i64 d.cp, .int .i64 d.z, .int .i64 d.s, .int .i64 d.mt, .int .i64 d.o, .int .i64 d.a, .int .i64 d.l] 23)) = w3 at HV2 ⊢
  generalize w2.heap.size = g4 at HV2 ⊢
  have hr3 : Rd w3 w3.heap.size A L := HV2.out.2.1.more (by have := HV2.out.2.2.1.lt; have := HV2.out.2.2.2; omega)
  refine (refGet_any A cp L w3 hr3 (by rw [HL.out]; omega) HV1.out.2.2).mono ?_
  rintro e w4 ⟨rfl, hb4⟩
  rw [HQ.out]
  simp only
  have HV3 : Hid (Box w4 w.heap.size 23 #[.int .i64 c.id, .int .i64 c.m, .int .i64 c.u, .int .i64 c.b, .int .i64 c.cp, .int .i64 c.z, .int .i64 c.s, .int .i64 c.mt, .int .i64 c.o, .int .i64 c.a, .int .i64 c.l] ∧ Box w4 g4 23 #[.int .i64 d.id, .int .i64 d.m, .int .i64 d.u, .int .i64 d.b, .int .i64 d.cp, .int .i64 d.z, .int .i64 d.s, .int .i64 d.mt, .int .i64 d.o, .int .i64 d.a, .int .i64 d.l] ∧ Below w.heap.size w w4 ∧ Rd w4 w4.heap.size A L) := ⟨HV2.out.1.1.later hb4, HV2.out.2.2.1.later hb4, HV2.out.1.2.1.trans (hb4.mono HV2.out.1.2.1.size), (hr3.below hb4).more hb4.size⟩
  clear hb hb4 hr3 HV2 HV1 HQ
  go_wp2_with fail
  refine wpB_start (w4.alloc (.cells #[.int .i64 d.id, .int .i64 d.m, .int .i64 d.u, .int .i64 d.b, .int .i64 d.cp, .int .i64 d.z, .int .i64 d.s, .int .i64 d.mt, .int .i64 d.o, .int .i64 d.a, .int .i64 d.l] 23)).drew.heap.size (by kernel_rfl) ?_
  have HV5 : Hid ((Box (w4.alloc (.cells #[.int .i64 d.id, .int .i64 d.m, .int .i64 d.u, .int .i64 d.b, .int .i64 d.cp, .int .i64 d.z, .int .i64 d.s, .int .i64 d.mt, .int .i64 d.o, .int .i64 d.a, .int .i64 d.l] 23)).drew w.heap.size 23 #[.int .i64 c.id, .int .i64 c.m, .int .i64 c.u, .int .i64 c.b, .int .i64 c.cp, .int .i64 c.z, .int .i64 c.s, .int .i64 c.mt, .int .i64 c.o, .int .i64 c.a, .int .i64 c.l] ∧ Box (w4.alloc (.cells #[.int .i64 d.id, .int .i64 d.m, .int .i64 d.u, .int .i64 d.b, .int .i64 d.cp, .int .i64 d.z, .int .i64 d.s, .int .i64 d.mt, .int .i64 d.o, .int .i64 d.a, .int .i64 d.l] 23)).drew g4 23 #[.int .i64 d.id, .int .i64 d.m, .int .i64 d.u, .int .i64 d.b, .int .i64 d.cp, .int .i64 d.z, .int .i64 d.s, .int .i64 d.mt, .int .i64 d.o, .int .i64 d.a, .int .i64 d.l] ∧ Below w.heap.size w (w4.alloc (.cells #[.int .i64 d.id, .int .i64 d.m, .int .i64 d.u, .int .i64 d.b, .int .i64 d.cp, .int .i64 d.z, .int .i64 d.s, .int .i64 d.mt, .int .i64 d.o, .int .i64 d.a, .int .i64 d.l] 23)).drew ∧ Rd (w4.alloc (.cells #[.int .i64 d.id, .int .i64 d.m, .int .i64 d.u, .int .i64 d.b, .int .i64 d.cp, .int .i64 d.z, .int .i64 d.s, .int .i64 d.mt, .int .i64 d.o, .int .i64 d.a, .int .i64 d.l] 23)).drew (w4.alloc (.cells #[.int .i64 d.id, .int .i64 d.m, .int .i64 d.u, .int .i64 d.b, .int .i64 d.cp, .int .i64 d.z, .int .i64 d.s, .int .i64 d.mt, .int .i64 d.o, .int .i64 d.a, .int .i64 d.l] 23)).drew.heap.size A L) ∧ Box (w4.alloc (.cells #[.int .i64 d.id, .int .i64 d.m, .int .i64 d.u, .int .i64 d.b, .int .i64 d.cp, .int .i64 d.z, .int .i64 d.s, .int .i64 d.mt, .int .i64 d.o, .int .i64 d.a, .int .i64 d.l] 23)).drew w4.heap.size 23 #[.int .i64 d.id, .int .i64 d.m, .int .i64 d.u, .int .i64 d.b, .int .i64 d.cp, .int .i64 d.z, .int .i64 d.s, .int .i64 d.mt, .int .i64 d.o, .int .i64 d.a, .int .i64 d.l]) := by
    have hb5 : Below w4.heap.size w4 (w4.alloc (.cells #[.int .i64 d.id, .int .i64 d.m, .int .i64 d.u, .int .i64 d.b, .int .i64 d.cp, .int .i64 d.z, .int .i64 d.s, .int .i64 d.mt, .int .i64 d.o, .int .i64 d.a, .int .i64 d.l] 23)).drew := ((Below.refl _ _).alloc (Nat.le_refl _) _).drew
    exact ⟨⟨HV3.out.1.later hb5, HV3.out.2.1.later hb5, HV3.out.2.2.1.trans (hb5.mono HV3.out.2.2.1.size), (HV3.out.2.2.2.below hb5).more hb5.size⟩, (Box.fresh w4 23 _).later (Below.refl _ _).drew⟩
  generalize (w4.alloc (.cells #[.int .i64 d.id, .int .i64 d.m, .int .i64 d.u, .int .i64 d.b, .int .i64 d.cp, .int .i64 d.z, .int .i64 d.s, .int .i64 d.mt, .int .i64 d.o, .int .i64 d.a, .int .i64 d.l] 23)).drew = w5 at HV5 ⊢
  generalize w4.heap.size = g6 at HV5 ⊢
  clear HV3
  have q0 : ∀ w', Below w5.heap.size w5 w' → w'.cell? ⟨w.heap.size, 0, none⟩ = some (.int .i64 c.id) := fun w' h => (box11 (HV5.out.1.1.later h)).1
  have q1 : ∀ w', Below w5.heap.size w5 w' → w'.cell? ⟨w.heap.size, 1, none⟩ = some (.int .i64 c.m) := fun w' h => (box11 (HV5.out.1.1.later h)).2.1
  have q2 : ∀ w', Below w5.heap.size w5 w' → w'.cell? ⟨w.heap.size, 2, none⟩ = some (.int .i64 c.u) := fun w' h => (box11 (HV5.out.1.1.later h)).2.2.1
  have q3 : ∀ w', Below w5.heap.size w5 w' → w'.cell? ⟨w.heap.size, 3, none⟩ = some (.int .i64 c.b) := fun w' h => (box11 (HV5.out.1.1.later h)).2.2.2.1
  have q4 : ∀ w', Below w5.heap.size w5 w' → w'.cell? ⟨w.heap.size, 4, none⟩ = some (.int .i64 c.cp) := fun w' h => (box11 (HV5.out.1.1.later h)).2.2.2.2.1
  have q5 : ∀ w', Below w5.heap.size w5 w' → w'.cell? ⟨w.heap.size, 5, none⟩ = some (.int .i64 c.z) := fun w' h => (box11 (HV5.out.1.1.later h)).2.2.2.2.2.1
  have q6 : ∀ w', Below w5.heap.size w5 w' → w'.cell? ⟨w.heap.size, 6, none⟩ = some (.int .i64 c.s) := fun w' h => (box11 (HV5.out.1.1.later h)).2.2.2.2.2.2.1
  have q7 : ∀ w', Below w5.heap.size w5 w' → w'.cell? ⟨w.heap.size, 7, none⟩ = some (.int .i64 c.mt) := fun w' h => (box11 (HV5.out.1.1.later h)).2.2.2.2.2.2.2.1
  have q8 : ∀ w', Below w5.heap.size w5 w' → w'.cell? ⟨w.heap.size, 8, none⟩ = some (.int .i64 c.o) := fun w' h => (box11 (HV5.out.1.1.later h)).2.2.2.2.2.2.2.2.1
  have q9 : ∀ w', Below w5.heap.size w5 w' → w'.cell? ⟨w.heap.size, 9, none⟩ = some (.int .i64 c.a) := fun w' h => (box11 (HV5.out.1.1.later h)).2.2.2.2.2.2.2.2.2.1
  have q10 : ∀ w', Below w5.heap.size w5 w' → w'.cell? ⟨w.heap.size, 10, none⟩ = some (.int .i64 c.l) := fun w' h => (box11 (HV5.out.1.1.later h)).2.2.2.2.2.2.2.2.2.2
  have m0 : ∀ w', Below w5.heap.size w5 w' → w'.cell? ⟨g4, 0, none⟩ = some (.int .i64 d.id) := fun w' h => (box11 (HV5.out.1.2.1.later h)).1
  have m1 : ∀ w', Below w5.heap.size w5 w' → w'.cell? ⟨g4, 1, none⟩ = some (.int .i64 d.m) := fun w' h => (box11 (HV5.out.1.2.1.later h)).2.1
  have m2 : ∀ w', Below w5.heap.size w5 w' → w'.cell? ⟨g4, 2, none⟩ = some (.int .i64 d.u) := fun w' h => (box11 (HV5.out.1.2.1.later h)).2.2.1
  have m3 : ∀ w', Below w5.heap.size w5 w' → w'.cell? ⟨g4, 3, none⟩ = some (.int .i64 d.b) := fun w' h => (box11 (HV5.out.1.2.1.later h)).2.2.2.1
  have m4 : ∀ w', Below w5.heap.size w5 w' → w'.cell? ⟨g4, 4, none⟩ = some (.int .i64 d.cp) := fun w' h => (box11 (HV5.out.1.2.1.later h)).2.2.2.2.1
  have m5 : ∀ w', Below w5.heap.size w5 w' → w'.cell? ⟨g4, 5, none⟩ = some (.int .i64 d.z) := fun w' h => (box11 (HV5.out.1.2.1.later h)).2.2.2.2.2.1
  have m6 : ∀ w', Below w5.heap.size w5 w' → w'.cell? ⟨g4, 6, none⟩ = some (.int .i64 d.s) := fun w' h => (box11 (HV5.out.1.2.1.later h)).2.2.2.2.2.2.1
  have m7 : ∀ w', Below w5.heap.size w5 w' → w'.cell? ⟨g4, 7, none⟩ = some (.int .i64 d.mt) := fun w' h => (box11 (HV5.out.1.2.1.later h)).2.2.2.2.2.2.2.1
  have m8 : ∀ w', Below w5.heap.size w5 w' → w'.cell? ⟨g4, 8, none⟩ = some (.int .i64 d.o) := fun w' h => (box11 (HV5.out.1.2.1.later h)).2.2.2.2.2.2.2.2.1
  have m9 : ∀ w', Below w5.heap.size w5 w' → w'.cell? ⟨g4, 9, none⟩ = some (.int .i64 d.a) := fun w' h => (box11 (HV5.out.1.2.1.later h)).2.2.2.2.2.2.2.2.2.1
  have m10 : ∀ w', Below w5.heap.size w5 w' → w'.cell? ⟨g4, 10, none⟩ = some (.int .i64 d.l) := fun w' h => (box11 (HV5.out.1.2.1.later h)).2.2.2.2.2.2.2.2.2.2
  have o0 : ∀ w', Below w5.heap.size w5 w' → w'.cell? ⟨g6, 0, none⟩ = some (.int .i64 d.id) := fun w' h => (box11 (HV5.out.2.later h)).1
  have o1 : ∀ w', Below w5.heap.size w5 w' → w'.cell? ⟨g6, 1, none⟩ = some (.int .i64 d.m) := fun w' h => (box11 (HV5.out.2.later h)).2.1
  have o2 : ∀ w', Below w5.heap.size w5 w' → w'.cell? ⟨g6, 2, none⟩ = some (.int .i64 d.u) := fun w' h => (box11 (HV5.out.2.later h)).2.2.1
  have o3 : ∀ w', Below w5.heap.size w5 w' → w'.cell? ⟨g6, 3, none⟩ = some (.int .i64 d.b) := fun w' h => (box11 (HV5.out.2.later h)).2.2.2.1
  have o4 : ∀ w', Below w5.heap.size w5 w' → w'.cell? ⟨g6, 4, none⟩ = some (.int .i64 d.cp) := fun w' h => (box11 (HV5.out.2.later h)).2.2.2.2.1
  have o5 : ∀ w', Below w5.heap.size w5 w' → w'.cell? ⟨g6, 5, none⟩ = some (.int .i64 d.z) := fun w' h => (box11 (HV5.out.2.later h)).2.2.2.2.2.1
  have o6 : ∀ w', Below w5.heap.size w5 w' → w'.cell? ⟨g6, 6, none⟩ = some (.int .i64 d.s) := fun w' h => (box11 (HV5.out.2.later h)).2.2.2.2.2.2.1
  have o7 : ∀ w', Below w5.heap.size w5 w' → w'.cell? ⟨g6, 7, none⟩ = some (.int .i64 d.mt) := fun w' h => (box11 (HV5.out.2.later h)).2.2.2.2.2.2.2.1
  have o8 : ∀ w', Below w5.heap.size w5 w' → w'.cell? ⟨g6, 8, none⟩ = some (.int .i64 d.o) := fun w' h => (box11 (HV5.out.2.later h)).2.2.2.2.2.2.2.2.1
  have o9 : ∀ w', Below w5.heap.size w5 w' → w'.cell? ⟨g6, 9, none⟩ = some (.int .i64 d.a) := fun w' h => (box11 (HV5.out.2.later h)).2.2.2.2.2.2.2.2.2.1
  have o10 : ∀ w', Below w5.heap.size w5 w' → w'.cell? ⟨g6, 10, none⟩ = some (.int .i64 d.l) := fun w' h => (box11 (HV5.out.2.later h)).2.2.2.2.2.2.2.2.2.2
  have hcv : ∀ w', Below w5.heap.size w5 w' → (convert 32 9 (.slice A L.length cp)).run Try.prog w' = .ok (.string ⟨L.toArray⟩) w' := fun w' h => conv_any A cp _ L w' (HV5.out.1.2.2.2.below h)
  refine wpB_take (i := 0) (d := 23) (v := ?v4x0) rfl rfl (by kernel_rfl) (by kernel_rfl) (by kernel_rfl) (fun _ _ _ h => h) (by rfl) ?y4x0 ?r4x0
  case y4x0 => (intro w' hSw; go_simp; try (with_reducible rfl))
  simp only [Act.put, List.setIfInBounds_toArray, List.set_cons_zero, List.set_cons_succ]
  refine wpB_take (i := 1) (d := 24) (v := ?v4x1) rfl rfl (by kernel_rfl) (by kernel_rfl) (by kernel_rfl) (fun _ _ _ h => h) (by rfl) ?y4x1 ?r4x1
  case y4x1 => (intro w' hSw; go_simp; try (with_reducible rfl))
  simp only [Act.put, List.setIfInBounds_toArray, List.set_cons_zero, List.set_cons_succ]
  refine wpB_take (i := 2) (d := 25) (v := ?v4x2) rfl rfl (by kernel_rfl) (by kernel_rfl) (by kernel_rfl) (fun _ _ _ h => h) (by rfl) ?y4x2 ?r4x2
  case y4x2 => (intro w' hSw; go_simp; try (with_reducible rfl))
  simp only [Act.put, List.setIfInBounds_toArray, List.set_cons_zero, List.set_cons_succ]
  refine wpB_do (i := 3) (by kernel_rfl) rfl (by rfl) (fun K hK => ?_)
  go_simp
  refine (refPut_any c w5).mono ?_
  rintro e w6 ⟨v6, rfl, ho, hb⟩
  rw [HLL.out] at ho
  obtain ⟨A6, c6, rfl, hr6, _, _⟩ := ho.rd
  have HV6 : Hid (((Box w6 w.heap.size 23 #[.int .i64 c.id, .int .i64 c.m, .int .i64 c.u, .int .i64 c.b, .int .i64 c.cp, .int .i64 c.z, .int .i64 c.s, .int .i64 c.mt, .int .i64 c.o, .int .i64 c.a, .int .i64 c.l] ∧ Box w6 g4 23 #[.int .i64 d.id, .int .i64 d.m, .int .i64 d.u, .int .i64 d.b, .int .i64 d.cp, .int .i64 d.z, .int .i64 d.s, .int .i64 d.mt, .int .i64 d.o, .int .i64 d.a, .int .i64 d.l] ∧ Below w.heap.size w w6 ∧ Rd w6 w6.heap.size A L) ∧ Box w6 g6 23 #[.int .i64 d.id, .int .i64 d.m, .int .i64 d.u, .int .i64 d.b, .int .i64 d.cp, .int .i64 d.z, .int .i64 d.s, .int .i64 d.mt, .int .i64 d.o, .int .i64 d.a, .int .i64 d.l]) ∧ Rd w6 w6.heap.size A6 L) := ⟨⟨⟨HV5.out.1.1.later hb, HV5.out.1.2.1.later hb, HV5.out.1.2.2.1.trans (hb.mono HV5.out.1.2.2.1.size), (HV5.out.1.2.2.2.below hb).more hb.size⟩, HV5.out.2.later hb⟩, hr6⟩
  have hsz := hb.size
  go_simp
  refine hK.out w6.heap.size _ _ hsz hb ?_
  clear hK hb ho hr6 hsz hcv q0 m0 o0 q1 m1 o1 q2 m2 o2 q3 m3 o3 q4 m4 o4 q5 m5 o5 q6 m6 o6 q7 m7 o7 q8 m8 o8 q9 m9 o9 q10 m10 o10
  have HV6b := Lib.hid HV6.out.1
  have hcv6 : ∀ w', Below w6.heap.size w6 w' → (convert 32 9 (.slice A6 L.length c6)).run Try.prog w' = .ok (.string ⟨L.toArray⟩) w' := fun w' h => conv_any A6 c6 _ L w' (HV6.out.2.below h)
  have q0 : ∀ w', Below w6.heap.size w6 w' → w'.cell? ⟨w.heap.size, 0, none⟩ = some (.int .i64 c.id) := fun w' h => (box11 (HV6b.out.1.1.later h)).1
  have q1 : ∀ w', Below w6.heap.size w6 w' → w'.cell? ⟨w.heap.size, 1, none⟩ = some (.int .i64 c.m) := fun w' h => (box11 (HV6b.out.1.1.later h)).2.1
  have q2 : ∀ w', Below w6.heap.size w6 w' → w'.cell? ⟨w.heap.size, 2, none⟩ = some (.int .i64 c.u) := fun w' h => (box11 (HV6b.out.1.1.later h)).2.2.1
  have q3 : ∀ w', Below w6.heap.size w6 w' → w'.cell? ⟨w.heap.size, 3, none⟩ = some (.int .i64 c.b) := fun w' h => (box11 (HV6b.out.1.1.later h)).2.2.2.1
  have q4 : ∀ w', Below w6.heap.size w6 w' → w'.cell? ⟨w.heap.size, 4, none⟩ = some (.int .i64 c.cp) := fun w' h => (box11 (HV6b.out.1.1.later h)).2.2.2.2.1
  have q5 : ∀ w', Below w6.heap.size w6 w' → w'.cell? ⟨w.heap.size, 5, none⟩ = some (.int .i64 c.z) := fun w' h => (box11 (HV6b.out.1.1.later h)).2.2.2.2.2.1
  have q6 : ∀ w', Below w6.heap.size w6 w' → w'.cell? ⟨w.heap.size, 6, none⟩ = some (.int .i64 c.s) := fun w' h => (box11 (HV6b.out.1.1.later h)).2.2.2.2.2.2.1
  have q7 : ∀ w', Below w6.heap.size w6 w' → w'.cell? ⟨w.heap.size, 7, none⟩ = some (.int .i64 c.mt) := fun w' h => (box11 (HV6b.out.1.1.later h)).2.2.2.2.2.2.2.1
  have q8 : ∀ w', Below w6.heap.size w6 w' → w'.cell? ⟨w.heap.size, 8, none⟩ = some (.int .i64 c.o) := fun w' h => (box11 (HV6b.out.1.1.later h)).2.2.2.2.2.2.2.2.1
  have q9 : ∀ w', Below w6.heap.size w6 w' → w'.cell? ⟨w.heap.size, 9, none⟩ = some (.int .i64 c.a) := fun w' h => (box11 (HV6b.out.1.1.later h)).2.2.2.2.2.2.2.2.2.1
  have q10 : ∀ w', Below w6.heap.size w6 w' → w'.cell? ⟨w.heap.size, 10, none⟩ = some (.int .i64 c.l) := fun w' h => (box11 (HV6b.out.1.1.later h)).2.2.2.2.2.2.2.2.2.2
  have m0 : ∀ w', Below w6.heap.size w6 w' → w'.cell? ⟨g4, 0, none⟩ = some (.int .i64 d.id) := fun w' h => (box11 (HV6b.out.1.2.1.later h)).1
  have m1 : ∀ w', Below w6.heap.size w6 w' → w'.cell? ⟨g4, 1, none⟩ = some (.int .i64 d.m) := fun w' h => (box11 (HV6b.out.1.2.1.later h)).2.1
  have m2 : ∀ w', Below w6.heap.size w6 w' → w'.cell? ⟨g4, 2, none⟩ = some (.int .i64 d.u) := fun w' h => (box11 (HV6b.out.1.2.1.later h)).2.2.1
  have m3 : ∀ w', Below w6.heap.size w6 w' → w'.cell? ⟨g4, 3, none⟩ = some (.int .i64 d.b) := fun w' h => (box11 (HV6b.out.1.2.1.later h)).2.2.2.1
  have m4 : ∀ w', Below w6.heap.size w6 w' → w'.cell? ⟨g4, 4, none⟩ = some (.int .i64 d.cp) := fun w' h => (box11 (HV6b.out.1.2.1.later h)).2.2.2.2.1
  have m5 : ∀ w', Below w6.heap.size w6 w' → w'.cell? ⟨g4, 5, none⟩ = some (.int .i64 d.z) := fun w' h => (box11 (HV6b.out.1.2.1.later h)).2.2.2.2.2.1
  have m6 : ∀ w', Below w6.heap.size w6 w' → w'.cell? ⟨g4, 6, none⟩ = some (.int .i64 d.s) := fun w' h => (box11 (HV6b.out.1.2.1.later h)).2.2.2.2.2.2.1
  have m7 : ∀ w', Below w6.heap.size w6 w' → w'.cell? ⟨g4, 7, none⟩ = some (.int .i64 d.mt) := fun w' h => (box11 (HV6b.out.1.2.1.later h)).2.2.2.2.2.2.2.1
  have m8 : ∀ w', Below w6.heap.size w6 w' → w'.cell? ⟨g4, 8, none⟩ = some (.int .i64 d.o) := fun w' h => (box11 (HV6b.out.1.2.1.later h)).2.2.2.2.2.2.2.2.1
  have m9 : ∀ w', Below w6.heap.size w6 w' → w'.cell? ⟨g4, 9, none⟩ = some (.int .i64 d.a) := fun w' h => (box11 (HV6b.out.1.2.1.later h)).2.2.2.2.2.2.2.2.2.1
  have m10 : ∀ w', Below w6.heap.size w6 w' → w'.cell? ⟨g4, 10, none⟩ = some (.int .i64 d.l) := fun w' h => (box11 (HV6b.out.1.2.1.later h)).2.2.2.2.2.2.2.2.2.2
  have o0 : ∀ w', Below w6.heap.size w6 w' → w'.cell? ⟨g6, 0, none⟩ = some (.int .i64 d.id) := fun w' h => (box11 (HV6b.out.2.later h)).1
  have o1 : ∀ w', Below w6.heap.size w6 w' → w'.cell? ⟨g6, 1, none⟩ = some (.int .i64 d.m) := fun w' h => (box11 (HV6b.out.2.later h)).2.1
  have o2 : ∀ w', Below w6.heap.size w6 w' → w'.cell? ⟨g6, 2, none⟩ = some (.int .i64 d.u) := fun w' h => (box11 (HV6b.out.2.later h)).2.2.1
  have o3 : ∀ w', Below w6.heap.size w6 w' → w'.cell? ⟨g6, 3, none⟩ = some (.int .i64 d.b) := fun w' h => (box11 (HV6b.out.2.later h)).2.2.2.1
  have o4 : ∀ w', Below w6.heap.size w6 w' → w'.cell? ⟨g6, 4, none⟩ = some (.int .i64 d.cp) := fun w' h => (box11 (HV6b.out.2.later h)).2.2.2.2.1
  have o5 : ∀ w', Below w6.heap.size w6 w' → w'.cell? ⟨g6, 5, none⟩ = some (.int .i64 d.z) := fun w' h => (box11 (HV6b.out.2.later h)).2.2.2.2.2.1
  have o6 : ∀ w', Below w6.heap.size w6 w' → w'.cell? ⟨g6, 6, none⟩ = some (.int .i64 d.s) := fun w' h => (box11 (HV6b.out.2.later h)).2.2.2.2.2.2.1
  have o7 : ∀ w', Below w6.heap.size w6 w' → w'.cell? ⟨g6, 7, none⟩ = some (.int .i64 d.mt) := fun w' h => (box11 (HV6b.out.2.later h)).2.2.2.2.2.2.2.1
  have o8 : ∀ w', Below w6.heap.size w6 w' → w'.cell? ⟨g6, 8, none⟩ = some (.int .i64 d.o) := fun w' h => (box11 (HV6b.out.2.later h)).2.2.2.2.2.2.2.2.1
  have o9 : ∀ w', Below w6.heap.size w6 w' → w'.cell? ⟨g6, 9, none⟩ = some (.int .i64 d.a) := fun w' h => (box11 (HV6b.out.2.later h)).2.2.2.2.2.2.2.2.2.1
  have o10 : ∀ w', Below w6.heap.size w6 w' → w'.cell? ⟨g6, 10, none⟩ = some (.int .i64 d.l) := fun w' h => (box11 (HV6b.out.2.later h)).2.2.2.2.2.2.2.2.2.2
  refine wpB_take (i := 4) (d := 27) (v := ?v4x4) rfl rfl (by kernel_rfl) (by kernel_rfl) (by kernel_rfl) (fun _ _ _ h => h) (by rfl) ?y4x4 ?r4x4
  case y4x4 => (intro w' hSw; go_simp; try (with_reducible rfl))
  simp only [Act.put, List.setIfInBounds_toArray, List.set_cons_zero, List.set_cons_succ]
  refine wpB_take (i := 5) (d := 28) (v := ?v4x5) rfl rfl (by kernel_rfl) (by kernel_rfl) (by kernel_rfl) (fun _ _ _ h => h) (by rfl) ?y4x5 ?r4x5
  case y4x5 => (intro w' hSw; go_simp; try (with_reducible rfl))
  simp only [Act.put, List.setIfInBounds_toArray, List.set_cons_zero, List.set_cons_succ]
  refine wpB_take (i := 6) (d := 29) (v := ?v4x6) rfl rfl (by kernel_rfl) (by kernel_rfl) (by kernel_rfl) (fun _ _ _ h => h) (by rfl) ?y4x6 ?r4x6
  case y4x6 => (intro w' hSw; go_simp; try (with_reducible rfl))
  simp only [Act.put, List.setIfInBounds_toArray, List.set_cons_zero, List.set_cons_succ]
  refine wpB_take (i := 7) (d := 30) (v := ?v4x7) rfl rfl (by kernel_rfl) (by kernel_rfl) (by kernel_rfl) (fun _ _ _ h => h) (by rfl) ?y4x7 ?r4x7
  case y4x7 => (intro w' hSw; go_simp; try (with_reducible rfl))
  simp only [Act.put, List.setIfInBounds_toArray, List.set_cons_zero, List.set_cons_succ]
  refine wpB_take (i := 8) (d := 31) (v := ?v4x8) rfl rfl (by kernel_rfl) (by kernel_rfl) (by kernel_rfl) (fun _ _ _ h => h) (by rfl) ?y4x8 ?r4x8
  case y4x8 => (intro w' hSw; go_simp; try (with_reducible rfl))
  simp only [Act.put, List.setIfInBounds_toArray, List.set_cons_zero, List.set_cons_succ]
  refine wpB_take (i := 9) (d := 32) (v := ?v4x9) rfl rfl (by kernel_rfl) (by kernel_rfl) (by kernel_rfl) (fun _ _ _ h => h) (by rfl) ?y4x9 ?r4x9
  case y4x9 => (intro w' hSw; go_simp; try (with_reducible rfl))
  simp only [Act.put, List.setIfInBounds_toArray, List.set_cons_zero, List.set_cons_succ]
  refine wpB_take (i := 10) (d := 33) (v := ?v4x10) rfl rfl (by kernel_rfl) (by kernel_rfl) (by kernel_rfl) (fun _ _ _ h => h) (by rfl) ?y4x10 ?r4x10
  case y4x10 => (intro w' hSw; go_simp; try (with_reducible rfl))
  simp only [Act.put, List.setIfInBounds_toArray, List.set_cons_zero, List.set_cons_succ]
  refine wpB_take (i := 11) (d := 34) (v := ?v4x11) rfl rfl (by kernel_rfl) (by kernel_rfl) (by kernel_rfl) (fun _ _ _ h => h) (by rfl) ?y4x11 ?r4x11
  case y4x11 => (intro w' hSw; go_simp; try (with_reducible rfl))
  simp only [Act.put, List.setIfInBounds_toArray, List.set_cons_zero, List.set_cons_succ]
  refine wpB_take (i := 12) (d := 35) (v := ?v4x12) rfl rfl (by kernel_rfl) (by kernel_rfl) (by kernel_rfl) (fun _ _ _ h => h) (by rfl) ?y4x12 ?r4x12
  case y4x12 => (intro w' hSw; go_simp; try (with_reducible rfl))
  simp only [Act.put, List.setIfInBounds_toArray, List.set_cons_zero, List.set_cons_succ]
  refine wpB_take (i := 14) (d := 37) (v := ?v4x14) rfl rfl (by kernel_rfl) (by kernel_rfl) (by kernel_rfl) (fun _ _ _ h => h) (by rfl) ?y4x14 ?r4x14
  case y4x14 => (intro w' hSw; go_simp; try (with_reducible rfl))
  simp only [Act.put, List.setIfInBounds_toArray, List.set_cons_zero, List.set_cons_succ]
  refine wpB_do (i := 13) (by kernel_rfl) rfl (by rfl) (fun K hK => ?_)
  go_simp
  refine (code_any er w6).mono ?_
  rintro e w' ⟨rfl, rfl⟩
  go_simp
  refine hK.out w6.heap.size _ _ (Nat.le_refl _) (Below.refl _ _) ?_
  clear hK
  refine wpB_take (i := 15) (d := 38) (v := ?v4x15) rfl rfl (by kernel_rfl) (by kernel_rfl) (by kernel_rfl) (fun _ _ _ h => h) (by rfl) ?y4x15 ?r4x15
  case y4x15 => (intro w' hSw; go_simp; try (with_reducible rfl))
  simp only [Act.put, List.setIfInBounds_toArray, List.set_cons_zero, List.set_cons_succ]
  refine wpB_take (i := 16) (d := 39) (v := ?v4x16) rfl rfl (by kernel_rfl) (by kernel_rfl) (by kernel_rfl) (fun _ _ _ h => h) (by rfl) ?y4x16 ?r4x16
  case y4x16 => (intro w' hSw; go_simp; try (with_reducible rfl))
  simp only [Act.put, List.setIfInBounds_toArray, List.set_cons_zero, List.set_cons_succ]
  refine wpB_done (by kernel_rfl) ?_
  clear hcv6 HV5 q0 m0 o0 q1 m1 o1 q2 m2 o2 q3 m3 o3 q4 m4 o4 q5 m5 o5 q6 m6 o6 q7 m7 o7 q8 m8 o8 q9 m9 o9 q10 m10 o10
  have HW := Lib.hid (And.intro HV6.out.1.1.1 (And.intro HV6.out.1.1.2.1 HV6.out.1.1.2.2.1))
  clear HV6 HV6b
  go_upto_region 6 with fail
  have HI1 : Hid (allIn (-4611686018427387904) 4611686018427387904 (c.list.take 1) = decide ((-4611686018427387904) ≤ c.id ∧ c.id ≤ 4611686018427387904)) := by
    show allIn (-4611686018427387904) 4611686018427387904 (c.list.take 1) = decide ((-4611686018427387904) ≤ c.id ∧ c.id ≤ 4611686018427387904)
    simp [Cf.list, allIn]
  have HI2 : Hid (∀ k (hk : k < c.rest.length), allIn (-4611686018427387904) 4611686018427387904 (c.list.take (k + 1 + 1)) = (allIn (-4611686018427387904) 4611686018427387904 (c.list.take (k + 1)) && decide ((-4611686018427387904) ≤ c.rest[k] ∧ c.rest[k] ≤ 4611686018427387904))) := by
    show ∀ k (hk : k < c.rest.length), allIn (-4611686018427387904) 4611686018427387904 (c.list.take (k + 1 + 1)) = (allIn (-4611686018427387904) 4611686018427387904 (c.list.take (k + 1)) && decide ((-4611686018427387904) ≤ c.rest[k] ∧ c.rest[k] ≤ 4611686018427387904))
    intro k hk
    rw [allIn_take (k := k + 1) (by show k + 1 < 11; have : k < 10 := hk; omega), rest_at c k hk]
  have HI3 : Hid (∀ k, k = 10 → allIn (-4611686018427387904) 4611686018427387904 (c.list.take (k + 1)) = allIn (-4611686018427387904) 4611686018427387904 c.list) := by
    show ∀ k, k = 10 → allIn (-4611686018427387904) 4611686018427387904 (c.list.take (k + 1)) = allIn (-4611686018427387904) 4611686018427387904 c.list
    intro k hk
    subst hk
    rw [List.take_of_length_le (by show 11 ≤ 11; omega)]
  go_cut [8] from 40 to 47 (fun s wx => s = .bool (allIn (-4611686018427387904) 4611686018427387904 (c.list.take 1)) ∧ wx = w6)
  case first =>
    obtain ⟨y0, y1, y2, y3, y4, y5, y6, y7, y8, y9, y10⟩ := box11 HW.out.1
    by_cases h1 : c.id < (-4611686018427387904)
    · have hv : Hid (allIn (-4611686018427387904) 4611686018427387904 (c.list.take 1) = false) := by
        show allIn (-4611686018427387904) 4611686018427387904 (c.list.take 1) = false
        rw [HI1.out]
        simp
        omega
      go_wp2_with fail
      go_meet
      exact ⟨by rw [hv.out]; first | done | (simp; omega), rfl⟩
    · by_cases h2 : 4611686018427387904 < c.id
      · have hv : Hid (allIn (-4611686018427387904) 4611686018427387904 (c.list.take 1) = false) := by
          show allIn (-4611686018427387904) 4611686018427387904 (c.list.take 1) = false
          rw [HI1.out]
          simp
          omega
        go_wp2_with fail
        go_meet
        exact ⟨by rw [hv.out]; first | done | (simp; omega), rfl⟩
      · have hv : Hid (allIn (-4611686018427387904) 4611686018427387904 (c.list.take 1) = true) := by
          show allIn (-4611686018427387904) 4611686018427387904 (c.list.take 1) = true
          rw [HI1.out]
          simp
          omega
        go_wp2_with fail
        go_meet
        exact ⟨by rw [hv.out]; first | done | (simp; omega), rfl⟩
  case rest =>
    obtain ⟨hs8, hwc⟩ := hcut
    subst hs8
    subst hwc
    clear HI1
    obtain ⟨y0, y1, y2, y3, y4, y5, y6, y7, y8, y9, y10⟩ := box11 HW.out.1
    go_wp2_with fail
    refine (list_any c _).mono ?_
    rintro e w7 ⟨rfl, hq, hb⟩
    have HX := Lib.hid (And.intro (HW.out.1.later hb) (And.intro (HW.out.2.1.later hb) (HW.out.2.2.trans (hb.mono HW.out.2.2.size))))
    have HQ : Hid (∀ k (hk : k < c.rest.length), w7.cell? ⟨_, k, none⟩ = some (.int .i64 c.rest[k])) := fun k hk => hq.at_ k hk
    clear hq hb HW y0 y1 y2 y3 y4 y5 y6 y7 y8 y9 y10
    go_wp2
    go_loop [8, 10] (fun s i => ∃ k : Nat, k ≤ 10 ∧ i = .int .i64 k ∧ s = .bool (allIn (-4611686018427387904) 4611686018427387904 (c.list.take (k + 1)))) (fun _ i => 10 - (intOf i).toNat)
    case atStart => exact ⟨0, by omega, rfl, rfl⟩
    case round =>
      obtain ⟨k, hk, rfl, rfl⟩ := hrel
      by_cases hlt : k < 10
      · have h1 := HQ.out k hlt
        have HK := Lib.hid (HI2.out k hlt)
        generalize c.rest[k]'hlt = n at h1 HK
        generalize allIn (-4611686018427387904) 4611686018427387904 (c.list.take (k + 1)) = x at HK ⊢
        cases x
        · go_wp2
          go_round
          case rel => exact ⟨k + 1, by omega, by go_num, by rw [HK.out]; rfl⟩
          case measure => simp [intOf]; omega
        · by_cases hn1 : n < (-4611686018427387904)
          · have HV := Lib.hid (show decide ((-4611686018427387904) ≤ n ∧ n ≤ 4611686018427387904) = false by simp; omega)
            go_wp2
            go_round
            case rel => exact ⟨k + 1, by omega, by go_num, by rw [HK.out, HV.out]; first | done | rfl | (simp; omega)⟩
            case measure => simp [intOf]; omega
          · by_cases hn2 : 4611686018427387904 < n
            · have HV := Lib.hid (show decide ((-4611686018427387904) ≤ n ∧ n ≤ 4611686018427387904) = false by simp; omega)
              go_wp2
              go_round
              case rel => exact ⟨k + 1, by omega, by go_num, by rw [HK.out, HV.out]; first | done | rfl | (simp; omega)⟩
              case measure => simp [intOf]; omega
            · have HV := Lib.hid (show decide ((-4611686018427387904) ≤ n ∧ n ≤ 4611686018427387904) = true by simp; omega)
              go_wp2
              go_round
              case rel => exact ⟨k + 1, by omega, by go_num, by rw [HK.out, HV.out]; first | done | rfl | (simp; omega)⟩
              case measure => simp [intOf]; omega
      · obtain rfl : k = 10 := by omega
        rw [HI3.out 10 rfl]
        clear HI2 HI3 HQ
        generalize hI : allIn (-4611686018427387904) 4611686018427387904 c.list = I at HD ⊢
        clear hI
        cases I
        · obtain rfl := HD.out.2 rfl
          clear HD
          go_wp2_with fail
          refine (code_any 13 w7).mono ?_
          rintro e w' ⟨rfl, rfl⟩
          go_wp2_with fail
          refine (live_any w7).mono ?_
          rintro e w8 ⟨rfl, hb⟩
          have HZ := Lib.hid (HX.out.2.2.trans (hb.mono HX.out.2.2.size))
          clear hb HX
          go_wp2
          go_ret
          exact ⟨rfl, HZ.out⟩
        · obtain ⟨rfl, rfl⟩ := HD.out.1 rfl
          clear HD
          obtain ⟨y0, y1, y2, y3, y4, y5, y6, y7, y8, y9, y10⟩ := box11 HX.out.1
          obtain ⟨z0, z1, z2, z3, z4, z5, z6, z7, z8, z9, z10⟩ := box11 HX.out.2.1
          go_wp2_with fail
          refine (code_any 0 w7).mono ?_
          rintro e w' ⟨rfl, rfl⟩
          go_wp2_with fail
          refine (live_any w7).mono ?_
          rintro e w8 ⟨rfl, hb⟩
          have HZ := Lib.hid (HX.out.2.2.trans (hb.mono HX.out.2.2.size))
          clear hb HX y0 y1 y2 y3 y4 y5 y6 y7 y8 y9 y10 z0 z1 z2 z3 z4 z5 z6 z7 z8 z9 z10
          go_wp2
          go_ret
          exact ⟨rfl, HZ.out⟩
end Go.Proofs.Yteobhfcebckonaa
