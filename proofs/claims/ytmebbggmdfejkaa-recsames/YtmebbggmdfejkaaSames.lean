/- For any two records the law RecSames returns true: the walk. -/
import Derived.Test.YtmebbggmdfejkaaRe
import Derived.Deep.DeepCutAuto
import Derived.BigQuiet
namespace Go.Proofs.Ytmebbggmdfejkaa
set_option linter.unusedVariables false
set_option linter.unusedSimpArgs false
open Go.RowKit
open Go.RowKit (wrap64)

set_option maxRecDepth 100000 in
set_option maxHeartbeats 4000000 in
theorem recSames_walk (n m : Nat → Int) (A D : Option Addr) (c d : Nat) (l r : List UInt8) (w : World) (hl : Rd w w.heap.size A l) (hr : Rd w w.heap.size D r) (h1 : l.length ≤ 140737488351232) (h2 : r.length ≤ 140737488351232) :
    Calls Try.prog 6 #[.agg #[.int .i64 (n 0), .int .i64 (n 1), .int .i64 (n 2), .int .i64 (n 3), .int .i64 (n 4), .int .i64 (n 5), .int .i64 (n 6), .int .i64 (n 7), .int .i64 (n 8), .slice A l.length c], .agg #[.int .i64 (m 0), .int .i64 (m 1), .int .i64 (m 2), .int .i64 (m 3), .int .i64 (m 4), .int .i64 (m 5), .int .i64 (m 6), .int .i64 (m 7), .int .i64 (m 8), .slice D r.length d]] w (Says w (.bool true)) := by
  have HA : Hid (∀ w', Below w.heap.size w w' → Rd w' w.heap.size A l ∧ Rd w' w.heap.size D r) := fun w' h => ⟨hl.below h, hr.below h⟩
  clear hl hr
  go_enter Try.func6, Try.ntmps6
  go_upto_region 1 with fail
  have HV0 : Hid (RecAt ((w.alloc (.cells #[.int .i64 (n 0), .int .i64 (n 1), .int .i64 (n 2), .int .i64 (n 3), .int .i64 (n 4), .int .i64 (n 5), .int .i64 (n 6), .int .i64 (n 7), .int .i64 (n 8), .slice A l.length c] 24)).alloc (.cells #[.int .i64 (m 0), .int .i64 (m 1), .int .i64 (m 2), .int .i64 (m 3), .int .i64 (m 4), .int .i64 (m 5), .int .i64 (m 6), .int .i64 (m 7), .int .i64 (m 8), .slice D r.length d] 24)) w.heap.size n (.slice A l.length c) ∧ RecAt ((w.alloc (.cells #[.int .i64 (n 0), .int .i64 (n 1), .int .i64 (n 2), .int .i64 (n 3), .int .i64 (n 4), .int .i64 (n 5), .int .i64 (n 6), .int .i64 (n 7), .int .i64 (n 8), .slice A l.length c] 24)).alloc (.cells #[.int .i64 (m 0), .int .i64 (m 1), .int .i64 (m 2), .int .i64 (m 3), .int .i64 (m 4), .int .i64 (m 5), .int .i64 (m 6), .int .i64 (m 7), .int .i64 (m 8), .slice D r.length d] 24)) (w.heap.size + 1) m (.slice D r.length d) ∧ Below w.heap.size w ((w.alloc (.cells #[.int .i64 (n 0), .int .i64 (n 1), .int .i64 (n 2), .int .i64 (n 3), .int .i64 (n 4), .int .i64 (n 5), .int .i64 (n 6), .int .i64 (n 7), .int .i64 (n 8), .slice A l.length c] 24)).alloc (.cells #[.int .i64 (m 0), .int .i64 (m 1), .int .i64 (m 2), .int .i64 (m 3), .int .i64 (m 4), .int .i64 (m 5), .int .i64 (m 6), .int .i64 (m 7), .int .i64 (m 8), .slice D r.length d] 24)) ∧ w.heap.size + 2 ≤ ((w.alloc (.cells #[.int .i64 (n 0), .int .i64 (n 1), .int .i64 (n 2), .int .i64 (n 3), .int .i64 (n 4), .int .i64 (n 5), .int .i64 (n 6), .int .i64 (n 7), .int .i64 (n 8), .slice A l.length c] 24)).alloc (.cells #[.int .i64 (m 0), .int .i64 (m 1), .int .i64 (m 2), .int .i64 (m 3), .int .i64 (m 4), .int .i64 (m 5), .int .i64 (m 6), .int .i64 (m 7), .int .i64 (m 8), .slice D r.length d] 24)).heap.size) := by
    obtain ⟨h1, h2, h3, h4⟩ := two_boxes' w 24 24 #[.int .i64 (n 0), .int .i64 (n 1), .int .i64 (n 2), .int .i64 (n 3), .int .i64 (n 4), .int .i64 (n 5), .int .i64 (n 6), .int .i64 (n 7), .int .i64 (n 8), .slice A l.length c] #[.int .i64 (m 0), .int .i64 (m 1), .int .i64 (m 2), .int .i64 (m 3), .int .i64 (m 4), .int .i64 (m 5), .int .i64 (m 6), .int .i64 (m 7), .int .i64 (m 8), .slice D r.length d]
    exact ⟨h1, h2, h3, by omega⟩
  generalize ((w.alloc (.cells #[.int .i64 (n 0), .int .i64 (n 1), .int .i64 (n 2), .int .i64 (n 3), .int .i64 (n 4), .int .i64 (n 5), .int .i64 (n 6), .int .i64 (n 7), .int .i64 (n 8), .slice A l.length c] 24)).alloc (.cells #[.int .i64 (m 0), .int .i64 (m 1), .int .i64 (m 2), .int .i64 (m 3), .int .i64 (m 4), .int .i64 (m 5), .int .i64 (m 6), .int .i64 (m 7), .int .i64 (m 8), .slice D r.length d] 24)) = w0 at HV0 ⊢
  have y1 := HV0.out.1.body
  have y2 := HV0.out.2.1.body
  by_cases hx : 1000 < l.length + r.length
  · go_wp2_with fail
    refine (live_any w0).mono ?_
    rintro e w1 ⟨rfl, hb⟩
    have HB := Lib.hid (HV0.out.2.2.1.trans (hb.mono HV0.out.2.2.1.size))
    clear hb HV0 y1 y2
    go_wp2
    go_ret
    exact ⟨rfl, HB.out⟩
  · go_upto_region 3 with fail
    have HL : Hid (l.length ≤ 1000 ∧ r.length ≤ 1000) := by
      show _ ∧ _
      omega
    clear y1 y2 hx h1 h2
    refine wpB_start (w.heap.size + 2) (by kernel_rfl) ?_
    have HV1 : Hid (RecAt w0.drew w.heap.size n (.slice A l.length c) ∧ RecAt w0.drew (w.heap.size + 1) m (.slice D r.length d) ∧ Below w.heap.size w w0.drew ∧ w.heap.size + 2 ≤ w0.drew.heap.size) := ⟨HV0.out.1.later (Below.refl _ _).drew, HV0.out.2.1.later (Below.refl _ _).drew, HV0.out.2.2.1.drew, HV0.out.2.2.2⟩
    generalize w0.drew = w1 at HV1 ⊢
    clear HV0
    have q0 : ∀ w', Below (w.heap.size + 2) w1 w' → w'.cell? ⟨w.heap.size, 0, none⟩ = some (.int .i64 (n 0)) := fun w' h => (box10 (HV1.out.1.under h (by omega))).1
    have p0 : ∀ w', Below (w.heap.size + 2) w1 w' → w'.cell? ⟨w.heap.size + 1, 0, none⟩ = some (.int .i64 (m 0)) := fun w' h => (box10 (HV1.out.2.1.under h (by omega))).1
    have q1 : ∀ w', Below (w.heap.size + 2) w1 w' → w'.cell? ⟨w.heap.size, 1, none⟩ = some (.int .i64 (n 1)) := fun w' h => (box10 (HV1.out.1.under h (by omega))).2.1
    have p1 : ∀ w', Below (w.heap.size + 2) w1 w' → w'.cell? ⟨w.heap.size + 1, 1, none⟩ = some (.int .i64 (m 1)) := fun w' h => (box10 (HV1.out.2.1.under h (by omega))).2.1
    have q2 : ∀ w', Below (w.heap.size + 2) w1 w' → w'.cell? ⟨w.heap.size, 2, none⟩ = some (.int .i64 (n 2)) := fun w' h => (box10 (HV1.out.1.under h (by omega))).2.2.1
    have p2 : ∀ w', Below (w.heap.size + 2) w1 w' → w'.cell? ⟨w.heap.size + 1, 2, none⟩ = some (.int .i64 (m 2)) := fun w' h => (box10 (HV1.out.2.1.under h (by omega))).2.2.1
    have q3 : ∀ w', Below (w.heap.size + 2) w1 w' → w'.cell? ⟨w.heap.size, 3, none⟩ = some (.int .i64 (n 3)) := fun w' h => (box10 (HV1.out.1.under h (by omega))).2.2.2.1
    have p3 : ∀ w', Below (w.heap.size + 2) w1 w' → w'.cell? ⟨w.heap.size + 1, 3, none⟩ = some (.int .i64 (m 3)) := fun w' h => (box10 (HV1.out.2.1.under h (by omega))).2.2.2.1
    have q4 : ∀ w', Below (w.heap.size + 2) w1 w' → w'.cell? ⟨w.heap.size, 4, none⟩ = some (.int .i64 (n 4)) := fun w' h => (box10 (HV1.out.1.under h (by omega))).2.2.2.2.1
    have p4 : ∀ w', Below (w.heap.size + 2) w1 w' → w'.cell? ⟨w.heap.size + 1, 4, none⟩ = some (.int .i64 (m 4)) := fun w' h => (box10 (HV1.out.2.1.under h (by omega))).2.2.2.2.1
    have q5 : ∀ w', Below (w.heap.size + 2) w1 w' → w'.cell? ⟨w.heap.size, 5, none⟩ = some (.int .i64 (n 5)) := fun w' h => (box10 (HV1.out.1.under h (by omega))).2.2.2.2.2.1
    have p5 : ∀ w', Below (w.heap.size + 2) w1 w' → w'.cell? ⟨w.heap.size + 1, 5, none⟩ = some (.int .i64 (m 5)) := fun w' h => (box10 (HV1.out.2.1.under h (by omega))).2.2.2.2.2.1
    have q6 : ∀ w', Below (w.heap.size + 2) w1 w' → w'.cell? ⟨w.heap.size, 6, none⟩ = some (.int .i64 (n 6)) := fun w' h => (box10 (HV1.out.1.under h (by omega))).2.2.2.2.2.2.1
    have p6 : ∀ w', Below (w.heap.size + 2) w1 w' → w'.cell? ⟨w.heap.size + 1, 6, none⟩ = some (.int .i64 (m 6)) := fun w' h => (box10 (HV1.out.2.1.under h (by omega))).2.2.2.2.2.2.1
    have q7 : ∀ w', Below (w.heap.size + 2) w1 w' → w'.cell? ⟨w.heap.size, 7, none⟩ = some (.int .i64 (n 7)) := fun w' h => (box10 (HV1.out.1.under h (by omega))).2.2.2.2.2.2.2.1
    have p7 : ∀ w', Below (w.heap.size + 2) w1 w' → w'.cell? ⟨w.heap.size + 1, 7, none⟩ = some (.int .i64 (m 7)) := fun w' h => (box10 (HV1.out.2.1.under h (by omega))).2.2.2.2.2.2.2.1
    have q8 : ∀ w', Below (w.heap.size + 2) w1 w' → w'.cell? ⟨w.heap.size, 8, none⟩ = some (.int .i64 (n 8)) := fun w' h => (box10 (HV1.out.1.under h (by omega))).2.2.2.2.2.2.2.2.1
    have p8 : ∀ w', Below (w.heap.size + 2) w1 w' → w'.cell? ⟨w.heap.size + 1, 8, none⟩ = some (.int .i64 (m 8)) := fun w' h => (box10 (HV1.out.2.1.under h (by omega))).2.2.2.2.2.2.2.2.1
    have q9 : ∀ w', Below (w.heap.size + 2) w1 w' → w'.cell? ⟨w.heap.size, 9, none⟩ = some (.slice A l.length c) := fun w' h => (box10 (HV1.out.1.under h (by omega))).2.2.2.2.2.2.2.2.2
    have p9 : ∀ w', Below (w.heap.size + 2) w1 w' → w'.cell? ⟨w.heap.size + 1, 9, none⟩ = some (.slice D r.length d) := fun w' h => (box10 (HV1.out.2.1.under h (by omega))).2.2.2.2.2.2.2.2.2
    refine wpB_take (i := 0) (d := 14) (v := ?v3x0) rfl rfl (by kernel_rfl) (by kernel_rfl) (by kernel_rfl) (fun _ _ _ h => h) (by rfl) ?y3x0 ?r3x0
    case y3x0 => (intro w' hSw; go_simp; try (with_reducible rfl))
    simp only [Act.put, List.setIfInBounds_toArray, List.set_cons_zero, List.set_cons_succ]
    refine wpB_take (i := 1) (d := 15) (v := ?v3x1) rfl rfl (by kernel_rfl) (by kernel_rfl) (by kernel_rfl) (fun _ _ _ h => h) (by rfl) ?y3x1 ?r3x1
    case y3x1 => (intro w' hSw; go_simp; try (with_reducible rfl))
    simp only [Act.put, List.setIfInBounds_toArray, List.set_cons_zero, List.set_cons_succ]
    refine wpB_take (i := 3) (d := 17) (v := ?v3x3) rfl rfl (by kernel_rfl) (by kernel_rfl) (by kernel_rfl) (fun _ _ _ h => h) (by rfl) ?y3x3 ?r3x3
    case y3x3 => (intro w' hSw; go_simp; try (with_reducible rfl))
    simp only [Act.put, List.setIfInBounds_toArray, List.set_cons_zero, List.set_cons_succ]
    refine wpB_take (i := 4) (d := 18) (v := ?v3x4) rfl rfl (by kernel_rfl) (by kernel_rfl) (by kernel_rfl) (fun _ _ _ h => h) (by rfl) ?y3x4 ?r3x4
    case y3x4 => (intro w' hSw; go_simp; try (with_reducible rfl))
    simp only [Act.put, List.setIfInBounds_toArray, List.set_cons_zero, List.set_cons_succ]
    refine wpB_do (i := 2) (by kernel_rfl) rfl (by rfl) (fun K hK => ?_)
    go_simp
    refine (same_any n m A D c d l r w1 ((HA.out w1 HV1.out.2.2.1).1.more HV1.out.2.2.1.size) ((HA.out w1 HV1.out.2.2.1).2.more HV1.out.2.2.1.size)).mono ?_
    rintro e w2 ⟨rfl, hb⟩
    have HV2 : Hid (RecAt w2 w.heap.size n (.slice A l.length c) ∧ RecAt w2 (w.heap.size + 1) m (.slice D r.length d) ∧ Below w.heap.size w w2 ∧ w.heap.size + 2 ≤ w2.heap.size) := ⟨HV1.out.1.later hb, HV1.out.2.1.later hb, HV1.out.2.2.1.trans (hb.mono HV1.out.2.2.1.size), Nat.le_trans HV1.out.2.2.2 hb.size⟩
    have hbk := hb.mono HV1.out.2.2.2
    skip
    go_simp
    refine hK.out (w.heap.size + 2) _ _ (Nat.le_refl _) hbk ?_
    clear hK hb hbk HV1 q0 p0 q1 p1 q2 p2 q3 p3 q4 p4 q5 p5 q6 p6 q7 p7 q8 p8 q9 p9
    have q0 : ∀ w', Below (w.heap.size + 2) w2 w' → w'.cell? ⟨w.heap.size, 0, none⟩ = some (.int .i64 (n 0)) := fun w' h => (box10 (HV2.out.1.under h (by omega))).1
    have p0 : ∀ w', Below (w.heap.size + 2) w2 w' → w'.cell? ⟨w.heap.size + 1, 0, none⟩ = some (.int .i64 (m 0)) := fun w' h => (box10 (HV2.out.2.1.under h (by omega))).1
    have q1 : ∀ w', Below (w.heap.size + 2) w2 w' → w'.cell? ⟨w.heap.size, 1, none⟩ = some (.int .i64 (n 1)) := fun w' h => (box10 (HV2.out.1.under h (by omega))).2.1
    have p1 : ∀ w', Below (w.heap.size + 2) w2 w' → w'.cell? ⟨w.heap.size + 1, 1, none⟩ = some (.int .i64 (m 1)) := fun w' h => (box10 (HV2.out.2.1.under h (by omega))).2.1
    have q2 : ∀ w', Below (w.heap.size + 2) w2 w' → w'.cell? ⟨w.heap.size, 2, none⟩ = some (.int .i64 (n 2)) := fun w' h => (box10 (HV2.out.1.under h (by omega))).2.2.1
    have p2 : ∀ w', Below (w.heap.size + 2) w2 w' → w'.cell? ⟨w.heap.size + 1, 2, none⟩ = some (.int .i64 (m 2)) := fun w' h => (box10 (HV2.out.2.1.under h (by omega))).2.2.1
    have q3 : ∀ w', Below (w.heap.size + 2) w2 w' → w'.cell? ⟨w.heap.size, 3, none⟩ = some (.int .i64 (n 3)) := fun w' h => (box10 (HV2.out.1.under h (by omega))).2.2.2.1
    have p3 : ∀ w', Below (w.heap.size + 2) w2 w' → w'.cell? ⟨w.heap.size + 1, 3, none⟩ = some (.int .i64 (m 3)) := fun w' h => (box10 (HV2.out.2.1.under h (by omega))).2.2.2.1
    have q4 : ∀ w', Below (w.heap.size + 2) w2 w' → w'.cell? ⟨w.heap.size, 4, none⟩ = some (.int .i64 (n 4)) := fun w' h => (box10 (HV2.out.1.under h (by omega))).2.2.2.2.1
    have p4 : ∀ w', Below (w.heap.size + 2) w2 w' → w'.cell? ⟨w.heap.size + 1, 4, none⟩ = some (.int .i64 (m 4)) := fun w' h => (box10 (HV2.out.2.1.under h (by omega))).2.2.2.2.1
    have q5 : ∀ w', Below (w.heap.size + 2) w2 w' → w'.cell? ⟨w.heap.size, 5, none⟩ = some (.int .i64 (n 5)) := fun w' h => (box10 (HV2.out.1.under h (by omega))).2.2.2.2.2.1
    have p5 : ∀ w', Below (w.heap.size + 2) w2 w' → w'.cell? ⟨w.heap.size + 1, 5, none⟩ = some (.int .i64 (m 5)) := fun w' h => (box10 (HV2.out.2.1.under h (by omega))).2.2.2.2.2.1
    have q6 : ∀ w', Below (w.heap.size + 2) w2 w' → w'.cell? ⟨w.heap.size, 6, none⟩ = some (.int .i64 (n 6)) := fun w' h => (box10 (HV2.out.1.under h (by omega))).2.2.2.2.2.2.1
    have p6 : ∀ w', Below (w.heap.size + 2) w2 w' → w'.cell? ⟨w.heap.size + 1, 6, none⟩ = some (.int .i64 (m 6)) := fun w' h => (box10 (HV2.out.2.1.under h (by omega))).2.2.2.2.2.2.1
    have q7 : ∀ w', Below (w.heap.size + 2) w2 w' → w'.cell? ⟨w.heap.size, 7, none⟩ = some (.int .i64 (n 7)) := fun w' h => (box10 (HV2.out.1.under h (by omega))).2.2.2.2.2.2.2.1
    have p7 : ∀ w', Below (w.heap.size + 2) w2 w' → w'.cell? ⟨w.heap.size + 1, 7, none⟩ = some (.int .i64 (m 7)) := fun w' h => (box10 (HV2.out.2.1.under h (by omega))).2.2.2.2.2.2.2.1
    have q8 : ∀ w', Below (w.heap.size + 2) w2 w' → w'.cell? ⟨w.heap.size, 8, none⟩ = some (.int .i64 (n 8)) := fun w' h => (box10 (HV2.out.1.under h (by omega))).2.2.2.2.2.2.2.2.1
    have p8 : ∀ w', Below (w.heap.size + 2) w2 w' → w'.cell? ⟨w.heap.size + 1, 8, none⟩ = some (.int .i64 (m 8)) := fun w' h => (box10 (HV2.out.2.1.under h (by omega))).2.2.2.2.2.2.2.2.1
    have q9 : ∀ w', Below (w.heap.size + 2) w2 w' → w'.cell? ⟨w.heap.size, 9, none⟩ = some (.slice A l.length c) := fun w' h => (box10 (HV2.out.1.under h (by omega))).2.2.2.2.2.2.2.2.2
    have p9 : ∀ w', Below (w.heap.size + 2) w2 w' → w'.cell? ⟨w.heap.size + 1, 9, none⟩ = some (.slice D r.length d) := fun w' h => (box10 (HV2.out.2.1.under h (by omega))).2.2.2.2.2.2.2.2.2
    refine wpB_do (i := 5) (by kernel_rfl) rfl (by rfl) (fun K hK => ?_)
    go_simp
    refine (rsame_any n m A D c d l r w2 ((HA.out w2 HV2.out.2.2.1).1.more HV2.out.2.2.1.size) ((HA.out w2 HV2.out.2.2.1).2.more HV2.out.2.2.1.size)).mono ?_
    rintro e w3 ⟨rfl, hb⟩
    have HV3 : Hid (RecAt w3 w.heap.size n (.slice A l.length c) ∧ RecAt w3 (w.heap.size + 1) m (.slice D r.length d) ∧ Below w.heap.size w w3 ∧ w.heap.size + 2 ≤ w3.heap.size) := ⟨HV2.out.1.later hb, HV2.out.2.1.later hb, HV2.out.2.2.1.trans (hb.mono HV2.out.2.2.1.size), Nat.le_trans HV2.out.2.2.2 hb.size⟩
    have hbk := hb.mono HV2.out.2.2.2
    skip
    go_simp
    refine hK.out (w.heap.size + 2) _ _ (Nat.le_refl _) hbk ?_
    clear hK hb hbk HV2 q0 p0 q1 p1 q2 p2 q3 p3 q4 p4 q5 p5 q6 p6 q7 p7 q8 p8 q9 p9
    have q0 : ∀ w', Below (w.heap.size + 2) w3 w' → w'.cell? ⟨w.heap.size, 0, none⟩ = some (.int .i64 (n 0)) := fun w' h => (box10 (HV3.out.1.under h (by omega))).1
    have p0 : ∀ w', Below (w.heap.size + 2) w3 w' → w'.cell? ⟨w.heap.size + 1, 0, none⟩ = some (.int .i64 (m 0)) := fun w' h => (box10 (HV3.out.2.1.under h (by omega))).1
    have q1 : ∀ w', Below (w.heap.size + 2) w3 w' → w'.cell? ⟨w.heap.size, 1, none⟩ = some (.int .i64 (n 1)) := fun w' h => (box10 (HV3.out.1.under h (by omega))).2.1
    have p1 : ∀ w', Below (w.heap.size + 2) w3 w' → w'.cell? ⟨w.heap.size + 1, 1, none⟩ = some (.int .i64 (m 1)) := fun w' h => (box10 (HV3.out.2.1.under h (by omega))).2.1
    have q2 : ∀ w', Below (w.heap.size + 2) w3 w' → w'.cell? ⟨w.heap.size, 2, none⟩ = some (.int .i64 (n 2)) := fun w' h => (box10 (HV3.out.1.under h (by omega))).2.2.1
    have p2 : ∀ w', Below (w.heap.size + 2) w3 w' → w'.cell? ⟨w.heap.size + 1, 2, none⟩ = some (.int .i64 (m 2)) := fun w' h => (box10 (HV3.out.2.1.under h (by omega))).2.2.1
    have q3 : ∀ w', Below (w.heap.size + 2) w3 w' → w'.cell? ⟨w.heap.size, 3, none⟩ = some (.int .i64 (n 3)) := fun w' h => (box10 (HV3.out.1.under h (by omega))).2.2.2.1
    have p3 : ∀ w', Below (w.heap.size + 2) w3 w' → w'.cell? ⟨w.heap.size + 1, 3, none⟩ = some (.int .i64 (m 3)) := fun w' h => (box10 (HV3.out.2.1.under h (by omega))).2.2.2.1
    have q4 : ∀ w', Below (w.heap.size + 2) w3 w' → w'.cell? ⟨w.heap.size, 4, none⟩ = some (.int .i64 (n 4)) := fun w' h => (box10 (HV3.out.1.under h (by omega))).2.2.2.2.1
    have p4 : ∀ w', Below (w.heap.size + 2) w3 w' → w'.cell? ⟨w.heap.size + 1, 4, none⟩ = some (.int .i64 (m 4)) := fun w' h => (box10 (HV3.out.2.1.under h (by omega))).2.2.2.2.1
    have q5 : ∀ w', Below (w.heap.size + 2) w3 w' → w'.cell? ⟨w.heap.size, 5, none⟩ = some (.int .i64 (n 5)) := fun w' h => (box10 (HV3.out.1.under h (by omega))).2.2.2.2.2.1
    have p5 : ∀ w', Below (w.heap.size + 2) w3 w' → w'.cell? ⟨w.heap.size + 1, 5, none⟩ = some (.int .i64 (m 5)) := fun w' h => (box10 (HV3.out.2.1.under h (by omega))).2.2.2.2.2.1
    have q6 : ∀ w', Below (w.heap.size + 2) w3 w' → w'.cell? ⟨w.heap.size, 6, none⟩ = some (.int .i64 (n 6)) := fun w' h => (box10 (HV3.out.1.under h (by omega))).2.2.2.2.2.2.1
    have p6 : ∀ w', Below (w.heap.size + 2) w3 w' → w'.cell? ⟨w.heap.size + 1, 6, none⟩ = some (.int .i64 (m 6)) := fun w' h => (box10 (HV3.out.2.1.under h (by omega))).2.2.2.2.2.2.1
    have q7 : ∀ w', Below (w.heap.size + 2) w3 w' → w'.cell? ⟨w.heap.size, 7, none⟩ = some (.int .i64 (n 7)) := fun w' h => (box10 (HV3.out.1.under h (by omega))).2.2.2.2.2.2.2.1
    have p7 : ∀ w', Below (w.heap.size + 2) w3 w' → w'.cell? ⟨w.heap.size + 1, 7, none⟩ = some (.int .i64 (m 7)) := fun w' h => (box10 (HV3.out.2.1.under h (by omega))).2.2.2.2.2.2.2.1
    have q8 : ∀ w', Below (w.heap.size + 2) w3 w' → w'.cell? ⟨w.heap.size, 8, none⟩ = some (.int .i64 (n 8)) := fun w' h => (box10 (HV3.out.1.under h (by omega))).2.2.2.2.2.2.2.2.1
    have p8 : ∀ w', Below (w.heap.size + 2) w3 w' → w'.cell? ⟨w.heap.size + 1, 8, none⟩ = some (.int .i64 (m 8)) := fun w' h => (box10 (HV3.out.2.1.under h (by omega))).2.2.2.2.2.2.2.2.1
    have q9 : ∀ w', Below (w.heap.size + 2) w3 w' → w'.cell? ⟨w.heap.size, 9, none⟩ = some (.slice A l.length c) := fun w' h => (box10 (HV3.out.1.under h (by omega))).2.2.2.2.2.2.2.2.2
    have p9 : ∀ w', Below (w.heap.size + 2) w3 w' → w'.cell? ⟨w.heap.size + 1, 9, none⟩ = some (.slice D r.length d) := fun w' h => (box10 (HV3.out.2.1.under h (by omega))).2.2.2.2.2.2.2.2.2
    refine wpB_take (i := 6) (d := 20) (v := ?v3x6) rfl rfl (by kernel_rfl) (by kernel_rfl) (by kernel_rfl) (fun _ _ _ h => h) (by rfl) ?y3x6 ?r3x6
    case y3x6 => (intro w' hSw; go_simp; try (with_reducible rfl))
    simp only [Act.put, List.setIfInBounds_toArray, List.set_cons_zero, List.set_cons_succ]
    refine wpB_take (i := 7) (d := 21) (v := ?v3x7) rfl rfl (by kernel_rfl) (by kernel_rfl) (by kernel_rfl) (fun _ _ _ h => h) (by rfl) ?y3x7 ?r3x7
    case y3x7 => (intro w' hSw; go_simp; try (with_reducible rfl))
    simp only [Act.put, List.setIfInBounds_toArray, List.set_cons_zero, List.set_cons_succ]
    refine wpB_take (i := 8) (d := 22) (v := ?v3x8) rfl rfl (by kernel_rfl) (by kernel_rfl) (by kernel_rfl) (fun _ _ _ h => h) (by rfl) ?y3x8 ?r3x8
    case y3x8 => (intro w' hSw; go_simp; try (with_reducible rfl))
    simp only [Act.put, List.setIfInBounds_toArray, List.set_cons_zero, List.set_cons_succ]
    refine wpB_take (i := 9) (d := 23) (v := ?v3x9) rfl rfl (by kernel_rfl) (by kernel_rfl) (by kernel_rfl) (fun _ _ _ h => h) (by rfl) ?y3x9 ?r3x9
    case y3x9 => (intro w' hSw; go_simp; try (with_reducible rfl))
    simp only [Act.put, List.setIfInBounds_toArray, List.set_cons_zero, List.set_cons_succ]
    refine wpB_do (i := 10) (by kernel_rfl) rfl (by rfl) (fun K hK => ?_)
    go_simp
    refine (same_any n n A A c c l l w3 ((HA.out w3 HV3.out.2.2.1).1.more HV3.out.2.2.1.size) ((HA.out w3 HV3.out.2.2.1).1.more HV3.out.2.2.1.size)).mono ?_
    rintro e w4 ⟨rfl, hb⟩
    have HV4 : Hid (RecAt w4 w.heap.size n (.slice A l.length c) ∧ RecAt w4 (w.heap.size + 1) m (.slice D r.length d) ∧ Below w.heap.size w w4 ∧ w.heap.size + 2 ≤ w4.heap.size) := ⟨HV3.out.1.later hb, HV3.out.2.1.later hb, HV3.out.2.2.1.trans (hb.mono HV3.out.2.2.1.size), Nat.le_trans HV3.out.2.2.2 hb.size⟩
    have hbk := hb.mono HV3.out.2.2.2
    rw [sameB_refl l (fun i _ => rfl)]
    go_simp
    refine hK.out (w.heap.size + 2) _ _ (Nat.le_refl _) hbk ?_
    clear hK hb hbk HV3 q0 p0 q1 p1 q2 p2 q3 p3 q4 p4 q5 p5 q6 p6 q7 p7 q8 p8 q9 p9
    have q0 : ∀ w', Below (w.heap.size + 2) w4 w' → w'.cell? ⟨w.heap.size, 0, none⟩ = some (.int .i64 (n 0)) := fun w' h => (box10 (HV4.out.1.under h (by omega))).1
    have p0 : ∀ w', Below (w.heap.size + 2) w4 w' → w'.cell? ⟨w.heap.size + 1, 0, none⟩ = some (.int .i64 (m 0)) := fun w' h => (box10 (HV4.out.2.1.under h (by omega))).1
    have q1 : ∀ w', Below (w.heap.size + 2) w4 w' → w'.cell? ⟨w.heap.size, 1, none⟩ = some (.int .i64 (n 1)) := fun w' h => (box10 (HV4.out.1.under h (by omega))).2.1
    have p1 : ∀ w', Below (w.heap.size + 2) w4 w' → w'.cell? ⟨w.heap.size + 1, 1, none⟩ = some (.int .i64 (m 1)) := fun w' h => (box10 (HV4.out.2.1.under h (by omega))).2.1
    have q2 : ∀ w', Below (w.heap.size + 2) w4 w' → w'.cell? ⟨w.heap.size, 2, none⟩ = some (.int .i64 (n 2)) := fun w' h => (box10 (HV4.out.1.under h (by omega))).2.2.1
    have p2 : ∀ w', Below (w.heap.size + 2) w4 w' → w'.cell? ⟨w.heap.size + 1, 2, none⟩ = some (.int .i64 (m 2)) := fun w' h => (box10 (HV4.out.2.1.under h (by omega))).2.2.1
    have q3 : ∀ w', Below (w.heap.size + 2) w4 w' → w'.cell? ⟨w.heap.size, 3, none⟩ = some (.int .i64 (n 3)) := fun w' h => (box10 (HV4.out.1.under h (by omega))).2.2.2.1
    have p3 : ∀ w', Below (w.heap.size + 2) w4 w' → w'.cell? ⟨w.heap.size + 1, 3, none⟩ = some (.int .i64 (m 3)) := fun w' h => (box10 (HV4.out.2.1.under h (by omega))).2.2.2.1
    have q4 : ∀ w', Below (w.heap.size + 2) w4 w' → w'.cell? ⟨w.heap.size, 4, none⟩ = some (.int .i64 (n 4)) := fun w' h => (box10 (HV4.out.1.under h (by omega))).2.2.2.2.1
    have p4 : ∀ w', Below (w.heap.size + 2) w4 w' → w'.cell? ⟨w.heap.size + 1, 4, none⟩ = some (.int .i64 (m 4)) := fun w' h => (box10 (HV4.out.2.1.under h (by omega))).2.2.2.2.1
    have q5 : ∀ w', Below (w.heap.size + 2) w4 w' → w'.cell? ⟨w.heap.size, 5, none⟩ = some (.int .i64 (n 5)) := fun w' h => (box10 (HV4.out.1.under h (by omega))).2.2.2.2.2.1
    have p5 : ∀ w', Below (w.heap.size + 2) w4 w' → w'.cell? ⟨w.heap.size + 1, 5, none⟩ = some (.int .i64 (m 5)) := fun w' h => (box10 (HV4.out.2.1.under h (by omega))).2.2.2.2.2.1
    have q6 : ∀ w', Below (w.heap.size + 2) w4 w' → w'.cell? ⟨w.heap.size, 6, none⟩ = some (.int .i64 (n 6)) := fun w' h => (box10 (HV4.out.1.under h (by omega))).2.2.2.2.2.2.1
    have p6 : ∀ w', Below (w.heap.size + 2) w4 w' → w'.cell? ⟨w.heap.size + 1, 6, none⟩ = some (.int .i64 (m 6)) := fun w' h => (box10 (HV4.out.2.1.under h (by omega))).2.2.2.2.2.2.1
    have q7 : ∀ w', Below (w.heap.size + 2) w4 w' → w'.cell? ⟨w.heap.size, 7, none⟩ = some (.int .i64 (n 7)) := fun w' h => (box10 (HV4.out.1.under h (by omega))).2.2.2.2.2.2.2.1
    have p7 : ∀ w', Below (w.heap.size + 2) w4 w' → w'.cell? ⟨w.heap.size + 1, 7, none⟩ = some (.int .i64 (m 7)) := fun w' h => (box10 (HV4.out.2.1.under h (by omega))).2.2.2.2.2.2.2.1
    have q8 : ∀ w', Below (w.heap.size + 2) w4 w' → w'.cell? ⟨w.heap.size, 8, none⟩ = some (.int .i64 (n 8)) := fun w' h => (box10 (HV4.out.1.under h (by omega))).2.2.2.2.2.2.2.2.1
    have p8 : ∀ w', Below (w.heap.size + 2) w4 w' → w'.cell? ⟨w.heap.size + 1, 8, none⟩ = some (.int .i64 (m 8)) := fun w' h => (box10 (HV4.out.2.1.under h (by omega))).2.2.2.2.2.2.2.2.1
    have q9 : ∀ w', Below (w.heap.size + 2) w4 w' → w'.cell? ⟨w.heap.size, 9, none⟩ = some (.slice A l.length c) := fun w' h => (box10 (HV4.out.1.under h (by omega))).2.2.2.2.2.2.2.2.2
    have p9 : ∀ w', Below (w.heap.size + 2) w4 w' → w'.cell? ⟨w.heap.size + 1, 9, none⟩ = some (.slice D r.length d) := fun w' h => (box10 (HV4.out.2.1.under h (by omega))).2.2.2.2.2.2.2.2.2
    refine wpB_take (i := 11) (d := 25) (v := ?v3x11) rfl rfl (by kernel_rfl) (by kernel_rfl) (by kernel_rfl) (fun _ _ _ h => h) (by rfl) ?y3x11 ?r3x11
    case y3x11 => (intro w' hSw; go_simp; try (with_reducible rfl))
    simp only [Act.put, List.setIfInBounds_toArray, List.set_cons_zero, List.set_cons_succ]
    refine wpB_take (i := 12) (d := 26) (v := ?v3x12) rfl rfl (by kernel_rfl) (by kernel_rfl) (by kernel_rfl) (fun _ _ _ h => h) (by rfl) ?y3x12 ?r3x12
    case y3x12 => (intro w' hSw; go_simp; try (with_reducible rfl))
    simp only [Act.put, List.setIfInBounds_toArray, List.set_cons_zero, List.set_cons_succ]
    refine wpB_do (i := 13) (by kernel_rfl) rfl (by rfl) (fun K hK => ?_)
    go_simp
    refine (live_any w4).mono ?_
    rintro e w5 ⟨rfl, hb⟩
    have HB := Lib.hid (HV4.out.2.2.1.trans (hb.mono HV4.out.2.2.1.size))
    have hbk := hb.mono HV4.out.2.2.2
    go_simp
    refine hK.out (w.heap.size + 2) _ _ (Nat.le_refl _) hbk ?_
    clear hK hb hbk HV4 q0 p0 q1 p1 q2 p2 q3 p3 q4 p4 q5 p5 q6 p6 q7 p7 q8 p8 q9 p9
    refine wpB_take (i := 14) (d := 28) (v := ?v3x14) rfl rfl (by kernel_rfl) (by kernel_rfl) (by kernel_rfl) (fun _ _ _ h => h) (by rfl) ?y3x14 ?r3x14
    case y3x14 => (intro w' hSw; go_simp; try (with_reducible rfl))
    simp only [Act.put, List.setIfInBounds_toArray, List.set_cons_zero, List.set_cons_succ]
    refine wpB_take (i := 15) (d := 4) (v := ?v3x15) rfl rfl (by kernel_rfl) (by kernel_rfl) (by kernel_rfl) (fun _ _ _ h => h) (by rfl) ?y3x15 ?r3x15
    case y3x15 => (intro w' hSw; go_simp; try (with_reducible rfl))
    simp only [Act.put, List.setIfInBounds_toArray, List.set_cons_zero, List.set_cons_succ]
    refine wpB_done (by kernel_rfl) ?_
    go_wp2
    go_ret
    exact ⟨rfl, HB.out⟩
end Go.Proofs.Ytmebbggmdfejkaa
