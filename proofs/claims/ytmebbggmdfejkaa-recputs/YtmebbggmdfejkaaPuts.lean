/- For any record, block and bytes the law RecPuts returns true: the walk. -/
import Derived.Test.YtmebbggmdfejkaaRg
import Derived.Test.YtmebbggmdfejkaaShort
import Derived.Deep.DeepCutAuto
import Derived.BigQuiet
namespace Go.Proofs.Ytmebbggmdfejkaa
set_option linter.unusedVariables false
set_option linter.unusedSimpArgs false
open Go.RowKit
open Go.RowKit (wrap64)

set_option maxRecDepth 100000 in
set_option maxHeartbeats 4000000 in
theorem recPuts_big1 (n : Nat → Int) (A : Option Addr) (c : Nat) (l : List UInt8) (bl : Int) (M : Option Addr) (cm : Nat) (mo : List UInt8) (w : World) (hl : Rd w w.heap.size A l) (hl1 : l.length ≤ 140737488351232) (hm : Rd w w.heap.size M mo) (hmc : mo.length ≤ cm) (hm1 : mo.length ≤ 140737488351232) (h : 500 < l.length) : Calls Try.prog 3 #[.agg #[.int .i64 (n 0), .int .i64 (n 1), .int .i64 (n 2), .int .i64 (n 3), .int .i64 (n 4), .int .i64 (n 5), .int .i64 (n 6), .int .i64 (n 7), .int .i64 (n 8), .slice A l.length c], .int .i64 bl, .slice M mo.length cm] w (Says w (.bool true)) := by
  clear hl hm
  go_enter Try.func3, Try.ntmps3
  go_upto_region 1 with fail
  have HV0 : Hid (RecAt (w.alloc (.cells #[.int .i64 (n 0), .int .i64 (n 1), .int .i64 (n 2), .int .i64 (n 3), .int .i64 (n 4), .int .i64 (n 5), .int .i64 (n 6), .int .i64 (n 7), .int .i64 (n 8), .slice A l.length c] 24)) w.heap.size n (.slice A l.length c) ∧ Below w.heap.size w (w.alloc (.cells #[.int .i64 (n 0), .int .i64 (n 1), .int .i64 (n 2), .int .i64 (n 3), .int .i64 (n 4), .int .i64 (n 5), .int .i64 (n 6), .int .i64 (n 7), .int .i64 (n 8), .slice A l.length c] 24))) := ⟨Box.fresh w 24 _, (Below.refl _ _).alloc (Nat.le_refl _) _⟩
  generalize (w.alloc (.cells #[.int .i64 (n 0), .int .i64 (n 1), .int .i64 (n 2), .int .i64 (n 3), .int .i64 (n 4), .int .i64 (n 5), .int .i64 (n 6), .int .i64 (n 7), .int .i64 (n 8), .slice A l.length c] 24)) = w0 at HV0 ⊢
  have y9 := HV0.out.1.body
  go_wp2_with fail
  refine (live_any w0).mono ?_
  rintro e wl ⟨rfl, hb⟩
  have HB := Lib.hid (HV0.out.2.trans (hb.mono HV0.out.2.size))
  clear hb HV0
  go_wp2
  go_ret
  exact ⟨rfl, HB.out⟩
set_option maxRecDepth 100000 in
set_option maxHeartbeats 4000000 in
theorem recPuts_big2 (n : Nat → Int) (A : Option Addr) (c : Nat) (l : List UInt8) (bl : Int) (M : Option Addr) (cm : Nat) (mo : List UInt8) (w : World) (hl : Rd w w.heap.size A l) (hl1 : l.length ≤ 140737488351232) (hm : Rd w w.heap.size M mo) (hmc : mo.length ≤ cm) (hm1 : mo.length ≤ 140737488351232) (h : ¬ 500 < l.length) (h2 : 300 < mo.length) : Calls Try.prog 3 #[.agg #[.int .i64 (n 0), .int .i64 (n 1), .int .i64 (n 2), .int .i64 (n 3), .int .i64 (n 4), .int .i64 (n 5), .int .i64 (n 6), .int .i64 (n 7), .int .i64 (n 8), .slice A l.length c], .int .i64 bl, .slice M mo.length cm] w (Says w (.bool true)) := by
  clear hl hm
  go_enter Try.func3, Try.ntmps3
  go_upto_region 1 with fail
  have HV0 : Hid (RecAt (w.alloc (.cells #[.int .i64 (n 0), .int .i64 (n 1), .int .i64 (n 2), .int .i64 (n 3), .int .i64 (n 4), .int .i64 (n 5), .int .i64 (n 6), .int .i64 (n 7), .int .i64 (n 8), .slice A l.length c] 24)) w.heap.size n (.slice A l.length c) ∧ Below w.heap.size w (w.alloc (.cells #[.int .i64 (n 0), .int .i64 (n 1), .int .i64 (n 2), .int .i64 (n 3), .int .i64 (n 4), .int .i64 (n 5), .int .i64 (n 6), .int .i64 (n 7), .int .i64 (n 8), .slice A l.length c] 24))) := ⟨Box.fresh w 24 _, (Below.refl _ _).alloc (Nat.le_refl _) _⟩
  generalize (w.alloc (.cells #[.int .i64 (n 0), .int .i64 (n 1), .int .i64 (n 2), .int .i64 (n 3), .int .i64 (n 4), .int .i64 (n 5), .int .i64 (n 6), .int .i64 (n 7), .int .i64 (n 8), .slice A l.length c] 24)) = w0 at HV0 ⊢
  have y9 := HV0.out.1.body
  go_wp2_with fail
  refine (live_any w0).mono ?_
  rintro e wl ⟨rfl, hb⟩
  have HB := Lib.hid (HV0.out.2.trans (hb.mono HV0.out.2.size))
  clear hb HV0
  go_wp2
  go_ret
  exact ⟨rfl, HB.out⟩
set_option maxRecDepth 100000 in
set_option maxHeartbeats 4000000 in
theorem recPuts_none (n : Nat → Int) (A : Option Addr) (c : Nat) (l : List UInt8) (bl : Int) (M : Option Addr) (cm : Nat) (mo : List UInt8) (w : World) (hl : Rd w w.heap.size A l) (hl1 : l.length ≤ 140737488351232) (hm : Rd w w.heap.size M mo) (hmc : mo.length ≤ cm) (hm1 : mo.length ≤ 140737488351232) (h : ¬ 500 < l.length) (h2 : ¬ 300 < mo.length) (h0 : putL n l bl = []) : Calls Try.prog 3 #[.agg #[.int .i64 (n 0), .int .i64 (n 1), .int .i64 (n 2), .int .i64 (n 3), .int .i64 (n 4), .int .i64 (n 5), .int .i64 (n 6), .int .i64 (n 7), .int .i64 (n 8), .slice A l.length c], .int .i64 bl, .slice M mo.length cm] w (Says w (.bool true)) := by
  have hle : ¬ 500 < l.length := h
  have hle2 : ¬ 300 < mo.length := h2
  clear h h2
  have HA : Hid (∀ w', Below w.heap.size w w' → Rd w' w'.heap.size A l ∧ Rd w' w'.heap.size M mo) := fun w' h => ⟨(hl.below h).more h.size, (hm.below h).more h.size⟩
  have HML : Hid (l.length ≤ maxLen) := by
    show _ ≤ maxLen
    unfold maxLen
    omega
  clear hl hm
  go_enter Try.func3, Try.ntmps3
  go_upto_region 1 with fail
  have HV0 : Hid (RecAt (w.alloc (.cells #[.int .i64 (n 0), .int .i64 (n 1), .int .i64 (n 2), .int .i64 (n 3), .int .i64 (n 4), .int .i64 (n 5), .int .i64 (n 6), .int .i64 (n 7), .int .i64 (n 8), .slice A l.length c] 24)) w.heap.size n (.slice A l.length c) ∧ Below w.heap.size w (w.alloc (.cells #[.int .i64 (n 0), .int .i64 (n 1), .int .i64 (n 2), .int .i64 (n 3), .int .i64 (n 4), .int .i64 (n 5), .int .i64 (n 6), .int .i64 (n 7), .int .i64 (n 8), .slice A l.length c] 24))) := ⟨Box.fresh w 24 _, (Below.refl _ _).alloc (Nat.le_refl _) _⟩
  generalize (w.alloc (.cells #[.int .i64 (n 0), .int .i64 (n 1), .int .i64 (n 2), .int .i64 (n 3), .int .i64 (n 4), .int .i64 (n 5), .int .i64 (n 6), .int .i64 (n 7), .int .i64 (n 8), .slice A l.length c] 24)) = w0 at HV0 ⊢
  have y9 := HV0.out.1.body
  clear y9
  obtain ⟨y0, y1, y2, y3, y4, y5, y6, y7, y8, y9⟩ := box10 HV0.out.1
  obtain ⟨L, hL⟩ : ∃ L, putL n l bl = L := ⟨_, rfl⟩
  have HLE := Lib.hid hL
  clear hL
  go_wp2_with fail
  refine (put_any n A c l bl w0 (HA.out w0 HV0.out.2).1 HML.out).mono ?_
  rintro e w1 ⟨B, cb, rfl, hB, hcb, hb⟩
  rw [HLE.out] at hB hcb ⊢
  have HV1 : Hid (RecAt w1 w.heap.size n (.slice A l.length c) ∧ Below w.heap.size w w1 ∧ Rd w1 w1.heap.size B L) := ⟨HV0.out.1.later hb, HV0.out.2.trans (hb.mono HV0.out.2.size), hB⟩
  clear hb hB HV0 y0 y1 y2 y3 y4 y5 y6 y7 y8 y9
  go_upto_region 4 with fail
  refine wpB_start w1.drew.heap.size (by kernel_rfl) ?_
  obtain ⟨Bd, hBd⟩ : ∃ Bd, w1.drew.heap.size = Bd := ⟨_, rfl⟩
  rw [hBd]
  have HV2 : Hid (RecAt w1.drew w.heap.size n (.slice A l.length c) ∧ Below w.heap.size w w1.drew ∧ Bd ≤ w1.drew.heap.size ∧ Rd w1.drew Bd B L) := ⟨HV1.out.1.later (Below.refl _ _).drew, HV1.out.2.1.drew, Nat.le_of_eq hBd.symm, HV1.out.2.2.more (Nat.le_of_eq hBd)⟩
  have HBd : Hid (w.heap.size < Bd) := by
    show _ < Bd
    rw [← hBd]
    exact Box.lt HV1.out.1
  clear hBd HV1
  generalize w1.drew = w2 at HV2 ⊢
  have q0 : ∀ w', Below Bd w2 w' → w'.cell? ⟨w.heap.size, 0, none⟩ = some (.int .i64 (n 0)) := fun w' h => (box10 (HV2.out.1.under h HBd.out)).1
  have q1 : ∀ w', Below Bd w2 w' → w'.cell? ⟨w.heap.size, 1, none⟩ = some (.int .i64 (n 1)) := fun w' h => (box10 (HV2.out.1.under h HBd.out)).2.1
  have q2 : ∀ w', Below Bd w2 w' → w'.cell? ⟨w.heap.size, 2, none⟩ = some (.int .i64 (n 2)) := fun w' h => (box10 (HV2.out.1.under h HBd.out)).2.2.1
  have q3 : ∀ w', Below Bd w2 w' → w'.cell? ⟨w.heap.size, 3, none⟩ = some (.int .i64 (n 3)) := fun w' h => (box10 (HV2.out.1.under h HBd.out)).2.2.2.1
  have q4 : ∀ w', Below Bd w2 w' → w'.cell? ⟨w.heap.size, 4, none⟩ = some (.int .i64 (n 4)) := fun w' h => (box10 (HV2.out.1.under h HBd.out)).2.2.2.2.1
  have q5 : ∀ w', Below Bd w2 w' → w'.cell? ⟨w.heap.size, 5, none⟩ = some (.int .i64 (n 5)) := fun w' h => (box10 (HV2.out.1.under h HBd.out)).2.2.2.2.2.1
  have q6 : ∀ w', Below Bd w2 w' → w'.cell? ⟨w.heap.size, 6, none⟩ = some (.int .i64 (n 6)) := fun w' h => (box10 (HV2.out.1.under h HBd.out)).2.2.2.2.2.2.1
  have q7 : ∀ w', Below Bd w2 w' → w'.cell? ⟨w.heap.size, 7, none⟩ = some (.int .i64 (n 7)) := fun w' h => (box10 (HV2.out.1.under h HBd.out)).2.2.2.2.2.2.2.1
  have q8 : ∀ w', Below Bd w2 w' → w'.cell? ⟨w.heap.size, 8, none⟩ = some (.int .i64 (n 8)) := fun w' h => (box10 (HV2.out.1.under h HBd.out)).2.2.2.2.2.2.2.2.1
  have q9 : ∀ w', Below Bd w2 w' → w'.cell? ⟨w.heap.size, 9, none⟩ = some (.slice A l.length c) := fun w' h => (box10 (HV2.out.1.under h HBd.out)).2.2.2.2.2.2.2.2.2
  have hcv : ∀ w', Below Bd w2 w' → (convert 22 9 (.slice B L.length cb)).run Try.prog w' = .ok (.string ⟨L.toArray⟩) w' := fun w' h => conv_any B cb Bd L w' (HV2.out.2.2.2.below h)
  refine wpB_take (i := 0) (d := 24) (v := ?v4x0) rfl rfl (by kernel_rfl) (by kernel_rfl) (by kernel_rfl) (fun _ _ _ h => h) (by rfl) ?y4x0 ?r4x0
  case y4x0 => (intro w' hSw; go_simp; try (with_reducible rfl))
  simp only [Act.put, List.setIfInBounds_toArray, List.set_cons_zero, List.set_cons_succ]
  refine wpB_take (i := 2) (d := 26) (v := ?v4x2) rfl rfl (by kernel_rfl) (by kernel_rfl) (by kernel_rfl) (fun _ _ _ h => h) (by rfl) ?y4x2 ?r4x2
  case y4x2 => (intro w' hSw; go_simp; try (with_reducible rfl))
  simp only [Act.put, List.setIfInBounds_toArray, List.set_cons_zero, List.set_cons_succ]
  refine wpB_do (i := 1) (by kernel_rfl) rfl (by rfl) (fun K hK => ?_)
  go_simp
  refine (right_any n A l.length c w2 HML.out).mono ?_
  rintro e w3 ⟨rfl, hb⟩
  have HV3 : Hid (RecAt w3 w.heap.size n (.slice A l.length c) ∧ Below w.heap.size w w3 ∧ Bd ≤ w3.heap.size ∧ Rd w3 Bd B L) := ⟨HV2.out.1.later hb, HV2.out.2.1.trans (hb.mono HV2.out.2.1.size), Nat.le_trans HV2.out.2.2.1 hb.size, HV2.out.2.2.2.below (hb.mono HV2.out.2.2.1)⟩
  have hbk := hb.mono HV2.out.2.2.1
  skip
  go_simp
  refine hK.out Bd _ _ (Nat.le_refl _) hbk ?_
  clear hK hb hbk HV2 q0 q1 q2 q3 q4 q5 q6 q7 q8 q9 hcv
  have q0 : ∀ w', Below Bd w3 w' → w'.cell? ⟨w.heap.size, 0, none⟩ = some (.int .i64 (n 0)) := fun w' h => (box10 (HV3.out.1.under h HBd.out)).1
  have q1 : ∀ w', Below Bd w3 w' → w'.cell? ⟨w.heap.size, 1, none⟩ = some (.int .i64 (n 1)) := fun w' h => (box10 (HV3.out.1.under h HBd.out)).2.1
  have q2 : ∀ w', Below Bd w3 w' → w'.cell? ⟨w.heap.size, 2, none⟩ = some (.int .i64 (n 2)) := fun w' h => (box10 (HV3.out.1.under h HBd.out)).2.2.1
  have q3 : ∀ w', Below Bd w3 w' → w'.cell? ⟨w.heap.size, 3, none⟩ = some (.int .i64 (n 3)) := fun w' h => (box10 (HV3.out.1.under h HBd.out)).2.2.2.1
  have q4 : ∀ w', Below Bd w3 w' → w'.cell? ⟨w.heap.size, 4, none⟩ = some (.int .i64 (n 4)) := fun w' h => (box10 (HV3.out.1.under h HBd.out)).2.2.2.2.1
  have q5 : ∀ w', Below Bd w3 w' → w'.cell? ⟨w.heap.size, 5, none⟩ = some (.int .i64 (n 5)) := fun w' h => (box10 (HV3.out.1.under h HBd.out)).2.2.2.2.2.1
  have q6 : ∀ w', Below Bd w3 w' → w'.cell? ⟨w.heap.size, 6, none⟩ = some (.int .i64 (n 6)) := fun w' h => (box10 (HV3.out.1.under h HBd.out)).2.2.2.2.2.2.1
  have q7 : ∀ w', Below Bd w3 w' → w'.cell? ⟨w.heap.size, 7, none⟩ = some (.int .i64 (n 7)) := fun w' h => (box10 (HV3.out.1.under h HBd.out)).2.2.2.2.2.2.2.1
  have q8 : ∀ w', Below Bd w3 w' → w'.cell? ⟨w.heap.size, 8, none⟩ = some (.int .i64 (n 8)) := fun w' h => (box10 (HV3.out.1.under h HBd.out)).2.2.2.2.2.2.2.2.1
  have q9 : ∀ w', Below Bd w3 w' → w'.cell? ⟨w.heap.size, 9, none⟩ = some (.slice A l.length c) := fun w' h => (box10 (HV3.out.1.under h HBd.out)).2.2.2.2.2.2.2.2.2
  have hcv : ∀ w', Below Bd w3 w' → (convert 22 9 (.slice B L.length cb)).run Try.prog w' = .ok (.string ⟨L.toArray⟩) w' := fun w' h => conv_any B cb Bd L w' (HV3.out.2.2.2.below h)
  refine wpB_do (i := 3) (by kernel_rfl) rfl (by rfl) (fun K hK => ?_)
  go_simp
  refine (rright_any n A l.length c w3 HML.out).mono ?_
  rintro e w4 ⟨rfl, hb⟩
  have HV4 : Hid (RecAt w4 w.heap.size n (.slice A l.length c) ∧ Below w.heap.size w w4 ∧ Bd ≤ w4.heap.size ∧ Rd w4 Bd B L) := ⟨HV3.out.1.later hb, HV3.out.2.1.trans (hb.mono HV3.out.2.1.size), Nat.le_trans HV3.out.2.2.1 hb.size, HV3.out.2.2.2.below (hb.mono HV3.out.2.2.1)⟩
  have hbk := hb.mono HV3.out.2.2.1
  skip
  go_simp
  refine hK.out Bd _ _ (Nat.le_refl _) hbk ?_
  clear hK hb hbk HV3 q0 q1 q2 q3 q4 q5 q6 q7 q8 q9 hcv
  have q0 : ∀ w', Below Bd w4 w' → w'.cell? ⟨w.heap.size, 0, none⟩ = some (.int .i64 (n 0)) := fun w' h => (box10 (HV4.out.1.under h HBd.out)).1
  have q1 : ∀ w', Below Bd w4 w' → w'.cell? ⟨w.heap.size, 1, none⟩ = some (.int .i64 (n 1)) := fun w' h => (box10 (HV4.out.1.under h HBd.out)).2.1
  have q2 : ∀ w', Below Bd w4 w' → w'.cell? ⟨w.heap.size, 2, none⟩ = some (.int .i64 (n 2)) := fun w' h => (box10 (HV4.out.1.under h HBd.out)).2.2.1
  have q3 : ∀ w', Below Bd w4 w' → w'.cell? ⟨w.heap.size, 3, none⟩ = some (.int .i64 (n 3)) := fun w' h => (box10 (HV4.out.1.under h HBd.out)).2.2.2.1
  have q4 : ∀ w', Below Bd w4 w' → w'.cell? ⟨w.heap.size, 4, none⟩ = some (.int .i64 (n 4)) := fun w' h => (box10 (HV4.out.1.under h HBd.out)).2.2.2.2.1
  have q5 : ∀ w', Below Bd w4 w' → w'.cell? ⟨w.heap.size, 5, none⟩ = some (.int .i64 (n 5)) := fun w' h => (box10 (HV4.out.1.under h HBd.out)).2.2.2.2.2.1
  have q6 : ∀ w', Below Bd w4 w' → w'.cell? ⟨w.heap.size, 6, none⟩ = some (.int .i64 (n 6)) := fun w' h => (box10 (HV4.out.1.under h HBd.out)).2.2.2.2.2.2.1
  have q7 : ∀ w', Below Bd w4 w' → w'.cell? ⟨w.heap.size, 7, none⟩ = some (.int .i64 (n 7)) := fun w' h => (box10 (HV4.out.1.under h HBd.out)).2.2.2.2.2.2.2.1
  have q8 : ∀ w', Below Bd w4 w' → w'.cell? ⟨w.heap.size, 8, none⟩ = some (.int .i64 (n 8)) := fun w' h => (box10 (HV4.out.1.under h HBd.out)).2.2.2.2.2.2.2.2.1
  have q9 : ∀ w', Below Bd w4 w' → w'.cell? ⟨w.heap.size, 9, none⟩ = some (.slice A l.length c) := fun w' h => (box10 (HV4.out.1.under h HBd.out)).2.2.2.2.2.2.2.2.2
  have hcv : ∀ w', Below Bd w4 w' → (convert 22 9 (.slice B L.length cb)).run Try.prog w' = .ok (.string ⟨L.toArray⟩) w' := fun w' h => conv_any B cb Bd L w' (HV4.out.2.2.2.below h)
  refine wpB_take (i := 4) (d := 28) (v := ?v4x4) rfl rfl (by kernel_rfl) (by kernel_rfl) (by kernel_rfl) (fun _ _ _ h => h) (by rfl) ?y4x4 ?r4x4
  case y4x4 => (intro w' hSw; go_simp; try (with_reducible rfl))
  simp only [Act.put, List.setIfInBounds_toArray, List.set_cons_zero, List.set_cons_succ]
  refine wpB_take (i := 5) (d := 29) (v := ?v4x5) rfl rfl (by kernel_rfl) (by kernel_rfl) (by kernel_rfl) (fun _ _ _ h => h) (by rfl) ?y4x5 ?r4x5
  case y4x5 => (intro w' hSw; go_simp; try (with_reducible rfl))
  simp only [Act.put, List.setIfInBounds_toArray, List.set_cons_zero, List.set_cons_succ]
  refine wpB_take (i := 6) (d := 30) (v := ?v4x6) rfl rfl (by kernel_rfl) (by kernel_rfl) (by kernel_rfl) (fun _ _ _ h => h) (by rfl) ?y4x6 ?r4x6
  case y4x6 => (intro w' hSw; go_simp; try (with_reducible rfl))
  simp only [Act.put, List.setIfInBounds_toArray, List.set_cons_zero, List.set_cons_succ]
  refine wpB_take (i := 7) (d := 31) (v := ?v4x7) rfl rfl (by kernel_rfl) (by kernel_rfl) (by kernel_rfl) (fun _ _ _ h => h) (by rfl) ?y4x7 ?r4x7
  case y4x7 => (intro w' hSw; go_simp; try (with_reducible rfl))
  simp only [Act.put, List.setIfInBounds_toArray, List.set_cons_zero, List.set_cons_succ]
  refine wpB_take (i := 8) (d := 32) (v := ?v4x8) rfl rfl (by kernel_rfl) (by kernel_rfl) (by kernel_rfl) (fun _ _ _ h => h) (by rfl) ?y4x8 ?r4x8
  case y4x8 => (intro w' hSw; go_simp; try (with_reducible rfl))
  simp only [Act.put, List.setIfInBounds_toArray, List.set_cons_zero, List.set_cons_succ]
  refine wpB_take (i := 9) (d := 33) (v := ?v4x9) rfl rfl (by kernel_rfl) (by kernel_rfl) (by kernel_rfl) (fun _ _ _ h => h) (by rfl) ?y4x9 ?r4x9
  case y4x9 => (intro w' hSw; go_simp; try (with_reducible rfl))
  simp only [Act.put, List.setIfInBounds_toArray, List.set_cons_zero, List.set_cons_succ]
  refine wpB_do (i := 10) (by kernel_rfl) rfl (by rfl) (fun K hK => ?_)
  go_simp
  refine (rput_any n A c l bl w4 (HA.out w4 HV4.out.2.1).1 HML.out).mono ?_
  rintro e w5 ⟨E, ce, rfl, hE, hce, hb⟩
  rw [HLE.out] at hE hce ⊢
  have HV5 : Hid (RecAt w5 w.heap.size n (.slice A l.length c) ∧ Below w.heap.size w w5 ∧ Bd ≤ w5.heap.size ∧ Rd w5 Bd B L) := ⟨HV4.out.1.later hb, HV4.out.2.1.trans (hb.mono HV4.out.2.1.size), Nat.le_trans HV4.out.2.2.1 hb.size, HV4.out.2.2.2.below (hb.mono HV4.out.2.2.1)⟩
  have hbk := hb.mono HV4.out.2.2.1
  have hcv2 : ∀ w', Below w5.heap.size w5 w' → (convert 22 9 (.slice E L.length ce)).run Try.prog w' = .ok (.string ⟨L.toArray⟩) w' := fun w' h => conv_any E ce _ L w' (hE.below h)
  go_simp
  refine hK.out w5.heap.size _ _ (Nat.le_trans HV4.out.2.2.1 hb.size) hbk ?_
  clear hK hb hbk HV4 q0 q1 q2 q3 q4 q5 q6 q7 q8 q9 hcv hE
  refine wpB_take (i := 11) (d := 35) (v := ?v4x11) rfl rfl (by kernel_rfl) (by kernel_rfl) (by kernel_rfl) (fun _ _ _ h => h) (by rfl) ?y4x11 ?r4x11
  case y4x11 => (intro w' hSw; go_simp; try (with_reducible rfl))
  simp only [Act.put, List.setIfInBounds_toArray, List.set_cons_zero, List.set_cons_succ]
  refine wpB_take (i := 12) (d := 36) (v := ?v4x12) rfl rfl (by kernel_rfl) (by kernel_rfl) (by kernel_rfl) (fun _ _ _ h => h) (by rfl) ?y4x12 ?r4x12
  case y4x12 => (intro w' hSw; go_simp; try (with_reducible rfl))
  simp only [Act.put, List.setIfInBounds_toArray, List.set_cons_zero, List.set_cons_succ]
  refine wpB_take (i := 13) (d := 37) (v := ?v4x13) rfl rfl (by kernel_rfl) (by kernel_rfl) (by kernel_rfl) (fun _ _ _ h => h) (by rfl) ?y4x13 ?r4x13
  case y4x13 => (intro w' hSw; go_simp; try (with_reducible rfl))
  simp only [Act.put, List.setIfInBounds_toArray, List.set_cons_zero, List.set_cons_succ]
  refine wpB_done (by kernel_rfl) ?_
  clear hcv2
  have HV6 : Hid (RecAt w5 w.heap.size n (.slice A l.length c) ∧ Below w.heap.size w w5 ∧ Rd w5 w5.heap.size B L) := ⟨HV5.out.1, HV5.out.2.1, HV5.out.2.2.2.more HV5.out.2.2.1⟩
  clear HV5 HBd
  have hb0 : blkB n l.length bl = 0 := by
    unfold blkB
    split
    · rename_i h
      exfalso
      rw [Bool.and_eq_true] at h
      have h1 := putL_length h.1 h.2
      have h2 := mayB_iff.1 h.2
      have h3 := span_ge (80 + l.length) bl.toNat (by omega)
      rw [h0] at h1
      simp at h1
      omega
    · rfl
  have HB0 := Lib.hid hb0
  have hz2 : ((L.length : Int) == 0) = true := by rw [← HLE.out, h0]; rfl
  obtain ⟨y0, y1, y2, y3, y4, y5, y6, y7, y8, y9⟩ := box10 HV6.out.1
  clear h0 HLE hb0 hcb hce
  generalize L.length = Ln at hz2 ⊢
  go_wp2_with fail
  refine (blocks_any n A l.length c bl w5 HML.out).mono ?_
  rintro e w6 ⟨rfl, hb⟩
  rw [HB0.out]
  have HV7 : Hid (RecAt w6 w.heap.size n (.slice A l.length c) ∧ Below w.heap.size w w6) := ⟨HV6.out.1.later hb, HV6.out.2.1.trans (hb.mono HV6.out.2.1.size)⟩
  clear hb HV6 y0 y1 y2 y3 y4 y5 y6 y7 y8 y9 hz2
  go_wp2_with fail
  refine (live_any w6).mono ?_
  rintro e wl ⟨rfl, hb⟩
  have HB := Lib.hid (HV7.out.2.trans (hb.mono HV7.out.2.size))
  clear hb HV7
  go_wp2
  go_ret
  exact ⟨rfl, HB.out⟩
theorem put_gotG {n : Nat → Int} {l L r : List UInt8} {bl : Int} {K : Nat} (h1 : rightB n l.length = true) (h2 : mayB bl = true) (hL : putL n l bl = L) (hK : spanN (80 + l.length) bl.toNat = K) : ∃ m : Nat → Int, (∀ i, i < 9 → n i = m i) ∧ ∀ (X : Option Addr) (cx : Nat) (w : World), Rd w w.heap.size X (L ++ r) → (L ++ r).length ≤ cx → (L ++ r).length ≤ 10000000 → Calls Try.prog 14 #[.slice X (L ++ r).length cx, .int .i64 bl] w (GetG w m l K 0) := by
  subst hL hK
  obtain ⟨g1, g2, g3, g4⟩ := put_got h1 h2 r
  refine ⟨getN (putL n l bl ++ r) bl, fun i hi => (g2 i hi).symm, fun X cx w hr hc hl => ?_⟩
  have h := get_any X cx (putL n l bl ++ r) bl w hr hc hl
  rw [g1, g3, g4] at h
  exact h
set_option maxRecDepth 100000 in
set_option maxHeartbeats 4000000 in
theorem recPuts_go (n : Nat → Int) (A : Option Addr) (c : Nat) (l : List UInt8) (S : Nat) (M : Option Addr) (cm : Nat) (mo : List UInt8) (w : World) (hl : Rd w w.heap.size A l) (hl1 : l.length ≤ 140737488351232) (hm : Rd w w.heap.size M mo) (hmc : mo.length ≤ cm) (hm1 : mo.length ≤ 140737488351232) (h : ¬ 500 < l.length) (h2 : ¬ 300 < mo.length) (hr1 : rightB n l.length = true) (hr2 : mayB (S : Int) = true) : Calls Try.prog 3 #[.agg #[.int .i64 (n 0), .int .i64 (n 1), .int .i64 (n 2), .int .i64 (n 3), .int .i64 (n 4), .int .i64 (n 5), .int .i64 (n 6), .int .i64 (n 7), .int .i64 (n 8), .slice A l.length c], .int .i64 (S : Int), .slice M mo.length cm] w (Says w (.bool true)) := by
  obtain ⟨i0, hi, hz0, hz1, hz2⟩ := info_parts Try.info5
  have H1 := Lib.hid hi
  have H2 := Lib.hid hz0
  have H3 := Lib.hid hz1
  have H4 := Lib.hid hz2
  clear hi hz0 hz1 hz2
  have HR := Lib.hid (And.intro hr1 hr2)
  clear hr1 hr2
  have hle : ¬ 500 < l.length := h
  have hle2 : ¬ 300 < mo.length := h2
  clear h h2
  have HA : Hid (∀ w', Below w.heap.size w w' → Rd w' w'.heap.size A l ∧ Rd w' w'.heap.size M mo) := fun w' h => ⟨(hl.below h).more h.size, (hm.below h).more h.size⟩
  have HML : Hid (l.length ≤ maxLen) := by
    show _ ≤ maxLen
    unfold maxLen
    omega
  clear hl hm
  go_enter Try.func3, Try.ntmps3
  go_upto_region 1 with fail
  have HV0 : Hid (RecAt (w.alloc (.cells #[.int .i64 (n 0), .int .i64 (n 1), .int .i64 (n 2), .int .i64 (n 3), .int .i64 (n 4), .int .i64 (n 5), .int .i64 (n 6), .int .i64 (n 7), .int .i64 (n 8), .slice A l.length c] 24)) w.heap.size n (.slice A l.length c) ∧ Below w.heap.size w (w.alloc (.cells #[.int .i64 (n 0), .int .i64 (n 1), .int .i64 (n 2), .int .i64 (n 3), .int .i64 (n 4), .int .i64 (n 5), .int .i64 (n 6), .int .i64 (n 7), .int .i64 (n 8), .slice A l.length c] 24))) := ⟨Box.fresh w 24 _, (Below.refl _ _).alloc (Nat.le_refl _) _⟩
  generalize (w.alloc (.cells #[.int .i64 (n 0), .int .i64 (n 1), .int .i64 (n 2), .int .i64 (n 3), .int .i64 (n 4), .int .i64 (n 5), .int .i64 (n 6), .int .i64 (n 7), .int .i64 (n 8), .slice A l.length c] 24)) = w0 at HV0 ⊢
  have y9 := HV0.out.1.body
  clear y9
  obtain ⟨y0, y1, y2, y3, y4, y5, y6, y7, y8, y9⟩ := box10 HV0.out.1
  obtain ⟨L, hL⟩ : ∃ L, putL n l (S : Int) = L := ⟨_, rfl⟩
  have HLE := Lib.hid hL
  clear hL
  go_wp2_with fail
  refine (put_any n A c l (S : Int) w0 (HA.out w0 HV0.out.2).1 HML.out).mono ?_
  rintro e w1 ⟨B, cb, rfl, hB, hcb, hb⟩
  rw [HLE.out] at hB hcb ⊢
  have HV1 : Hid (RecAt w1 w.heap.size n (.slice A l.length c) ∧ Below w.heap.size w w1 ∧ Rd w1 w1.heap.size B L) := ⟨HV0.out.1.later hb, HV0.out.2.trans (hb.mono HV0.out.2.size), hB⟩
  clear hb hB HV0 y0 y1 y2 y3 y4 y5 y6 y7 y8 y9
  go_upto_region 4 with fail
  refine wpB_start w1.drew.heap.size (by kernel_rfl) ?_
  obtain ⟨Bd, hBd⟩ : ∃ Bd, w1.drew.heap.size = Bd := ⟨_, rfl⟩
  rw [hBd]
  have HV2 : Hid (RecAt w1.drew w.heap.size n (.slice A l.length c) ∧ Below w.heap.size w w1.drew ∧ Bd ≤ w1.drew.heap.size ∧ Rd w1.drew Bd B L) := ⟨HV1.out.1.later (Below.refl _ _).drew, HV1.out.2.1.drew, Nat.le_of_eq hBd.symm, HV1.out.2.2.more (Nat.le_of_eq hBd)⟩
  have HBd : Hid (w.heap.size < Bd) := by
    show _ < Bd
    rw [← hBd]
    exact Box.lt HV1.out.1
  clear hBd HV1
  generalize w1.drew = w2 at HV2 ⊢
  have q0 : ∀ w', Below Bd w2 w' → w'.cell? ⟨w.heap.size, 0, none⟩ = some (.int .i64 (n 0)) := fun w' h => (box10 (HV2.out.1.under h HBd.out)).1
  have q1 : ∀ w', Below Bd w2 w' → w'.cell? ⟨w.heap.size, 1, none⟩ = some (.int .i64 (n 1)) := fun w' h => (box10 (HV2.out.1.under h HBd.out)).2.1
  have q2 : ∀ w', Below Bd w2 w' → w'.cell? ⟨w.heap.size, 2, none⟩ = some (.int .i64 (n 2)) := fun w' h => (box10 (HV2.out.1.under h HBd.out)).2.2.1
  have q3 : ∀ w', Below Bd w2 w' → w'.cell? ⟨w.heap.size, 3, none⟩ = some (.int .i64 (n 3)) := fun w' h => (box10 (HV2.out.1.under h HBd.out)).2.2.2.1
  have q4 : ∀ w', Below Bd w2 w' → w'.cell? ⟨w.heap.size, 4, none⟩ = some (.int .i64 (n 4)) := fun w' h => (box10 (HV2.out.1.under h HBd.out)).2.2.2.2.1
  have q5 : ∀ w', Below Bd w2 w' → w'.cell? ⟨w.heap.size, 5, none⟩ = some (.int .i64 (n 5)) := fun w' h => (box10 (HV2.out.1.under h HBd.out)).2.2.2.2.2.1
  have q6 : ∀ w', Below Bd w2 w' → w'.cell? ⟨w.heap.size, 6, none⟩ = some (.int .i64 (n 6)) := fun w' h => (box10 (HV2.out.1.under h HBd.out)).2.2.2.2.2.2.1
  have q7 : ∀ w', Below Bd w2 w' → w'.cell? ⟨w.heap.size, 7, none⟩ = some (.int .i64 (n 7)) := fun w' h => (box10 (HV2.out.1.under h HBd.out)).2.2.2.2.2.2.2.1
  have q8 : ∀ w', Below Bd w2 w' → w'.cell? ⟨w.heap.size, 8, none⟩ = some (.int .i64 (n 8)) := fun w' h => (box10 (HV2.out.1.under h HBd.out)).2.2.2.2.2.2.2.2.1
  have q9 : ∀ w', Below Bd w2 w' → w'.cell? ⟨w.heap.size, 9, none⟩ = some (.slice A l.length c) := fun w' h => (box10 (HV2.out.1.under h HBd.out)).2.2.2.2.2.2.2.2.2
  have hcv : ∀ w', Below Bd w2 w' → (convert 22 9 (.slice B L.length cb)).run Try.prog w' = .ok (.string ⟨L.toArray⟩) w' := fun w' h => conv_any B cb Bd L w' (HV2.out.2.2.2.below h)
  refine wpB_take (i := 0) (d := 24) (v := ?v4x0) rfl rfl (by kernel_rfl) (by kernel_rfl) (by kernel_rfl) (fun _ _ _ h => h) (by rfl) ?y4x0 ?r4x0
  case y4x0 => (intro w' hSw; go_simp; try (with_reducible rfl))
  simp only [Act.put, List.setIfInBounds_toArray, List.set_cons_zero, List.set_cons_succ]
  refine wpB_take (i := 2) (d := 26) (v := ?v4x2) rfl rfl (by kernel_rfl) (by kernel_rfl) (by kernel_rfl) (fun _ _ _ h => h) (by rfl) ?y4x2 ?r4x2
  case y4x2 => (intro w' hSw; go_simp; try (with_reducible rfl))
  simp only [Act.put, List.setIfInBounds_toArray, List.set_cons_zero, List.set_cons_succ]
  refine wpB_do (i := 1) (by kernel_rfl) rfl (by rfl) (fun K hK => ?_)
  go_simp
  refine (right_any n A l.length c w2 HML.out).mono ?_
  rintro e w3 ⟨rfl, hb⟩
  have HV3 : Hid (RecAt w3 w.heap.size n (.slice A l.length c) ∧ Below w.heap.size w w3 ∧ Bd ≤ w3.heap.size ∧ Rd w3 Bd B L) := ⟨HV2.out.1.later hb, HV2.out.2.1.trans (hb.mono HV2.out.2.1.size), Nat.le_trans HV2.out.2.2.1 hb.size, HV2.out.2.2.2.below (hb.mono HV2.out.2.2.1)⟩
  have hbk := hb.mono HV2.out.2.2.1
  skip
  go_simp
  refine hK.out Bd _ _ (Nat.le_refl _) hbk ?_
  clear hK hb hbk HV2 q0 q1 q2 q3 q4 q5 q6 q7 q8 q9 hcv
  have q0 : ∀ w', Below Bd w3 w' → w'.cell? ⟨w.heap.size, 0, none⟩ = some (.int .i64 (n 0)) := fun w' h => (box10 (HV3.out.1.under h HBd.out)).1
  have q1 : ∀ w', Below Bd w3 w' → w'.cell? ⟨w.heap.size, 1, none⟩ = some (.int .i64 (n 1)) := fun w' h => (box10 (HV3.out.1.under h HBd.out)).2.1
  have q2 : ∀ w', Below Bd w3 w' → w'.cell? ⟨w.heap.size, 2, none⟩ = some (.int .i64 (n 2)) := fun w' h => (box10 (HV3.out.1.under h HBd.out)).2.2.1
  have q3 : ∀ w', Below Bd w3 w' → w'.cell? ⟨w.heap.size, 3, none⟩ = some (.int .i64 (n 3)) := fun w' h => (box10 (HV3.out.1.under h HBd.out)).2.2.2.1
  have q4 : ∀ w', Below Bd w3 w' → w'.cell? ⟨w.heap.size, 4, none⟩ = some (.int .i64 (n 4)) := fun w' h => (box10 (HV3.out.1.under h HBd.out)).2.2.2.2.1
  have q5 : ∀ w', Below Bd w3 w' → w'.cell? ⟨w.heap.size, 5, none⟩ = some (.int .i64 (n 5)) := fun w' h => (box10 (HV3.out.1.under h HBd.out)).2.2.2.2.2.1
  have q6 : ∀ w', Below Bd w3 w' → w'.cell? ⟨w.heap.size, 6, none⟩ = some (.int .i64 (n 6)) := fun w' h => (box10 (HV3.out.1.under h HBd.out)).2.2.2.2.2.2.1
  have q7 : ∀ w', Below Bd w3 w' → w'.cell? ⟨w.heap.size, 7, none⟩ = some (.int .i64 (n 7)) := fun w' h => (box10 (HV3.out.1.under h HBd.out)).2.2.2.2.2.2.2.1
  have q8 : ∀ w', Below Bd w3 w' → w'.cell? ⟨w.heap.size, 8, none⟩ = some (.int .i64 (n 8)) := fun w' h => (box10 (HV3.out.1.under h HBd.out)).2.2.2.2.2.2.2.2.1
  have q9 : ∀ w', Below Bd w3 w' → w'.cell? ⟨w.heap.size, 9, none⟩ = some (.slice A l.length c) := fun w' h => (box10 (HV3.out.1.under h HBd.out)).2.2.2.2.2.2.2.2.2
  have hcv : ∀ w', Below Bd w3 w' → (convert 22 9 (.slice B L.length cb)).run Try.prog w' = .ok (.string ⟨L.toArray⟩) w' := fun w' h => conv_any B cb Bd L w' (HV3.out.2.2.2.below h)
  refine wpB_do (i := 3) (by kernel_rfl) rfl (by rfl) (fun K hK => ?_)
  go_simp
  refine (rright_any n A l.length c w3 HML.out).mono ?_
  rintro e w4 ⟨rfl, hb⟩
  have HV4 : Hid (RecAt w4 w.heap.size n (.slice A l.length c) ∧ Below w.heap.size w w4 ∧ Bd ≤ w4.heap.size ∧ Rd w4 Bd B L) := ⟨HV3.out.1.later hb, HV3.out.2.1.trans (hb.mono HV3.out.2.1.size), Nat.le_trans HV3.out.2.2.1 hb.size, HV3.out.2.2.2.below (hb.mono HV3.out.2.2.1)⟩
  have hbk := hb.mono HV3.out.2.2.1
  skip
  go_simp
  refine hK.out Bd _ _ (Nat.le_refl _) hbk ?_
  clear hK hb hbk HV3 q0 q1 q2 q3 q4 q5 q6 q7 q8 q9 hcv
  have q0 : ∀ w', Below Bd w4 w' → w'.cell? ⟨w.heap.size, 0, none⟩ = some (.int .i64 (n 0)) := fun w' h => (box10 (HV4.out.1.under h HBd.out)).1
  have q1 : ∀ w', Below Bd w4 w' → w'.cell? ⟨w.heap.size, 1, none⟩ = some (.int .i64 (n 1)) := fun w' h => (box10 (HV4.out.1.under h HBd.out)).2.1
  have q2 : ∀ w', Below Bd w4 w' → w'.cell? ⟨w.heap.size, 2, none⟩ = some (.int .i64 (n 2)) := fun w' h => (box10 (HV4.out.1.under h HBd.out)).2.2.1
  have q3 : ∀ w', Below Bd w4 w' → w'.cell? ⟨w.heap.size, 3, none⟩ = some (.int .i64 (n 3)) := fun w' h => (box10 (HV4.out.1.under h HBd.out)).2.2.2.1
  have q4 : ∀ w', Below Bd w4 w' → w'.cell? ⟨w.heap.size, 4, none⟩ = some (.int .i64 (n 4)) := fun w' h => (box10 (HV4.out.1.under h HBd.out)).2.2.2.2.1
  have q5 : ∀ w', Below Bd w4 w' → w'.cell? ⟨w.heap.size, 5, none⟩ = some (.int .i64 (n 5)) := fun w' h => (box10 (HV4.out.1.under h HBd.out)).2.2.2.2.2.1
  have q6 : ∀ w', Below Bd w4 w' → w'.cell? ⟨w.heap.size, 6, none⟩ = some (.int .i64 (n 6)) := fun w' h => (box10 (HV4.out.1.under h HBd.out)).2.2.2.2.2.2.1
  have q7 : ∀ w', Below Bd w4 w' → w'.cell? ⟨w.heap.size, 7, none⟩ = some (.int .i64 (n 7)) := fun w' h => (box10 (HV4.out.1.under h HBd.out)).2.2.2.2.2.2.2.1
  have q8 : ∀ w', Below Bd w4 w' → w'.cell? ⟨w.heap.size, 8, none⟩ = some (.int .i64 (n 8)) := fun w' h => (box10 (HV4.out.1.under h HBd.out)).2.2.2.2.2.2.2.2.1
  have q9 : ∀ w', Below Bd w4 w' → w'.cell? ⟨w.heap.size, 9, none⟩ = some (.slice A l.length c) := fun w' h => (box10 (HV4.out.1.under h HBd.out)).2.2.2.2.2.2.2.2.2
  have hcv : ∀ w', Below Bd w4 w' → (convert 22 9 (.slice B L.length cb)).run Try.prog w' = .ok (.string ⟨L.toArray⟩) w' := fun w' h => conv_any B cb Bd L w' (HV4.out.2.2.2.below h)
  refine wpB_take (i := 4) (d := 28) (v := ?v4x4) rfl rfl (by kernel_rfl) (by kernel_rfl) (by kernel_rfl) (fun _ _ _ h => h) (by rfl) ?y4x4 ?r4x4
  case y4x4 => (intro w' hSw; go_simp; try (with_reducible rfl))
  simp only [Act.put, List.setIfInBounds_toArray, List.set_cons_zero, List.set_cons_succ]
  refine wpB_take (i := 5) (d := 29) (v := ?v4x5) rfl rfl (by kernel_rfl) (by kernel_rfl) (by kernel_rfl) (fun _ _ _ h => h) (by rfl) ?y4x5 ?r4x5
  case y4x5 => (intro w' hSw; go_simp; try (with_reducible rfl))
  simp only [Act.put, List.setIfInBounds_toArray, List.set_cons_zero, List.set_cons_succ]
  refine wpB_take (i := 6) (d := 30) (v := ?v4x6) rfl rfl (by kernel_rfl) (by kernel_rfl) (by kernel_rfl) (fun _ _ _ h => h) (by rfl) ?y4x6 ?r4x6
  case y4x6 => (intro w' hSw; go_simp; try (with_reducible rfl))
  simp only [Act.put, List.setIfInBounds_toArray, List.set_cons_zero, List.set_cons_succ]
  refine wpB_take (i := 7) (d := 31) (v := ?v4x7) rfl rfl (by kernel_rfl) (by kernel_rfl) (by kernel_rfl) (fun _ _ _ h => h) (by rfl) ?y4x7 ?r4x7
  case y4x7 => (intro w' hSw; go_simp; try (with_reducible rfl))
  simp only [Act.put, List.setIfInBounds_toArray, List.set_cons_zero, List.set_cons_succ]
  refine wpB_take (i := 8) (d := 32) (v := ?v4x8) rfl rfl (by kernel_rfl) (by kernel_rfl) (by kernel_rfl) (fun _ _ _ h => h) (by rfl) ?y4x8 ?r4x8
  case y4x8 => (intro w' hSw; go_simp; try (with_reducible rfl))
  simp only [Act.put, List.setIfInBounds_toArray, List.set_cons_zero, List.set_cons_succ]
  refine wpB_take (i := 9) (d := 33) (v := ?v4x9) rfl rfl (by kernel_rfl) (by kernel_rfl) (by kernel_rfl) (fun _ _ _ h => h) (by rfl) ?y4x9 ?r4x9
  case y4x9 => (intro w' hSw; go_simp; try (with_reducible rfl))
  simp only [Act.put, List.setIfInBounds_toArray, List.set_cons_zero, List.set_cons_succ]
  refine wpB_do (i := 10) (by kernel_rfl) rfl (by rfl) (fun K hK => ?_)
  go_simp
  refine (rput_any n A c l (S : Int) w4 (HA.out w4 HV4.out.2.1).1 HML.out).mono ?_
  rintro e w5 ⟨E, ce, rfl, hE, hce, hb⟩
  rw [HLE.out] at hE hce ⊢
  have HV5 : Hid (RecAt w5 w.heap.size n (.slice A l.length c) ∧ Below w.heap.size w w5 ∧ Bd ≤ w5.heap.size ∧ Rd w5 Bd B L) := ⟨HV4.out.1.later hb, HV4.out.2.1.trans (hb.mono HV4.out.2.1.size), Nat.le_trans HV4.out.2.2.1 hb.size, HV4.out.2.2.2.below (hb.mono HV4.out.2.2.1)⟩
  have hbk := hb.mono HV4.out.2.2.1
  have hcv2 : ∀ w', Below w5.heap.size w5 w' → (convert 22 9 (.slice E L.length ce)).run Try.prog w' = .ok (.string ⟨L.toArray⟩) w' := fun w' h => conv_any E ce _ L w' (hE.below h)
  go_simp
  refine hK.out w5.heap.size _ _ (Nat.le_trans HV4.out.2.2.1 hb.size) hbk ?_
  clear hK hb hbk HV4 q0 q1 q2 q3 q4 q5 q6 q7 q8 q9 hcv hE
  refine wpB_take (i := 11) (d := 35) (v := ?v4x11) rfl rfl (by kernel_rfl) (by kernel_rfl) (by kernel_rfl) (fun _ _ _ h => h) (by rfl) ?y4x11 ?r4x11
  case y4x11 => (intro w' hSw; go_simp; try (with_reducible rfl))
  simp only [Act.put, List.setIfInBounds_toArray, List.set_cons_zero, List.set_cons_succ]
  refine wpB_take (i := 12) (d := 36) (v := ?v4x12) rfl rfl (by kernel_rfl) (by kernel_rfl) (by kernel_rfl) (fun _ _ _ h => h) (by rfl) ?y4x12 ?r4x12
  case y4x12 => (intro w' hSw; go_simp; try (with_reducible rfl))
  simp only [Act.put, List.setIfInBounds_toArray, List.set_cons_zero, List.set_cons_succ]
  refine wpB_take (i := 13) (d := 37) (v := ?v4x13) rfl rfl (by kernel_rfl) (by kernel_rfl) (by kernel_rfl) (fun _ _ _ h => h) (by rfl) ?y4x13 ?r4x13
  case y4x13 => (intro w' hSw; go_simp; try (with_reducible rfl))
  simp only [Act.put, List.setIfInBounds_toArray, List.set_cons_zero, List.set_cons_succ]
  refine wpB_done (by kernel_rfl) ?_
  clear hcv2
  have HV6 : Hid (RecAt w5 w.heap.size n (.slice A l.length c) ∧ Below w.heap.size w w5 ∧ Rd w5 w5.heap.size B L) := ⟨HV5.out.1, HV5.out.2.1, HV5.out.2.2.2.more HV5.out.2.2.1⟩
  clear HV5 HBd
  obtain ⟨K, hK⟩ : ∃ K, spanN (80 + l.length) S = K := ⟨_, rfl⟩
  have hS := mayB_iff.1 HR.out.2
  have hLL : L.length = K * S := by
    have h := putL_length HR.out.1 HR.out.2
    rw [HLE.out] at h
    rw [← hK]
    exact h
  have hg := span_ge (80 + l.length) S (by omega)
  have hg2 : spanN (80 + l.length) S * S ≤ 16 + (80 + l.length) + S - 1 := Nat.div_mul_le_self _ _
  rw [hK, ← hLL] at hg hg2
  have HLb : Hid (L.length ≤ 5000) := by
    show _ ≤ _
    omega
  have hz2 : ((L.length : Int) == 0) = false := beq_eq_false_iff_ne.2 (by omega)
  have HBk : Hid (blkB n l.length (S : Int) = K) := by
    show _ = K
    unfold blkB
    rw [HR.out.1, HR.out.2, if_pos (show (true && true) = true from rfl), Int.toNat_natCast, hK]
  have hmu : (K : Int) * (S : Int) = (L.length : Int) := by
    rw [hLL]
    simp
  have hwr : wrap64 ((K : Int) * (S : Int)) = (L.length : Int) := by
    rw [hmu]
    have hb := HLb.out
    clear hmu hLL hg hg2 hS hz2
    unfold wrap64
    omega
  have HMU : Hid ((wrap64 ((K : Int) * (S : Int)) == (L.length : Int)) = true ∧ ((K : Int) * (S : Int) == (L.length : Int)) = true) := by
    refine ⟨?_, ?_⟩
    · rw [hwr]
      simp
    · rw [hmu]
      simp
  obtain ⟨m, hm9, hG⟩ := put_gotG (r := mo) HR.out.1 HR.out.2 HLE.out (show spanN (80 + l.length) (S : Int).toNat = K from hK)
  have HN := Lib.hid hm9
  have HG := Lib.hid hG
  clear hm9 hG hmu hwr hLL hg hg2 hS hK HLE
  have H0 : Hid (Own (w5.alloc (.cells #[] 5)) w5.heap.size 5 (.slice (some ⟨w5.heap.size, 0, none⟩) 0 0) []) := World.ownsRow_lit w5 #[] 0 (Nat.le_refl _) (by simp [maxLen]) rfl
  go_upto_region 8 with fail
  go_wp2_with (first | (at_builtin; refine wpList_app _ rfl (.tmp 49) (.tmp 50) 22 rfl w5.heap.size 5 i0 Try.underlying22 H1.out H2.out H3.out H4.out _ [] rfl H0.out w5.heap.size B cb L rfl (HV6.out.2.2.alloc (Nat.le_refl _) _) (by have := HLb.out; simp; omega) (by simp) ?_; intro v7 w7 ho7 hg7 hb7; have R7 : Hid (Own w7 w5.heap.size 5 v7 L ∧ Below w5.heap.size w5 w7) := ⟨ho7, ((Below.refl _ _).alloc (Nat.le_refl _) _).grown hg7 (by simp) (fun g hg' => (World.ownsRow.lt H0.out g hg').1)⟩; clear ho7 hg7 hb7) | (at_builtin; refine wpList_app _ rfl (.tmp 51) (.tmp 52) 22 rfl w5.heap.size 5 i0 Try.underlying22 H1.out H2.out H3.out H4.out _ L rfl R7.out.1 w7.heap.size M cm mo rfl (HA.out w7 (HV6.out.2.1.trans (R7.out.2.mono HV6.out.2.1.size))).2 (by have := HLb.out; omega) R7.out.2.size ?_; intro v8 w8 ho8 hg8 hb8; have R8 : Hid (Own w8 w5.heap.size 5 v8 (L ++ mo) ∧ Below w5.heap.size w5 w8) := ⟨ho8, R7.out.2.trans (own_below R7.out.1 hg8 R7.out.2.size)⟩; clear ho8 hg8 hb8))
  obtain ⟨X, cx, hv8, hX, hcx, _⟩ := R8.out.1.rd
  subst hv8
  have HV8 : Hid (RecAt w8 w.heap.size n (.slice A l.length c) ∧ Below w.heap.size w w8) := ⟨HV6.out.1.later R8.out.2, HV6.out.2.1.trans (R8.out.2.mono HV6.out.2.1.size)⟩
  have HG8 := Lib.hid (HG.out X cx w8 hX hcx (by have := HLb.out; rw [List.length_append]; omega))
  clear hX hcx R8 R7 HG HV6 H0 hz2
  generalize L ++ mo = T at HG8 ⊢
  with_reducible refine HG8.out.mono ?_
  rintro e w9 ⟨D, cd, rfl, hD, hb⟩
  have HV9 : Hid (RecAt w9 w.heap.size n (.slice A l.length c) ∧ Below w.heap.size w w9 ∧ Rd w9 w9.heap.size D l) := ⟨HV8.out.1.later hb, HV8.out.2.trans (hb.mono HV8.out.2.size), hD⟩
  clear hb hD HV8 HG8
  go_upto_region 9 with fail
  have HVa : Hid (RecAt (w9.alloc (.cells #[.int .i64 (m 0), .int .i64 (m 1), .int .i64 (m 2), .int .i64 (m 3), .int .i64 (m 4), .int .i64 (m 5), .int .i64 (m 6), .int .i64 (m 7), .int .i64 (m 8), .slice D l.length cd] 24)) w.heap.size n (.slice A l.length c) ∧ Below w.heap.size w (w9.alloc (.cells #[.int .i64 (m 0), .int .i64 (m 1), .int .i64 (m 2), .int .i64 (m 3), .int .i64 (m 4), .int .i64 (m 5), .int .i64 (m 6), .int .i64 (m 7), .int .i64 (m 8), .slice D l.length cd] 24)) ∧ Rd (w9.alloc (.cells #[.int .i64 (m 0), .int .i64 (m 1), .int .i64 (m 2), .int .i64 (m 3), .int .i64 (m 4), .int .i64 (m 5), .int .i64 (m 6), .int .i64 (m 7), .int .i64 (m 8), .slice D l.length cd] 24)) (w9.alloc (.cells #[.int .i64 (m 0), .int .i64 (m 1), .int .i64 (m 2), .int .i64 (m 3), .int .i64 (m 4), .int .i64 (m 5), .int .i64 (m 6), .int .i64 (m 7), .int .i64 (m 8), .slice D l.length cd] 24)).heap.size D l ∧ RecAt (w9.alloc (.cells #[.int .i64 (m 0), .int .i64 (m 1), .int .i64 (m 2), .int .i64 (m 3), .int .i64 (m 4), .int .i64 (m 5), .int .i64 (m 6), .int .i64 (m 7), .int .i64 (m 8), .slice D l.length cd] 24)) w9.heap.size m (.slice D l.length cd)) := by
    have hb : Below w9.heap.size w9 (w9.alloc (.cells #[.int .i64 (m 0), .int .i64 (m 1), .int .i64 (m 2), .int .i64 (m 3), .int .i64 (m 4), .int .i64 (m 5), .int .i64 (m 6), .int .i64 (m 7), .int .i64 (m 8), .slice D l.length cd] 24)) := (Below.refl _ _).alloc (Nat.le_refl _) _
    exact ⟨HV9.out.1.later hb, HV9.out.2.1.trans (hb.mono HV9.out.2.1.size), HV9.out.2.2.later hb, Box.fresh w9 24 _⟩
  generalize (w9.alloc (.cells #[.int .i64 (m 0), .int .i64 (m 1), .int .i64 (m 2), .int .i64 (m 3), .int .i64 (m 4), .int .i64 (m 5), .int .i64 (m 6), .int .i64 (m 7), .int .i64 (m 8), .slice D l.length cd] 24)) = wa at HVa ⊢
  generalize w9.heap.size = g at HVa ⊢
  clear HV9
  obtain ⟨y0, y1, y2, y3, y4, y5, y6, y7, y8, y9⟩ := box10 HVa.out.1
  obtain ⟨z0, z1, z2, z3, z4, z5, z6, z7, z8, z9⟩ := box10 HVa.out.2.2.2
  obtain ⟨hmu1, hmu2⟩ := HMU.out
  generalize L.length = Ln at hmu1 hmu2 ⊢
  go_wp2_with fail
  refine (code_any 0 wa).mono ?_
  rintro e w' ⟨rfl, rfl⟩
  go_wp2_with fail
  refine (blocks_any n A l.length c (S : Int) wa HML.out).mono ?_
  rintro e wb ⟨rfl, hb⟩
  rw [HBk.out]
  have HVb : Hid (RecAt wb w.heap.size n (.slice A l.length c) ∧ Below w.heap.size w wb ∧ Rd wb wb.heap.size D l ∧ RecAt wb g m (.slice D l.length cd)) := ⟨HVa.out.1.later hb, HVa.out.2.1.trans (hb.mono HVa.out.2.1.size), HVa.out.2.2.1.later hb, HVa.out.2.2.2.later hb⟩
  clear hb HVa y0 y1 y2 y3 y4 y5 y6 y7 y8 y9 z0 z1 z2 z3 z4 z5 z6 z7 z8 z9
  obtain ⟨y0, y1, y2, y3, y4, y5, y6, y7, y8, y9⟩ := box10 HVb.out.1
  obtain ⟨z0, z1, z2, z3, z4, z5, z6, z7, z8, z9⟩ := box10 HVb.out.2.2.2
  go_wp2_with fail
  refine (rsame_any n m A D c cd l l wb (HA.out wb HVb.out.2.1).1 HVb.out.2.2.1).mono ?_
  rintro e wc ⟨rfl, hb⟩
  rw [sameB_refl l HN.out]
  have HVc := Lib.hid (HVb.out.2.1.trans (hb.mono HVb.out.2.1.size))
  clear hb HVb y0 y1 y2 y3 y4 y5 y6 y7 y8 y9 z0 z1 z2 z3 z4 z5 z6 z7 z8 z9
  go_wp2_with fail
  refine (live_any wc).mono ?_
  rintro e wl ⟨rfl, hb⟩
  have HB := Lib.hid (HVc.out.trans (hb.mono HVc.out.size))
  clear hb HVc
  go_wp2
  go_ret
  exact ⟨rfl, HB.out⟩
theorem recPuts_walk (n : Nat → Int) (A : Option Addr) (c : Nat) (l : List UInt8) (bl : Int) (M : Option Addr) (cm : Nat) (mo : List UInt8) (w : World) (hl : Rd w w.heap.size A l) (hl1 : l.length ≤ 140737488351232) (hm : Rd w w.heap.size M mo) (hmc : mo.length ≤ cm) (hm1 : mo.length ≤ 140737488351232) : Calls Try.prog 3 #[.agg #[.int .i64 (n 0), .int .i64 (n 1), .int .i64 (n 2), .int .i64 (n 3), .int .i64 (n 4), .int .i64 (n 5), .int .i64 (n 6), .int .i64 (n 7), .int .i64 (n 8), .slice A l.length c], .int .i64 bl, .slice M mo.length cm] w (Says w (.bool true)) := by
  by_cases h : 500 < l.length
  · exact recPuts_big1 n A c l bl M cm mo w hl hl1 hm hmc hm1 h
  · by_cases h2 : 300 < mo.length
    · exact recPuts_big2 n A c l bl M cm mo w hl hl1 hm hmc hm1 h h2
    · by_cases h0 : putL n l bl = []
      · exact recPuts_none n A c l bl M cm mo w hl hl1 hm hmc hm1 h h2 h0
      · obtain ⟨hr1, hr2⟩ := put_some h0
        have hb := mayB_iff.1 hr2
        have e1 : bl = (bl.toNat : Int) := by omega
        have hx := recPuts_go n A c l bl.toNat M cm mo w hl hl1 hm hmc hm1 h h2 hr1 (by rw [← e1]; exact hr2)
        rw [← e1] at hx
        exact hx
end Go.Proofs.Ytmebbggmdfejkaa
