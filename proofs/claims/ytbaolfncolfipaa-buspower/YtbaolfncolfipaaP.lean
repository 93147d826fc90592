/- The contracts of a member's Reset and Finish. -/
import Derived.Test.YtbaolfncolfipaaO
namespace Go.Proofs.Ytbaolfncolfipaa
set_option linter.unusedVariables false
set_option linter.unusedSimpArgs false
open Go.RowKit
open Go.RowKit (wrap64)

set_option maxHeartbeats 1000000 in
theorem change_range {p zb cap blk : Nat} {limit : Int} {bad : Nat} {zs : List Zs} (z : Int) (F : Value) (w : World) (h : DevAt w p zb cap blk limit bad zs) (hbad : bad ≤ 1000000) (hz : z < 0 ∨ (zs.length : Int) ≤ z) :
    Calls Try.prog 60 #[.pointer (some ⟨p, 0, none⟩), .int .i64 z, F] w (ErrD p zb cap blk limit bad zs 2 w) := by
  have HE : Hid (reachE false zs.length z = 2) := by
    show reachE false zs.length z = 2
    simp [reachE, hz]
  clear hz
  have hmf : ∀ (fn : Fn) (first cap : Array Value) (w : World), (Instr.makeFunc fn first cap).run Try.prog w = .ok (.func fn first cap) w := fun _ _ _ _ => rfl
  have H := Lib.hid h
  have hp := h.lt.1
  have hzl := h.lt.2
  have hne := h.ne
  have hp1 : ¬ p = w.heap.size + 1 := by omega
  have hp2 : ¬ p = w.heap.size := by omega
  have hp3 : ¬ w.heap.size + 1 = p := by omega
  have hp4 : ¬ w.heap.size = p := by omega
  clear h
  go_enter_defers Try.func60, Try.ntmps60
  go_wp2_with fail
  refine (reach_dev (lost := false) z _ (H.out.later (((Below.refl _ _).alloc (Nat.le_refl _) _).alloc (by simp) _)).bp).mono ?_
  rintro e w1 ⟨rfl, hw⟩
  rw [show reachE false zs.length z = 2 from HE.out]
  have HS : Hid (Box w1 w.heap.size 55 #[.pointer (some ⟨p, 0, none⟩)] ∧ Box w1 (w.heap.size + 1) 26 #[.int .i64 0] ∧ Below w.heap.size w w1) := by
    have h2 := two_boxes (w := w) (t := 55) (u := 26) (Below.refl (w.heap.size + 1 + 1) ((w.alloc (.cells #[.pointer (some ⟨p, 0, none⟩)] 55)).alloc (.cells #[.int .i64 0] 26))) (Nat.le_refl _)
    rw [hw] at h2
    exact h2
  clear hw
  have hs1 := HS.out.2.1.lt
  obtain ⟨g0, fg0⟩ := box1 HS.out.1
  obtain ⟨e0, fe0⟩ := box1 HS.out.2.1
  go_wp2
  refine leaves_cons (f := 72) (args := #[.pointer (some ⟨w.heap.size, 0, none⟩), .pointer (some ⟨w.heap.size + 1, 0, none⟩)]) (by simp) (by simp [go_sem]) ?_
  refine (d44_some w.heap.size (w.heap.size + 1) 2 .returning _ (by simp [go_sem, *]) (by simp [go_sem, *]) (H.out.later (HS.out.2.2.trans (by repeat (first | with_reducible exact Below.refl _ _ | with_reducible refine Below.drew ?_ | with_reducible refine Below.alloc ?_ (by first | (simp; done) | (simp; omega)) _ | with_reducible refine Below.setCell ?_ (by first | (simp; done) | (simp; omega)) _)))).bp hbad (by decide)).mono ?_
  rintro e u' w' ⟨rfl, rfl, rfl⟩
  simp only [settle]
  refine ⟨.int .i64 2, by simp [results, Try.results60, go_sem, *], rfl, counted_turn H.out (HS.out.2.2.trans (by repeat (first | with_reducible exact Below.refl _ _ | with_reducible refine Below.drew ?_ | with_reducible refine Below.alloc ?_ (by first | (simp; done) | (simp; omega)) _ | with_reducible refine Below.setCell ?_ (by first | (simp; done) | (simp; omega)) _)))⟩

set_option maxHeartbeats 2000000 in
theorem change_30 {p zb cap blk : Nat} {limit : Int} {bad : Nat} {zs : List Zs} (i : Nat) (hi : i < zs.length) (k safe : Nat) (done : Bool) (D : List UInt8) (w : World) (h : DevAt w p zb cap blk limit bad zs)
    (hto : ∀ w1, Mem 5 w1 zs[i].A (cBs zs[i].D) → Calls Try.prog 61 #[.agg #[.int .i64 (cap : Int), .int .i64 (blk : Int), .slice zs[i].A zs[i].D.length zs[i].c, .int .i64 (zs[i].safe : Int), .bool zs[i].done]] w1 (GaveZ cap blk safe done D w1))
    (hok : ∀ c, D.length ≤ c → Zok cap blk k safe D.length c) :
    Calls Try.prog 60 #[.pointer (some ⟨p, 0, none⟩), .int .i64 (i : Int), .func (.func 61) #[] #[]] w (PutD p zb cap blk limit bad zs i k safe done D w) := by
  have HE : Hid (reachE false zs.length (i : Int) = 0) := by
    show reachE false zs.length (i : Int) = 0
    simp [reachE]; omega
  have HTO := Lib.hid hto
  have HOK := Lib.hid hok
  clear hto hok
  have hmf : ∀ (fn : Fn) (first cap : Array Value) (w : World), (Instr.makeFunc fn first cap).run Try.prog w = .ok (.func fn first cap) w := fun _ _ _ _ => rfl
  have H := Lib.hid h
  have hp := h.lt.1
  have hzl := h.lt.2
  have hne := h.ne
  have hp1 : ¬ p = w.heap.size + 1 := by omega
  have hp2 : ¬ p = w.heap.size := by omega
  have hp3 : ¬ w.heap.size + 1 = p := by omega
  have hp4 : ¬ w.heap.size = p := by omega
  clear h
  go_enter_defers Try.func60, Try.ntmps60
  go_wp2_with fail
  refine (reach_dev (lost := false) (i : Int) _ (H.out.later (((Below.refl _ _).alloc (Nat.le_refl _) _).alloc (by simp) _)).bp).mono ?_
  rintro e w1 ⟨rfl, hw⟩
  rw [show reachE false zs.length (i : Int) = 0 from HE.out]
  have HS : Hid (Box w1 w.heap.size 55 #[.pointer (some ⟨p, 0, none⟩)] ∧ Box w1 (w.heap.size + 1) 26 #[.int .i64 0] ∧ Below w.heap.size w w1) := by
    have h2 := two_boxes (w := w) (t := 55) (u := 26) (Below.refl (w.heap.size + 1 + 1) ((w.alloc (.cells #[.pointer (some ⟨p, 0, none⟩)] 55)).alloc (.cells #[.int .i64 0] 26))) (Nat.le_refl _)
    rw [hw] at h2
    exact h2
  clear hw
  have hs1 := HS.out.2.1.lt
  obtain ⟨g0, fg0⟩ := box1 HS.out.1
  obtain ⟨e0, fe0⟩ := box1 HS.out.2.1
  have s0 := setCell_self HS.out.2.1 (i := 0) (u := .int .i64 0) rfl
  go_wp2_with fail
  refine wpG_start [zb] (by kernel_rfl) ?_
  have HV : Hid (Box w1.drew w.heap.size 55 #[.pointer (some ⟨p, 0, none⟩)] ∧ Box w1.drew (w.heap.size + 1) 26 #[.int .i64 0] ∧ Below w.heap.size w w1.drew ∧ DevAt w1.drew p zb cap blk limit bad zs) :=
    ⟨HS.out.1, HS.out.2.1, HS.out.2.2.drew, (H.out.later HS.out.2.2).drew⟩
  generalize w1.drew = w2 at HV ⊢
  clear HS hs1 g0 fg0 e0 fe0 s0
  have g0 : ∀ w', Turn [zb] w2 w' → w'.cell? ⟨w.heap.size, 0, none⟩ = some (.pointer (some ⟨p, 0, none⟩)) := fun w' h => (box1 (HV.out.1.turn h (by simp; omega))).1
  have p0 : ∀ w', Turn [zb] w2 w' → w'.cell? ⟨p, 0, none⟩ = some (.slice (some ⟨zb, 0, none⟩) zs.length zs.length) := fun w' h => (box4 (Box.turn HV.out.2.2.2.bp h (by simpa using hne))).1.1
  refine wpG_take (i := 0) (d := 14) (v := ?v5x0) rfl rfl (by kernel_rfl) (by kernel_rfl) (by kernel_rfl) (fun c a w h => panic_put Try.results60 (by decide) c a w h) (by rfl) ?y5x0 ?r5x0
  case y5x0 => (intro w' hSw; go_simp; try (with_reducible rfl))
  simp only [Act.put, List.setIfInBounds_toArray, List.set_cons_zero, List.set_cons_succ]
  refine wpG_take (i := 1) (d := 15) (v := ?v5x1) rfl rfl (by kernel_rfl) (by kernel_rfl) (by kernel_rfl) (fun c a w h => panic_put Try.results60 (by decide) c a w h) (by rfl) ?y5x1 ?r5x1
  case y5x1 => (intro w' hSw; go_simp; try (with_reducible rfl))
  simp only [Act.put, List.setIfInBounds_toArray, List.set_cons_zero, List.set_cons_succ]
  refine wpG_take (i := 2) (d := 16) (v := ?v5x2) rfl rfl (by kernel_rfl) (by kernel_rfl) (by kernel_rfl) (fun c a w h => panic_put Try.results60 (by decide) c a w h) (by rfl) ?y5x2 ?r5x2
  case y5x2 => (intro w' hSw; go_simp; try (with_reducible rfl))
  simp only [Act.put, List.setIfInBounds_toArray, List.set_cons_zero, List.set_cons_succ]
  refine wpG_take (i := 3) (d := 17) (v := ?v5x3) rfl rfl (by kernel_rfl) (by kernel_rfl) (by kernel_rfl) (fun c a w h => panic_put Try.results60 (by decide) c a w h) (by rfl) ?y5x3 ?r5x3
  case y5x3 => (intro w' hSw; go_simp; try (with_reducible rfl))
  simp only [Act.put, List.setIfInBounds_toArray, List.set_cons_zero, List.set_cons_succ]
  refine wpG_take (i := 4) (d := 18) (v := ?v5x4) rfl rfl (by kernel_rfl) (by kernel_rfl) (by kernel_rfl) (fun c a w h => panic_put Try.results60 (by decide) c a w h) (by rfl) ?y5x4 ?r5x4
  case y5x4 => (intro w' hSw; go_simp; try (with_reducible rfl))
  simp only [Act.put, List.setIfInBounds_toArray, List.set_cons_zero, List.set_cons_succ]
  refine wpG_take (i := 5) (d := 19) (v := ?v5x5) rfl rfl (by kernel_rfl) (by kernel_rfl) (by kernel_rfl) (fun c a w h => panic_put Try.results60 (by decide) c a w h) (by rfl) ?y5x5 ?r5x5
  case y5x5 => (intro w' hSw; go_simp; try (with_reducible rfl))
  simp only [Act.put, List.setIfInBounds_toArray, List.set_cons_zero, List.set_cons_succ]
  refine wpG_take (i := 6) (d := 20) (v := ?v5x6) rfl rfl (by kernel_rfl) (by kernel_rfl) (by kernel_rfl) (fun c a w h => panic_put Try.results60 (by decide) c a w h) (by rfl) ?y5x6 ?r5x6
  case y5x6 => (intro w' hSw; go_simp; try (with_reducible rfl))
  simp only [Act.put, List.setIfInBounds_toArray, List.set_cons_zero, List.set_cons_succ]
  refine wpG_take (i := 7) (d := 21) (v := ?v5x7) rfl rfl (by kernel_rfl) (by kernel_rfl) (by kernel_rfl) (fun c a w h => panic_put Try.results60 (by decide) c a w h) (by rfl) ?y5x7 ?r5x7
  case y5x7 => (intro w' hSw; go_simp; try (with_reducible rfl))
  simp only [Act.put, List.setIfInBounds_toArray, List.set_cons_zero, List.set_cons_succ]
  refine wpG_take (i := 8) (d := 22) (v := ?v5x8) rfl rfl (by kernel_rfl) (by kernel_rfl) (by kernel_rfl) (fun c a w h => panic_put Try.results60 (by decide) c a w h) (by rfl) ?y5x8 ?r5x8
  case y5x8 => (intro w' hSw; go_simp; try (with_reducible rfl))
  simp only [Act.put, List.setIfInBounds_toArray, List.set_cons_zero, List.set_cons_succ]
  refine wpG_take (i := 9) (d := 23) (v := ?v5x9) rfl rfl (by kernel_rfl) (by kernel_rfl) (by kernel_rfl) (fun c a w h => panic_put Try.results60 (by decide) c a w h) (by rfl) ?y5x9 ?r5x9
  case y5x9 => (intro w' hSw; go_simp; try (with_reducible rfl))
  simp only [Act.put, List.setIfInBounds_toArray, List.set_cons_zero, List.set_cons_succ]
  refine wpG_take (i := 10) (d := 24) (v := ?v5x10) rfl rfl (by kernel_rfl) (by kernel_rfl) (by kernel_rfl) (fun c a w h => panic_put Try.results60 (by decide) c a w h) (by rfl) ?y5x10 ?r5x10
  case y5x10 => (intro w' hSw; go_simp; try (with_reducible rfl))
  simp only [Act.put, List.setIfInBounds_toArray, List.set_cons_zero, List.set_cons_succ]
  refine wpG_take (i := 11) (d := 25) (v := ?v5x11) rfl rfl (by kernel_rfl) (by kernel_rfl) (by kernel_rfl) (fun c a w h => panic_put Try.results60 (by decide) c a w h) (by rfl) ?y5x11 ?r5x11
  case y5x11 => (intro w' hSw; go_simp; try (with_reducible rfl))
  simp only [Act.put, List.setIfInBounds_toArray, List.set_cons_zero, List.set_cons_succ]
  obtain ⟨⟨z0, z1, z2, z3, z4⟩, y0, y1, y2, y3, y4⟩ := HV.out.2.2.2.zone hi
  refine wpG_do (i := 12) (by kernel_rfl) rfl (by rfl) (fun K hK => ?_)
  go_simp
  refine hK.out _ _ (Turn.refl _ _) ?_
  clear hK K z0 z1 z2 z3 z4 y0 y1 y2 y3 y4
  refine wpG_do (i := 13) (by kernel_rfl) rfl (by rfl) (fun K hK => ?_)
  go_simp
  refine (HTO.out w2 (HV.out.2.2.2.mem zs[i] (List.getElem_mem hi))).mono ?_
  rintro e w3 ⟨A2, c2, rfl, hm3, hc3, hb3⟩
  refine hK.out _ _ (Turn.of_below hb3 (Nat.le_refl _)) ?_
  have HW := Lib.hid (And.intro (HV.out.1.later hb3) (And.intro (HV.out.2.1.later hb3) (And.intro (HV.out.2.2.1.trans (hb3.mono HV.out.2.2.1.size)) (And.intro (HV.out.2.2.2.later hb3) (And.intro hm3 (HOK.out c2 hc3))))))
  clear hK K hm3 hc3 hb3 g0 p0 HV
  refine wpG_take (i := 14) (d := 28) (v := ?v5x14) rfl rfl (by kernel_rfl) (by kernel_rfl) (by kernel_rfl) (fun c a w h => panic_put Try.results60 (by decide) c a w h) (by rfl) ?y5x14 ?r5x14
  case y5x14 => (intro w' hSw; go_simp; try (with_reducible rfl))
  simp only [Act.put, List.setIfInBounds_toArray, List.set_cons_zero, List.set_cons_succ]
  obtain ⟨⟨z0, z1, z2, z3, z4⟩, y0, y1, y2, y3, y4⟩ := HW.out.2.2.2.1.zone hi
  refine wpG_do (i := 15) (by kernel_rfl) rfl (by rfl) (fun K hK => ?_)
  go_simp
  have hput := HW.out.2.2.2.1.put hi ⟨k, safe, done, D, A2, c2⟩ HW.out.2.2.2.2.2 HW.out.2.2.2.2.1
  simp only at hput
  refine hK.out _ _ hput.2 ?_
  generalize (((((w3.setCell ⟨zb, i * 5, none⟩ (.int .i64 (cap : Int))).setCell ⟨zb, i * 5 + 1, none⟩ (.int .i64 (blk : Int))).setCell ⟨zb, i * 5 + 2, none⟩ (.slice A2 D.length c2)).setCell ⟨zb, i * 5 + 3, none⟩ (.int .i64 (safe : Int))).setCell ⟨zb, i * 5 + 4, none⟩ (.bool done)) = w4 at hput ⊢
  have HX := Lib.hid (And.intro (HW.out.1.turn hput.2 (by simp; omega)) (And.intro (HW.out.2.1.turn hput.2 (by simp; omega)) (And.intro hput.1 ((Turn.of_below HW.out.2.2.1 (Nat.le_refl _)).trans (hput.2.mono (hs := [p, zb]) (by simp))))))
  clear hK K hput HW z0 z1 z2 z3 z4 y0 y1 y2 y3 y4
  refine wpG_done (by kernel_rfl) ?_
  obtain ⟨g0, fg0⟩ := box1 HX.out.1
  obtain ⟨e0, fe0⟩ := box1 HX.out.2.1
  have s0 := setCell_self HX.out.2.1 (i := 0) (u := .int .i64 0) rfl
  go_wp2
  refine leaves_cons (f := 72) (args := #[.pointer (some ⟨w.heap.size, 0, none⟩), .pointer (some ⟨w.heap.size + 1, 0, none⟩)]) (by simp) (by simp [go_sem]) ?_
  refine (d44_none w.heap.size (w.heap.size + 1) (some ⟨p, 0, none⟩) 0 .returning _ g0 e0 (by decide)).mono ?_
  rintro e u' w' ⟨rfl, rfl, rfl⟩
  simp only [settle]
  exact ⟨.int .i64 0, by simp [results, Try.results60, go_sem, *], A2, c2, rfl, HX.out.2.2.1, HX.out.2.2.2⟩

set_option maxHeartbeats 2000000 in
theorem change_31 {p zb cap blk : Nat} {limit : Int} {bad : Nat} {zs : List Zs} (i : Nat) (hi : i < zs.length) (k safe : Nat) (done : Bool) (D : List UInt8) (w : World) (h : DevAt w p zb cap blk limit bad zs)
    (hto : ∀ w1, Mem 5 w1 zs[i].A (cBs zs[i].D) → Calls Try.prog 62 #[.agg #[.int .i64 (cap : Int), .int .i64 (blk : Int), .slice zs[i].A zs[i].D.length zs[i].c, .int .i64 (zs[i].safe : Int), .bool zs[i].done]] w1 (GaveZ cap blk safe done D w1))
    (hok : ∀ c, D.length ≤ c → Zok cap blk k safe D.length c) :
    Calls Try.prog 60 #[.pointer (some ⟨p, 0, none⟩), .int .i64 (i : Int), .func (.func 62) #[] #[]] w (PutD p zb cap blk limit bad zs i k safe done D w) := by
  have HE : Hid (reachE false zs.length (i : Int) = 0) := by
    show reachE false zs.length (i : Int) = 0
    simp [reachE]; omega
  have HTO := Lib.hid hto
  have HOK := Lib.hid hok
  clear hto hok
  have hmf : ∀ (fn : Fn) (first cap : Array Value) (w : World), (Instr.makeFunc fn first cap).run Try.prog w = .ok (.func fn first cap) w := fun _ _ _ _ => rfl
  have H := Lib.hid h
  have hp := h.lt.1
  have hzl := h.lt.2
  have hne := h.ne
  have hp1 : ¬ p = w.heap.size + 1 := by omega
  have hp2 : ¬ p = w.heap.size := by omega
  have hp3 : ¬ w.heap.size + 1 = p := by omega
  have hp4 : ¬ w.heap.size = p := by omega
  clear h
  go_enter_defers Try.func60, Try.ntmps60
  go_wp2_with fail
  refine (reach_dev (lost := false) (i : Int) _ (H.out.later (((Below.refl _ _).alloc (Nat.le_refl _) _).alloc (by simp) _)).bp).mono ?_
  rintro e w1 ⟨rfl, hw⟩
  rw [show reachE false zs.length (i : Int) = 0 from HE.out]
  have HS : Hid (Box w1 w.heap.size 55 #[.pointer (some ⟨p, 0, none⟩)] ∧ Box w1 (w.heap.size + 1) 26 #[.int .i64 0] ∧ Below w.heap.size w w1) := by
    have h2 := two_boxes (w := w) (t := 55) (u := 26) (Below.refl (w.heap.size + 1 + 1) ((w.alloc (.cells #[.pointer (some ⟨p, 0, none⟩)] 55)).alloc (.cells #[.int .i64 0] 26))) (Nat.le_refl _)
    rw [hw] at h2
    exact h2
  clear hw
  have hs1 := HS.out.2.1.lt
  obtain ⟨g0, fg0⟩ := box1 HS.out.1
  obtain ⟨e0, fe0⟩ := box1 HS.out.2.1
  have s0 := setCell_self HS.out.2.1 (i := 0) (u := .int .i64 0) rfl
  go_wp2_with fail
  refine wpG_start [zb] (by kernel_rfl) ?_
  have HV : Hid (Box w1.drew w.heap.size 55 #[.pointer (some ⟨p, 0, none⟩)] ∧ Box w1.drew (w.heap.size + 1) 26 #[.int .i64 0] ∧ Below w.heap.size w w1.drew ∧ DevAt w1.drew p zb cap blk limit bad zs) :=
    ⟨HS.out.1, HS.out.2.1, HS.out.2.2.drew, (H.out.later HS.out.2.2).drew⟩
  generalize w1.drew = w2 at HV ⊢
  clear HS hs1 g0 fg0 e0 fe0 s0
  have g0 : ∀ w', Turn [zb] w2 w' → w'.cell? ⟨w.heap.size, 0, none⟩ = some (.pointer (some ⟨p, 0, none⟩)) := fun w' h => (box1 (HV.out.1.turn h (by simp; omega))).1
  have p0 : ∀ w', Turn [zb] w2 w' → w'.cell? ⟨p, 0, none⟩ = some (.slice (some ⟨zb, 0, none⟩) zs.length zs.length) := fun w' h => (box4 (Box.turn HV.out.2.2.2.bp h (by simpa using hne))).1.1
  refine wpG_take (i := 0) (d := 14) (v := ?v5x0) rfl rfl (by kernel_rfl) (by kernel_rfl) (by kernel_rfl) (fun c a w h => panic_put Try.results60 (by decide) c a w h) (by rfl) ?y5x0 ?r5x0
  case y5x0 => (intro w' hSw; go_simp; try (with_reducible rfl))
  simp only [Act.put, List.setIfInBounds_toArray, List.set_cons_zero, List.set_cons_succ]
  refine wpG_take (i := 1) (d := 15) (v := ?v5x1) rfl rfl (by kernel_rfl) (by kernel_rfl) (by kernel_rfl) (fun c a w h => panic_put Try.results60 (by decide) c a w h) (by rfl) ?y5x1 ?r5x1
  case y5x1 => (intro w' hSw; go_simp; try (with_reducible rfl))
  simp only [Act.put, List.setIfInBounds_toArray, List.set_cons_zero, List.set_cons_succ]
  refine wpG_take (i := 2) (d := 16) (v := ?v5x2) rfl rfl (by kernel_rfl) (by kernel_rfl) (by kernel_rfl) (fun c a w h => panic_put Try.results60 (by decide) c a w h) (by rfl) ?y5x2 ?r5x2
  case y5x2 => (intro w' hSw; go_simp; try (with_reducible rfl))
  simp only [Act.put, List.setIfInBounds_toArray, List.set_cons_zero, List.set_cons_succ]
  refine wpG_take (i := 3) (d := 17) (v := ?v5x3) rfl rfl (by kernel_rfl) (by kernel_rfl) (by kernel_rfl) (fun c a w h => panic_put Try.results60 (by decide) c a w h) (by rfl) ?y5x3 ?r5x3
  case y5x3 => (intro w' hSw; go_simp; try (with_reducible rfl))
  simp only [Act.put, List.setIfInBounds_toArray, List.set_cons_zero, List.set_cons_succ]
  refine wpG_take (i := 4) (d := 18) (v := ?v5x4) rfl rfl (by kernel_rfl) (by kernel_rfl) (by kernel_rfl) (fun c a w h => panic_put Try.results60 (by decide) c a w h) (by rfl) ?y5x4 ?r5x4
  case y5x4 => (intro w' hSw; go_simp; try (with_reducible rfl))
  simp only [Act.put, List.setIfInBounds_toArray, List.set_cons_zero, List.set_cons_succ]
  refine wpG_take (i := 5) (d := 19) (v := ?v5x5) rfl rfl (by kernel_rfl) (by kernel_rfl) (by kernel_rfl) (fun c a w h => panic_put Try.results60 (by decide) c a w h) (by rfl) ?y5x5 ?r5x5
  case y5x5 => (intro w' hSw; go_simp; try (with_reducible rfl))
  simp only [Act.put, List.setIfInBounds_toArray, List.set_cons_zero, List.set_cons_succ]
  refine wpG_take (i := 6) (d := 20) (v := ?v5x6) rfl rfl (by kernel_rfl) (by kernel_rfl) (by kernel_rfl) (fun c a w h => panic_put Try.results60 (by decide) c a w h) (by rfl) ?y5x6 ?r5x6
  case y5x6 => (intro w' hSw; go_simp; try (with_reducible rfl))
  simp only [Act.put, List.setIfInBounds_toArray, List.set_cons_zero, List.set_cons_succ]
  refine wpG_take (i := 7) (d := 21) (v := ?v5x7) rfl rfl (by kernel_rfl) (by kernel_rfl) (by kernel_rfl) (fun c a w h => panic_put Try.results60 (by decide) c a w h) (by rfl) ?y5x7 ?r5x7
  case y5x7 => (intro w' hSw; go_simp; try (with_reducible rfl))
  simp only [Act.put, List.setIfInBounds_toArray, List.set_cons_zero, List.set_cons_succ]
  refine wpG_take (i := 8) (d := 22) (v := ?v5x8) rfl rfl (by kernel_rfl) (by kernel_rfl) (by kernel_rfl) (fun c a w h => panic_put Try.results60 (by decide) c a w h) (by rfl) ?y5x8 ?r5x8
  case y5x8 => (intro w' hSw; go_simp; try (with_reducible rfl))
  simp only [Act.put, List.setIfInBounds_toArray, List.set_cons_zero, List.set_cons_succ]
  refine wpG_take (i := 9) (d := 23) (v := ?v5x9) rfl rfl (by kernel_rfl) (by kernel_rfl) (by kernel_rfl) (fun c a w h => panic_put Try.results60 (by decide) c a w h) (by rfl) ?y5x9 ?r5x9
  case y5x9 => (intro w' hSw; go_simp; try (with_reducible rfl))
  simp only [Act.put, List.setIfInBounds_toArray, List.set_cons_zero, List.set_cons_succ]
  refine wpG_take (i := 10) (d := 24) (v := ?v5x10) rfl rfl (by kernel_rfl) (by kernel_rfl) (by kernel_rfl) (fun c a w h => panic_put Try.results60 (by decide) c a w h) (by rfl) ?y5x10 ?r5x10
  case y5x10 => (intro w' hSw; go_simp; try (with_reducible rfl))
  simp only [Act.put, List.setIfInBounds_toArray, List.set_cons_zero, List.set_cons_succ]
  refine wpG_take (i := 11) (d := 25) (v := ?v5x11) rfl rfl (by kernel_rfl) (by kernel_rfl) (by kernel_rfl) (fun c a w h => panic_put Try.results60 (by decide) c a w h) (by rfl) ?y5x11 ?r5x11
  case y5x11 => (intro w' hSw; go_simp; try (with_reducible rfl))
  simp only [Act.put, List.setIfInBounds_toArray, List.set_cons_zero, List.set_cons_succ]
  obtain ⟨⟨z0, z1, z2, z3, z4⟩, y0, y1, y2, y3, y4⟩ := HV.out.2.2.2.zone hi
  refine wpG_do (i := 12) (by kernel_rfl) rfl (by rfl) (fun K hK => ?_)
  go_simp
  refine hK.out _ _ (Turn.refl _ _) ?_
  clear hK K z0 z1 z2 z3 z4 y0 y1 y2 y3 y4
  refine wpG_do (i := 13) (by kernel_rfl) rfl (by rfl) (fun K hK => ?_)
  go_simp
  refine (HTO.out w2 (HV.out.2.2.2.mem zs[i] (List.getElem_mem hi))).mono ?_
  rintro e w3 ⟨A2, c2, rfl, hm3, hc3, hb3⟩
  refine hK.out _ _ (Turn.of_below hb3 (Nat.le_refl _)) ?_
  have HW := Lib.hid (And.intro (HV.out.1.later hb3) (And.intro (HV.out.2.1.later hb3) (And.intro (HV.out.2.2.1.trans (hb3.mono HV.out.2.2.1.size)) (And.intro (HV.out.2.2.2.later hb3) (And.intro hm3 (HOK.out c2 hc3))))))
  clear hK K hm3 hc3 hb3 g0 p0 HV
  refine wpG_take (i := 14) (d := 28) (v := ?v5x14) rfl rfl (by kernel_rfl) (by kernel_rfl) (by kernel_rfl) (fun c a w h => panic_put Try.results60 (by decide) c a w h) (by rfl) ?y5x14 ?r5x14
  case y5x14 => (intro w' hSw; go_simp; try (with_reducible rfl))
  simp only [Act.put, List.setIfInBounds_toArray, List.set_cons_zero, List.set_cons_succ]
  obtain ⟨⟨z0, z1, z2, z3, z4⟩, y0, y1, y2, y3, y4⟩ := HW.out.2.2.2.1.zone hi
  refine wpG_do (i := 15) (by kernel_rfl) rfl (by rfl) (fun K hK => ?_)
  go_simp
  have hput := HW.out.2.2.2.1.put hi ⟨k, safe, done, D, A2, c2⟩ HW.out.2.2.2.2.2 HW.out.2.2.2.2.1
  simp only at hput
  refine hK.out _ _ hput.2 ?_
  generalize (((((w3.setCell ⟨zb, i * 5, none⟩ (.int .i64 (cap : Int))).setCell ⟨zb, i * 5 + 1, none⟩ (.int .i64 (blk : Int))).setCell ⟨zb, i * 5 + 2, none⟩ (.slice A2 D.length c2)).setCell ⟨zb, i * 5 + 3, none⟩ (.int .i64 (safe : Int))).setCell ⟨zb, i * 5 + 4, none⟩ (.bool done)) = w4 at hput ⊢
  have HX := Lib.hid (And.intro (HW.out.1.turn hput.2 (by simp; omega)) (And.intro (HW.out.2.1.turn hput.2 (by simp; omega)) (And.intro hput.1 ((Turn.of_below HW.out.2.2.1 (Nat.le_refl _)).trans (hput.2.mono (hs := [p, zb]) (by simp))))))
  clear hK K hput HW z0 z1 z2 z3 z4 y0 y1 y2 y3 y4
  refine wpG_done (by kernel_rfl) ?_
  obtain ⟨g0, fg0⟩ := box1 HX.out.1
  obtain ⟨e0, fe0⟩ := box1 HX.out.2.1
  have s0 := setCell_self HX.out.2.1 (i := 0) (u := .int .i64 0) rfl
  go_wp2
  refine leaves_cons (f := 72) (args := #[.pointer (some ⟨w.heap.size, 0, none⟩), .pointer (some ⟨w.heap.size + 1, 0, none⟩)]) (by simp) (by simp [go_sem]) ?_
  refine (d44_none w.heap.size (w.heap.size + 1) (some ⟨p, 0, none⟩) 0 .returning _ g0 e0 (by decide)).mono ?_
  rintro e u' w' ⟨rfl, rfl, rfl⟩
  simp only [settle]
  exact ⟨.int .i64 0, by simp [results, Try.results60, go_sem, *], A2, c2, rfl, HX.out.2.2.1, HX.out.2.2.2⟩

set_option maxHeartbeats 400000 in
theorem reset_range {p zb cap blk : Nat} {limit : Int} {bad : Nat} {zs : List Zs} (z : Int) (w : World) (h : DevAt w p zb cap blk limit bad zs) (hbad : bad ≤ 1000000) (hz : z < 0 ∨ (zs.length : Int) ≤ z) :
    Calls Try.prog 38 #[.pointer (some ⟨p, 0, none⟩), .int .i64 z] w (ErrD p zb cap blk limit bad zs 2 w) := by
  have HC := Lib.hid (change_range z (.func (.func 61) #[] #[]) w h hbad hz)
  clear h hbad hz
  go_enter Try.func38, Try.ntmps38
  go_wp2_with fail
  refine HC.out.mono ?_
  rintro e w' ⟨rfl, hd⟩
  have HD := Lib.hid hd
  clear hd HC
  go_wp2
  go_ret
  exact ⟨rfl, HD.out⟩
set_option maxHeartbeats 400000 in
theorem reset_fits {p zb cap blk : Nat} {limit : Int} {bad : Nat} {zs : List Zs} (i : Nat) (hi : i < zs.length) (w : World) (h : DevAt w p zb cap blk limit bad zs) :
    Calls Try.prog 38 #[.pointer (some ⟨p, 0, none⟩), .int .i64 (i : Int)] w (PutD p zb cap blk limit bad zs i 0 0 false [] w) := by
  have HC := Lib.hid (change_30 i hi 0 0 false [] w h (fun w1 hm => reset_any zs[i].A zs[i].done w1 (h.ok zs[i] (List.getElem_mem hi))) (fun c hc => have z := h.ok zs[i] (List.getElem_mem hi); ⟨z.c1, z.c2, z.h1, z.h2, by simp, by omega, by simp, hc, by omega⟩))
  clear h
  go_enter Try.func38, Try.ntmps38
  go_wp2_with fail
  refine HC.out.mono ?_
  rintro e w' ⟨A, c, rfl, hd⟩
  have HD := Lib.hid hd
  clear hd HC
  go_wp2
  go_ret
  exact ⟨A, c, rfl, HD.out⟩

set_option maxHeartbeats 400000 in
theorem finish_range {p zb cap blk : Nat} {limit : Int} {bad : Nat} {zs : List Zs} (z : Int) (w : World) (h : DevAt w p zb cap blk limit bad zs) (hbad : bad ≤ 1000000) (hz : z < 0 ∨ (zs.length : Int) ≤ z) :
    Calls Try.prog 39 #[.pointer (some ⟨p, 0, none⟩), .int .i64 z] w (ErrD p zb cap blk limit bad zs 2 w) := by
  have HC := Lib.hid (change_range z (.func (.func 62) #[] #[]) w h hbad hz)
  clear h hbad hz
  go_enter Try.func39, Try.ntmps39
  go_wp2_with fail
  refine HC.out.mono ?_
  rintro e w' ⟨rfl, hd⟩
  have HD := Lib.hid hd
  clear hd HC
  go_wp2
  go_ret
  exact ⟨rfl, HD.out⟩
set_option maxHeartbeats 400000 in
theorem finish_fits {p zb cap blk : Nat} {limit : Int} {bad : Nat} {zs : List Zs} (i : Nat) (hi : i < zs.length) (w : World) (h : DevAt w p zb cap blk limit bad zs) :
    Calls Try.prog 39 #[.pointer (some ⟨p, 0, none⟩), .int .i64 (i : Int)] w (PutD p zb cap blk limit bad zs i zs[i].k zs[i].k true zs[i].D w) := by
  have HC := Lib.hid (change_31 i hi zs[i].k zs[i].k true zs[i].D w h (fun w1 hm => finish_any zs[i].A zs[i].D zs[i].done w1 (h.ok zs[i] (List.getElem_mem hi)) hm) (fun c hc => have z := h.ok zs[i] (List.getElem_mem hi); ⟨z.c1, z.c2, z.h1, z.h2, z.hk, z.hc, z.hn, hc, Nat.le_refl _⟩))
  clear h
  go_enter Try.func39, Try.ntmps39
  go_wp2_with fail
  refine HC.out.mono ?_
  rintro e w' ⟨A, c, rfl, hd⟩
  have HD := Lib.hid hd
  clear hd HC
  go_wp2
  go_ret
  exact ⟨A, c, rfl, HD.out⟩

end Go.Proofs.Ytbaolfncolfipaa
