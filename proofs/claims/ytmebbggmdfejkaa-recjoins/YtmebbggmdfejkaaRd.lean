/- Contracts of Same, of both. -/
import Derived.Test.YtmebbggmdfejkaaRc
import Derived.Deep.DeepCutAuto
import Derived.BigQuiet
namespace Go.Proofs.Ytmebbggmdfejkaa
set_option linter.unusedVariables false
set_option linter.unusedSimpArgs false
open Go.RowKit
open Go.RowKit (wrap64)

theorem eql_str (l r : List UInt8) : (l == r) = decide (l = r) := by
  rw [Bool.eq_iff_iff]
  simp
set_option maxHeartbeats 2000000 in
theorem equal_any (A D : Option Addr) (c d B B2 : Nat) (l r : List UInt8) (w : World) (hl : Rd w B A l) (hr : Rd w B2 D r) : Calls Try.prog 38 #[.slice A l.length c, .slice D r.length d] w fun e w' => e = .returned (.bool (decide (l = r))) ∧ w = w' := by
  have h1 := conv_any A c _ l w hl
  have h2 := conv_any D d _ r w hr
  go_enter Try.func38, Try.ntmps38
  go_wp2
  go_ret
  exact ⟨by rw [← eql_str]; rfl, rfl⟩
theorem two_boxes' (w : World) (t u : TypeId) (a b : Array Value) : Box ((w.alloc (.cells a t)).alloc (.cells b u)) w.heap.size t a ∧ Box ((w.alloc (.cells a t)).alloc (.cells b u)) (w.heap.size + 1) u b ∧ Below w.heap.size w ((w.alloc (.cells a t)).alloc (.cells b u)) ∧ ((w.alloc (.cells a t)).alloc (.cells b u)).heap.size = w.heap.size + 2 := by
  refine ⟨(Box.fresh w t a).later ((Below.refl _ _).alloc (Nat.le_refl _) (.cells b u)), ?_, ((Below.refl _ _).alloc (Nat.le_refl _) _).alloc (by simp) _, by simp⟩
  have h := Box.fresh (w.alloc (.cells a t)) u b
  simpa using h
/-- Both records and their fields. -/
def Both (w : World) (n m : Nat → Int) (v u : Value) (F G : Nat) (wr : World) : Prop := RecAt wr w.heap.size n v ∧ RecAt wr (w.heap.size + 1) m u ∧ FldAt wr F w.heap.size ∧ FldAt wr G (w.heap.size + 1) ∧ Below w.heap.size w wr
theorem Both.later {w wr w2 : World} {n m : Nat → Int} {v u : Value} {F G : Nat} (h : Both w n m v u F G wr) (hb : Below wr.heap.size wr w2) : Both w n m v u F G w2 :=
  ⟨h.1.later hb, h.2.1.later hb, h.2.2.1.later hb, h.2.2.2.1.later hb, h.2.2.2.2.trans (hb.mono h.2.2.2.2.size)⟩
set_option maxRecDepth 100000 in
set_option maxHeartbeats 2000000 in
theorem same_any (n m : Nat → Int) (A D : Option Addr) (c d : Nat) (l r : List UInt8) (w : World) (hl : Rd w w.heap.size A l) (hr : Rd w w.heap.size D r) : Calls Try.prog 18 #[.agg #[.int .i64 (n 0), .int .i64 (n 1), .int .i64 (n 2), .int .i64 (n 3), .int .i64 (n 4), .int .i64 (n 5), .int .i64 (n 6), .int .i64 (n 7), .int .i64 (n 8), .slice A l.length c], .agg #[.int .i64 (m 0), .int .i64 (m 1), .int .i64 (m 2), .int .i64 (m 3), .int .i64 (m 4), .int .i64 (m 5), .int .i64 (m 6), .int .i64 (m 7), .int .i64 (m 8), .slice D r.length d]] w (Says w (.bool (sameB n m l r))) := by
  go_enter Try.func18, Try.ntmps18
  go_wp2_with fail
  have HV0 : Hid (RecAt ((w.alloc (.cells #[.int .i64 (n 0), .int .i64 (n 1), .int .i64 (n 2), .int .i64 (n 3), .int .i64 (n 4), .int .i64 (n 5), .int .i64 (n 6), .int .i64 (n 7), .int .i64 (n 8), .slice A l.length c] 24)).alloc (.cells #[.int .i64 (m 0), .int .i64 (m 1), .int .i64 (m 2), .int .i64 (m 3), .int .i64 (m 4), .int .i64 (m 5), .int .i64 (m 6), .int .i64 (m 7), .int .i64 (m 8), .slice D r.length d] 24)) w.heap.size n (.slice A l.length c) ∧ RecAt ((w.alloc (.cells #[.int .i64 (n 0), .int .i64 (n 1), .int .i64 (n 2), .int .i64 (n 3), .int .i64 (n 4), .int .i64 (n 5), .int .i64 (n 6), .int .i64 (n 7), .int .i64 (n 8), .slice A l.length c] 24)).alloc (.cells #[.int .i64 (m 0), .int .i64 (m 1), .int .i64 (m 2), .int .i64 (m 3), .int .i64 (m 4), .int .i64 (m 5), .int .i64 (m 6), .int .i64 (m 7), .int .i64 (m 8), .slice D r.length d] 24)) (w.heap.size + 1) m (.slice D r.length d) ∧ Below w.heap.size w ((w.alloc (.cells #[.int .i64 (n 0), .int .i64 (n 1), .int .i64 (n 2), .int .i64 (n 3), .int .i64 (n 4), .int .i64 (n 5), .int .i64 (n 6), .int .i64 (n 7), .int .i64 (n 8), .slice A l.length c] 24)).alloc (.cells #[.int .i64 (m 0), .int .i64 (m 1), .int .i64 (m 2), .int .i64 (m 3), .int .i64 (m 4), .int .i64 (m 5), .int .i64 (m 6), .int .i64 (m 7), .int .i64 (m 8), .slice D r.length d] 24))) := by
    obtain ⟨h1, h2, h3, _⟩ := two_boxes' w 24 24 #[.int .i64 (n 0), .int .i64 (n 1), .int .i64 (n 2), .int .i64 (n 3), .int .i64 (n 4), .int .i64 (n 5), .int .i64 (n 6), .int .i64 (n 7), .int .i64 (n 8), .slice A l.length c] #[.int .i64 (m 0), .int .i64 (m 1), .int .i64 (m 2), .int .i64 (m 3), .int .i64 (m 4), .int .i64 (m 5), .int .i64 (m 6), .int .i64 (m 7), .int .i64 (m 8), .slice D r.length d]
    exact ⟨h1, h2, h3⟩
  generalize ((w.alloc (.cells #[.int .i64 (n 0), .int .i64 (n 1), .int .i64 (n 2), .int .i64 (n 3), .int .i64 (n 4), .int .i64 (n 5), .int .i64 (n 6), .int .i64 (n 7), .int .i64 (n 8), .slice A l.length c] 24)).alloc (.cells #[.int .i64 (m 0), .int .i64 (m 1), .int .i64 (m 2), .int .i64 (m 3), .int .i64 (m 4), .int .i64 (m 5), .int .i64 (m 6), .int .i64 (m 7), .int .i64 (m 8), .slice D r.length d] 24)) = w0 at HV0 ⊢
  have HA : Hid (∀ w', Below w.heap.size w w' → Rd w' w.heap.size A l ∧ Rd w' w.heap.size D r) := fun w' h => ⟨hl.below h, hr.below h⟩
  clear hl hr
  refine (fields_any (w.heap.size + 1) w0).mono ?_
  rintro e w1 ⟨rfl, hG, hb⟩
  have HV1 : Hid (RecAt w1 w.heap.size n (.slice A l.length c) ∧ RecAt w1 (w.heap.size + 1) m (.slice D r.length d) ∧ FldAt w1 w0.heap.size (w.heap.size + 1) ∧ Below w.heap.size w w1) := ⟨HV0.out.1.later hb, HV0.out.2.1.later hb, hG, HV0.out.2.2.trans (hb.mono HV0.out.2.2.size)⟩
  generalize w0.heap.size = G at HV1 ⊢
  clear hG hb HV0
  go_wp2_with fail
  refine (fields_any w.heap.size w1).mono ?_
  rintro e w2 ⟨rfl, hF, hb⟩
  have HV2 : Hid (Both w n m (.slice A l.length c) (.slice D r.length d) w1.heap.size G w2) := ⟨HV1.out.1.later hb, HV1.out.2.1.later hb, hF, HV1.out.2.2.1.later hb, HV1.out.2.2.2.trans (hb.mono HV1.out.2.2.2.size)⟩
  generalize w1.heap.size = F at HV2 ⊢
  clear hF hb HV1
  go_wp2
  go_loopw [11] (fun i wr => ∃ k : Nat, k ≤ 9 ∧ i = .int .i64 k ∧ eqN n m k = true ∧ Both w n m (.slice A l.length c) (.slice D r.length d) F G wr) (fun i _ => 9 - (intOf i).toNat)
  case atStart => exact ⟨0, by omega, rfl, rfl, HV2.out⟩
  case round =>
    clear HV2
    obtain ⟨k, hk, rfl, hn, hst⟩ := hrel
    have HN := Lib.hid hn
    have HS := Lib.hid hst
    clear hn hst
    by_cases hlt : k < 9
    · obtain ⟨f0, f1, f2⟩ := HS.out.2.2.1.at_ hlt
      go_upto_region 5 with fail
      have HW : Hid (Both w n m (.slice A l.length c) (.slice D r.length d) F G (wr.alloc (.cells #[.pointer (some ⟨w.heap.size, k, none⟩), .int .i64 (loF k), .int .i64 (hiF k)] 54))) := HS.out.later ((Below.refl _ _).alloc (Nat.le_refl _) _)
      obtain ⟨b0, b1, b2⟩ := box3 (Box.fresh wr 54 #[.pointer (some ⟨w.heap.size, k, none⟩), .int .i64 (loF k), .int .i64 (hiF k)])
      clear HS f0 f1 f2
      generalize (wr.alloc (.cells #[.pointer (some ⟨w.heap.size, k, none⟩), .int .i64 (loF k), .int .i64 (hiF k)] 54)) = w3 at HW b0 b1 b2 ⊢
      generalize wr.heap.size = Bx at b0 b1 b2 ⊢
      obtain ⟨g0, _, _⟩ := HW.out.2.2.2.1.at_ hlt
      have z0 := HW.out.1.num hlt
      have z1 := HW.out.2.1.num hlt
      have HNN := Lib.hid (fun h => eqN_not (n := n) (m := m) (q := 9) hlt h)
      have HNS : Hid (eqN n m (k + 1) = (eqN n m k && decide (n k = m k))) := rfl
      generalize n k = x at z0 HNN HNS ⊢
      generalize m k = y at z1 HNN HNS ⊢
      generalize loF k = lo at b1 ⊢
      generalize hiF k = hi at b2 ⊢
      by_cases h1 : x = y
      · have h2 : (x != y) = false := by simpa using h1
        have HE : Hid (eqN n m (k + 1) = true) := by
          show eqN n m (k + 1) = true
          rw [HNS.out, HN.out, decide_eq_true h1]
          rfl
        clear h1
        go_quiet (fail)
        have HQ : Hid (Both w n m (.slice A l.length c) (.slice D r.length d) F G (w3.drewN nq)) := HW.out.later (below_drewN (Below.refl _ _) nq)
        generalize w3.drewN nq = w4 at HQ ⊢
        clear HW b0 b1 b2 z0 z1 g0 h2
        go_wp2
        go_roundw
        case rel => exact ⟨k + 1, by omega, by go_num, HE.out, HQ.out⟩
        case measure => simp [intOf]; omega
      · have h2 : (x != y) = true := by simpa using h1
        have HE : Hid (sameB n m l r = false) := by
          show sameB n m l r = false
          unfold sameB
          rw [HNN.out h1, Bool.false_and]
        clear h1
        go_quiet (fail)
        have HQ : Hid (Both w n m (.slice A l.length c) (.slice D r.length d) F G (w3.drewN nq)) := HW.out.later (below_drewN (Below.refl _ _) nq)
        generalize w3.drewN nq = w4 at HQ ⊢
        clear HW b0 b1 b2 z0 z1 g0 h2
        go_wp2
        go_ret
        exact ⟨by rw [HE.out]; rfl, HQ.out.2.2.2.2⟩
    · obtain rfl : k = 9 := by omega
      have y0 := HS.out.1.body
      have y1 := HS.out.2.1.body
      obtain ⟨hA, hD⟩ := HA.out wr HS.out.2.2.2.2
      have HD := Lib.hid (And.intro hA hD)
      clear hA hD
      have HE : Hid (sameB n m l r = decide (l = r)) := by
        show sameB n m l r = _
        unfold sameB
        rw [HN.out, Bool.true_and]
      go_wp2_with fail
      refine (equal_any A D c d _ _ l r wr HD.out.1 HD.out.2).mono ?_
      rintro e w' ⟨rfl, rfl⟩
      generalize decide (l = r) = b at HE ⊢
      go_wp2
      go_ret
      exact ⟨by rw [HE.out]; rfl, HS.out.2.2.2.2⟩
/-- Both records and their lists. -/
def Lists (w : World) (n m : Nat → Int) (v u : Value) (F G : Nat) (wr : World) : Prop := RecAt wr w.heap.size n v ∧ RecAt wr (w.heap.size + 1) m u ∧ LstAt wr F n ∧ LstAt wr G m ∧ Below w.heap.size w wr
theorem Lists.later {w wr w2 : World} {n m : Nat → Int} {v u : Value} {F G : Nat} (h : Lists w n m v u F G wr) (hb : Below wr.heap.size wr w2) : Lists w n m v u F G w2 :=
  ⟨h.1.later hb, h.2.1.later hb, h.2.2.1.later hb, h.2.2.2.1.later hb, h.2.2.2.2.trans (hb.mono h.2.2.2.2.size)⟩
set_option maxRecDepth 100000 in
set_option maxHeartbeats 2000000 in
theorem rsame_any (n m : Nat → Int) (A D : Option Addr) (c d : Nat) (l r : List UInt8) (w : World) (hl : Rd w w.heap.size A l) (hr : Rd w w.heap.size D r) : Calls Try.prog 16 #[.agg #[.int .i64 (n 0), .int .i64 (n 1), .int .i64 (n 2), .int .i64 (n 3), .int .i64 (n 4), .int .i64 (n 5), .int .i64 (n 6), .int .i64 (n 7), .int .i64 (n 8), .slice A l.length c], .agg #[.int .i64 (m 0), .int .i64 (m 1), .int .i64 (m 2), .int .i64 (m 3), .int .i64 (m 4), .int .i64 (m 5), .int .i64 (m 6), .int .i64 (m 7), .int .i64 (m 8), .slice D r.length d]] w (Says w (.bool (sameB n m l r))) := by
  go_enter Try.func16, Try.ntmps16
  go_wp2_with fail
  have HV0 : Hid (RecAt ((w.alloc (.cells #[.int .i64 (n 0), .int .i64 (n 1), .int .i64 (n 2), .int .i64 (n 3), .int .i64 (n 4), .int .i64 (n 5), .int .i64 (n 6), .int .i64 (n 7), .int .i64 (n 8), .slice A l.length c] 24)).alloc (.cells #[.int .i64 (m 0), .int .i64 (m 1), .int .i64 (m 2), .int .i64 (m 3), .int .i64 (m 4), .int .i64 (m 5), .int .i64 (m 6), .int .i64 (m 7), .int .i64 (m 8), .slice D r.length d] 24)) w.heap.size n (.slice A l.length c) ∧ RecAt ((w.alloc (.cells #[.int .i64 (n 0), .int .i64 (n 1), .int .i64 (n 2), .int .i64 (n 3), .int .i64 (n 4), .int .i64 (n 5), .int .i64 (n 6), .int .i64 (n 7), .int .i64 (n 8), .slice A l.length c] 24)).alloc (.cells #[.int .i64 (m 0), .int .i64 (m 1), .int .i64 (m 2), .int .i64 (m 3), .int .i64 (m 4), .int .i64 (m 5), .int .i64 (m 6), .int .i64 (m 7), .int .i64 (m 8), .slice D r.length d] 24)) (w.heap.size + 1) m (.slice D r.length d) ∧ Below w.heap.size w ((w.alloc (.cells #[.int .i64 (n 0), .int .i64 (n 1), .int .i64 (n 2), .int .i64 (n 3), .int .i64 (n 4), .int .i64 (n 5), .int .i64 (n 6), .int .i64 (n 7), .int .i64 (n 8), .slice A l.length c] 24)).alloc (.cells #[.int .i64 (m 0), .int .i64 (m 1), .int .i64 (m 2), .int .i64 (m 3), .int .i64 (m 4), .int .i64 (m 5), .int .i64 (m 6), .int .i64 (m 7), .int .i64 (m 8), .slice D r.length d] 24))) := by
    obtain ⟨h1, h2, h3, _⟩ := two_boxes' w 24 24 #[.int .i64 (n 0), .int .i64 (n 1), .int .i64 (n 2), .int .i64 (n 3), .int .i64 (n 4), .int .i64 (n 5), .int .i64 (n 6), .int .i64 (n 7), .int .i64 (n 8), .slice A l.length c] #[.int .i64 (m 0), .int .i64 (m 1), .int .i64 (m 2), .int .i64 (m 3), .int .i64 (m 4), .int .i64 (m 5), .int .i64 (m 6), .int .i64 (m 7), .int .i64 (m 8), .slice D r.length d]
    exact ⟨h1, h2, h3⟩
  generalize ((w.alloc (.cells #[.int .i64 (n 0), .int .i64 (n 1), .int .i64 (n 2), .int .i64 (n 3), .int .i64 (n 4), .int .i64 (n 5), .int .i64 (n 6), .int .i64 (n 7), .int .i64 (n 8), .slice A l.length c] 24)).alloc (.cells #[.int .i64 (m 0), .int .i64 (m 1), .int .i64 (m 2), .int .i64 (m 3), .int .i64 (m 4), .int .i64 (m 5), .int .i64 (m 6), .int .i64 (m 7), .int .i64 (m 8), .slice D r.length d] 24)) = w0 at HV0 ⊢
  have HA : Hid (∀ w', Below w.heap.size w w' → Rd w' w.heap.size A l ∧ Rd w' w.heap.size D r) := fun w' h => ⟨hl.below h, hr.below h⟩
  clear hl hr
  refine wpB_start (w.heap.size + 2) (by kernel_rfl) ?_
  have HV1 : Hid (RecAt w0.drew w.heap.size n (.slice A l.length c) ∧ RecAt w0.drew (w.heap.size + 1) m (.slice D r.length d) ∧ Below w.heap.size w w0.drew) := ⟨HV0.out.1.later (Below.refl _ _).drew, HV0.out.2.1.later (Below.refl _ _).drew, HV0.out.2.2.drew⟩
  have HL : Hid (w.heap.size + 2 ≤ w0.drew.heap.size) := HV0.out.2.1.lt
  generalize w0.drew = w1 at HV1 HL ⊢
  clear HV0
  have q0 : ∀ w', Below (w.heap.size + 2) w1 w' → w'.cell? ⟨w.heap.size, 0, none⟩ = some (.int .i64 (n 0)) := fun w' h => (box10 (HV1.out.1.under h (by omega))).1
  have p0 : ∀ w', Below (w.heap.size + 2) w1 w' → w'.cell? ⟨w.heap.size + 1, 0, none⟩ = some (.int .i64 (m 0)) := fun w' h => (box10 (HV1.out.2.1.under h (by omega))).1
  have q1 : ∀ w', Below (w.heap.size + 2) w1 w' → w'.cell? ⟨w.heap.size, 1, none⟩ = some (.int .i64 (n 1)) := fun w' h => (box10 (HV1.out.1.under h (by omega))).2.1
  have p1 : ∀ w', Below (w.heap.size + 2) w1 w' → w'.cell? ⟨w.heap.size + 1, 1, none⟩ = some (.int .i64 (m 1)) := fun w' h => (box10 (HV1.out.2.1.under h (by omega))).2.1
  have q2 : ∀ w', Below (w.heap.size + 2) w1 w' → w'.cell? ⟨w.heap.size, 2, none⟩ = some (.int .i64 (n 2)) := fun w' h => (box10 (HV1.out.1.under h (by omega))).2.2.1
  have p2 : ∀ w', Below (w.heap.size + 2) w1 w' → w'.cell? ⟨w.heap.size + 1, 2, none⟩ = some (.int .i64 (m 2)) := fun w' h => (box10 (HV1.out.2.1.under h (by omega))).2.2.1
  have q3 : ∀ w', Below (w.heap.size + 2) w1 w' → w'.cell? ⟨w.heap.size, 3, none⟩ = some (.int .i64 (n 3)) := fun w' h => (box10 (HV1.out.1.under h (by omega))).2.2.2.1
  have p3 : ∀ w', Below (w.heap.size + 2) w1 w' → w'.cell? ⟨w.heap.size + 1, 3, none⟩ = some (.int .i64 (m 3)) := fun w' h => (box10 (HV1.out.2.1.under h (by omega))).2.2.2.1
  have q4 : ∀ w', Below (w.heap.size + 2) w1 w' → w'.cell? ⟨w.heap.size, 4, none⟩ = some (.int .i64 (n 4)) := fun w' h => (box10 (HV1.out.1.under h (by omega))).2.2.2.2.1
  have p4 : ∀ w', Below (w.heap.size + 2) w1 w' → w'.cell? ⟨w.heap.size + 1, 4, none⟩ = some (.int .i64 (m 4)) := fun w' h => (box10 (HV1.out.2.1.under h (by omega))).2.2.2.2.1
  have q5 : ∀ w', Below (w.heap.size + 2) w1 w' → w'.cell? ⟨w.heap.size, 5, none⟩ = some (.int .i64 (n 5)) := fun w' h => (box10 (HV1.out.1.under h (by omega))).2.2.2.2.2.1
  have p5 : ∀ w', Below (w.heap.size + 2) w1 w' → w'.cell? ⟨w.heap.size + 1, 5, none⟩ = some (.int .i64 (m 5)) := fun w' h => (box10 (HV1.out.2.1.under h (by omega))).2.2.2.2.2.1
  have q6 : ∀ w', Below (w.heap.size + 2) w1 w' → w'.cell? ⟨w.heap.size, 6, none⟩ = some (.int .i64 (n 6)) := fun w' h => (box10 (HV1.out.1.under h (by omega))).2.2.2.2.2.2.1
  have p6 : ∀ w', Below (w.heap.size + 2) w1 w' → w'.cell? ⟨w.heap.size + 1, 6, none⟩ = some (.int .i64 (m 6)) := fun w' h => (box10 (HV1.out.2.1.under h (by omega))).2.2.2.2.2.2.1
  have q7 : ∀ w', Below (w.heap.size + 2) w1 w' → w'.cell? ⟨w.heap.size, 7, none⟩ = some (.int .i64 (n 7)) := fun w' h => (box10 (HV1.out.1.under h (by omega))).2.2.2.2.2.2.2.1
  have p7 : ∀ w', Below (w.heap.size + 2) w1 w' → w'.cell? ⟨w.heap.size + 1, 7, none⟩ = some (.int .i64 (m 7)) := fun w' h => (box10 (HV1.out.2.1.under h (by omega))).2.2.2.2.2.2.2.1
  have q8 : ∀ w', Below (w.heap.size + 2) w1 w' → w'.cell? ⟨w.heap.size, 8, none⟩ = some (.int .i64 (n 8)) := fun w' h => (box10 (HV1.out.1.under h (by omega))).2.2.2.2.2.2.2.2.1
  have p8 : ∀ w', Below (w.heap.size + 2) w1 w' → w'.cell? ⟨w.heap.size + 1, 8, none⟩ = some (.int .i64 (m 8)) := fun w' h => (box10 (HV1.out.2.1.under h (by omega))).2.2.2.2.2.2.2.2.1
  have q9 : ∀ w', Below (w.heap.size + 2) w1 w' → w'.cell? ⟨w.heap.size, 9, none⟩ = some (.slice A l.length c) := fun w' h => (box10 (HV1.out.1.under h (by omega))).2.2.2.2.2.2.2.2.2
  have p9 : ∀ w', Below (w.heap.size + 2) w1 w' → w'.cell? ⟨w.heap.size + 1, 9, none⟩ = some (.slice D r.length d) := fun w' h => (box10 (HV1.out.2.1.under h (by omega))).2.2.2.2.2.2.2.2.2
  refine wpB_take (i := 0) (d := 8) (v := ?v1x0) rfl rfl (by kernel_rfl) (by kernel_rfl) (by kernel_rfl) (fun _ _ _ h => h) (by rfl) ?y1x0 ?r1x0
  case y1x0 => (intro w' hSw; go_simp; try (with_reducible rfl))
  simp only [Act.put, List.setIfInBounds_toArray, List.set_cons_zero, List.set_cons_succ]
  refine wpB_take (i := 2) (d := 10) (v := ?v1x2) rfl rfl (by kernel_rfl) (by kernel_rfl) (by kernel_rfl) (fun _ _ _ h => h) (by rfl) ?y1x2 ?r1x2
  case y1x2 => (intro w' hSw; go_simp; try (with_reducible rfl))
  simp only [Act.put, List.setIfInBounds_toArray, List.set_cons_zero, List.set_cons_succ]
  refine wpB_do (i := 1) (by kernel_rfl) rfl (by rfl) (fun K hK => ?_)
  go_simp
  refine (rlist_any n (.slice A l.length c) w1).mono ?_
  rintro e w2 ⟨F, rfl, hF, hb⟩
  have HV2 : Hid (RecAt w2 w.heap.size n (.slice A l.length c) ∧ RecAt w2 (w.heap.size + 1) m (.slice D r.length d) ∧ LstAt w2 F n ∧ Below w.heap.size w w2) := ⟨HV1.out.1.later hb, HV1.out.2.1.later hb, hF, HV1.out.2.2.trans (hb.mono HV1.out.2.2.size)⟩
  have hbk := hb.mono HL.out
  have HL2 : Hid (w.heap.size + 2 ≤ w2.heap.size) := Nat.le_trans HL.out hb.size
  go_simp
  refine hK.out (w.heap.size + 2) _ _ (Nat.le_refl _) hbk ?_
  clear hK hb hbk hF HV1 HL q0 p0 q1 p1 q2 p2 q3 p3 q4 p4 q5 p5 q6 p6 q7 p7 q8 p8 q9 p9
  have q0 : ∀ w', Below (w.heap.size + 2) w2 w' → w'.cell? ⟨w.heap.size, 0, none⟩ = some (.int .i64 (n 0)) := fun w' h => (box10 (HV2.out.1.under h (by omega))).1
  have p0 : ∀ w', Below (w.heap.size + 2) w2 w' → w'.cell? ⟨w.heap.size + 1, 0, none⟩ = some (.int .i64 (m 0)) := fun w' h => (box10 (HV2.out.2.1.under h (by omega))).1
  have q1 : ∀ w', Below (w.heap.size + 2) w2 w' → w'.cell? ⟨w.heap.size, 1, none⟩ = some (.int .i64 (n 1)) := fun w' h => (box10 (HV2.out.1.under h (by omega))).2.1
  have p1 : ∀ w', Below (w.heap.size + 2) w2 w' → w'.cell? ⟨w.heap.size + 1, 1, none⟩ = some (.int .i64 (m 1)) := fun w' h => (box10 (HV2.out.2.1.under h (by omega))).2.1
  have q2 : ∀ w', Below (w.heap.size + 2) w2 w' → w'.cell? ⟨w.heap.size, 2, none⟩ = some (.int .i64 (n 2)) := fun w' h => (box10 (HV2.out.1.under h (by omega))).2.2.1
  have p2 : ∀ w', Below (w.heap.size + 2) w2 w' → w'.cell? ⟨w.heap.size + 1, 2, none⟩ = some (.int .i64 (m 2)) := fun w' h => (box10 (HV2.out.2.1.under h (by omega))).2.2.1
  have q3 : ∀ w', Below (w.heap.size + 2) w2 w' → w'.cell? ⟨w.heap.size, 3, none⟩ = some (.int .i64 (n 3)) := fun w' h => (box10 (HV2.out.1.under h (by omega))).2.2.2.1
  have p3 : ∀ w', Below (w.heap.size + 2) w2 w' → w'.cell? ⟨w.heap.size + 1, 3, none⟩ = some (.int .i64 (m 3)) := fun w' h => (box10 (HV2.out.2.1.under h (by omega))).2.2.2.1
  have q4 : ∀ w', Below (w.heap.size + 2) w2 w' → w'.cell? ⟨w.heap.size, 4, none⟩ = some (.int .i64 (n 4)) := fun w' h => (box10 (HV2.out.1.under h (by omega))).2.2.2.2.1
  have p4 : ∀ w', Below (w.heap.size + 2) w2 w' → w'.cell? ⟨w.heap.size + 1, 4, none⟩ = some (.int .i64 (m 4)) := fun w' h => (box10 (HV2.out.2.1.under h (by omega))).2.2.2.2.1
  have q5 : ∀ w', Below (w.heap.size + 2) w2 w' → w'.cell? ⟨w.heap.size, 5, none⟩ = some (.int .i64 (n 5)) := fun w' h => (box10 (HV2.out.1.under h (by omega))).2.2.2.2.2.1
  have p5 : ∀ w', Below (w.heap.size + 2) w2 w' → w'.cell? ⟨w.heap.size + 1, 5, none⟩ = some (.int .i64 (m 5)) := fun w' h => (box10 (HV2.out.2.1.under h (by omega))).2.2.2.2.2.1
  have q6 : ∀ w', Below (w.heap.size + 2) w2 w' → w'.cell? ⟨w.heap.size, 6, none⟩ = some (.int .i64 (n 6)) := fun w' h => (box10 (HV2.out.1.under h (by omega))).2.2.2.2.2.2.1
  have p6 : ∀ w', Below (w.heap.size + 2) w2 w' → w'.cell? ⟨w.heap.size + 1, 6, none⟩ = some (.int .i64 (m 6)) := fun w' h => (box10 (HV2.out.2.1.under h (by omega))).2.2.2.2.2.2.1
  have q7 : ∀ w', Below (w.heap.size + 2) w2 w' → w'.cell? ⟨w.heap.size, 7, none⟩ = some (.int .i64 (n 7)) := fun w' h => (box10 (HV2.out.1.under h (by omega))).2.2.2.2.2.2.2.1
  have p7 : ∀ w', Below (w.heap.size + 2) w2 w' → w'.cell? ⟨w.heap.size + 1, 7, none⟩ = some (.int .i64 (m 7)) := fun w' h => (box10 (HV2.out.2.1.under h (by omega))).2.2.2.2.2.2.2.1
  have q8 : ∀ w', Below (w.heap.size + 2) w2 w' → w'.cell? ⟨w.heap.size, 8, none⟩ = some (.int .i64 (n 8)) := fun w' h => (box10 (HV2.out.1.under h (by omega))).2.2.2.2.2.2.2.2.1
  have p8 : ∀ w', Below (w.heap.size + 2) w2 w' → w'.cell? ⟨w.heap.size + 1, 8, none⟩ = some (.int .i64 (m 8)) := fun w' h => (box10 (HV2.out.2.1.under h (by omega))).2.2.2.2.2.2.2.2.1
  have q9 : ∀ w', Below (w.heap.size + 2) w2 w' → w'.cell? ⟨w.heap.size, 9, none⟩ = some (.slice A l.length c) := fun w' h => (box10 (HV2.out.1.under h (by omega))).2.2.2.2.2.2.2.2.2
  have p9 : ∀ w', Below (w.heap.size + 2) w2 w' → w'.cell? ⟨w.heap.size + 1, 9, none⟩ = some (.slice D r.length d) := fun w' h => (box10 (HV2.out.2.1.under h (by omega))).2.2.2.2.2.2.2.2.2
  refine wpB_do (i := 3) (by kernel_rfl) rfl (by rfl) (fun K hK => ?_)
  go_simp
  refine (rlist_any m (.slice D r.length d) w2).mono ?_
  rintro e w3 ⟨G, rfl, hG, hb⟩
  have HV3 : Hid (Lists w n m (.slice A l.length c) (.slice D r.length d) F G w3) := ⟨HV2.out.1.later hb, HV2.out.2.1.later hb, HV2.out.2.2.1.later hb, hG, HV2.out.2.2.2.trans (hb.mono HV2.out.2.2.2.size)⟩
  have hbk := hb.mono HL2.out
  go_simp
  refine hK.out (w.heap.size + 2) _ _ (Nat.le_refl _) hbk ?_
  clear hK hb hbk hG HV2 HL2 q0 p0 q1 p1 q2 p2 q3 p3 q4 p4 q5 p5 q6 p6 q7 p7 q8 p8 q9 p9
  refine wpB_take (i := 4) (d := 5) (v := ?v1x4) rfl rfl (by kernel_rfl) (by kernel_rfl) (by kernel_rfl) (fun _ _ _ h => h) (by rfl) ?y1x4 ?r1x4
  case y1x4 => (intro w' hSw; go_simp; try (with_reducible rfl))
  simp only [Act.put, List.setIfInBounds_toArray, List.set_cons_zero, List.set_cons_succ]
  refine wpB_take (i := 5) (d := 6) (v := ?v1x5) rfl rfl (by kernel_rfl) (by kernel_rfl) (by kernel_rfl) (fun _ _ _ h => h) (by rfl) ?y1x5 ?r1x5
  case y1x5 => (intro w' hSw; go_simp; try (with_reducible rfl))
  simp only [Act.put, List.setIfInBounds_toArray, List.set_cons_zero, List.set_cons_succ]
  refine wpB_done (by kernel_rfl) ?_
  go_wp2
  go_loopw [7] (fun i wr => ∃ k : Nat, k ≤ 9 ∧ i = .int .i64 k ∧ eqN n m k = true ∧ Lists w n m (.slice A l.length c) (.slice D r.length d) F G wr) (fun i _ => 9 - (intOf i).toNat)
  case atStart => exact ⟨0, by omega, rfl, rfl, HV3.out⟩
  case round =>
    clear HV3
    obtain ⟨k, hk, rfl, hn, hst⟩ := hrel
    have HN := Lib.hid hn
    have HS := Lib.hid hst
    clear hn hst
    by_cases hlt : k < 9
    · go_upto_region 5 with fail
      have z0 := HS.out.2.2.1.num hlt
      have z1 := HS.out.2.2.2.1.num hlt
      have HNN := Lib.hid (fun h => eqN_not (n := n) (m := m) (q := 9) hlt h)
      have HNS : Hid (eqN n m (k + 1) = (eqN n m k && decide (n k = m k))) := rfl
      generalize n k = x at z0 HNN HNS ⊢
      generalize m k = y at z1 HNN HNS ⊢
      by_cases h1 : x = y
      · have h2 : (x != y) = false := by simpa using h1
        have HE : Hid (eqN n m (k + 1) = true) := by
          show eqN n m (k + 1) = true
          rw [HNS.out, HN.out, decide_eq_true h1]
          rfl
        clear h1
        go_quiet (fail)
        have HQ : Hid (Lists w n m (.slice A l.length c) (.slice D r.length d) F G (wr.drewN nq)) := HS.out.later (below_drewN (Below.refl _ _) nq)
        generalize wr.drewN nq = w4 at HQ ⊢
        clear HS z0 z1 h2
        go_wp2
        go_roundw
        case rel => exact ⟨k + 1, by omega, by go_num, HE.out, HQ.out⟩
        case measure => simp [intOf]; omega
      · have h2 : (x != y) = true := by simpa using h1
        have HE : Hid (sameB n m l r = false) := by
          show sameB n m l r = false
          unfold sameB
          rw [HNN.out h1, Bool.false_and]
        clear h1
        go_quiet (fail)
        have HQ : Hid (Lists w n m (.slice A l.length c) (.slice D r.length d) F G (wr.drewN nq)) := HS.out.later (below_drewN (Below.refl _ _) nq)
        generalize wr.drewN nq = w4 at HQ ⊢
        clear HS z0 z1 h2
        go_wp2
        go_ret
        exact ⟨by rw [HE.out]; rfl, HQ.out.2.2.2.2⟩
    · obtain rfl : k = 9 := by omega
      have y0 := HS.out.1.body
      have y1 := HS.out.2.1.body
      obtain ⟨hA, hD⟩ := HA.out wr HS.out.2.2.2.2
      have h1 := conv_any A c _ l wr hA
      have h2 := conv_any D d _ r wr hD
      clear hA hD
      have HE : Hid (sameB n m l r = (l == r)) := by
        show sameB n m l r = _
        unfold sameB
        rw [HN.out, Bool.true_and, eql_str]
      go_wp2
      go_ret
      exact ⟨by rw [HE.out]; rfl, HS.out.2.2.2.2⟩
end Go.Proofs.Ytmebbggmdfejkaa
