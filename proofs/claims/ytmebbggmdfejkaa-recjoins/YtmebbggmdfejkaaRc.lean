/- Contracts of Right, of both. -/
import Derived.Test.YtmebbggmdfejkaaRb
import Derived.Deep.DeepCutAuto
import Derived.BigQuiet
namespace Go.Proofs.Ytmebbggmdfejkaa
set_option linter.unusedVariables false
set_option linter.unusedSimpArgs false
open Go.RowKit
open Go.RowKit (wrap64)

/-- A call that says v, and turns nothing old. -/
def Says (w : World) (v : Value) (e : Ending) (w' : World) : Prop := e = .returned v ∧ Below w.heap.size w w'
theorem box3 {w : World} {g : Nat} {t : TypeId} {a0 a1 a2 : Value} (h : Box w g t #[a0, a1, a2]) : (w.cell? ⟨g, 0, none⟩ = some a0 ∧ w.cell? ⟨g, 1, none⟩ = some a1 ∧ w.cell? ⟨g, 2, none⟩ = some a2) := by
  refine ⟨?_, ?_, ?_⟩ <;> (rw [h.cell]; rfl)
theorem below_drewN {B : Nat} {a w : World} (h : Below B a w) (n : Nat) : Below B a (w.drewN n) := h.trans ⟨rfl, rfl, rfl, Nat.le_refl _, fun _ _ => rfl⟩
set_option maxRecDepth 100000 in
set_option maxHeartbeats 2000000 in
theorem right_any (n : Nat → Int) (A : Option Addr) (len c : Nat) (w : World) (hl : len ≤ maxLen) : Calls Try.prog 10 #[.agg #[.int .i64 (n 0), .int .i64 (n 1), .int .i64 (n 2), .int .i64 (n 3), .int .i64 (n 4), .int .i64 (n 5), .int .i64 (n 6), .int .i64 (n 7), .int .i64 (n 8), .slice A len c]] w (Says w (.bool (rightB n len))) := by
  unfold maxLen at hl
  go_enter Try.func10, Try.ntmps10
  go_wp2_with fail
  have HV0 : Hid (RecAt (w.alloc (.cells #[.int .i64 (n 0), .int .i64 (n 1), .int .i64 (n 2), .int .i64 (n 3), .int .i64 (n 4), .int .i64 (n 5), .int .i64 (n 6), .int .i64 (n 7), .int .i64 (n 8), .slice A len c] 24)) w.heap.size n (.slice A len c) ∧ Below w.heap.size w (w.alloc (.cells #[.int .i64 (n 0), .int .i64 (n 1), .int .i64 (n 2), .int .i64 (n 3), .int .i64 (n 4), .int .i64 (n 5), .int .i64 (n 6), .int .i64 (n 7), .int .i64 (n 8), .slice A len c] 24))) := ⟨Box.fresh w 24 _, (Below.refl _ _).alloc (Nat.le_refl _) _⟩
  generalize (w.alloc (.cells #[.int .i64 (n 0), .int .i64 (n 1), .int .i64 (n 2), .int .i64 (n 3), .int .i64 (n 4), .int .i64 (n 5), .int .i64 (n 6), .int .i64 (n 7), .int .i64 (n 8), .slice A len c] 24)) = w0 at HV0 ⊢
  refine (fields_any w.heap.size w0).mono ?_
  rintro e w1 ⟨rfl, hF, hb⟩
  have HV1 : Hid (RecAt w1 w.heap.size n (.slice A len c) ∧ FldAt w1 w0.heap.size w.heap.size ∧ Below w.heap.size w w1) := ⟨HV0.out.1.later hb, hF, HV0.out.2.trans (hb.mono HV0.out.2.size)⟩
  generalize w0.heap.size = F at HV1 ⊢
  clear hF hb HV0
  go_wp2
  go_loopw [7] (fun i wr => ∃ k : Nat, k ≤ 9 ∧ i = .int .i64 k ∧ numsB n k = true ∧ RecAt wr w.heap.size n (.slice A len c) ∧ FldAt wr F w.heap.size ∧ Below w.heap.size w wr) (fun i _ => 9 - (intOf i).toNat)
  case atStart => exact ⟨0, by omega, rfl, rfl, HV1.out⟩
  case round =>
    clear HV1
    obtain ⟨k, hk, rfl, hn, hrec, hfld, hbel⟩ := hrel
    have HN := Lib.hid hn
    have HR := Lib.hid hrec
    have HF := Lib.hid hfld
    have HB := Lib.hid hbel
    clear hn hrec hfld hbel
    by_cases hlt : k < 9
    · obtain ⟨f0, f1, f2⟩ := HF.out.at_ hlt
      have y0 := HR.out.num hlt
      go_upto_region 4 with fail
      have HW : Hid (RecAt (wr.alloc (.cells #[.pointer (some ⟨w.heap.size, k, none⟩), .int .i64 (loF k), .int .i64 (hiF k)] 54)) w.heap.size n (.slice A len c) ∧ FldAt (wr.alloc (.cells #[.pointer (some ⟨w.heap.size, k, none⟩), .int .i64 (loF k), .int .i64 (hiF k)] 54)) F w.heap.size ∧ Below w.heap.size w (wr.alloc (.cells #[.pointer (some ⟨w.heap.size, k, none⟩), .int .i64 (loF k), .int .i64 (hiF k)] 54))) := ⟨HR.out.later ((Below.refl _ _).alloc (Nat.le_refl _) _), HF.out.later ((Below.refl _ _).alloc (Nat.le_refl _) _), HB.out.alloc HB.out.size _⟩
      obtain ⟨b0, b1, b2⟩ := box3 (Box.fresh wr 54 #[.pointer (some ⟨w.heap.size, k, none⟩), .int .i64 (loF k), .int .i64 (hiF k)])
      have z0 := HW.out.1.num hlt
      clear HR HF HB
      generalize (wr.alloc (.cells #[.pointer (some ⟨w.heap.size, k, none⟩), .int .i64 (loF k), .int .i64 (hiF k)] 54)) = w2 at HW b0 b1 b2 z0 ⊢
      clear f0 f1 f2 y0
      generalize wr.heap.size = Bx at b0 b1 b2 ⊢
      have HNN := Lib.hid (fun h => numsB_not (n := n) (m := 9) hlt h)
      have HNS : Hid (numsB n (k + 1) = (numsB n k && (decide (loF k ≤ n k) && decide (n k ≤ hiF k)))) := rfl
      generalize n k = x at b0 b1 b2 z0 HNN HNS ⊢
      generalize loF k = lo at b0 b1 b2 z0 HNN HNS ⊢
      generalize hiF k = hi at b0 b1 b2 z0 HNN HNS ⊢
      by_cases h1 : x < lo
      · have g1 : decide (x < lo) = true := decide_eq_true h1
        go_quiet (fail)
        have HQ : Hid (RecAt (w2.drewN nq) w.heap.size n (.slice A len c) ∧ FldAt (w2.drewN nq) F w.heap.size ∧ Below w.heap.size w (w2.drewN nq)) := ⟨HW.out.1, HW.out.2.1, below_drewN HW.out.2.2 nq⟩
        generalize w2.drewN nq = w3 at HQ ⊢
        clear HW b0 b1 b2 z0 g1
        have HE : Hid (rightB n len = false) := by
          show rightB n len = false
          unfold rightB
          rw [HNN.out (by omega), Bool.false_and]
        go_wp2
        go_ret
        exact ⟨by rw [HE.out]; rfl, HQ.out.2.2⟩
      · have g1 : decide (x < lo) = false := decide_eq_false h1
        by_cases h2 : hi < x
        · have g2 : decide (hi < x) = true := decide_eq_true h2
          go_quiet (fail)
          have HQ : Hid (RecAt (w2.drewN nq) w.heap.size n (.slice A len c) ∧ FldAt (w2.drewN nq) F w.heap.size ∧ Below w.heap.size w (w2.drewN nq)) := ⟨HW.out.1, HW.out.2.1, below_drewN HW.out.2.2 nq⟩
          generalize w2.drewN nq = w3 at HQ ⊢
          clear HW b0 b1 b2 z0 g1
          clear g2
          have HE : Hid (rightB n len = false) := by
            show rightB n len = false
            unfold rightB
            rw [HNN.out (by omega), Bool.false_and]
          go_wp2
          go_ret
          exact ⟨by rw [HE.out]; rfl, HQ.out.2.2⟩
        · have g2 : decide (hi < x) = false := decide_eq_false h2
          go_quiet (fail)
          have HQ : Hid (RecAt (w2.drewN nq) w.heap.size n (.slice A len c) ∧ FldAt (w2.drewN nq) F w.heap.size ∧ Below w.heap.size w (w2.drewN nq)) := ⟨HW.out.1, HW.out.2.1, below_drewN HW.out.2.2 nq⟩
          generalize w2.drewN nq = w3 at HQ ⊢
          clear HW b0 b1 b2 z0 g1
          clear g2
          have HE : Hid (numsB n (k + 1) = true) := by
            show numsB n (k + 1) = true
            rw [HNS.out, HN.out, decide_eq_true (show lo ≤ x by omega), decide_eq_true (show x ≤ hi by omega)]
            rfl
          go_wp2
          go_roundw
          case rel => exact ⟨k + 1, by omega, by go_num, HE.out, HQ.out⟩
          case measure => simp [intOf]; omega
    · obtain rfl : k = 9 := by omega
      have y9 := HR.out.body
      by_cases hle : len ≤ 1048576
      · have HE : Hid (rightB n len = true) := by
          show rightB n len = true
          unfold rightB
          rw [HN.out, decide_eq_true hle]
          rfl
        have g9 : decide ((len : Int) ≤ 1048576) = true := decide_eq_true (by omega)
        go_wp2
        go_ret
        exact ⟨by rw [HE.out]; rfl, HB.out⟩
      · have HE : Hid (rightB n len = false) := by
          show rightB n len = false
          unfold rightB
          rw [decide_eq_false hle, Bool.and_false]
        have g9 : decide ((len : Int) ≤ 1048576) = false := decide_eq_false (by omega)
        go_wp2
        go_ret
        exact ⟨by rw [HE.out]; rfl, HB.out⟩
def refN (n : Nat → Int) (k : Nat) : Prop := ∀ i, i < k → n i ≤ 1099511627776 ∧ (0 ≤ n i ∨ i = 5)
theorem refN_right {n : Nat → Int} {len : Nat} (h : refN n 9) : rightB n len = true ↔ n 0 ≤ 6 ∧ -1 ≤ n 5 ∧ len ≤ 1048576 := by
  rw [rightB_iff]
  constructor
  · rintro ⟨h1, h2⟩
    exact ⟨(h1 0 (by omega)).2, (h1 5 (by omega)).1, h2⟩
  · rintro ⟨h1, h2, h3⟩
    refine ⟨fun i hi => ?_, h3⟩
    have h4 := h i hi
    unfold loF hiF
    split
    · rename_i e; subst e; exact ⟨h2, by rw [if_neg (by omega)]; exact h4.1⟩
    · split
      · rename_i e; subst e; omega
      · omega
theorem refN_big {n : Nat → Int} {len k : Nat} (hk : k < 9) (h : 1099511627776 < n k) : rightB n len = false := by
  unfold rightB
  rw [numsB_not hk (by have := hiF_le k; omega), Bool.false_and]
theorem refN_low {n : Nat → Int} {len k : Nat} (hk : k < 9) (h : n k < 0) (h5 : ¬ k = 5) : rightB n len = false := by
  unfold rightB
  rw [numsB_not hk (by have : loF k = 0 := by unfold loF; rw [if_neg h5]
                       omega), Bool.false_and]
theorem refN_step {n : Nat → Int} {k : Nat} (h : refN n k) (h1 : ¬ 1099511627776 < n k) (h2 : 0 ≤ n k ∨ k = 5) : refN n (k + 1) := fun i hi => by
  rcases Nat.lt_or_ge i k with h3 | h3
  · exact h i h3
  · obtain rfl : i = k := by omega
    exact ⟨by omega, h2⟩
set_option maxRecDepth 100000 in
set_option maxHeartbeats 2000000 in
theorem rright_any (n : Nat → Int) (A : Option Addr) (len c : Nat) (w : World) (hl : len ≤ maxLen) : Calls Try.prog 11 #[.agg #[.int .i64 (n 0), .int .i64 (n 1), .int .i64 (n 2), .int .i64 (n 3), .int .i64 (n 4), .int .i64 (n 5), .int .i64 (n 6), .int .i64 (n 7), .int .i64 (n 8), .slice A len c]] w (Says w (.bool (rightB n len))) := by
  unfold maxLen at hl
  go_enter Try.func11, Try.ntmps11
  go_wp2_with fail
  have HV0 : Hid (RecAt (w.alloc (.cells #[.int .i64 (n 0), .int .i64 (n 1), .int .i64 (n 2), .int .i64 (n 3), .int .i64 (n 4), .int .i64 (n 5), .int .i64 (n 6), .int .i64 (n 7), .int .i64 (n 8), .slice A len c] 24)) w.heap.size n (.slice A len c) ∧ Below w.heap.size w (w.alloc (.cells #[.int .i64 (n 0), .int .i64 (n 1), .int .i64 (n 2), .int .i64 (n 3), .int .i64 (n 4), .int .i64 (n 5), .int .i64 (n 6), .int .i64 (n 7), .int .i64 (n 8), .slice A len c] 24))) := ⟨Box.fresh w 24 _, (Below.refl _ _).alloc (Nat.le_refl _) _⟩
  generalize (w.alloc (.cells #[.int .i64 (n 0), .int .i64 (n 1), .int .i64 (n 2), .int .i64 (n 3), .int .i64 (n 4), .int .i64 (n 5), .int .i64 (n 6), .int .i64 (n 7), .int .i64 (n 8), .slice A len c] 24)) = w0 at HV0 ⊢
  obtain ⟨y0, y1, y2, y3, y4, y5, y6, y7, y8, y9⟩ := box10 HV0.out.1
  refine (rlist_any n (.slice A len c) w0).mono ?_
  rintro e w1 ⟨q, rfl, hq, hb⟩
  have HV1 : Hid (RecAt w1 w.heap.size n (.slice A len c) ∧ LstAt w1 q n ∧ Below w.heap.size w w1) := ⟨HV0.out.1.later hb, hq, HV0.out.2.trans (hb.mono HV0.out.2.size)⟩
  clear hq hb HV0 y0 y1 y2 y3 y4 y5 y6 y7 y8 y9
  go_wp2
  go_loop [4] (fun i => ∃ k : Nat, k ≤ 9 ∧ i = .int .i64 k ∧ refN n k) (fun i => 9 - (intOf i).toNat)
  case atStart => exact ⟨0, by omega, rfl, fun i h => by omega⟩
  case round =>
    obtain ⟨k, hk, rfl, hn⟩ := hrel
    have HN := Lib.hid hn
    clear hn
    by_cases hlt : k < 9
    · have z0 := HV1.out.2.1.num hlt
      have HS := Lib.hid (fun h1 h2 => refN_step HN.out h1 h2)
      have HBg := Lib.hid (fun h => refN_big (n := n) (len := len) hlt h)
      have HLw := Lib.hid (fun h h5 => refN_low (n := n) (len := len) hlt h h5)
      generalize n k = x at z0 HS HBg HLw
      by_cases h1 : 1099511627776 < x
      · go_wp2
        go_ret
        exact ⟨by rw [HBg.out h1]; rfl, HV1.out.2.2⟩
      · by_cases h2 : x < 0
        · by_cases h5 : k = 5
          · have g5 : ((k : Int) != 5) = false := by simp; omega
            have HT := Lib.hid (HS.out h1 (.inr h5))
            clear h5
            go_wp2
            go_round
            case rel => exact ⟨k + 1, by omega, by go_num, HT.out⟩
            case measure => simp [intOf]; omega
          · have g5 : ((k : Int) != 5) = true := by simp; omega
            go_wp2
            go_ret
            exact ⟨by rw [HLw.out h2 h5]; rfl, HV1.out.2.2⟩
        · have HT := Lib.hid (HS.out h1 (.inl (by omega)))
          go_wp2
          go_round
          case rel => exact ⟨k + 1, by omega, by go_num, HT.out⟩
          case measure => simp [intOf]; omega
    · obtain rfl : k = 9 := by omega
      obtain ⟨y0, y1, y2, y3, y4, y5, y6, y7, y8, y9⟩ := box10 HV1.out.1
      have HE := Lib.hid (refN_right (len := len) HN.out)
      generalize n 0 = x0 at y0 HE
      generalize n 5 = x5 at y5 HE
      by_cases h0 : x0 ≤ 6
      · by_cases h5 : -1 ≤ x5
        · by_cases hle : len ≤ 1048576
          · have HR : Hid (rightB n len = true) := HE.out.2 ⟨h0, h5, hle⟩
            have g9 : decide ((len : Int) ≤ 1048576) = true := decide_eq_true (by omega)
            go_wp2
            go_ret
            exact ⟨by rw [HR.out]; rfl, HV1.out.2.2⟩
          · have HR : Hid (rightB n len = false) := by
              show rightB n len = false
              cases hr : rightB n len
              · rfl
              · exact absurd (HE.out.1 hr).2.2 hle
            have g9 : decide ((len : Int) ≤ 1048576) = false := decide_eq_false (by omega)
            go_wp2
            go_ret
            exact ⟨by rw [HR.out]; rfl, HV1.out.2.2⟩
        · have HR : Hid (rightB n len = false) := by
            show rightB n len = false
            cases hr : rightB n len
            · rfl
            · exact absurd (HE.out.1 hr).2.1 h5
          go_wp2
          go_ret
          exact ⟨by rw [HR.out]; rfl, HV1.out.2.2⟩
      · have HR : Hid (rightB n len = false) := by
          show rightB n len = false
          cases hr : rightB n len
          · rfl
          · exact absurd (HE.out.1 hr).1 h0
        go_wp2
        go_ret
        exact ⟨by rw [HR.out]; rfl, HV1.out.2.2⟩
end Go.Proofs.Ytmebbggmdfejkaa
