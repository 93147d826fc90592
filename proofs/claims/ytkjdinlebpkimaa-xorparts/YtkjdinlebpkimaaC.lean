/- Contracts of xor.Into, of the page's example, of 'much', and of the reference's Into, Of, Fit. -/
import Derived.Test.YtkjdinlebpkimaaB
import Derived.Test.YtkjdinlebpkimaaArg
namespace Go.Proofs.Ytkjdinlebpkimaa
set_option linter.unusedVariables false
open Go.RowKit
open Go.RowKit (wrap64)

theorem Pts.two {w : World} {A B : Option Addr} {a b : List UInt8} (ca cb : Nat) (t : TypeId) (ha : Rd w w.heap.size A a) (hb : Rd w w.heap.size B b) :
    Pts (w.alloc (.cells #[.slice A a.length ca, .slice B b.length cb] t)) (w.heap.size + 1) (some ⟨w.heap.size, 0, none⟩) [a, b] := fun _ =>
  ⟨_, _, rfl, Nat.lt_succ_self _, fun j hj => by
    rcases j with _ | _ | j
    · exact ⟨A, ca, by rw [cell_of_row _ _ _ _ t (0, 0) (heap_alloc_new w _)]; rfl, (ha.alloc (Nat.le_refl _) _).more (Nat.le_succ _)⟩
    · exact ⟨B, cb, by rw [cell_of_row _ _ _ _ t (0, 0) (heap_alloc_new w _)]; rfl, (hb.alloc (Nat.le_refl _) _).more (Nat.le_succ _)⟩
    · simp at hj; omega⟩

theorem nil_intoL (l : List UInt8) : intoL [] l = l := ext0 (by rw [intoL_length]; simp) fun i => by rw [at0_intoL, at0_nil]; simp
theorem ofL_two (a b : List UInt8) : ofL [a, b] = intoL a b := by
  show intoL (intoL [] a) b = _
  rw [nil_intoL]
theorem most_two (a b : List UInt8) : most [a, b] = (intoL a b).length := by unfold most; rw [ofL_two]

/-- Bytes are handed back; what is old has not turned. -/
def Gave (w : World) (l : List UInt8) (e : Ending) (w' : World) : Prop := ∃ A c, e = .returned (.slice A l.length c) ∧ Rd w' w'.heap.size A l ∧ Below w.heap.size w w'

theorem of_gave (A : Option Addr) (c : Nat) (ps : List (List UInt8)) (w : World) (hr : Pts w w.heap.size A ps) (hl : ps.length ≤ 1000000) (hm : most ps ≤ 1000000) :
    Calls Try.prog 8 #[.slice A ps.length c] w (Gave w (ofL ps)) := by
  refine (of_any A c ps w hr hl hm).mono ?_
  rintro e w' ⟨rfl, rfl⟩
  exact ⟨_, _, rfl, (Rd.new w _ 5).more (by simp), (Below.refl _ _).alloc (Nat.le_refl _) _⟩

set_option maxHeartbeats 400000 in
theorem into_gave (A B : Option Addr) (ca cb : Nat) (a b : List UInt8) (w : World) (ha : Rd w w.heap.size A a) (hb : Rd w w.heap.size B b) (hla : a.length ≤ 1000000) (hlb : b.length ≤ 1000000) :
    Calls Try.prog 10 #[.slice A a.length ca, .slice B b.length cb] w (Gave w (intoL a b)) := by
  have HP := Lib.hid ((Pts.two ca cb 23 ha hb).more (B' := (w.alloc (.cells #[.slice A a.length ca, .slice B b.length cb] 23)).heap.size) (by simp))
  have HM : Hid (most [a, b] ≤ 1000000) := by
    show most [a, b] ≤ 1000000
    rw [most_two, intoL_length]; omega
  have HB : Hid (Below w.heap.size w (w.alloc (.cells #[.slice A a.length ca, .slice B b.length cb] 23))) := (Below.refl _ _).alloc (Nat.le_refl _) _
  clear ha hb
  go_enter Try.func10, Try.ntmps10
  go_wp2_with fail
  refine (of_gave _ 2 [a, b] _ HP.out (by simp) HM.out).mono ?_
  rintro e w' ⟨A', c', rfl, h1, h2⟩
  rw [ofL_two] at h1 ⊢
  have R := Lib.hid (And.intro h1 (HB.out.trans (h2.mono (by simp))))
  clear h1 h2 HB HP HM
  go_wp2
  go_ret
  exact ⟨_, _, rfl, R.out.1, R.out.2⟩

/-- 'string(b)' of a slice that reads as l. -/
theorem conv_any (A : Option Addr) (c B : Nat) (l : List UInt8) (w : World) (hr : Rd w B A l) : (convert 23 9 (.slice A l.length c)).run Try.prog w = .ok (.string ⟨l.toArray⟩) w :=
  run_conv w 23 9 5 Try.underlying23 Try.underlying5 Try.underlying9 A c B l hr

/-- The worlds of the page's example. -/
def lv1 (w : World) : World := w.alloc (.cells #[.int .u8 1, .int .u8 2] 5)
def lv2 (w : World) : World := (lv1 w).alloc (.cells #[.int .u8 3] 5)
def lv3 (w : World) : World := (lv2 w).alloc (.cells #[.slice (some ⟨w.heap.size, 0, none⟩) 2 2, .slice (some ⟨w.heap.size + 1, 0, none⟩) 1 1] 23)
theorem lv1_size (w : World) : (lv1 w).heap.size = w.heap.size + 1 := by simp [lv1]
theorem lv2_size (w : World) : (lv2 w).heap.size = w.heap.size + 1 + 1 := by simp [lv2, lv1_size]
theorem lv3_size (w : World) : (lv3 w).heap.size = w.heap.size + 1 + 1 + 1 := by simp [lv3, lv2_size]
theorem live_pts (w : World) : Pts (lv3 w) (lv3 w).heap.size (some ⟨w.heap.size + 1 + 1, 0, none⟩) [[1, 2], [3]] := by
  have R1 : Rd (lv1 w) (lv1 w).heap.size (some ⟨w.heap.size, 0, none⟩) [1, 2] := (Rd.new w [1, 2] 5).more (by rw [lv1_size]; exact Nat.le_refl _)
  have R1' : Rd (lv2 w) (lv2 w).heap.size (some ⟨w.heap.size, 0, none⟩) [1, 2] := R1.later ((Below.refl _ _).alloc (Nat.le_refl _) _)
  have R2 : Rd (lv2 w) (lv2 w).heap.size (some ⟨(lv1 w).heap.size, 0, none⟩) [3] := (Rd.new (lv1 w) [3] 5).more (by rw [lv2_size, lv1_size]; exact Nat.le_refl _)
  rw [lv1_size] at R2
  have h := (Pts.two 2 1 23 R1' R2).more (B' := (lv3 w).heap.size) (by rw [lv3_size, lv2_size]; exact Nat.le_refl _)
  rw [lv2_size] at h
  exact h
theorem live_below (w : World) : Below w.heap.size w (lv3 w) := (((Below.refl _ _).alloc (Nat.le_refl _) _).alloc (by simp) _).alloc (by simp; omega) _

set_option maxHeartbeats 400000 in
theorem live_any (w : World) : Calls Try.prog 7 #[] w fun e w' => e = .returned (.bool true) ∧ Below w.heap.size w w' := by
  have HP := Lib.hid (live_pts w)
  go_enter Try.func7, Try.ntmps7
  go_wp2_with fail
  refine (of_gave _ 2 [[1, 2], [3]] (lv3 w) HP.out (by simp) (by decide)).mono ?_
  rintro e w' ⟨A', c', rfl, h1, h2⟩
  have hof : ofL [[1, 2], [3]] = [2, 2] := by decide
  rw [hof] at h1 ⊢
  have hc := conv_any A' c' _ _ _ h1
  have HB := Lib.hid ((live_below w).trans (h2.mono (live_below w).size))
  clear h1 h2 HP hof
  simp only [List.length_cons, List.length_nil] at hc ⊢
  go_wp2
  go_ret
  exact ⟨rfl, HB.out⟩

/-- What 'much' says: either true, or that the blocks are few and short. -/
def Says (ps : List (List UInt8)) (w : World) (e : Ending) (w' : World) : Prop := ∃ big, e = .returned (.bool big) ∧ w = w' ∧ (big = false → ps.length ≤ 20 ∧ ∀ l ∈ ps, l.length ≤ 2000)
theorem says_big {ps : List (List UInt8)} {w : World} {v : Value} {b : Bool} (hv : v = .bool b) (hb : b = true) : Says ps w (.returned v) w := ⟨true, by rw [hv, hb], rfl, fun h => by cases h⟩
set_option maxHeartbeats 1000000 in
theorem much_any (A : Option Addr) (c B : Nat) (ps : List (List UInt8)) (w : World) (hr : Pts w B A ps) (hl : ps.length ≤ maxLen) (hls : ∀ l ∈ ps, l.length ≤ 140737488351232) :
    Calls Try.prog 6 #[.slice A ps.length c] w (Says ps w) := by
  unfold maxLen at hl
  have HR := Lib.hid hr
  have HL := Lib.hid hls
  clear hr hls
  go_enter Try.func6, Try.ntmps6
  go_wp2
  go_loop [3, 4] (fun n i => ∃ k s : Nat, k ≤ ps.length ∧ k ≤ 30 ∧ i = .int .i64 k ∧ n = .int .i64 s ∧ s ≤ 2000 ∧ ∀ j (h : j < ps.length), j < k → ps[j].length ≤ s) (fun _ i => ps.length - (intOf i).toNat)
  case atStart => exact ⟨0, 0, by omega, by omega, rfl, rfl, by omega, fun j h h0 => by omega⟩
  case round =>
    obtain ⟨k, s, hk, hk3, rfl, rfl, hs, hj⟩ := hrel
    have HJ := Lib.hid hj
    clear hj
    by_cases hlt : k < ps.length
    · by_cases h30 : k < 30
      · obtain ⟨b, off, rfl, hb, hc⟩ := HR.out (by omega)
        obtain ⟨X, cx, hck, hx⟩ := hc k hlt
        have hlk := HL.out ps[k] (List.getElem_mem hlt)
        clear hc hx
        generalize hn : ps[k].length = n at hck hlk
        have HN := Lib.hid hn
        clear hn
        by_cases h2 : 2000 < s + n
        · go_wp2
          go_ret
          exact says_big rfl (by simp <;> omega)
        · go_wp2
          go_round
          case rel =>
            refine ⟨k + 1, s + n, by omega, by omega, by go_num, by go_num, by omega, fun j h h0 => ?_⟩
            rcases Nat.lt_or_ge j k with h1 | h1
            · have := HJ.out j h h1
              omega
            · obtain rfl : j = k := by omega
              rw [HN.out]; omega
          case measure => simp [intOf]; omega
      · have h21 : 20 < ps.length := by omega
        go_wp2
        go_ret
        exact says_big rfl (by simp; omega)
    · obtain rfl : k = ps.length := by omega
      by_cases h20 : 20 < ps.length
      · go_wp2
        go_ret
        exact says_big rfl (by simp <;> omega)
      · go_wp2
        go_ret
        refine ⟨false, congrArg Ending.returned (congrArg Value.bool (by simp; omega)), rfl, fun _ => ⟨by omega, fun l hm => ?_⟩⟩
        obtain ⟨j, h, rfl⟩ := List.getElem_of_mem hm
        have := HJ.out j h h
        omega
end Go.Proofs.Ytkjdinlebpkimaa
