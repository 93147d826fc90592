/- Contracts of the page's example and of 'much'. -/
import Derived.Test.YtajkcodcoehbgaaO
namespace Go.Proofs.Ytajkcodcoehbgaa
set_option linter.unusedVariables false
set_option linter.unusedSimpArgs false
open Go.RowKit
open Go.RowKit (wrap64)

theorem zok_live (k safe n c : Nat) (hn : n = k) (hk : k ≤ 9) (hs : safe ≤ k) (hc : n ≤ c) : Zok 9 1 k safe n c := ⟨by omega, by omega, by omega, by omega, by omega, hk, by omega, hc, hs⟩
theorem rd_lit (w : World) (l : List UInt8) (us : Array Value) (g : Nat) (hg : g = w.heap.size) (h : us = (cBs l).toArray) : Rd (w.alloc (.cells us 5)) (w.alloc (.cells us 5)).heap.size (some ⟨g, 0, none⟩) l := by
  subst h
  subst hg
  exact (Rd.new w l 5).more (by simp)
/-- A struct is written whole into its block, and the bytes elsewhere stay. -/
theorem put_mem {w : World} {g : Nat} {a b c d e : Value} {A : Option Addr} {us : List Value} (h : Box w g 27 #[a, b, c, d, e]) (hm : Mem 5 w A us) (a' b' c' d' e' : Value) :
    Mem 5 (((((w.setCell ⟨g, 0, none⟩ a').setCell ⟨g, 1, none⟩ b').setCell ⟨g, 2, none⟩ c').setCell ⟨g, 3, none⟩ d').setCell ⟨g, 4, none⟩ e') A us :=
  hm.turn (put5 h a' b' c' d' e').2 (fun x hx => by obtain rfl : x = g := by simpa using hx
                                                    exact h.else_ (by decide))

set_option maxHeartbeats 1000000 in
theorem live_any (w : World) : Calls Try.prog 7 #[] w fun e w' => e = .returned (.bool true) ∧ Below w.heap.size w w' := by
  have fit9 : fit 9 = 9 := by decide
  have fit1 : fit 1 = 1 := by decide
  go_enter Try.func7, Try.ntmps7
  go_wp2_with fail
  refine (new_any 9 1 w).mono ?_
  rintro e w1 ⟨rfl, hb1⟩
  rw [fit9, fit1]
  clear fit9 fit1
  have HB1 := Lib.hid hb1
  clear hb1
  go_wp2_with fail
  refine (append_ok (cap := 9) (blk := 1) (k := 0) (safe := 0) (c := 0) none _ 1 [] [1] false _ (zok_live 0 0 0 0 rfl (by omega) (by omega) (by omega)) (by simp [maxLen]) Mem.nil (rd_lit _ [1] _ _ (by simp) rfl) (by decide)).mono ?_
  rintro e w2 ⟨A2, c2, rfl, hr2, hc2, hb2⟩
  simp only [List.nil_append, List.length_cons, List.length_nil] at hr2 hc2 ⊢
  obtain ⟨bx, hbw⟩ := one_box (below_of_alloc hb2 (by simp)) (by simp)
  have HX := Lib.hid (And.intro hr2 (And.intro hc2 (And.intro bx (HB1.out.trans (hbw.mono HB1.out.size)))))
  obtain ⟨⟨q0, q1, q2, q3, q4⟩, f0, f1, f2, f3, f4⟩ := box5 bx
  clear hr2 hc2 hb2 hbw bx
  go_upto_region 3 with fail
  have hp := put5 HX.out.2.2.1 (.int .i64 9) (.int .i64 1) (.slice A2 1 c2) (.int .i64 0) (.bool false)
  have hpm := put_mem HX.out.2.2.1 HX.out.1 (.int .i64 9) (.int .i64 1) (.slice A2 1 c2) (.int .i64 0) (.bool false)
  generalize ((((((w2).setCell ⟨w1.heap.size, 0, none⟩ (.int .i64 9)).setCell ⟨w1.heap.size, 1, none⟩ (.int .i64 1)).setCell ⟨w1.heap.size, 2, none⟩ (.slice A2 1 c2)).setCell ⟨w1.heap.size, 3, none⟩ (.int .i64 0)).setCell ⟨w1.heap.size, 4, none⟩ (.bool false)) = w3 at hp hpm ⊢
  have HY := Lib.hid (And.intro hpm (And.intro HX.out.2.1 (And.intro hp.1 (HX.out.2.2.2.trans (hp.2.below (by simpa using HB1.out.size) HX.out.2.2.2.size)))))
  clear hp hpm HX q0 q1 q2 q3 q4 f0 f1 f2 f3 f4
  obtain ⟨⟨q0, q1, q2, q3, q4⟩, f0, f1, f2, f3, f4⟩ := box5 HY.out.2.2.1
  go_wp2_with fail
  refine (flush_any (cap := 9) (blk := 1) (k := 1) (safe := 0) (c := c2) A2 [1] false w3 (zok_live 1 0 1 c2 rfl (by omega) (by omega) HY.out.2.1) HY.out.1).mono ?_
  rintro e w4 ⟨A4, c4, rfl, hr4, hc4, hb4⟩
  have HZ := Lib.hid (And.intro hr4 (And.intro hc4 (And.intro (HY.out.2.2.1.later hb4) (HY.out.2.2.2.trans (hb4.mono HY.out.2.2.2.size)))))
  clear HY hr4 hc4 hb4 q0 q1 q2 q3 q4 f0 f1 f2 f3 f4
  simp only [List.length_cons, List.length_nil]
  go_wp2_with fail
  refine (append_ok (cap := 9) (blk := 1) (k := 1) (safe := 1) (c := c4) A4 _ 2 [1] [2, 3] false _ (zok_live 1 1 1 c4 rfl (by omega) (by omega) HZ.out.2.1) (by simp [maxLen]) (HZ.out.1.later ((Below.refl _ _).alloc (Nat.le_refl _) _)) (rd_lit _ [2, 3] _ _ (by simp) rfl) (by decide)).mono ?_
  rintro e w5 ⟨A5, c5, rfl, hr5, hc5, hb5⟩
  have hb6 := below_of_alloc hb5 (by simp)
  have HV := Lib.hid (And.intro hr5 (And.intro hc5 (And.intro (HZ.out.2.2.1.later hb6) (HZ.out.2.2.2.trans (hb6.mono HZ.out.2.2.2.size)))))
  clear HZ hr5 hc5 hb5 hb6
  obtain ⟨⟨q0, q1, q2, q3, q4⟩, f0, f1, f2, f3, f4⟩ := box5 HV.out.2.2.1
  simp only [List.cons_append, List.nil_append, List.length_cons, List.length_nil]
  go_upto_region 4 with fail
  have hp := put5 HV.out.2.2.1 (.int .i64 9) (.int .i64 1) (.slice A5 3 c5) (.int .i64 1) (.bool false)
  have hpm := put_mem HV.out.2.2.1 HV.out.1 (.int .i64 9) (.int .i64 1) (.slice A5 3 c5) (.int .i64 1) (.bool false)
  generalize ((((((w5).setCell ⟨w1.heap.size, 0, none⟩ (.int .i64 9)).setCell ⟨w1.heap.size, 1, none⟩ (.int .i64 1)).setCell ⟨w1.heap.size, 2, none⟩ (.slice A5 3 c5)).setCell ⟨w1.heap.size, 3, none⟩ (.int .i64 1)).setCell ⟨w1.heap.size, 4, none⟩ (.bool false)) = w6 at hp hpm ⊢
  have HU := Lib.hid (And.intro hpm (And.intro HV.out.2.1 (And.intro hp.1 (HV.out.2.2.2.trans (hp.2.below (by simpa using HB1.out.size) HV.out.2.2.2.size)))))
  clear hp hpm HV q0 q1 q2 q3 q4 f0 f1 f2 f3 f4
  obtain ⟨⟨q0, q1, q2, q3, q4⟩, f0, f1, f2, f3, f4⟩ := box5 HU.out.2.2.1
  go_wp2_with fail
  refine (crash_any (cap := 9) (blk := 1) (k := 3) (safe := 1) (c := c5) A5 [1, 2, 3] false 4 w6 (zok_live 3 1 3 c5 rfl (by omega) (by omega) HU.out.2.1) HU.out.1).mono ?_
  rintro e w7 ⟨A7, c7, rfl, hr7, hc7, hb7⟩
  have HW := Lib.hid (And.intro hr7 (And.intro hc7 (HU.out.2.2.2.trans (hb7.mono HU.out.2.2.2.size))))
  clear HU hr7 hc7 hb7 q0 q1 q2 q3 q4 f0 f1 f2 f3 f4
  simp only [show (1 + (4 : Int).toNat % (3 - 1 + 1)) = 2 by decide, show ([1, 2, 3] : List UInt8).take (2 * 1) = [1, 2] by decide, List.length_cons, List.length_nil] at HW ⊢
  go_wp2_with fail
  refine (look_any (cap := 9) (blk := 1) (k := 2) (safe := 2) (n := 2) (c := c7) A7 false w7 (zok_live 2 2 2 c7 rfl (by omega) (by omega) HW.out.2.1)).mono ?_
  rintro e w8 ⟨rfl, hb8⟩
  have HE := Lib.hid (HW.out.2.2.trans (hb8.mono HW.out.2.2.size))
  clear HW hb8
  go_wp2_with fail
  refine (code_any 0 _).mono ?_
  rintro e w9 ⟨rfl, rfl⟩
  go_wp2_with fail
  refine (code_any 0 _).mono ?_
  rintro e w9 ⟨rfl, rfl⟩
  go_wp2
  go_ret
  exact ⟨rfl, HE.out.alloc HE.out.size _⟩

/-- One act: what, with which bytes, with which number. -/
structure Ac where
  d : Int
  b : List UInt8
  n : Int
/-- Acts at an address. -/
def Acts (w : World) (B : Nat) (A : Option Addr) (acs : List Ac) : Prop :=
  0 < acs.length → ∃ g off, A = some ⟨g, off, none⟩ ∧ g < B ∧ ∀ j (hj : j < acs.length), ∃ X c, w.cell? ⟨g, off + j * 3, none⟩ = some (.int .i64 acs[j].d) ∧ w.cell? ⟨g, off + j * 3 + 1, none⟩ = some (.slice X acs[j].b.length c) ∧ w.cell? ⟨g, off + j * 3 + 2, none⟩ = some (.int .i64 acs[j].n) ∧ Rd w B X acs[j].b ∧ acs[j].b.length ≤ c ∧ acs[j].b.length ≤ 140737488351232
theorem Acts.below {w w' : World} {B : Nat} {A : Option Addr} {acs : List Ac} (h : Acts w B A acs) (hb : Below B w w') : Acts w' B A acs := fun h0 => by
  obtain ⟨g, off, e, hg, hc⟩ := h h0
  refine ⟨g, off, e, hg, fun j hj => ?_⟩
  obtain ⟨X, c, h1, h2, h3, h4, h5⟩ := hc j hj
  exact ⟨X, c, (hb.cell hg).trans h1, (hb.cell hg).trans h2, (hb.cell hg).trans h3, h4.below hb, h5⟩

/-- Some bool is handed back. -/
def SaysB (w : World) (e : Ending) (w' : World) : Prop := (∃ big, e = .returned (.bool big)) ∧ w = w'
set_option maxHeartbeats 1000000 in
theorem much_any (A : Option Addr) (c B : Nat) (acs : List Ac) (w : World) (hr : Acts w B A acs) (hl : acs.length ≤ maxLen) :
    Calls Try.prog 6 #[.slice A acs.length c] w (SaysB w) := by
  unfold maxLen at hl
  have HR := Lib.hid hr
  clear hr
  go_enter Try.func6, Try.ntmps6
  go_wp2
  go_loop [3, 4] (fun n i => ∃ k s : Nat, k ≤ acs.length ∧ i = .int .i64 k ∧ n = .int .i64 s ∧ s ≤ 2000) (fun _ i => acs.length - (intOf i).toNat)
  case atStart => exact ⟨0, 0, by omega, rfl, rfl, by omega⟩
  case round =>
    obtain ⟨k, s, hk, rfl, rfl, hs⟩ := hrel
    by_cases hlt : k < acs.length
    · by_cases h40 : k < 40
      · obtain ⟨g, off, rfl, hg, hc⟩ := HR.out (by omega)
        obtain ⟨X, cx, h1, h2, h3, h4, h5, h6⟩ := hc k hlt
        clear hc h4 h5
        generalize acs[k].b.length = m at h2 h6
        by_cases hb : 2000 < s + m
        · go_wp2
          all_goals
            go_ret
            exact ⟨⟨_, rfl⟩, rfl⟩
        · go_wp2
          go_round
          case rel => exact ⟨k + 1, s + m, by omega, by go_num, by go_num, by omega⟩
          case measure => simp [intOf]; omega
      · go_wp2
        go_ret
        exact ⟨⟨_, rfl⟩, rfl⟩
    · go_wp2
      go_ret
      exact ⟨⟨_, rfl⟩, rfl⟩
end Go.Proofs.Ytajkcodcoehbgaa
