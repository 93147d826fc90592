/- For every z and b the law ZdevNils returns true: the walk. -/
import Derived.Test.YtcongcnoeklpjaaR
namespace Go.Proofs.Ytcongcnoeklpjaa.zdevNils
set_option linter.unusedVariables false
set_option linter.unusedSimpArgs false
open Go.RowKit
open Go.RowKit (wrap64)

set_option maxRecDepth 100000 in
set_option maxHeartbeats 4000000 in
theorem walk (z : Int) (A : Option Addr) (n c : Nat) (w : World) (hn : n ≤ maxLen) :
    Calls Try.prog 4 #[.int .i64 z, .slice A n c] w fun e w' => e = .returned (.bool true) ∧ Below w.heap.size w w' := by
  unfold maxLen at hn
  by_cases h5 : 500 < n
  · go_enter Try.func4, Try.ntmps4
    go_wp2_with fail
    refine (live_any w).mono ?_
    rintro e w' ⟨rfl, hb⟩
    have HB := Lib.hid hb
    clear hb
    go_wp2
    go_ret
    exact ⟨rfl, HB.out⟩
  · go_enter Try.func4, Try.ntmps4
    have HB0 := Lib.hid (Below.refl w.heap.size w)
    go_wp2_with fail
    refine (kill_nil w).mono ?_
    rintro e w1 ⟨rfl, hb⟩
    have HB1 := Lib.hid (HB0.out.trans (hb.mono HB0.out.size))
    clear hb HB0
    go_wp2_with fail
    refine (crash_nil _ w1).mono ?_
    rintro e w2 ⟨rfl, hb⟩
    have HB2 := Lib.hid (HB1.out.trans (hb.mono HB1.out.size))
    clear hb HB1
    go_wp2_with fail
    refine (look_nil z w2).mono ?_
    rintro e w3 ⟨rfl, hb⟩
    have HB3 := Lib.hid (HB2.out.trans (hb.mono HB2.out.size))
    clear hb HB2
    go_wp2_with fail
    refine (read_nil z 0 1 _).mono ?_
    rintro e w4 ⟨rfl, hb⟩
    have HB4 := Lib.hid (HB3.out.trans ((below_of_alloc hb (by simp)).mono HB3.out.size))
    clear hb HB3
    go_wp2_with fail
    refine (code_any 16 _).mono ?_
    rintro e w' ⟨rfl, rfl⟩
    go_wp2_with fail
    refine (append_nil z _ w4).mono ?_
    rintro e w5 ⟨rfl, hb⟩
    have HB5 := Lib.hid (HB4.out.trans (hb.mono HB4.out.size))
    clear hb HB4
    go_wp2_with fail
    refine (code_any 16 _).mono ?_
    rintro e w' ⟨rfl, rfl⟩
    go_wp2_with fail
    refine (flush_nil w5).mono ?_
    rintro e w6 ⟨rfl, hb⟩
    have HB6 := Lib.hid (HB5.out.trans (hb.mono HB5.out.size))
    clear hb HB5
    go_wp2_with fail
    refine (code_any 16 _).mono ?_
    rintro e w' ⟨rfl, rfl⟩
    go_wp2_with fail
    refine (reset_nil z w6).mono ?_
    rintro e w7 ⟨rfl, hb⟩
    have HB7 := Lib.hid (HB6.out.trans (hb.mono HB6.out.size))
    clear hb HB6
    go_wp2_with fail
    refine (code_any 16 _).mono ?_
    rintro e w' ⟨rfl, rfl⟩
    go_wp2_with fail
    refine (finish_nil z w7).mono ?_
    rintro e w8 ⟨rfl, hb⟩
    have HB8 := Lib.hid (HB7.out.trans (hb.mono HB7.out.size))
    clear hb HB7
    go_wp2_with fail
    refine (code_any 16 _).mono ?_
    rintro e w' ⟨rfl, rfl⟩
    go_wp2_with fail
    refine (dead_nil _).mono ?_
    rintro e w' ⟨rfl, rfl⟩
    go_wp2_with fail
    refine (bad_nil _).mono ?_
    rintro e w' ⟨rfl, rfl⟩
    go_wp2_with fail
    refine (active_nil w8).mono ?_
    rintro e w9 ⟨rfl, hb⟩
    have HB9 := Lib.hid (HB8.out.trans (hb.mono HB8.out.size))
    clear hb HB8
    go_wp2_with fail
    refine (newDev_any 2 4 1 1 w9 (by omega) (by omega) (by omega) (by omega) (by omega) (by omega) (by omega)).mono ?_
    rintro e v1 ⟨rfl, hd1, hb1⟩
    have HD := Lib.hid (And.intro hd1 (HB9.out.trans (hb1.mono HB9.out.size)))
    have hz := HB9.out.size
    clear hd1 hb1 HB9
    go_wp2_with fail
    refine (append_fits 0 (by simp) _ 1 [1] _ (HD.out.1.later ((Below.refl _ _).alloc (Nat.le_refl _) _)) (by simp [maxLen]) (rd_lit _ [1] _ _ (by simp) rfl) (by rfl) (by rfl)).mono ?_
    rintro e v2 ⟨A2, c2, rfl, hd2, ht2⟩
    have HE := Lib.hid (And.intro hd2.bp (HD.out.2.trans (ht2.above (by simp; omega) HD.out.2.size)))
    clear hd2 ht2 HD
    go_wp2_with fail
    refine (kill_dev v2 HE.out.1).mono ?_
    rintro e v3 ⟨rfl, hd3, ht3⟩
    have HF := Lib.hid (And.intro hd3 (HE.out.2.trans (ht3.below (by simp; omega) HE.out.2.size)))
    clear hd3 ht3 HE
    go_wp2_with fail
    refine (append_lost z _ v3 HF.out.1).mono ?_
    rintro e v4 ⟨rfl, hb⟩
    have HG := Lib.hid (And.intro (Box.later HF.out.1 hb) (HF.out.2.trans (hb.mono HF.out.2.size)))
    clear hb HF
    go_wp2_with fail
    refine (code_any 11 _).mono ?_
    rintro e w' ⟨rfl, rfl⟩
    go_wp2_with fail
    refine (flush_lost v4 HG.out.1).mono ?_
    rintro e v5 ⟨rfl, hb⟩
    have HH := Lib.hid (And.intro (Box.later HG.out.1 hb) (HG.out.2.trans (hb.mono HG.out.2.size)))
    clear hb HG
    go_wp2_with fail
    refine (code_any 11 _).mono ?_
    rintro e w' ⟨rfl, rfl⟩
    go_wp2_with fail
    refine (dead_dev v5 HH.out.1).mono ?_
    rintro e w' ⟨rfl, rfl⟩
    go_wp2_with fail
    refine (active_lost v5 HH.out.1).mono ?_
    rintro e v6 ⟨rfl, hb⟩
    have HI := Lib.hid (HH.out.2.trans (hb.mono HH.out.2.size))
    clear hb HH
    go_wp2_with fail
    refine (live_any v6).mono ?_
    rintro e v7 ⟨rfl, hb⟩
    have HJ := Lib.hid (HI.out.trans (hb.mono HI.out.size))
    clear hb HI
    go_wp2
    go_ret
    exact ⟨rfl, HJ.out⟩
end Go.Proofs.Ytcongcnoeklpjaa.zdevNils
