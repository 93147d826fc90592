/- The page's example. -/
import Derived.Test.YtbaolfncolfipaaBb
namespace Go.Proofs.Ytbaolfncolfipaa
set_option linter.unusedVariables false
set_option linter.unusedSimpArgs false
open Go.RowKit
open Go.RowKit (wrap64)

theorem mbE_pass {zones p zb : Nat} : (mbE zones p zb).pass = mbE zones p zb := by simp [Mb.pass, mbE, cutN]

set_option maxHeartbeats 1000000 in
theorem live_any (w : World) : Calls Try.prog 6 #[] w fun e w' => e = .returned (.bool true) ∧ Below w.heap.size w w' := by
  go_enter Try.func6, Try.ntmps6
  go_wp2_with fail
  refine (busNew_any 2 2 4 1 2 w (by omega) (by omega) (by omega) (by omega) (by omega) (by omega) (by omega) (by omega) (by omega)).mono ?_
  rintro e w1 ⟨B, rfl, hb, hg, hbel, hB, hlen, hall⟩
  obtain ⟨b, pb, zn, cp, bk, lm, fu, dn, ct, gn, ms⟩ := B
  simp only [Bd.mk.injEq, true_and, and_true] at hB
  obtain ⟨rfl, rfl, rfl, rfl, rfl, rfl, rfl, rfl⟩ := hB
  simp only at hlen hall
  have HB := Lib.hid (And.intro hb (And.intro hg hbel))
  have HA := Lib.hid (And.intro hlen hall)
  clear hb hg hbel hlen hall
  go_wp2_with fail
  refine (busFuse_any 1 w1 HB.out.1).mono ?_
  rintro e w2 ⟨rfl, hb2, ht2⟩
  rw [show cutN 1 = 1 from rfl] at hb2
  have HC := Lib.hid (And.intro hb2 (HB.out.2.2.trans (ht2.below (by simpa using HB.out.2.1 b (by simp [Bd.gs])) HB.out.2.2.size)))
  clear hb2 ht2
  go_wp2_with fail
  refine (code_any 0 _).mono ?_
  rintro e w' ⟨rfl, rfl⟩
  go_wp2_with fail
  have h0 : 0 < ms.length := by have := HA.out.1; omega
  have hms := HA.out.2 _ (List.getElem_mem h0)
  refine (busFlush_go (B := ⟨b, pb, 2, 4, 1, 2, 1, false, 0, 0, ms⟩) 0 h0 w2 HC.out.1 rfl ⟨by simp, by simp, fun m hm => by rw [HA.out.2 m hm]; simp [mbE]⟩).mono ?_
  rintro e w3 ⟨x, m', rfl, hb3, ht3, hs⟩
  obtain rfl : x = 0 := by
    simp only at hs
    rw [hms, mbE_pass] at hs
    cases hs with
    | lost h => cases h
    | fits zs h1 h2 => rfl
  have HD := Lib.hid (And.intro hb3 (HC.out.2.trans (ht3.below HB.out.2.1 HC.out.2.size)))
  have HG := Lib.hid HB.out.2.1
  clear hb3 ht3 hs HB HC hms
  go_wp2_with fail
  refine (code_any 0 _).mono ?_
  rintro e w' ⟨rfl, rfl⟩
  go_wp2_with fail
  refine (busFlush_down 0 (by simpa [Bd.passed] using h0) w3 HD.out.1 (by simp [Bd.up, Bd.passed, cutN])).mono ?_
  rintro e w4 ⟨rfl, hb4, ht4⟩
  have HE := Lib.hid (And.intro hb4 (HD.out.2.trans (ht4.below (by simpa [Bd.passed] using HG.out b (by simp [Bd.gs])) HD.out.2.size)))
  clear hb4 ht4 HD HG h0
  go_wp2_with fail
  refine (code_any 10 _).mono ?_
  rintro e w' ⟨rfl, rfl⟩
  go_wp2_with fail
  refine (busDown_any w4 HE.out.1).mono ?_
  rintro e w' ⟨rfl, rfl⟩
  go_wp2_with fail
  refine (busCount_any w4 HE.out.1).mono ?_
  rintro e w' ⟨rfl, rfl⟩
  simp only [Bd.passed]
  go_wp2
  go_ret
  exact ⟨rfl, HE.out.2⟩
end Go.Proofs.Ytbaolfncolfipaa
