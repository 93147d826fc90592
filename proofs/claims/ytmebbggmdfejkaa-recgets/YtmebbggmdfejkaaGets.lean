/- For any bytes the law RecGets returns true: the walk. -/
import Derived.Test.YtmebbggmdfejkaaRm
import Derived.Deep.DeepCutAuto
namespace Go.Proofs.Ytmebbggmdfejkaa
set_option linter.unusedVariables false
set_option linter.unusedSimpArgs false
open Go.RowKit
open Go.RowKit (wrap64)

set_option maxRecDepth 100000 in
set_option maxHeartbeats 4000000 in
theorem recGets_walk (A : Option Addr) (cap : Nat) (b : List UInt8) (bl : Int) (w : World) (hr : Rd w w.heap.size A b) (hc : b.length ≤ cap) (hl : b.length ≤ 140737488351232) :
    Calls Try.prog 4 #[.slice A b.length cap, .int .i64 bl] w (Says w (.bool true)) := by
  by_cases h3 : 1000 < b.length
  · clear hr
    go_enter Try.func4, Try.ntmps4
    go_wp2_with fail
    refine (live_any w).mono ?_
    rintro e w' ⟨rfl, hb⟩
    have HB := Lib.hid hb
    clear hb
    go_wp2
    go_ret
    exact ⟨rfl, HB.out⟩
  · obtain ⟨n, hn⟩ : ∃ n, getN b bl = n := ⟨_, rfl⟩
    obtain ⟨d, hd⟩ : ∃ d, getD b bl = d := ⟨_, rfl⟩
    obtain ⟨k, hk⟩ : ∃ k, getK b bl = k := ⟨_, rfl⟩
    obtain ⟨er, he⟩ : ∃ er, getE b bl = er := ⟨_, rfl⟩
    have HG1 : Hid (∀ w', Below w.heap.size w w' → Calls Try.prog 14 #[.slice A b.length cap, .int .i64 bl] w' (GetG w' n d k er)) := fun w' h => by
      rw [← hn, ← hd, ← hk, ← he]
      exact get_any A cap b bl w' ((hr.below h).more h.size) hc (by omega)
    have HG2 : Hid (∀ w', Below w.heap.size w w' → Calls Try.prog 17 #[.slice A b.length cap, .int .i64 bl] w' (GetG w' n d k er)) := fun w' h => by
      rw [← hn, ← hd, ← hk, ← he]
      exact rget_any A cap b bl w' ((hr.below h).more h.size) hc (by omega)
    clear hn hd hk he hr hl
    go_enter Try.func4, Try.ntmps4
    go_wp2_with fail
    with_reducible refine (HG1.out w (Below.refl _ _)).mono ?_
    rintro e w1 ⟨D, cd, rfl, hD, hb⟩
    have HV1 := Lib.hid (And.intro hD hb)
    clear hD hb HG1
    go_upto_region 4 with fail
    have HV2 : Hid (RecAt (w1.alloc (.cells #[.int .i64 (n 0), .int .i64 (n 1), .int .i64 (n 2), .int .i64 (n 3), .int .i64 (n 4), .int .i64 (n 5), .int .i64 (n 6), .int .i64 (n 7), .int .i64 (n 8), .slice D d.length cd] 24)) w1.heap.size n (.slice D d.length cd) ∧ Rd (w1.alloc (.cells #[.int .i64 (n 0), .int .i64 (n 1), .int .i64 (n 2), .int .i64 (n 3), .int .i64 (n 4), .int .i64 (n 5), .int .i64 (n 6), .int .i64 (n 7), .int .i64 (n 8), .slice D d.length cd] 24)) (w1.alloc (.cells #[.int .i64 (n 0), .int .i64 (n 1), .int .i64 (n 2), .int .i64 (n 3), .int .i64 (n 4), .int .i64 (n 5), .int .i64 (n 6), .int .i64 (n 7), .int .i64 (n 8), .slice D d.length cd] 24)).heap.size D d ∧ Below w.heap.size w (w1.alloc (.cells #[.int .i64 (n 0), .int .i64 (n 1), .int .i64 (n 2), .int .i64 (n 3), .int .i64 (n 4), .int .i64 (n 5), .int .i64 (n 6), .int .i64 (n 7), .int .i64 (n 8), .slice D d.length cd] 24))) := ⟨Box.fresh w1 24 _, HV1.out.1.later ((Below.refl _ _).alloc (Nat.le_refl _) _), HV1.out.2.alloc HV1.out.2.size _⟩
    generalize (w1.alloc (.cells #[.int .i64 (n 0), .int .i64 (n 1), .int .i64 (n 2), .int .i64 (n 3), .int .i64 (n 4), .int .i64 (n 5), .int .i64 (n 6), .int .i64 (n 7), .int .i64 (n 8), .slice D d.length cd] 24)) = w2 at HV2 ⊢
    generalize w1.heap.size = g1 at HV2 ⊢
    clear HV1
    go_wp2_with fail
    with_reducible refine (HG2.out w2 HV2.out.2.2).mono ?_
    rintro e w3 ⟨E, ce, rfl, hE, hb⟩
    have HV3 : Hid (RecAt w3 g1 n (.slice D d.length cd) ∧ Rd w3 w3.heap.size D d ∧ Below w.heap.size w w3 ∧ Rd w3 w3.heap.size E d) := ⟨HV2.out.1.later hb, HV2.out.2.1.later hb, HV2.out.2.2.trans (hb.mono HV2.out.2.2.size), hE⟩
    clear hE hb HG2 HV2
    go_upto_region 5 with fail
    have HV4 : Hid (RecAt (w3.alloc (.cells #[.int .i64 (n 0), .int .i64 (n 1), .int .i64 (n 2), .int .i64 (n 3), .int .i64 (n 4), .int .i64 (n 5), .int .i64 (n 6), .int .i64 (n 7), .int .i64 (n 8), .slice E d.length ce] 24)) g1 n (.slice D d.length cd) ∧ RecAt (w3.alloc (.cells #[.int .i64 (n 0), .int .i64 (n 1), .int .i64 (n 2), .int .i64 (n 3), .int .i64 (n 4), .int .i64 (n 5), .int .i64 (n 6), .int .i64 (n 7), .int .i64 (n 8), .slice E d.length ce] 24)) w3.heap.size n (.slice E d.length ce) ∧ Rd (w3.alloc (.cells #[.int .i64 (n 0), .int .i64 (n 1), .int .i64 (n 2), .int .i64 (n 3), .int .i64 (n 4), .int .i64 (n 5), .int .i64 (n 6), .int .i64 (n 7), .int .i64 (n 8), .slice E d.length ce] 24)) (w3.alloc (.cells #[.int .i64 (n 0), .int .i64 (n 1), .int .i64 (n 2), .int .i64 (n 3), .int .i64 (n 4), .int .i64 (n 5), .int .i64 (n 6), .int .i64 (n 7), .int .i64 (n 8), .slice E d.length ce] 24)).heap.size D d ∧ Rd (w3.alloc (.cells #[.int .i64 (n 0), .int .i64 (n 1), .int .i64 (n 2), .int .i64 (n 3), .int .i64 (n 4), .int .i64 (n 5), .int .i64 (n 6), .int .i64 (n 7), .int .i64 (n 8), .slice E d.length ce] 24)) (w3.alloc (.cells #[.int .i64 (n 0), .int .i64 (n 1), .int .i64 (n 2), .int .i64 (n 3), .int .i64 (n 4), .int .i64 (n 5), .int .i64 (n 6), .int .i64 (n 7), .int .i64 (n 8), .slice E d.length ce] 24)).heap.size E d ∧ Below w.heap.size w (w3.alloc (.cells #[.int .i64 (n 0), .int .i64 (n 1), .int .i64 (n 2), .int .i64 (n 3), .int .i64 (n 4), .int .i64 (n 5), .int .i64 (n 6), .int .i64 (n 7), .int .i64 (n 8), .slice E d.length ce] 24))) := by
      have hb : Below w3.heap.size w3 (w3.alloc (.cells #[.int .i64 (n 0), .int .i64 (n 1), .int .i64 (n 2), .int .i64 (n 3), .int .i64 (n 4), .int .i64 (n 5), .int .i64 (n 6), .int .i64 (n 7), .int .i64 (n 8), .slice E d.length ce] 24)) := (Below.refl _ _).alloc (Nat.le_refl _) _
      exact ⟨HV3.out.1.later hb, Box.fresh w3 24 _, HV3.out.2.1.later hb, HV3.out.2.2.2.later hb, HV3.out.2.2.1.alloc HV3.out.2.2.1.size _⟩
    generalize (w3.alloc (.cells #[.int .i64 (n 0), .int .i64 (n 1), .int .i64 (n 2), .int .i64 (n 3), .int .i64 (n 4), .int .i64 (n 5), .int .i64 (n 6), .int .i64 (n 7), .int .i64 (n 8), .slice E d.length ce] 24)) = w4 at HV4 ⊢
    generalize w3.heap.size = g2 at HV4 ⊢
    clear HV3
    obtain ⟨y0, y1, y2, y3, y4, y5, y6, y7, y8, y9⟩ := box10 HV4.out.1
    obtain ⟨z0, z1, z2, z3, z4, z5, z6, z7, z8, z9⟩ := box10 HV4.out.2.1
    go_wp2_with fail
    refine (rsame_any n n D E cd ce d d w4 HV4.out.2.2.1 HV4.out.2.2.2.1).mono ?_
    rintro e w5 ⟨rfl, hb⟩
    rw [sameB_refl d (fun i _ => rfl)]
    have HB5 := Lib.hid (HV4.out.2.2.2.2.trans (hb.mono HV4.out.2.2.2.2.size))
    clear hb HV4 y0 y1 y2 y3 y4 y5 y6 y7 y8 y9 z0 z1 z2 z3 z4 z5 z6 z7 z8 z9
    go_wp2_with fail
    refine (code_any er w5).mono ?_
    rintro e w' ⟨rfl, rfl⟩
    go_wp2_with fail
    refine (live_any w5).mono ?_
    rintro e w6 ⟨rfl, hb⟩
    have HB6 := Lib.hid (HB5.out.trans (hb.mono HB5.out.size))
    clear hb HB5
    go_wp2
    go_ret
    exact ⟨rfl, HB6.out⟩
end Go.Proofs.Ytmebbggmdfejkaa
