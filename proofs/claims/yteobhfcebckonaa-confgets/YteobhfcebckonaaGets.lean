/- For any bytes the law ConfGets returns true: the walk. -/
import Derived.Test.YteobhfcebckonaaQ
import Derived.Deep.CutBlock
namespace Go.Proofs.Yteobhfcebckonaa
set_option linter.unusedVariables false
set_option linter.unusedSimpArgs false
open Go.RowKit
open Go.RowKit (wrap64)

set_option maxHeartbeats 4000000 in
theorem confGets_walk (A : Option Addr) (len cap : Nat) (w : World) (h : IsBytes w A len) (hlm : len ≤ maxLen) (hlc : len ≤ cap) :
    Calls Try.prog 5 #[.slice A len cap] w (Says w (.bool true)) := by
  obtain ⟨x, rfl, hx⟩ := h
  unfold maxLen at hlm
  by_cases h3 : 300 < x.length
  · go_enter Try.func5, Try.ntmps5
    go_wp2_with fail
    refine (live_any w).mono ?_
    rintro e w' ⟨rfl, hb⟩
    have HB := Lib.hid hb
    clear hb
    go_wp2
    go_ret
    exact ⟨rfl, HB.out⟩
  · go_enter Try.func5, Try.ntmps5
    go_wp2_with fail
    refine (get_any A cap x w hx (by omega)).mono ?_
    rintro e w1 ⟨rfl, hb1⟩
    have hb1' := hb1.alloc hb1.size (.cells #[.int .i64 (getC x).1.id, .int .i64 (getC x).1.m, .int .i64 (getC x).1.u, .int .i64 (getC x).1.b, .int .i64 (getC x).1.cp, .int .i64 (getC x).1.z, .int .i64 (getC x).1.s, .int .i64 (getC x).1.mt, .int .i64 (getC x).1.o, .int .i64 (getC x).1.a, .int .i64 (getC x).1.l] 23)
    have hx1 : Rd (w1.alloc (.cells #[.int .i64 (getC x).1.id, .int .i64 (getC x).1.m, .int .i64 (getC x).1.u, .int .i64 (getC x).1.b, .int .i64 (getC x).1.cp, .int .i64 (getC x).1.z, .int .i64 (getC x).1.s, .int .i64 (getC x).1.mt, .int .i64 (getC x).1.o, .int .i64 (getC x).1.a, .int .i64 (getC x).1.l] 23)) (w1.alloc (.cells #[.int .i64 (getC x).1.id, .int .i64 (getC x).1.m, .int .i64 (getC x).1.u, .int .i64 (getC x).1.b, .int .i64 (getC x).1.cp, .int .i64 (getC x).1.z, .int .i64 (getC x).1.s, .int .i64 (getC x).1.mt, .int .i64 (getC x).1.o, .int .i64 (getC x).1.a, .int .i64 (getC x).1.l] 23)).heap.size A x := (hx.below hb1').more hb1'.size
    have hbx := Box.fresh w1 23 #[.int .i64 (getC x).1.id, .int .i64 (getC x).1.m, .int .i64 (getC x).1.u, .int .i64 (getC x).1.b, .int .i64 (getC x).1.cp, .int .i64 (getC x).1.z, .int .i64 (getC x).1.s, .int .i64 (getC x).1.mt, .int .i64 (getC x).1.o, .int .i64 (getC x).1.a, .int .i64 (getC x).1.l]
    go_wp2_with fail
    generalize (w1.alloc (.cells #[.int .i64 (getC x).1.id, .int .i64 (getC x).1.m, .int .i64 (getC x).1.u, .int .i64 (getC x).1.b, .int .i64 (getC x).1.cp, .int .i64 (getC x).1.z, .int .i64 (getC x).1.s, .int .i64 (getC x).1.mt, .int .i64 (getC x).1.o, .int .i64 (getC x).1.a, .int .i64 (getC x).1.l] 23)) = w2 at hb1' hx1 hbx ⊢
    generalize w1.heap.size = g1 at hbx ⊢
    refine (refGet_any A cap x w2 hx1 (by omega) hlc).mono ?_
    rintro e w3 ⟨rfl, hb3⟩
    have HB := Lib.hid (And.intro (hbx.later hb3) (hb1'.trans (hb3.mono hb1'.size)))
    clear hb1 hb1' hx1 hbx hb3 hx
    generalize getC x = q at HB ⊢
    obtain ⟨⟨n0, n1, n2, n3, n4, n5, n6, n7, n8, n9, n10⟩, er⟩ := q
    simp only at HB ⊢
    go_upto_region 5 with fail
    have HD : Hid (Box (w3.alloc (.cells #[.int .i64 n0, .int .i64 n1, .int .i64 n2, .int .i64 n3, .int .i64 n4, .int .i64 n5, .int .i64 n6, .int .i64 n7, .int .i64 n8, .int .i64 n9, .int .i64 n10] 23)) g1 23 #[.int .i64 n0, .int .i64 n1, .int .i64 n2, .int .i64 n3, .int .i64 n4, .int .i64 n5, .int .i64 n6, .int .i64 n7, .int .i64 n8, .int .i64 n9, .int .i64 n10] ∧ Box (w3.alloc (.cells #[.int .i64 n0, .int .i64 n1, .int .i64 n2, .int .i64 n3, .int .i64 n4, .int .i64 n5, .int .i64 n6, .int .i64 n7, .int .i64 n8, .int .i64 n9, .int .i64 n10] 23)) w3.heap.size 23 #[.int .i64 n0, .int .i64 n1, .int .i64 n2, .int .i64 n3, .int .i64 n4, .int .i64 n5, .int .i64 n6, .int .i64 n7, .int .i64 n8, .int .i64 n9, .int .i64 n10] ∧ Below w.heap.size w (w3.alloc (.cells #[.int .i64 n0, .int .i64 n1, .int .i64 n2, .int .i64 n3, .int .i64 n4, .int .i64 n5, .int .i64 n6, .int .i64 n7, .int .i64 n8, .int .i64 n9, .int .i64 n10] 23))) := ⟨HB.out.1.later ((Below.refl _ _).alloc (Nat.le_refl _) _), Box.fresh w3 23 _, HB.out.2.alloc HB.out.2.size _⟩
    generalize (w3.alloc (.cells #[.int .i64 n0, .int .i64 n1, .int .i64 n2, .int .i64 n3, .int .i64 n4, .int .i64 n5, .int .i64 n6, .int .i64 n7, .int .i64 n8, .int .i64 n9, .int .i64 n10] 23)) = w4 at HD ⊢
    generalize w3.heap.size = g2 at HD ⊢
    clear HB
    obtain ⟨y0, y1, y2, y3, y4, y5, y6, y7, y8, y9, y10⟩ := box11 HD.out.1
    obtain ⟨z0, z1, z2, z3, z4, z5, z6, z7, z8, z9, z10⟩ := box11 HD.out.2.1
    go_wp2_with fail
    refine (code_any er w4).mono ?_
    rintro e w' ⟨rfl, rfl⟩
    go_wp2_with fail
    refine (live_any w4).mono ?_
    rintro e w5 ⟨rfl, hb⟩
    have HE := Lib.hid (HD.out.2.2.trans (hb.mono HD.out.2.2.size))
    clear hb HD y0 y1 y2 y3 y4 y5 y6 y7 y8 y9 y10 z0 z1 z2 z3 z4 z5 z6 z7 z8 z9 z10
    go_wp2
    go_ret
    exact ⟨rfl, HE.out⟩
end Go.Proofs.Yteobhfcebckonaa
