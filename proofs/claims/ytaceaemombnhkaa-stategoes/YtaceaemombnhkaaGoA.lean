/- For any settings and any records the law StateGoes returns true, and what came in reads behind the call as it read before. No condition. -/
import Derived.Test.YtaceaemombnhkaaApB
import Derived.BigQuiet
import Derived.Test.YtaceaemombnhkaaSs
import Derived.Test.YtaceaemombnhkaaTa
import Derived.Test.YtaceaemombnhkaaSb
import Derived.Test.YtaceaemombnhkaaConf
import Derived.SizedLaws
import Derived.Deep.Slices
import Derived.ProofKit
import Derived.OpenShut
import Derived.ChangeOld
import Derived.Deep.DeepCutAuto
import Derived.Test.YtaceaemombnhkaaSo
import Derived.WalkKit
import Derived.ShutString
import Derived.Below
namespace Go.Proofs.Ytaceaemombnhkaa
set_option linter.unusedVariables false
set_option maxRecDepth 100000
set_option linter.unusedSimpArgs false
open Go.RowKit
open Go.RowKit (wrap64)

set_option maxHeartbeats 4000000 in
theorem changed_free (c : Cf) (ep sq : Int) (A : Option Addr) (st : List Int) (k : Nat) (D : Option Addr) (zs : List Zn) (d : Nat) (n : Nat → Int) (X : Option Addr) (b : List UInt8) (x q lo : Nat) (w : World) (h : StAt w (LT w.heap.size) A st k D zs d) (hl : st.length ≤ 1000000) (hzl : zs.length ≤ 1000000) (hq : q < zs.length) (hn : n 3 = (q : Int)) (Y : Option Addr) (y : Nat) (xs : List Value)
    (hcell : ∀ g off, D = some ⟨g, off, none⟩ → w.cell? ⟨g, off + q * 6 + 5, none⟩ = some (.slice Y zs[q].ps.length y)) (ho : w.ownsRow lo 55 2 (.slice Y zs[q].ps.length y) zs[q].ps.length xs) (hp : PsRow w (NB lo w) zs[q].ps xs) (hps : zs[q].ps.length ≤ 2) (reb : Bool) (hreb : reb = true ↔ 2 ∈ st) (hk : n 0 = 1 ∨ n 0 = 2 ∨ n 0 = 3 ∨ n 0 = 5) :
    Calls Try.prog 27 #[(.agg #[.int .i64 c.id, .int .i64 c.m, .int .i64 c.u, .int .i64 c.b, .int .i64 c.cp, .int .i64 c.z, .int .i64 c.s, .int .i64 c.mt, .int .i64 c.o, .int .i64 c.a, .int .i64 c.l, .int .i64 ep, .int .i64 sq, .slice A st.length k, .slice D zs.length d]), (.agg #[.int .i64 (n 0), .int .i64 (n 1), .int .i64 (n 2), .int .i64 (n 3), .int .i64 (n 4), .int .i64 (n 5), .int .i64 (n 6), .int .i64 (n 7), .int .i64 (n 8), .slice X b.length x])] w (GotN w lo (.slice Y zs[q].ps.length y) (nextZ reb zs[q] n b)) := by
  obtain ⟨g1, off, hD, hg1, hc⟩ := h.2.1 (by omega)
  obtain ⟨Y0, y0, c0, c1, c2, c3, c4, c5, _⟩ := hc q hq
  have hY := hcell g1 off hD
  rw [c5] at hY
  simp only [Option.some.injEq, Value.slice.injEq, true_and] at hY
  obtain ⟨rfl, rfl⟩ := hY
  have HZ : Hid (∀ w', Below w.heap.size w w' → w'.cell? ⟨g1, off + q * 6, none⟩ = some (.int .i64 zs[q].gen) ∧ w'.cell? ⟨g1, off + q * 6 + 1, none⟩ = some (.int .i64 zs[q].slot) ∧ w'.cell? ⟨g1, off + q * 6 + 2, none⟩ = some (.bool zs[q].full) ∧ w'.cell? ⟨g1, off + q * 6 + 3, none⟩ = some (.int .i64 zs[q].w) ∧ w'.cell? ⟨g1, off + q * 6 + 4, none⟩ = some (.bool zs[q].whole) ∧ w'.cell? ⟨g1, off + q * 6 + 5, none⟩ = some (.slice Y0 zs[q].ps.length y0)) := fun w' hb =>
    ⟨((Kept.below hb).cell (p := ⟨g1, off + q * 6, none⟩) hg1).trans c0, ((Kept.below hb).cell (p := ⟨g1, off + q * 6 + 1, none⟩) hg1).trans c1, ((Kept.below hb).cell (p := ⟨g1, off + q * 6 + 2, none⟩) hg1).trans c2, ((Kept.below hb).cell (p := ⟨g1, off + q * 6 + 3, none⟩) hg1).trans c3, ((Kept.below hb).cell (p := ⟨g1, off + q * 6 + 4, none⟩) hg1).trans c4, ((Kept.below hb).cell (p := ⟨g1, off + q * 6 + 5, none⟩) hg1).trans c5⟩
  have HS : Hid (∀ w', Below w.heap.size w w' → IntsAt w' (LT w'.heap.size) A st) := fun w' hb => (h.later hb).1
  have HQ : Hid (q < zs.length ∧ zs.length ≤ 1000000 ∧ st.length ≤ 1000000) := ⟨hq, hzl, hl⟩
  clear c0 c1 c2 c3 c4 c5 hc hg1 hcell
  generalize zs[q] = z at HZ ho hp hps ⊢
  have HPR : Hid (∀ w', Below w.heap.size w w' → PrsAt w' (TB lo w') Y0 z.ps ∧ z.ps.length ≤ y0) := fun w' hb => by
    obtain ⟨Y2, y2, e, h5, h6⟩ := hp.row ho
    simp only [Value.slice.injEq, true_and] at e
    obtain ⟨rfl, rfl⟩ := e
    exact ⟨h5.tb (fun k hk => hb.block k hk.lt), h6⟩
  have HTN : Hid (∀ (v : Value) w', Below w.heap.size w w' → Turn v.ownBlock.toList w w') := fun v w' hb => Turn.of_below hb (Nat.le_refl _)
  obtain ⟨gen, slot, full, zw, whole, ps⟩ := z
  dsimp only at HZ HPR
  have HN3 := Lib.hid hn
  have HDD := Lib.hid hD
  have HK := Lib.hid hk
  have HRB := Lib.hid hreb
  clear hn hD hk hreb ho hp hps
  go_enter Try.func27, Try.ntmps27
  go_upto_region 1 with fail
  have HV : Hid (Box (((w.alloc (.cells #[.int .i64 c.id, .int .i64 c.m, .int .i64 c.u, .int .i64 c.b, .int .i64 c.cp, .int .i64 c.z, .int .i64 c.s, .int .i64 c.mt, .int .i64 c.o, .int .i64 c.a, .int .i64 c.l, .int .i64 ep, .int .i64 sq, .slice A st.length k, .slice D zs.length d] 27)).alloc (.cells #[.int .i64 (n 0), .int .i64 (n 1), .int .i64 (n 2), .int .i64 (n 3), .int .i64 (n 4), .int .i64 (n 5), .int .i64 (n 6), .int .i64 (n 7), .int .i64 (n 8), .slice X b.length x] 30)).alloc (.cells #[.int .i64 0, .int .i64 0, .bool false, .int .i64 0, .bool false, .slice none 0 0] 51)) w.heap.size 27 #[.int .i64 c.id, .int .i64 c.m, .int .i64 c.u, .int .i64 c.b, .int .i64 c.cp, .int .i64 c.z, .int .i64 c.s, .int .i64 c.mt, .int .i64 c.o, .int .i64 c.a, .int .i64 c.l, .int .i64 ep, .int .i64 sq, .slice A st.length k, .slice D zs.length d] ∧ Box (((w.alloc (.cells #[.int .i64 c.id, .int .i64 c.m, .int .i64 c.u, .int .i64 c.b, .int .i64 c.cp, .int .i64 c.z, .int .i64 c.s, .int .i64 c.mt, .int .i64 c.o, .int .i64 c.a, .int .i64 c.l, .int .i64 ep, .int .i64 sq, .slice A st.length k, .slice D zs.length d] 27)).alloc (.cells #[.int .i64 (n 0), .int .i64 (n 1), .int .i64 (n 2), .int .i64 (n 3), .int .i64 (n 4), .int .i64 (n 5), .int .i64 (n 6), .int .i64 (n 7), .int .i64 (n 8), .slice X b.length x] 30)).alloc (.cells #[.int .i64 0, .int .i64 0, .bool false, .int .i64 0, .bool false, .slice none 0 0] 51)) (w.heap.size + 1) 30 #[.int .i64 (n 0), .int .i64 (n 1), .int .i64 (n 2), .int .i64 (n 3), .int .i64 (n 4), .int .i64 (n 5), .int .i64 (n 6), .int .i64 (n 7), .int .i64 (n 8), .slice X b.length x] ∧ Box (((w.alloc (.cells #[.int .i64 c.id, .int .i64 c.m, .int .i64 c.u, .int .i64 c.b, .int .i64 c.cp, .int .i64 c.z, .int .i64 c.s, .int .i64 c.mt, .int .i64 c.o, .int .i64 c.a, .int .i64 c.l, .int .i64 ep, .int .i64 sq, .slice A st.length k, .slice D zs.length d] 27)).alloc (.cells #[.int .i64 (n 0), .int .i64 (n 1), .int .i64 (n 2), .int .i64 (n 3), .int .i64 (n 4), .int .i64 (n 5), .int .i64 (n 6), .int .i64 (n 7), .int .i64 (n 8), .slice X b.length x] 30)).alloc (.cells #[.int .i64 0, .int .i64 0, .bool false, .int .i64 0, .bool false, .slice none 0 0] 51)) (w.heap.size + 2) 51 #[.int .i64 0, .int .i64 0, .bool false, .int .i64 0, .bool false, .slice none 0 0] ∧ Below w.heap.size w (((w.alloc (.cells #[.int .i64 c.id, .int .i64 c.m, .int .i64 c.u, .int .i64 c.b, .int .i64 c.cp, .int .i64 c.z, .int .i64 c.s, .int .i64 c.mt, .int .i64 c.o, .int .i64 c.a, .int .i64 c.l, .int .i64 ep, .int .i64 sq, .slice A st.length k, .slice D zs.length d] 27)).alloc (.cells #[.int .i64 (n 0), .int .i64 (n 1), .int .i64 (n 2), .int .i64 (n 3), .int .i64 (n 4), .int .i64 (n 5), .int .i64 (n 6), .int .i64 (n 7), .int .i64 (n 8), .slice X b.length x] 30)).alloc (.cells #[.int .i64 0, .int .i64 0, .bool false, .int .i64 0, .bool false, .slice none 0 0] 51)) ∧ (((w.alloc (.cells #[.int .i64 c.id, .int .i64 c.m, .int .i64 c.u, .int .i64 c.b, .int .i64 c.cp, .int .i64 c.z, .int .i64 c.s, .int .i64 c.mt, .int .i64 c.o, .int .i64 c.a, .int .i64 c.l, .int .i64 ep, .int .i64 sq, .slice A st.length k, .slice D zs.length d] 27)).alloc (.cells #[.int .i64 (n 0), .int .i64 (n 1), .int .i64 (n 2), .int .i64 (n 3), .int .i64 (n 4), .int .i64 (n 5), .int .i64 (n 6), .int .i64 (n 7), .int .i64 (n 8), .slice X b.length x] 30)).alloc (.cells #[.int .i64 0, .int .i64 0, .bool false, .int .i64 0, .bool false, .slice none 0 0] 51)).heap.size = w.heap.size + 3) := three_boxes w 27 30 51 #[.int .i64 c.id, .int .i64 c.m, .int .i64 c.u, .int .i64 c.b, .int .i64 c.cp, .int .i64 c.z, .int .i64 c.s, .int .i64 c.mt, .int .i64 c.o, .int .i64 c.a, .int .i64 c.l, .int .i64 ep, .int .i64 sq, .slice A st.length k, .slice D zs.length d] #[.int .i64 (n 0), .int .i64 (n 1), .int .i64 (n 2), .int .i64 (n 3), .int .i64 (n 4), .int .i64 (n 5), .int .i64 (n 6), .int .i64 (n 7), .int .i64 (n 8), .slice X b.length x] #[.int .i64 0, .int .i64 0, .bool false, .int .i64 0, .bool false, .slice none 0 0]
  generalize (((w.alloc (.cells #[.int .i64 c.id, .int .i64 c.m, .int .i64 c.u, .int .i64 c.b, .int .i64 c.cp, .int .i64 c.z, .int .i64 c.s, .int .i64 c.mt, .int .i64 c.o, .int .i64 c.a, .int .i64 c.l, .int .i64 ep, .int .i64 sq, .slice A st.length k, .slice D zs.length d] 27)).alloc (.cells #[.int .i64 (n 0), .int .i64 (n 1), .int .i64 (n 2), .int .i64 (n 3), .int .i64 (n 4), .int .i64 (n 5), .int .i64 (n 6), .int .i64 (n 7), .int .i64 (n 8), .slice X b.length x] 30)).alloc (.cells #[.int .i64 0, .int .i64 0, .bool false, .int .i64 0, .bool false, .slice none 0 0] 51)) = w0 at HV ⊢
  obtain ⟨s0, s1, s2, s3, s4, s5, s6, s7, s8, s9, s10, s11, s12, s13, s14⟩ := box15 HV.out.1
  obtain ⟨r0, r1, r2, r3, r4, r5, r6, r7, r8, r9⟩ := box10 HV.out.2.1
  obtain ⟨z0, z1, z2, z3, z4, z5⟩ := HZ.out w0 HV.out.2.2.2.1
  rw [HN3.out] at r3
  rw [HDD.out] at s14
  have hsz := HV.out.2.2.2.2
  go_upto_region 2 with fail
  have HX : Hid (ChgIn c ep sq A st k D zs d n X b x #[.int .i64 gen, .int .i64 slot, .bool full, .int .i64 zw, .bool whole, .slice Y0 ps.length y0] w (w0.alloc (.cells #[.int .i64 gen, .int .i64 slot, .bool full, .int .i64 zw, .bool whole, .slice Y0 ps.length y0] 51))) := by
    have hb := below_one w0 (.cells #[.int .i64 gen, .int .i64 slot, .bool full, .int .i64 zw, .bool whole, .slice Y0 ps.length y0] 51)
    have hz := Box.fresh w0 51 #[.int .i64 gen, .int .i64 slot, .bool full, .int .i64 zw, .bool whole, .slice Y0 ps.length y0]
    rw [hsz] at hz
    exact ⟨HV.out.1.later hb, HV.out.2.1.later hb, HV.out.2.2.1.later hb, hz, HV.out.2.2.2.1.trans (hb.mono (by omega))⟩
  generalize w0.alloc (.cells #[.int .i64 gen, .int .i64 slot, .bool full, .int .i64 zw, .bool whole, .slice Y0 ps.length y0] 51) = w1 at HX ⊢
  clear HV HZ hsz h s0 s1 s2 s3 s4 s5 s6 s7 s8 s9 s10 s11 s12 s13 s14 r0 r1 r2 r3 r4 r5 r6 r7 r8 r9 z0 z1 z2 z3 z4 z5
  obtain ⟨s0, s1, s2, s3, s4, s5, s6, s7, s8, s9, s10, s11, s12, s13, s14⟩ := box15 HX.out.1
  obtain ⟨r0, r1, r2, r3, r4, r5, r6, r7, r8, r9⟩ := box10 HX.out.2.1
  obtain ⟨z0, z1, z2, z3, z4, z5⟩ := box6 HX.out.2.2.2.1
  obtain ⟨f0, f1, f2, f3, f4, f5⟩ := froz6 HX.out.2.2.2.1
  by_cases k1 : n 0 = 1
  · have HNX : Hid (nextZ reb ⟨gen, slot, full, zw, whole, ps⟩ n b = ⟨gen, n 5, full, zw, reb, ps⟩) := if_pos k1
    rw [k1] at r0
    clear k1
    go_upto_region 9 with fail
    have HX2 := Lib.hid (HX.out.set 1 (.int .i64 (n 5)))
    generalize w1.setCell ⟨w.heap.size + 3, 1, none⟩ (.int .i64 (n 5)) = w2 at HX2 ⊢
    clear HX s0 s1 s2 s3 s4 s5 s6 s7 s8 s9 s10 s11 s12 s13 s14 r0 r1 r2 r3 r4 r5 r6 r7 r8 r9 z0 z1 z2 z3 z4 z5 f0 f1 f2 f3 f4 f5
    obtain ⟨s0, s1, s2, s3, s4, s5, s6, s7, s8, s9, s10, s11, s12, s13, s14⟩ := box15 HX2.out.1
    obtain ⟨r0, r1, r2, r3, r4, r5, r6, r7, r8, r9⟩ := box10 HX2.out.2.1
    obtain ⟨z0, z1, z2, z3, z4, z5⟩ := box6 HX2.out.2.2.2.1
    obtain ⟨f0, f1, f2, f3, f4, f5⟩ := froz6 HX2.out.2.2.2.1
    go_wp2_with fail
    refine (rebuilds_any c ep sq A st k D zs d w2 (HS.out w2 HX2.out.2.2.2.2) HQ.out.2.2).mono ?_
    rintro e w4 ⟨b4, rfl, hr4, hb4⟩
    have hbb : b4 = reb := by
      have h1 := hr4.trans HRB.out.symm
      cases b4 <;> cases reb <;> simp_all
    subst hbb
    have HX4 := Lib.hid (HX2.out.later hb4)
    clear hb4 hr4 HX2 s0 s1 s2 s3 s4 s5 s6 s7 s8 s9 s10 s11 s12 s13 s14 r0 r1 r2 r3 r4 r5 r6 r7 r8 r9 z0 z1 z2 z3 z4 z5 f0 f1 f2 f3 f4 f5 HRB
    obtain ⟨s0, s1, s2, s3, s4, s5, s6, s7, s8, s9, s10, s11, s12, s13, s14⟩ := box15 HX4.out.1
    obtain ⟨r0, r1, r2, r3, r4, r5, r6, r7, r8, r9⟩ := box10 HX4.out.2.1
    obtain ⟨z0, z1, z2, z3, z4, z5⟩ := box6 HX4.out.2.2.2.1
    obtain ⟨f0, f1, f2, f3, f4, f5⟩ := froz6 HX4.out.2.2.2.1
    go_upto_region 14 with fail
    have HX5 := Lib.hid (HX4.out.set 4 (.bool b4))
    generalize w4.setCell ⟨w.heap.size + 3, 4, none⟩ (.bool b4) = w5 at HX5 ⊢
    clear HX4 s0 s1 s2 s3 s4 s5 s6 s7 s8 s9 s10 s11 s12 s13 s14 r0 r1 r2 r3 r4 r5 r6 r7 r8 r9 z0 z1 z2 z3 z4 z5 f0 f1 f2 f3 f4 f5
    obtain ⟨z0, z1, z2, z3, z4, z5⟩ := box6 HX5.out.2.2.2.1
    obtain ⟨r0, r1, r2, r3, r4, r5⟩ := box6 HX5.out.2.2.1
    obtain ⟨f0, f1, f2, f3, f4, f5⟩ := froz6 HX5.out.2.2.1
    go_wp2_with fail
    have HF := Lib.hid (put6 (.int .i64 gen) (.int .i64 (n 5)) (.bool full) (.int .i64 zw) (.bool b4) (.slice Y0 ps.length y0) HX5.out.2.2.1 rfl HX5.out.2.2.2.2 (show w.heap.size ≤ w.heap.size + 2 by omega))
    generalize ((((((w5.setCell ⟨w.heap.size + 2, 0, none⟩ (.int .i64 gen)).setCell ⟨w.heap.size + 2, 1, none⟩ (.int .i64 (n 5))).setCell ⟨w.heap.size + 2, 2, none⟩ (.bool full)).setCell ⟨w.heap.size + 2, 3, none⟩ (.int .i64 zw)).setCell ⟨w.heap.size + 2, 4, none⟩ (.bool b4)).setCell ⟨w.heap.size + 2, 5, none⟩ (.slice Y0 ps.length y0)) = w9 at HF ⊢
    clear HX5 z0 z1 z2 z3 z4 z5 r0 r1 r2 r3 r4 r5 f0 f1 f2 f3 f4 f5
    obtain ⟨r0, r1, r2, r3, r4, r5⟩ := box6 HF.out.1
    rw [HNX.out]
    refine bodyPost_ret (v := .agg #[.int .i64 gen, .int .i64 (n 5), .bool full, .int .i64 zw, .bool b4, .slice Y0 ps.length y0]) (by simp [results, Try.results27, go_sem, *]) rfl ⟨Y0, y0, rfl, (HPR.out w9 HF.out.2).1, (HPR.out w9 HF.out.2).2, HTN.out _ _ HF.out.2⟩
  have kb1 : (n 0 == 1) = false := by simpa using k1
  by_cases k5 : n 0 = 5
  · have HNX : Hid (nextZ reb ⟨gen, slot, full, zw, whole, ps⟩ n b = ⟨gen, slot, full, zw, reb, ps⟩) := (if_neg k1).trans (if_pos k5)
    rw [k5] at r0
    clear k5 kb1 k1
    go_upto_region 9 with fail
    clear s0 s1 s2 s3 s4 s5 s6 s7 s8 s9 s10 s11 s12 s13 s14 r0 r1 r2 r3 r4 r5 r6 r7 r8 r9 z0 z1 z2 z3 z4 z5 f0 f1 f2 f3 f4 f5
    obtain ⟨s0, s1, s2, s3, s4, s5, s6, s7, s8, s9, s10, s11, s12, s13, s14⟩ := box15 HX.out.1
    obtain ⟨r0, r1, r2, r3, r4, r5, r6, r7, r8, r9⟩ := box10 HX.out.2.1
    obtain ⟨z0, z1, z2, z3, z4, z5⟩ := box6 HX.out.2.2.2.1
    obtain ⟨f0, f1, f2, f3, f4, f5⟩ := froz6 HX.out.2.2.2.1
    go_wp2_with fail
    refine (rebuilds_any c ep sq A st k D zs d w1 (HS.out w1 HX.out.2.2.2.2) HQ.out.2.2).mono ?_
    rintro e w4 ⟨b4, rfl, hr4, hb4⟩
    have hbb : b4 = reb := by
      have h1 := hr4.trans HRB.out.symm
      cases b4 <;> cases reb <;> simp_all
    subst hbb
    have HX4 := Lib.hid (HX.out.later hb4)
    clear hb4 hr4 HX s0 s1 s2 s3 s4 s5 s6 s7 s8 s9 s10 s11 s12 s13 s14 r0 r1 r2 r3 r4 r5 r6 r7 r8 r9 z0 z1 z2 z3 z4 z5 f0 f1 f2 f3 f4 f5 HRB
    obtain ⟨s0, s1, s2, s3, s4, s5, s6, s7, s8, s9, s10, s11, s12, s13, s14⟩ := box15 HX4.out.1
    obtain ⟨r0, r1, r2, r3, r4, r5, r6, r7, r8, r9⟩ := box10 HX4.out.2.1
    obtain ⟨z0, z1, z2, z3, z4, z5⟩ := box6 HX4.out.2.2.2.1
    obtain ⟨f0, f1, f2, f3, f4, f5⟩ := froz6 HX4.out.2.2.2.1
    go_upto_region 14 with fail
    have HX5 := Lib.hid (HX4.out.set 4 (.bool b4))
    generalize w4.setCell ⟨w.heap.size + 3, 4, none⟩ (.bool b4) = w5 at HX5 ⊢
    clear HX4 s0 s1 s2 s3 s4 s5 s6 s7 s8 s9 s10 s11 s12 s13 s14 r0 r1 r2 r3 r4 r5 r6 r7 r8 r9 z0 z1 z2 z3 z4 z5 f0 f1 f2 f3 f4 f5
    obtain ⟨z0, z1, z2, z3, z4, z5⟩ := box6 HX5.out.2.2.2.1
    obtain ⟨r0, r1, r2, r3, r4, r5⟩ := box6 HX5.out.2.2.1
    obtain ⟨f0, f1, f2, f3, f4, f5⟩ := froz6 HX5.out.2.2.1
    go_wp2_with fail
    have HF := Lib.hid (put6 (.int .i64 gen) (.int .i64 slot) (.bool full) (.int .i64 zw) (.bool b4) (.slice Y0 ps.length y0) HX5.out.2.2.1 rfl HX5.out.2.2.2.2 (show w.heap.size ≤ w.heap.size + 2 by omega))
    generalize ((((((w5.setCell ⟨w.heap.size + 2, 0, none⟩ (.int .i64 gen)).setCell ⟨w.heap.size + 2, 1, none⟩ (.int .i64 slot)).setCell ⟨w.heap.size + 2, 2, none⟩ (.bool full)).setCell ⟨w.heap.size + 2, 3, none⟩ (.int .i64 zw)).setCell ⟨w.heap.size + 2, 4, none⟩ (.bool b4)).setCell ⟨w.heap.size + 2, 5, none⟩ (.slice Y0 ps.length y0)) = w9 at HF ⊢
    clear HX5 z0 z1 z2 z3 z4 z5 r0 r1 r2 r3 r4 r5 f0 f1 f2 f3 f4 f5
    obtain ⟨r0, r1, r2, r3, r4, r5⟩ := box6 HF.out.1
    rw [HNX.out]
    refine bodyPost_ret (v := .agg #[.int .i64 gen, .int .i64 slot, .bool full, .int .i64 zw, .bool b4, .slice Y0 ps.length y0]) (by simp [results, Try.results27, go_sem, *]) rfl ⟨Y0, y0, rfl, (HPR.out w9 HF.out.2).1, (HPR.out w9 HF.out.2).2, HTN.out _ _ HF.out.2⟩
  have kb5 : (n 0 == 5) = false := by simpa using k5
  by_cases k2 : n 0 = 2
  · have HNX : Hid (nextZ reb ⟨gen, slot, full, zw, whole, ps⟩ n b = ⟨n 4, -1, false, 0, false, []⟩) := (if_neg k1).trans ((if_neg k5).trans (if_pos k2))
    rw [k2] at r0
    clear k2 kb1 k1 kb5 k5
    go_upto_region 14 with fail
    have HX5 : Hid (ChgIn c ep sq A st k D zs d n X b x #[.int .i64 (n 4), .int .i64 (-1), .bool false, .int .i64 0, .bool false, .slice none 0 0] w ((((((w1.setCell ⟨w.heap.size + 3, 0, none⟩ (.int .i64 (n 4))).setCell ⟨w.heap.size + 3, 1, none⟩ (.int .i64 (-1))).setCell ⟨w.heap.size + 3, 2, none⟩ (.bool false)).setCell ⟨w.heap.size + 3, 3, none⟩ (.int .i64 0)).setCell ⟨w.heap.size + 3, 4, none⟩ (.bool false)).setCell ⟨w.heap.size + 3, 5, none⟩ (.slice none 0 0))) := by
      obtain ⟨q1, q2⟩ := put6 (.int .i64 (n 4)) (.int .i64 (-1)) (.bool false) (.int .i64 0) (.bool false) (.slice none 0 0) HX.out.2.2.2.1 rfl (Below.refl (w.heap.size + 3) w1) (Nat.le_refl _)
      exact ⟨HX.out.1.under q2 (by omega), HX.out.2.1.under q2 (by omega), HX.out.2.2.1.under q2 (by omega), q1, HX.out.2.2.2.2.trans (q2.mono (by omega))⟩
    generalize ((((((w1.setCell ⟨w.heap.size + 3, 0, none⟩ (.int .i64 (n 4))).setCell ⟨w.heap.size + 3, 1, none⟩ (.int .i64 (-1))).setCell ⟨w.heap.size + 3, 2, none⟩ (.bool false)).setCell ⟨w.heap.size + 3, 3, none⟩ (.int .i64 0)).setCell ⟨w.heap.size + 3, 4, none⟩ (.bool false)).setCell ⟨w.heap.size + 3, 5, none⟩ (.slice none 0 0)) = w5 at HX5 ⊢
    clear HX s0 s1 s2 s3 s4 s5 s6 s7 s8 s9 s10 s11 s12 s13 s14 r0 r1 r2 r3 r4 r5 r6 r7 r8 r9 z0 z1 z2 z3 z4 z5 f0 f1 f2 f3 f4 f5
    obtain ⟨z0, z1, z2, z3, z4, z5⟩ := box6 HX5.out.2.2.2.1
    obtain ⟨r0, r1, r2, r3, r4, r5⟩ := box6 HX5.out.2.2.1
    obtain ⟨f0, f1, f2, f3, f4, f5⟩ := froz6 HX5.out.2.2.1
    go_wp2_with fail
    have HF := Lib.hid (put6 (.int .i64 (n 4)) (.int .i64 (-1)) (.bool false) (.int .i64 0) (.bool false) (.slice none 0 0) HX5.out.2.2.1 rfl HX5.out.2.2.2.2 (show w.heap.size ≤ w.heap.size + 2 by omega))
    generalize ((((((w5.setCell ⟨w.heap.size + 2, 0, none⟩ (.int .i64 (n 4))).setCell ⟨w.heap.size + 2, 1, none⟩ (.int .i64 (-1))).setCell ⟨w.heap.size + 2, 2, none⟩ (.bool false)).setCell ⟨w.heap.size + 2, 3, none⟩ (.int .i64 0)).setCell ⟨w.heap.size + 2, 4, none⟩ (.bool false)).setCell ⟨w.heap.size + 2, 5, none⟩ (.slice none 0 0)) = w9 at HF ⊢
    clear HX5 z0 z1 z2 z3 z4 z5 r0 r1 r2 r3 r4 r5 f0 f1 f2 f3 f4 f5
    obtain ⟨r0, r1, r2, r3, r4, r5⟩ := box6 HF.out.1
    rw [HNX.out]
    refine bodyPost_ret (v := .agg #[.int .i64 (n 4), .int .i64 (-1), .bool false, .int .i64 0, .bool false, .slice none 0 0]) (by simp [results, Try.results27, go_sem, *]) rfl ⟨none, 0, rfl, PrsAt.nil, Nat.le_refl _, HTN.out _ _ HF.out.2⟩
  have kb2 : (n 0 == 2) = false := by simpa using k2
  have k3 : n 0 = 3 := by have := HK.out; omega
  have HNX : Hid (nextZ reb ⟨gen, slot, full, zw, whole, ps⟩ n b = ⟨gen, slot, true, n 6, whole, ps⟩) := (if_neg k1).trans ((if_neg k5).trans ((if_neg k2).trans (if_pos k3)))
  rw [k3] at r0
  clear k2 kb1 k1 kb5 k5 kb2 k3
  go_upto_region 11 with fail
  go_region
  have HX5 : Hid (ChgIn c ep sq A st k D zs d n X b x #[.int .i64 gen, .int .i64 slot, .bool true, .int .i64 (n 6), .bool whole, .slice Y0 ps.length y0] w (((w1.setCell ⟨w.heap.size + 3, 2, none⟩ (.bool true)).setCell ⟨w.heap.size + 3, 3, none⟩ (.int .i64 (n 6))).drew)) := by
    have h := ((HX.out.set 2 (.bool true)).set 3 (.int .i64 (n 6))).later (Below.refl _ _).drew
    refine Lib.hid ?_
    simpa using h
  generalize ((w1.setCell ⟨w.heap.size + 3, 2, none⟩ (.bool true)).setCell ⟨w.heap.size + 3, 3, none⟩ (.int .i64 (n 6))).drew = w5 at HX5 ⊢
  clear HX s0 s1 s2 s3 s4 s5 s6 s7 s8 s9 s10 s11 s12 s13 s14 r0 r1 r2 r3 r4 r5 r6 r7 r8 r9 z0 z1 z2 z3 z4 z5 f0 f1 f2 f3 f4 f5
  obtain ⟨z0, z1, z2, z3, z4, z5⟩ := box6 HX5.out.2.2.2.1
  obtain ⟨r0, r1, r2, r3, r4, r5⟩ := box6 HX5.out.2.2.1
  obtain ⟨f0, f1, f2, f3, f4, f5⟩ := froz6 HX5.out.2.2.1
  go_wp2_with fail
  have HF := Lib.hid (put6 (.int .i64 gen) (.int .i64 slot) (.bool true) (.int .i64 (n 6)) (.bool whole) (.slice Y0 ps.length y0) HX5.out.2.2.1 rfl HX5.out.2.2.2.2 (show w.heap.size ≤ w.heap.size + 2 by omega))
  generalize ((((((w5.setCell ⟨w.heap.size + 2, 0, none⟩ (.int .i64 gen)).setCell ⟨w.heap.size + 2, 1, none⟩ (.int .i64 slot)).setCell ⟨w.heap.size + 2, 2, none⟩ (.bool true)).setCell ⟨w.heap.size + 2, 3, none⟩ (.int .i64 (n 6))).setCell ⟨w.heap.size + 2, 4, none⟩ (.bool whole)).setCell ⟨w.heap.size + 2, 5, none⟩ (.slice Y0 ps.length y0)) = w9 at HF ⊢
  clear HX5 z0 z1 z2 z3 z4 z5 r0 r1 r2 r3 r4 r5 f0 f1 f2 f3 f4 f5
  obtain ⟨r0, r1, r2, r3, r4, r5⟩ := box6 HF.out.1
  rw [HNX.out]
  refine bodyPost_ret (v := .agg #[.int .i64 gen, .int .i64 slot, .bool true, .int .i64 (n 6), .bool whole, .slice Y0 ps.length y0]) (by simp [results, Try.results27, go_sem, *]) rfl ⟨Y0, y0, rfl, (HPR.out w9 HF.out.2).1, (HPR.out w9 HF.out.2).2, HTN.out _ _ HF.out.2⟩
end Go.Proofs.Ytaceaemombnhkaa
namespace Go.Proofs.Ytaceaemombnhkaa
set_option linter.unusedVariables false
set_option maxRecDepth 100000
set_option linter.unusedSimpArgs false
open Go.RowKit
open Go.RowKit (wrap64)

/-- The state and the record boxed, and the answer's block. -/
def AplIn (cs : Array Value) (n : Nat → Int) (X : Option Addr) (b : List UInt8) (x : Nat) (w w0 : World) : Prop :=
  Box w0 w.heap.size 27 cs ∧ Box w0 (w.heap.size + 1) 30 #[.int .i64 (n 0), .int .i64 (n 1), .int .i64 (n 2), .int .i64 (n 3), .int .i64 (n 4), .int .i64 (n 5), .int .i64 (n 6), .int .i64 (n 7), .int .i64 (n 8), .slice X b.length x] ∧ Box w0 (w.heap.size + 2) 27 #[.int .i64 0, .int .i64 0, .int .i64 0, .int .i64 0, .int .i64 0, .int .i64 0, .int .i64 0, .int .i64 0, .int .i64 0, .int .i64 0, .int .i64 0, .int .i64 0, .int .i64 0, .slice none 0 0, .slice none 0 0] ∧ Below w.heap.size w w0 ∧ w.heap.size + 3 ≤ w0.heap.size
theorem AplIn.later {cs : Array Value} {n : Nat → Int} {X : Option Addr} {b : List UInt8} {x : Nat} {w w0 w1 : World} (h : AplIn cs n X b x w w0) (hb : Below w0.heap.size w0 w1) : AplIn cs n X b x w w1 :=
  ⟨h.1.later hb, h.2.1.later hb, h.2.2.1.later hb, h.2.2.2.1.trans (hb.mono h.2.2.2.1.size), Nat.le_trans h.2.2.2.2 hb.size⟩
theorem AplIn.turn {cs : Array Value} {n : Nat → Int} {X : Option Addr} {b : List UInt8} {x g : Nat} {w w0 w1 : World} (h : AplIn cs n X b x w w0) (ht : Turn [g] w0 w1) (hg : w.heap.size + 3 ≤ g) : AplIn cs n X b x w w1 :=
  ⟨h.1.turn ht (by simp; omega), h.2.1.turn ht (by simp; omega), h.2.2.1.turn ht (by simp; omega), h.2.2.2.1.trans (ht.below (fun k hk => by have : k = g := by { simpa using hk }; omega) h.2.2.2.1.size), Nat.le_trans h.2.2.2.2 ht.size⟩
theorem AplIn.var {cs cs' : Array Value} {n : Nat → Int} {X : Option Addr} {b : List UInt8} {x : Nat} {w w0 w1 : World} (h : AplIn cs n X b x w w0) (hb : Box w1 w.heap.size 27 cs') (ht : Turn [w.heap.size] w0 w1) : AplIn cs' n X b x w w1 :=
  ⟨hb, h.2.1.turn ht (by simp), h.2.2.1.turn ht (by simp), h.2.2.2.1.trans (ht.below (by simp) h.2.2.2.1.size), Nat.le_trans h.2.2.2.2 ht.size⟩
theorem res9 {tmps : Array Value} {w : World} {g : Nat} {cs : Array Value} {v : Value} (hp : tmps.getD 4 undef = .pointer (some ⟨g, 0, none⟩)) (hv : tmps.getD 5 undef = v) (hg : Box w g 27 cs) (hn : cs.size = 15) : (results Try.f9 tmps).run Try.prog w = .ok (.tuple #[.agg cs, v]) w := by
  have h1 := run_loadVar_row (P := Try.prog) w g 27 27 cs (0, 0) _ hg rfl rfl (by rw [hn]; exact Try.size27)
  have hp' : tmps[4]?.getD undef = .pointer (some ⟨g, 0, none⟩) := by simpa using hp
  have hv' : tmps[5]?.getD undef = v := by simpa using hv
  simp [results, Try.results9, hp', hv', asAddr, h1]
theorem Turn.mono {gs gs' : List Nat} {w w' : World} (h : Turn gs w w') (hs : ∀ k ∈ gs, k ∈ gs') : Turn gs' w w' := ⟨h.os, h.tape, h.output, h.size, fun k hk hn => h.block k hk (fun hm => hn (hs k hm))⟩
theorem own_box {w : World} {base e size n g c : Nat} {xs : List Value} (h : w.ownsRow base e size (.slice (some ⟨g, 0, none⟩) n c) n xs) : ∃ cur, Box w g e cur := by
  rcases h.2 with ⟨h0, _⟩ | ⟨g', cap, cur, hv, _, hh, _⟩
  · simp at h0
  · simp only [Value.slice.injEq, Option.some.injEq, Addr.mk.injEq, and_true, true_and] at hv
    obtain ⟨rfl, _⟩ := hv
    exact ⟨cur, hh⟩
/-- Behind Clone: the state's, the record's and the answer's blocks, and the rows of the call's own. -/
structure ApB (c : Cf) (ep sq : Int) (st : List Int) (zs : List Zn) (n : Nat → Int) (X : Option Addr) (b : List UInt8) (x : Nat) (A : Option Addr) (k : Nat) (D : Option Addr) (d : Nat) (zx : List Value) (bs : List Nat) (lo : Nat) (w wr : World) : Prop where
  var : Box wr w.heap.size 27 #[.int .i64 c.id, .int .i64 c.m, .int .i64 c.u, .int .i64 c.b, .int .i64 c.cp, .int .i64 c.z, .int .i64 c.s, .int .i64 c.mt, .int .i64 c.o, .int .i64 c.a, .int .i64 c.l, .int .i64 ep, .int .i64 sq, .slice A st.length k, .slice D zs.length d]
  rcd : Box wr (w.heap.size + 1) 30 #[.int .i64 (n 0), .int .i64 (n 1), .int .i64 (n 2), .int .i64 (n 3), .int .i64 (n 4), .int .i64 (n 5), .int .i64 (n 6), .int .i64 (n 7), .int .i64 (n 8), .slice X b.length x]
  ret : Box wr (w.heap.size + 2) 27 #[.int .i64 0, .int .i64 0, .int .i64 0, .int .i64 0, .int .i64 0, .int .i64 0, .int .i64 0, .int .i64 0, .int .i64 0, .int .i64 0, .int .i64 0, .int .i64 0, .int .i64 0, .slice none 0 0, .slice none 0 0]
  ints : wr.ownsRow lo 3 1 (.slice A st.length k) st.length (st.map (Value.int .i64))
  zons : wr.ownsRow lo 51 6 (.slice D zs.length d) zs.length zx
  new : ZOwn wr lo zs zx bs
  nod : bs.Nodup
  below : Below w.heap.size w wr
  lo_ : w.heap.size + 3 ≤ lo ∧ lo ≤ wr.heap.size
/-- The same, the zones being read. -/
structure ApC (c : Cf) (ep sq : Int) (st : List Int) (zs : List Zn) (A : Option Addr) (k : Nat) (D : Option Addr) (d : Nat) (zx : List Value) (lo : Nat) (w wr : World) : Prop where
  var : Box wr w.heap.size 27 #[.int .i64 c.id, .int .i64 c.m, .int .i64 c.u, .int .i64 c.b, .int .i64 c.cp, .int .i64 c.z, .int .i64 c.s, .int .i64 c.mt, .int .i64 c.o, .int .i64 c.a, .int .i64 c.l, .int .i64 ep, .int .i64 sq, .slice A st.length k, .slice D zs.length d]
  ret : Box wr (w.heap.size + 2) 27 #[.int .i64 0, .int .i64 0, .int .i64 0, .int .i64 0, .int .i64 0, .int .i64 0, .int .i64 0, .int .i64 0, .int .i64 0, .int .i64 0, .int .i64 0, .int .i64 0, .int .i64 0, .slice none 0 0, .slice none 0 0]
  ints : wr.ownsRow lo 3 1 (.slice A st.length k) st.length (st.map (Value.int .i64))
  zons : wr.ownsRow lo 51 6 (.slice D zs.length d) zs.length zx
  row : ZsRow wr (TB lo wr) zs zx
  below : Below w.heap.size w wr
  lo_ : w.heap.size + 3 ≤ lo ∧ lo ≤ wr.heap.size
section
variable {c : Cf} {ep sq : Int} {st : List Int} {zs : List Zn} {n : Nat → Int} {X : Option Addr} {b : List UInt8} {x : Nat} {A : Option Addr} {k : Nat} {D : Option Addr} {d : Nat} {zx : List Value} {bs : List Nat} {lo : Nat} {w wr w1 : World}
theorem ApB.drew (h : ApB c ep sq st zs n X b x A k D d zx bs lo w wr) : ApB c ep sq st zs n X b x A k D d zx bs lo w wr.drew :=
  ⟨h.var, h.rcd, h.ret, h.ints, h.zons, ZOwn.keepT (w := wr) (w' := wr.drew) (fun k hk => rfl) h.new, h.nod, h.below.drew, h.lo_⟩
theorem ApB.seq {v : Int} (h : ApB c ep sq st zs n X b x A k D d zx bs lo w wr) (hb : Box w1 w.heap.size 27 #[.int .i64 c.id, .int .i64 c.m, .int .i64 c.u, .int .i64 c.b, .int .i64 c.cp, .int .i64 c.z, .int .i64 c.s, .int .i64 c.mt, .int .i64 c.o, .int .i64 c.a, .int .i64 c.l, .int .i64 ep, .int .i64 v, .slice A st.length k, .slice D zs.length d]) (ht : Turn [w.heap.size] wr w1) : ApB c ep v st zs n X b x A k D d zx bs lo w w1 :=
  ⟨hb, h.rcd.turn ht (by simp), h.ret.turn ht (by simp), own_turn h.ints h.var (by decide) ht, own_turn h.zons h.var (by decide) ht, h.new.keepT (fun k hk => ht.block k hk.lt (by simpa using hk.box h.var (by decide) (by decide))), h.nod, h.below.trans (ht.below (by simp) h.below.size), h.lo_.1, Nat.le_trans h.lo_.2 ht.size⟩
theorem ApB.setI {g m : Nat} {v : Int} (h : ApB c ep sq st zs n X b x (some ⟨g, 0, none⟩) k D d zx bs lo w wr) (hm : m < st.length) : ApB c ep sq (st.set m v) zs n X b x (some ⟨g, 0, none⟩) k D d zx bs lo w (wr.setCell ⟨g, m, none⟩ (.int .i64 v)) := by
  obtain ⟨cur, hcur⟩ := own_box h.ints
  have ht : Turn [g] wr (wr.setCell ⟨g, m, none⟩ (.int .i64 v)) := (Turn.refl _ _).put (Or.inl (by simp)) _
  have hg := World.ownsRow.lt h.ints g rfl
  have hlo := h.lo_
  have ho := own_store (i := m) (.int .i64 v) h.ints (by omega)
  rw [← List.map_set] at ho
  refine ⟨?_, h.rcd.turn ht (by simp; omega), h.ret.turn ht (by simp; omega), ?_, own_set h.zons hcur (by decide), h.new.keepT (fun k hk => ht.block k hk.lt (by simpa using hk.box hcur (by decide) (by decide))), h.nod, h.below.trans (ht.below (fun k hk => by have : k = g := by { simpa using hk }; omega) h.below.size), hlo.1, Nat.le_trans hlo.2 ht.size⟩
  · rw [List.length_set]
    exact h.var.turn ht (by simp; omega)
  · rw [List.length_set]
    exact ho
theorem ApB.setZ {g q : Nat} (h : ApB c ep sq st zs n X b x A k (some ⟨g, 0, none⟩) d zx bs lo w wr) (hq : q < zs.length) : ApB c ep sq st (zs.set q (bareZ zs[q])) n X b x A k (some ⟨g, 0, none⟩) d (zx.set (q * 6 + 4) (.bool false)) bs lo w (wr.setCell ⟨g, q * 6 + 4, none⟩ (.bool false)) := by
  obtain ⟨cur, hcur⟩ := own_box h.zons
  have ht : Turn [g] wr (wr.setCell ⟨g, q * 6 + 4, none⟩ (.bool false)) := (Turn.refl _ _).put (Or.inl (by simp)) _
  have hg := World.ownsRow.lt h.zons g rfl
  have hlo := h.lo_
  have ho := own_store (i := q * 6 + 4) (.bool false) h.zons (by omega)
  refine ⟨?_, h.rcd.turn ht (by simp; omega), h.ret.turn ht (by simp; omega), own_set h.ints hcur (by decide), ?_, (h.new.keepT (fun k hk => ht.block k hk.lt (by simpa using hk.box hcur (by decide) (by decide)))).bare hq, h.nod, h.below.trans (ht.below (fun k hk => by have : k = g := by { simpa using hk }; omega) h.below.size), hlo.1, Nat.le_trans hlo.2 ht.size⟩
  · rw [List.length_set]
    exact h.var.turn ht (by simp; omega)
  · rw [List.length_set]
    exact ho
theorem ApB.toC (h : ApB c ep sq st zs n X b x A k D d zx bs lo w wr) (hl : ∀ z ∈ zs, z.ps.length ≤ 140737488351232) : ApC c ep sq st zs A k D d zx lo w wr :=
  ⟨h.var, h.ret, h.ints, h.zons, h.new.row hl, h.below, h.lo_⟩
/-- What is answered, when it is stored. -/
theorem ApC.fin (h : ApC c ep sq st zs A k D d zx lo w wr) (ht : Turn [w.heap.size + 2] wr w1) : StAt w1 (Ext (fun _ => False) w.heap.size w1) A st k D zs d ∧ Below w.heap.size w w1 := by
  have hlo := h.lo_.1
  have hb : Below w.heap.size w w1 := h.below.trans (ht.below (by simp) h.below.size)
  obtain ⟨h1, h2⟩ := ints_own (S := fun _ => False) (own_turn h.ints h.ret (by decide) ht)
  have hk : ∀ k, TB lo wr k → w1.heap[k]? = wr.heap[k]? := fun k hk => ht.block k hk.lt (by simpa using hk.box h.ret (by decide) (by decide))
  obtain ⟨h3, h4⟩ := (h.row.tb hk).rowOf (S' := Ext (fun _ => False) w.heap.size w1) rfl (own_turn h.zons h.ret (by decide) ht) (fun _ h => Or.inr ⟨by have := h.1; omega, h.lt⟩) (fun _ h1 h2 => Or.inr ⟨by omega, h2⟩)
  exact ⟨⟨h1.mono (Ext.low (by omega)), h3, h2, h4⟩, hb⟩
end
/-- What Apply answers, its rows in new blocks. -/
def GotAN (w : World) (s : St) (n : Nat → Int) (b : List UInt8) (e : Ending) (w' : World) : Prop :=
  ∃ (t : St) (er : Int) (A : Option Addr) (k : Nat) (D : Option Addr) (d : Nat), e = .returned (.tuple #[(.agg #[.int .i64 t.c.id, .int .i64 t.c.m, .int .i64 t.c.u, .int .i64 t.c.b, .int .i64 t.c.cp, .int .i64 t.c.z, .int .i64 t.c.s, .int .i64 t.c.mt, .int .i64 t.c.o, .int .i64 t.c.a, .int .i64 t.c.l, .int .i64 t.ep, .int .i64 t.sq, .slice A t.st.length k, .slice D t.zs.length d]), .int .i64 er]) ∧ Applied s n b t er ∧ StAt w' (Ext (fun _ => False) w.heap.size w') A t.st k D t.zs d ∧ Below w.heap.size w w'
theorem GotAN.arg {w w' : World} {s : St} {n : Nat → Int} {b : List UInt8} (h : ¬ RightS s) (hb : Below w.heap.size w w') : GotAN w s n b (.returned (.tuple #[.agg #[.int .i64 0, .int .i64 0, .int .i64 0, .int .i64 0, .int .i64 0, .int .i64 0, .int .i64 0, .int .i64 0, .int .i64 0, .int .i64 0, .int .i64 0, .int .i64 0, .int .i64 0, .slice none 0 0, .slice none 0 0], .int .i64 1])) w' :=
  ⟨zeroS, 1, none, 0, none, 0, rfl, Or.inl ⟨h, rfl, rfl⟩, StAt.zero, hb⟩
theorem GotAN.form {w w' : World} {s : St} {n : Nat → Int} {b : List UInt8} (h : RightS s) (h2 : ¬ FollowR s.c s.ep s.sq s.st s.zs n b) (hb : Below w.heap.size w w') : GotAN w s n b (.returned (.tuple #[.agg #[.int .i64 0, .int .i64 0, .int .i64 0, .int .i64 0, .int .i64 0, .int .i64 0, .int .i64 0, .int .i64 0, .int .i64 0, .int .i64 0, .int .i64 0, .int .i64 0, .int .i64 0, .slice none 0 0, .slice none 0 0], .int .i64 13])) w' :=
  ⟨zeroS, 13, none, 0, none, 0, rfl, Or.inr (Or.inl ⟨h, h2, rfl, rfl⟩), StAt.zero, hb⟩
theorem GotAN.next {w w' : World} {s : St} {n : Nat → Int} {b : List UInt8} {A D : Option Addr} {k d : Nat} {t : St} (h : RightS s) (h2 : FollowR s.c s.ep s.sq s.st s.zs n b) (ht : t = nextS s n b) (hs : StAt w' (Ext (fun _ => False) w.heap.size w') A t.st k D t.zs d) (hb : Below w.heap.size w w') : GotAN w s n b (.returned (.tuple #[(.agg #[.int .i64 t.c.id, .int .i64 t.c.m, .int .i64 t.c.u, .int .i64 t.c.b, .int .i64 t.c.cp, .int .i64 t.c.z, .int .i64 t.c.s, .int .i64 t.c.mt, .int .i64 t.c.o, .int .i64 t.c.a, .int .i64 t.c.l, .int .i64 t.ep, .int .i64 t.sq, .slice A t.st.length k, .slice D t.zs.length d]), .int .i64 0])) w' :=
  ⟨t, 0, A, k, D, d, rfl, Or.inr (Or.inr ⟨h, h2, ht, rfl⟩), hs, hb⟩
theorem GotAN.gotA {w w' : World} {s : St} {n : Nat → Int} {b : List UInt8} {e : Ending} (h : GotAN w s n b e w') : GotA w s n b e w' := by
  obtain ⟨t, er, A, k, D, d, h1, h2, h3, h4⟩ := h
  exact ⟨t, er, A, k, D, d, h1, h2, h3.mono (fun _ h => h.elim False.elim (fun h => h.2)), h4⟩
theorem nextZ_len {reb : Bool} {z : Zn} {n : Nat → Int} {b : List UInt8} (h : z.ps.length ≤ 2) : (nextZ reb z n b).ps.length ≤ 2 := by
  unfold nextZ
  split
  · exact h
  split
  · exact h
  split
  · simp
  split
  · exact h
  · show (nextPs z.ps _).length ≤ 2
    unfold nextPs
    rw [List.length_drop, List.length_append]
    simp only [List.length_cons, List.length_nil]
    omega
set_option maxHeartbeats 4000000 in
theorem apply_new (c : Cf) (ep sq : Int) (A : Option Addr) (st : List Int) (k : Nat) (D : Option Addr) (zs : List Zn) (d : Nat) (n : Nat → Int) (X : Option Addr) (b : List UInt8) (x : Nat) (w : World) (h : StAt w (LT w.heap.size) A st k D zs d) (hl1 : st.length ≤ 1000000) (hl2 : zs.length ≤ 1000000) (hb : Rd w w.heap.size X b) (hbx : b.length ≤ x) :
    Calls Try.prog 9 #[(.agg #[.int .i64 c.id, .int .i64 c.m, .int .i64 c.u, .int .i64 c.b, .int .i64 c.cp, .int .i64 c.z, .int .i64 c.s, .int .i64 c.mt, .int .i64 c.o, .int .i64 c.a, .int .i64 c.l, .int .i64 ep, .int .i64 sq, .slice A st.length k, .slice D zs.length d]), (.agg #[.int .i64 (n 0), .int .i64 (n 1), .int .i64 (n 2), .int .i64 (n 3), .int .i64 (n 4), .int .i64 (n 5), .int .i64 (n 6), .int .i64 (n 7), .int .i64 (n 8), .slice X b.length x])] w (GotAN w ⟨c, ep, sq, st, zs⟩ n b) := by
  have HLL : Hid (st.length ≤ 1000000 ∧ zs.length ≤ 1000000) := ⟨hl1, hl2⟩
  have HBD : Hid (∀ w', Below w.heap.size w w' → Rd w' w'.heap.size X b) := fun w' h2 => (hb.below h2).more h2.size
  have HBL : Hid (b.length ≤ x) := hbx
  obtain ⟨cs, hcs⟩ : ∃ cs : Array Value, cs = #[.int .i64 c.id, .int .i64 c.m, .int .i64 c.u, .int .i64 c.b, .int .i64 c.cp, .int .i64 c.z, .int .i64 c.s, .int .i64 c.mt, .int .i64 c.o, .int .i64 c.a, .int .i64 c.l, .int .i64 ep, .int .i64 sq, .slice A st.length k, .slice D zs.length d] := ⟨_, rfl⟩
  have HCS := Lib.hid hcs
  have HCN : Hid (cs.size = 15 ∧ cs.all (·.oneCell') = true) := by rw [hcs]; exact ⟨rfl, by first | kernel_rfl | simp [Value.oneCell']⟩
  have HRR : Hid (∀ w', Below w.heap.size w w' → Calls Try.prog 24 #[.agg cs] w' (SaysP w' (RightS ⟨c, ep, sq, st, zs⟩))) := fun w' hb => by rw [hcs]; exact right_any c ep sq A st k D zs d w' (h.later hb) hl1 hl2
  have HFW : Hid (∀ (hr : RightS ⟨c, ep, sq, st, zs⟩) w', Below w.heap.size w w' → Calls Try.prog 25 #[.agg cs, (.agg #[.int .i64 (n 0), .int .i64 (n 1), .int .i64 (n 2), .int .i64 (n 3), .int .i64 (n 4), .int .i64 (n 5), .int .i64 (n 6), .int .i64 (n 7), .int .i64 (n 8), .slice X b.length x])] w' (SaysP w' (FollowR c ep sq st zs n b))) := fun hr w' hb => by rw [hcs]; exact follows_any c ep sq A st k D zs d n X b x w' (h.later hb) hr
  have HCL : Hid (∀ (hr : RightS ⟨c, ep, sq, st, zs⟩) w', Below w.heap.size w w' → Calls Try.prog 26 #[.agg cs] w' (GotCl w' ⟨c, ep, sq, st, zs⟩)) := fun hr w' hb => by
    rw [hcs]
    refine clone_state_any c ep sq A st k D zs d w' (h.later hb) hl1 hl2 (fun z hz => ?_)
    have hh := (hr.be z hz).have_
    refine ⟨by have := hh.2; omega, fun p hp => ?_⟩
    have hp2 := (hh.1 p hp).2
    obtain ⟨_, _, _, _, h5, h6, h7, h8, _⟩ := (show Good c from check_good0 hr.conf)
    have hm := mul_in (a := c.u) (b := c.b) (A := 64) (B := 4096) (by omega) h6 (by omega) h8
    dsimp only at hp2
    omega
  rw [← hcs]
  clear h hl1 hl2 hcs hb hbx
  go_enter Try.func9, Try.ntmps9
  go_upto_region 1 with fail
  have HV : Hid (AplIn cs n X b x w (((w.alloc (.cells cs 27)).alloc (.cells #[.int .i64 (n 0), .int .i64 (n 1), .int .i64 (n 2), .int .i64 (n 3), .int .i64 (n 4), .int .i64 (n 5), .int .i64 (n 6), .int .i64 (n 7), .int .i64 (n 8), .slice X b.length x] 30)).alloc (.cells #[.int .i64 0, .int .i64 0, .int .i64 0, .int .i64 0, .int .i64 0, .int .i64 0, .int .i64 0, .int .i64 0, .int .i64 0, .int .i64 0, .int .i64 0, .int .i64 0, .int .i64 0, .slice none 0 0, .slice none 0 0] 27))) := by
    obtain ⟨h1, h2, h3, h4, h5⟩ := three_boxes w 27 30 27 cs #[.int .i64 (n 0), .int .i64 (n 1), .int .i64 (n 2), .int .i64 (n 3), .int .i64 (n 4), .int .i64 (n 5), .int .i64 (n 6), .int .i64 (n 7), .int .i64 (n 8), .slice X b.length x] #[.int .i64 0, .int .i64 0, .int .i64 0, .int .i64 0, .int .i64 0, .int .i64 0, .int .i64 0, .int .i64 0, .int .i64 0, .int .i64 0, .int .i64 0, .int .i64 0, .int .i64 0, .slice none 0 0, .slice none 0 0]
    exact ⟨h1, h2, h3, h4, Nat.le_of_eq h5.symm⟩
  generalize (((w.alloc (.cells cs 27)).alloc (.cells #[.int .i64 (n 0), .int .i64 (n 1), .int .i64 (n 2), .int .i64 (n 3), .int .i64 (n 4), .int .i64 (n 5), .int .i64 (n 6), .int .i64 (n 7), .int .i64 (n 8), .slice X b.length x] 30)).alloc (.cells #[.int .i64 0, .int .i64 0, .int .i64 0, .int .i64 0, .int .i64 0, .int .i64 0, .int .i64 0, .int .i64 0, .int .i64 0, .int .i64 0, .int .i64 0, .int .i64 0, .int .i64 0, .slice none 0 0, .slice none 0 0] 27)) = w0 at HV ⊢
  go_wp2_with (refine list_load27 rfl (.tmp 2) rfl w.heap.size cs HV.out.1 HCN.out.1 rfl ?_)
  refine (HRR.out w0 HV.out.2.2.2.1).mono ?_
  rintro e w1 ⟨br, rfl, hbr, hb⟩
  have HX := Lib.hid (HV.out.later hb)
  have HBR := Lib.hid hbr
  clear hb hbr HV
  cases br
  case false =>
    go_wp2_with (refine list_store27 rfl (.tmp 4) (.tmp 10) rfl (w.heap.size + 2) #[.int .i64 0, .int .i64 0, .int .i64 0, .int .i64 0, .int .i64 0, .int .i64 0, .int .i64 0, .int .i64 0, .int .i64 0, .int .i64 0, .int .i64 0, .int .i64 0, .int .i64 0, .slice none 0 0, .slice none 0 0] _ HX.out.2.2.1 rfl rfl (by first | kernel_rfl | simp [Value.oneCell']) rfl rfl (fun w5 q1 q2 => ?_))
    have hbel : Below w.heap.size w w5 := HX.out.2.2.2.1.trans ((q2 [w.heap.size + 2] (by simp)).below (by simp) HX.out.2.2.2.1.size)
    exact bodyPost_ret (v := .tuple #[.agg #[.int .i64 0, .int .i64 0, .int .i64 0, .int .i64 0, .int .i64 0, .int .i64 0, .int .i64 0, .int .i64 0, .int .i64 0, .int .i64 0, .int .i64 0, .int .i64 0, .int .i64 0, .slice none 0 0, .slice none 0 0], .int .i64 1]) (res9 rfl rfl q1 rfl) rfl (GotAN.arg (fun h => by have := HBR.out.2 h; simp at this) hbel)
  have HR : Hid (RightS ⟨c, ep, sq, st, zs⟩) := HBR.out.1 rfl
  clear HBR
  obtain ⟨r0, r1, r2, r3, r4, r5, r6, r7, r8, r9⟩ := box10 HX.out.2.1
  go_wp2_with (refine list_load27 rfl (.tmp 2) rfl w.heap.size cs HX.out.1 HCN.out.1 rfl ?_)
  refine (HFW.out HR.out w1 HX.out.2.2.2.1).mono ?_
  rintro e w2 ⟨bf, rfl, hbf, hb⟩
  have HX2 := Lib.hid (HX.out.later hb)
  have HBF := Lib.hid hbf
  clear hb hbf HX r0 r1 r2 r3 r4 r5 r6 r7 r8 r9
  cases bf
  case false =>
    go_wp2_with (refine list_store27 rfl (.tmp 4) (.tmp 15) rfl (w.heap.size + 2) #[.int .i64 0, .int .i64 0, .int .i64 0, .int .i64 0, .int .i64 0, .int .i64 0, .int .i64 0, .int .i64 0, .int .i64 0, .int .i64 0, .int .i64 0, .int .i64 0, .int .i64 0, .slice none 0 0, .slice none 0 0] _ HX2.out.2.2.1 rfl rfl (by first | kernel_rfl | simp [Value.oneCell']) rfl rfl (fun w5 q1 q2 => ?_))
    have hbel : Below w.heap.size w w5 := HX2.out.2.2.2.1.trans ((q2 [w.heap.size + 2] (by simp)).below (by simp) HX2.out.2.2.2.1.size)
    exact bodyPost_ret (v := .tuple #[.agg #[.int .i64 0, .int .i64 0, .int .i64 0, .int .i64 0, .int .i64 0, .int .i64 0, .int .i64 0, .int .i64 0, .int .i64 0, .int .i64 0, .int .i64 0, .int .i64 0, .int .i64 0, .slice none 0 0, .slice none 0 0], .int .i64 13]) (res9 rfl rfl q1 rfl) rfl (GotAN.form HR.out (fun h => by have := HBF.out.2 h; simp at this) hbel)
  have HFO : Hid (FollowR c ep sq st zs n b) := HBF.out.1 rfl
  clear HBF
  go_wp2_with (refine list_load27 rfl (.tmp 2) rfl w.heap.size cs HX2.out.1 HCN.out.1 rfl ?_)
  refine (HCL.out HR.out w2 HX2.out.2.2.2.1).mono ?_
  rintro e w3 ⟨A, k, D, d, zx, bs, rfl, hi, hz, hzo, hnd, hb⟩
  dsimp only at hi hz hzo ⊢
  have HX3 := Lib.hid (HX2.out.later hb)
  have HCG : Hid (w3.ownsRow w2.heap.size 3 1 (.slice A st.length k) st.length (st.map (Value.int .i64)) ∧ w3.ownsRow w2.heap.size 51 6 (.slice D zs.length d) zs.length zx ∧ ZOwn w3 w2.heap.size zs zx bs ∧ bs.Nodup ∧ w.heap.size + 3 ≤ w2.heap.size ∧ w2.heap.size ≤ w3.heap.size) := ⟨hi, hz, hzo, hnd, HX2.out.2.2.2.2, hb.size⟩
  clear hi hz hzo hnd hb HX2
  generalize w2.heap.size = lo at HCG
  go_upto_region 6 with (refine list_store27 rfl (.tmp 2) (.tmp 17) rfl (w.heap.size) #[.int .i64 c.id, .int .i64 c.m, .int .i64 c.u, .int .i64 c.b, .int .i64 c.cp, .int .i64 c.z, .int .i64 c.s, .int .i64 c.mt, .int .i64 c.o, .int .i64 c.a, .int .i64 c.l, .int .i64 ep, .int .i64 sq, .slice A st.length k, .slice D zs.length d] cs HX3.out.1 HCN.out.1 rfl (by first | kernel_rfl | simp [Value.oneCell']) rfl rfl (fun w4 q1 q2 => ?_))
  have HB4 : Hid (ApB c ep sq st zs n X b x A k D d zx bs lo w w4) := by
    have ht := q2 [w.heap.size] (by simp)
    exact ⟨q1, HX3.out.2.1.turn ht (by simp), HX3.out.2.2.1.turn ht (by simp), own_turn HCG.out.1 HX3.out.1 (by decide) ht, own_turn HCG.out.2.1 HX3.out.1 (by decide) ht, HCG.out.2.2.1.keepT (fun k hk => ht.block k hk.lt (by simpa using hk.box HX3.out.1 (by decide) (by decide))), HCG.out.2.2.2.1, HX3.out.2.2.2.1.trans (ht.below (by simp) HX3.out.2.2.2.1.size), HCG.out.2.2.2.2.1, Nat.le_trans HCG.out.2.2.2.2.2 ht.size⟩
  clear q1 q2 HX3 HCG HCL HFW HRR HCS HCN
  obtain ⟨y0, y1, y2, y3, y4, y5, y6, y7, y8, y9, y10, y11, y12, y13, y14⟩ := box15 HB4.out.var
  obtain ⟨f0, f1, f2, f3, f4, f5, f6, f7, f8, f9, f10, f11, f12, f13, f14⟩ := froz15 HB4.out.var
  obtain ⟨r0, r1, r2, r3, r4, r5, r6, r7, r8, r9⟩ := box10 HB4.out.rcd
  go_upto_region 7 with fail
  have HB5 : Hid (ApB c ep (n 2) st zs n X b x A k D d zx bs lo w (w4.setCell ⟨w.heap.size, 12, none⟩ (.int .i64 (n 2)))) := HB4.out.seq (by simpa using HB4.out.var.store 12 (.int .i64 (n 2))) ((Turn.refl _ _).put (Or.inl (by simp)) _)
  generalize w4.setCell ⟨w.heap.size, 12, none⟩ (.int .i64 (n 2)) = w5 at HB5 ⊢
  clear HB4 y0 y1 y2 y3 y4 y5 y6 y7 y8 y9 y10 y11 y12 y13 y14 f0 f1 f2 f3 f4 f5 f6 f7 f8 f9 f10 f11 f12 f13 f14 r0 r1 r2 r3 r4 r5 r6 r7 r8 r9
  obtain ⟨y0, y1, y2, y3, y4, y5, y6, y7, y8, y9, y10, y11, y12, y13, y14⟩ := box15 HB5.out.var
  obtain ⟨r0, r1, r2, r3, r4, r5, r6, r7, r8, r9⟩ := box10 HB5.out.rcd
  by_cases k6 : n 0 = 6
  · have k6b : (n 0 == 6) = true := by simpa using k6
    have HK6 := Lib.hid k6
    have HTR : Hid (0 ≤ n 7 ∧ n 7 < st.length) := by
      rcases HFO.out.2.2.2 with h1 | h1
      · exact ⟨h1.2.1.1, h1.2.1.2.1⟩
      · exact absurd k6 h1.1
    clear k6
    obtain ⟨m, hm⟩ : ∃ m : Nat, n 7 = (m : Int) := ⟨(n 7).toNat, by have := HTR.out; omega⟩
    have HM : Hid (n 7 = (m : Int) ∧ m < st.length ∧ (n 7).toNat = m) := ⟨hm, by have := HTR.out.2; omega, by omega⟩
    clear hm
    have hmn := HM.out.2.1
    rw [HM.out.1] at r7
    obtain ⟨g, hA⟩ := (ownT_form HB5.out.ints).2 (by omega)
    subst hA
    obtain ⟨u0, e0⟩ := own_cell HB5.out.ints (i := m) (by omega)
    have f0 := own_frozen HB5.out.ints m
    go_upto_region 9 with fail
    have HB6 := Lib.hid (HB5.out.setI (v := n 8) hmn)
    generalize w5.setCell ⟨g, m, none⟩ (.int .i64 (n 8)) = w6 at HB6 ⊢
    clear HB5 hmn e0 f0 k6b y0 y1 y2 y3 y4 y5 y6 y7 y8 y9 y10 y11 y12 y13 y14 r0 r1 r2 r3 r4 r5 r6 r7 r8 r9
    obtain ⟨y0, y1, y2, y3, y4, y5, y6, y7, y8, y9, y10, y11, y12, y13, y14⟩ := box15 HB6.out.var
    generalize hst2 : st.set m (n 8) = st2 at HB6
    have HST2 : Hid (st2 = st.set (n 7).toNat (n 8)) := by rw [HM.out.2.2]; exact hst2.symm
    have HPL : Hid (∀ z ∈ zs.map bareZ, z.ps.length ≤ 140737488351232) := fun z hz => by
      obtain ⟨z0, h0, rfl⟩ := List.mem_map.1 hz
      have h1 := (HR.out.be z0 h0).have_.2
      show z0.ps.length ≤ _
      omega
    clear hst2
    go_wp2
    go_loopw [34] (fun i wr => ∃ (q : Nat) (zq : List Value), q ≤ zs.length ∧ i = .int .i64 q ∧ ApB c ep (n 2) st2 (bareQ zs q) n X b x (some ⟨g, 0, none⟩) k D d zq bs lo w wr) (fun i _ => zs.length - (intOf i).toNat)
    case atStart => exact ⟨0, zx, by omega, rfl, by rw [bareQ_zero]; exact HB6.out⟩
    case round =>
      obtain ⟨q, zq, hq, rfl, hb⟩ := hrel
      clear HB6 y0 y1 y2 y3 y4 y5 y6 y7 y8 y9 y10 y11 y12 y13 y14
      have HBQ := Lib.hid hb
      clear hb
      by_cases hlt : q < zs.length
      · have HZL : Hid ((bareQ zs q).length = zs.length) := bareQ_length zs q
        have HZN : Hid (∀ h : q < (bareQ zs q).length, (bareQ zs q).set q (bareZ (bareQ zs q)[q]) = bareQ zs (q + 1)) := fun h => by
          have h1 := bareQ_at hlt
          rw [List.getElem?_eq_getElem h] at h1
          rw [Option.some.inj h1]
          exact bareQ_set hlt
        generalize bareQ zs q = zl at HBQ HZL HZN
        have hql : q < zl.length := by rw [HZL.out]; exact hlt
        obtain ⟨gd, hD⟩ := (ownT_form HBQ.out.zons).2 (by omega)
        subst hD
        obtain ⟨y0, y1, y2, y3, y4, y5, y6, y7, y8, y9, y10, y11, y12, y13, y14⟩ := box15 HBQ.out.var
        obtain ⟨u0, e0⟩ := own_cell HBQ.out.zons (i := q * 6 + 4) (by omega)
        have f0 := own_frozen HBQ.out.zons (q * 6 + 4)
        have hlz := HLL.out.2
        go_upto_region 13 with fail
        have HB7 : Hid (ApB c ep (n 2) st2 (bareQ zs (q + 1)) n X b x (some ⟨g, 0, none⟩) k (some ⟨gd, 0, none⟩) d (zq.set (q * 6 + 4) (.bool false)) bs lo w (wr.setCell ⟨gd, q * 6 + 4, none⟩ (.bool false))) := by
          have h := HBQ.out.setZ hql
          rw [HZN.out hql] at h
          exact h
        generalize wr.setCell ⟨gd, q * 6 + 4, none⟩ (.bool false) = w7 at HB7 ⊢
        clear HBQ HZL HZN hql e0 f0 y0 y1 y2 y3 y4 y5 y6 y7 y8 y9 y10 y11 y12 y13 y14
        go_wp2
        go_roundw
        case rel => exact ⟨q + 1, _, by omega, by first | go_num | (rw [wrap_in (by omega) (by omega)]; rfl), HB7.out⟩
        case measure =>
          try rw [wrap_in (by omega) (by omega)]
          simp [intOf]
          omega
      · obtain rfl : q = zs.length := by omega
        have HBE : Hid (ApB c ep (n 2) st2 (zs.map bareZ) n X b x (some ⟨g, 0, none⟩) k D d zq bs lo w wr) := by
          have h := HBQ.out
          rw [bareQ_all] at h
          exact h
        clear HBQ
        go_wp2_with (first | (refine list_load27 rfl (.tmp 2) rfl w.heap.size #[.int .i64 c.id, .int .i64 c.m, .int .i64 c.u, .int .i64 c.b, .int .i64 c.cp, .int .i64 c.z, .int .i64 c.s, .int .i64 c.mt, .int .i64 c.o, .int .i64 c.a, .int .i64 c.l, .int .i64 ep, .int .i64 (n 2), .slice (some ⟨g, 0, none⟩) st2.length k, .slice D (zs.map bareZ).length d] HBE.out.var rfl rfl ?_) | (refine list_store27 rfl (.tmp 4) (.tmp 51) rfl (w.heap.size + 2) #[.int .i64 c.id, .int .i64 c.m, .int .i64 c.u, .int .i64 c.b, .int .i64 c.cp, .int .i64 c.z, .int .i64 c.s, .int .i64 c.mt, .int .i64 c.o, .int .i64 c.a, .int .i64 c.l, .int .i64 ep, .int .i64 (n 2), .slice (some ⟨g, 0, none⟩) st2.length k, .slice D (zs.map bareZ).length d] _ HBE.out.ret rfl rfl (by first | kernel_rfl | simp [Value.oneCell']) rfl rfl (fun w8 q1 q2 => ?_)))
        obtain ⟨hst, hbel⟩ := (HBE.out.toC HPL.out).fin (q2 [w.heap.size + 2] (by simp))
        exact bodyPost_ret (v := .tuple #[.agg #[.int .i64 c.id, .int .i64 c.m, .int .i64 c.u, .int .i64 c.b, .int .i64 c.cp, .int .i64 c.z, .int .i64 c.s, .int .i64 c.mt, .int .i64 c.o, .int .i64 c.a, .int .i64 c.l, .int .i64 ep, .int .i64 (n 2), .slice (some ⟨g, 0, none⟩) st2.length k, .slice D (zs.map bareZ).length d], .int .i64 0]) (res9 rfl rfl q1 rfl) rfl (GotAN.next (t := ⟨c, ep, n 2, st2, zs.map bareZ⟩) HR.out HFO.out (by rw [nextS_status HK6.out, HST2.out]) hst hbel)
  have k6b : (n 0 == 6) = false := by simpa using k6
  have hzf : ZoneFits c st zs n b := by
    rcases HFO.out.2.2.2 with h1 | h1
    · exact absurd h1.1 k6
    · exact h1.2
  obtain ⟨q, hq, hn⟩ := zoneFits_in hzf
  have hft := (zoneFits_at hq hn).1 hzf
  have HK6 := Lib.hid k6
  have HQ : Hid (n 3 = (q : Int) ∧ q < zs.length) := ⟨hn, hq⟩
  have HB4 : Hid (n 0 = 4 → b.length ≤ 10000000) := fun hk => by
    have h4 := ((fits4 hk).1 hft).2.2.1
    obtain ⟨_, _, _, _, h5, h6, h7, h8, _⟩ := (show Good c from check_good0 HR.out.conf)
    have hm := mul_in (a := c.u) (b := c.b) (A := 64) (B := 4096) (by omega) h6 (by omega) h8
    omega
  have HKD : Hid ((n 0 = 1 ∨ n 0 = 2 ∨ n 0 = 3 ∨ n 0 = 5) ∨ n 0 = 4) := by
    rcases hft with h | h | h | h | h
    · exact Or.inl (Or.inl h.1)
    · exact Or.inl (Or.inr (Or.inl h.1))
    · exact Or.inl (Or.inr (Or.inr (Or.inr h.1)))
    · exact Or.inr h.1
    · exact Or.inl (Or.inr (Or.inr (Or.inl h.1)))
  clear hzf hft hn hq k6
  have hq := HQ.out.2
  obtain ⟨g, hD⟩ := (ownT_form HB5.out.zons).2 (by omega)
  subst hD
  go_upto_region 14 with fail
  clear k6b y0 y1 y2 y3 y4 y5 y6 y7 y8 y9 y10 y11 y12 y13 y14 r0 r1 r2 r3 r4 r5 r6 r7 r8 r9
  have HD0 : Hid (ApB c ep (n 2) st zs n X b x A k (some ⟨g, 0, none⟩) d zx bs lo w w5.drew) := HB5.out.drew
  obtain ⟨Y, y, xs, hzx, ho, hp⟩ := HD0.out.new.at_ hq
  obtain ⟨v, hv⟩ : ∃ v : Value, v = .slice Y zs[q].ps.length y := ⟨_, rfl⟩
  obtain ⟨gs, hgs⟩ : ∃ gs, gs = g :: v.ownBlock.toList := ⟨_, rfl⟩
  refine wpG_start gs (by kernel_rfl) ?_
  generalize w5.drew = wd at HD0 ho hp ⊢
  have hps2 := (HR.out.be zs[q] (List.getElem_mem hq)).have_.2
  have HCH : Hid (Calls Try.prog 27 #[.agg #[.int .i64 c.id, .int .i64 c.m, .int .i64 c.u, .int .i64 c.b, .int .i64 c.cp, .int .i64 c.z, .int .i64 c.s, .int .i64 c.mt, .int .i64 c.o, .int .i64 c.a, .int .i64 c.l, .int .i64 ep, .int .i64 (n 2), .slice A st.length k, .slice (some ⟨g, 0, none⟩) zs.length d], (.agg #[.int .i64 (n 0), .int .i64 (n 1), .int .i64 (n 2), .int .i64 (n 3), .int .i64 (n 4), .int .i64 (n 5), .int .i64 (n 6), .int .i64 (n 7), .int .i64 (n 8), .slice X b.length x])] wd (GotN wd lo v (nextZ (decide (2 ∈ st)) zs[q] n b))) := by
    rw [hv]
    obtain ⟨h1, h2⟩ := ints_own (S := fun _ => False) HD0.out.ints
    obtain ⟨h3, h4⟩ := (HD0.out.new.row (fun z hz => by have := (HR.out.be z hz).have_.2; omega)).rowOf (S' := LT wd.heap.size) rfl HD0.out.zons (fun _ h => h.lt) (fun _ _ h => h)
    have hst : StAt wd (LT wd.heap.size) A st k (some ⟨g, 0, none⟩) zs d := ⟨h1.mono (fun _ h => h.elim False.elim (fun h => h.2)), h3, h2, h4⟩
    have hcell : ∀ g' off, (some ⟨g, 0, none⟩ : Option Addr) = some ⟨g', off, none⟩ → wd.cell? ⟨g', off + q * 6 + 5, none⟩ = some (.slice Y zs[q].ps.length y) := fun g' off e => by
      simp only [Option.some.injEq, Addr.mk.injEq, and_true] at e
      obtain ⟨rfl, rfl⟩ := e
      rw [Nat.zero_add, World.ownsRow.cellAt HD0.out.zons (q * 6 + 5) (by omega)]
      exact hzx
    rcases HKD.out with hk | hk
    · exact changed_free c ep (n 2) A st k (some ⟨g, 0, none⟩) zs d n X b x q lo wd hst HLL.out.1 HLL.out.2 hq HQ.out.1 Y y xs hcell ho hp hps2 _ (by simp) hk
    · have hbl := HB4.out hk
      exact changedP_any c ep (n 2) A st k (some ⟨g, 0, none⟩) zs d n X b x q lo wd hst HLL.out.1 HLL.out.2 hq HQ.out.1 (HBD.out wd HD0.out.below) hbl HBL.out HD0.out.lo_.2 Y y xs hcell ho hp hps2 _ (by simp) hk
  have HG : Hid (w.heap.size ∉ gs ∧ w.heap.size + 1 ∉ gs ∧ g ∈ gs ∧ (∀ k ∈ v.ownBlock.toList, k ∈ gs)) := by
    have h1 := World.ownsRow.lt HD0.out.zons g rfl
    have h2 : ∀ k ∈ v.ownBlock.toList, lo ≤ k := fun k hk => (World.ownsRow.lt ho k (by rw [← hv]; exact own_list hk)).1
    have h3 := HD0.out.lo_.1
    rw [hgs]
    refine ⟨fun hm => ?_, fun hm => ?_, by simp, fun k hk => List.mem_cons_of_mem _ hk⟩
    · rcases List.mem_cons.1 hm with hm | hm
      · omega
      · have := h2 _ hm; omega
    · rcases List.mem_cons.1 hm with hm | hm
      · omega
      · have := h2 _ hm; omega
  have HLN : Hid ((nextZ (decide (2 ∈ st)) zs[q] n b).ps.length ≤ 2) := nextZ_len hps2
  have HNX : Hid (nextS ⟨c, ep, sq, st, zs⟩ n b = ⟨c, ep, n 2, st, zs.set q (nextZ (decide (2 ∈ st)) zs[q] n b)⟩) := nextS_zone HK6.out hq HQ.out.1
  have HD : Hid (ApB c ep (n 2) st zs n X b x A k (some ⟨g, 0, none⟩) d zx bs lo w wd ∧ wd.ownsRow lo 55 2 v zs[q].ps.length xs ∧ zx[q * 6 + 5]? = some v) := ⟨HD0.out, by rw [hv]; exact ho, by rw [hv]; exact hzx⟩
  have HPA : Hid (∀ z ∈ zs, z.ps.length ≤ 140737488351232) := fun z hz => by have := (HR.out.be z hz).have_.2; omega
  generalize nextZ (decide (2 ∈ st)) zs[q] n b = nz at HCH HLN HNX
  obtain ⟨zg, zsl, zf, zv, zh, zps⟩ := nz
  clear hzx ho hp hv hgs hps2 HD0 HB5 HKD
  refine wpG_take (i := 0) (d := 43) (v := ?v14x0) rfl rfl (by kernel_rfl) (by kernel_rfl) (by kernel_rfl) (fun _ _ _ h => h) (by rfl) ?y14x0 ?r14x0
  case y14x0 => (intro w' hSw; obtain ⟨s0, s1, s2, s3, s4, s5, s6, s7, s8, s9, s10, s11, s12, s13, s14⟩ := box15 (HD.out.1.var.turn hSw HG.out.1); obtain ⟨r0, r1, r2, r3, r4, r5, r6, r7, r8, r9⟩ := box10 (HD.out.1.rcd.turn hSw HG.out.2.1); go_simp; try (with_reducible rfl))
  simp only [Act.put, List.setIfInBounds_toArray, List.set_cons_zero, List.set_cons_succ]
  refine wpG_take (i := 1) (d := 44) (v := ?v14x1) rfl rfl (by kernel_rfl) (by kernel_rfl) (by kernel_rfl) (fun _ _ _ h => h) (by rfl) ?y14x1 ?r14x1
  case y14x1 => (intro w' hSw; obtain ⟨s0, s1, s2, s3, s4, s5, s6, s7, s8, s9, s10, s11, s12, s13, s14⟩ := box15 (HD.out.1.var.turn hSw HG.out.1); obtain ⟨r0, r1, r2, r3, r4, r5, r6, r7, r8, r9⟩ := box10 (HD.out.1.rcd.turn hSw HG.out.2.1); go_simp; try (with_reducible rfl))
  simp only [Act.put, List.setIfInBounds_toArray, List.set_cons_zero, List.set_cons_succ]
  refine wpG_take (i := 2) (d := 45) (v := ?v14x2) rfl rfl (by kernel_rfl) (by kernel_rfl) (by kernel_rfl) (fun _ _ _ h => h) (by rfl) ?y14x2 ?r14x2
  case y14x2 => (intro w' hSw; obtain ⟨s0, s1, s2, s3, s4, s5, s6, s7, s8, s9, s10, s11, s12, s13, s14⟩ := box15 (HD.out.1.var.turn hSw HG.out.1); obtain ⟨r0, r1, r2, r3, r4, r5, r6, r7, r8, r9⟩ := box10 (HD.out.1.rcd.turn hSw HG.out.2.1); go_simp; try (with_reducible rfl))
  simp only [Act.put, List.setIfInBounds_toArray, List.set_cons_zero, List.set_cons_succ]
  refine wpG_take (i := 3) (d := 46) (v := ?v14x3) rfl rfl (by kernel_rfl) (by kernel_rfl) (by kernel_rfl) (fun _ _ _ h => h) (by rfl) ?y14x3 ?r14x3
  case y14x3 => (intro w' hSw; obtain ⟨s0, s1, s2, s3, s4, s5, s6, s7, s8, s9, s10, s11, s12, s13, s14⟩ := box15 (HD.out.1.var.turn hSw HG.out.1); obtain ⟨r0, r1, r2, r3, r4, r5, r6, r7, r8, r9⟩ := box10 (HD.out.1.rcd.turn hSw HG.out.2.1); rw [HQ.out.1] at r3; go_simp; try (with_reducible rfl))
  simp only [Act.put, List.setIfInBounds_toArray, List.set_cons_zero, List.set_cons_succ]
  refine wpG_take (i := 4) (d := 47) (v := ?v14x4) rfl rfl (by kernel_rfl) (by kernel_rfl) (by kernel_rfl) (fun _ _ _ h => h) (by rfl) ?y14x4 ?r14x4
  case y14x4 => (intro w' hSw; refine exec_load27 (.tmp 2) ?_ w.heap.size #[.int .i64 c.id, .int .i64 c.m, .int .i64 c.u, .int .i64 c.b, .int .i64 c.cp, .int .i64 c.z, .int .i64 c.s, .int .i64 c.mt, .int .i64 c.o, .int .i64 c.a, .int .i64 c.l, .int .i64 ep, .int .i64 (n 2), .slice A st.length k, .slice (some ⟨g, 0, none⟩) zs.length d] (HD.out.1.var.turn hSw HG.out.1) rfl ?_ <;> rfl)
  simp only [Act.put, List.setIfInBounds_toArray, List.set_cons_zero, List.set_cons_succ]
  refine wpG_take (i := 5) (d := 48) (v := ?v14x5) rfl rfl (by kernel_rfl) (by kernel_rfl) (by kernel_rfl) (fun _ _ _ h => h) (by rfl) ?y14x5 ?r14x5
  case y14x5 => (intro w' hSw; obtain ⟨s0, s1, s2, s3, s4, s5, s6, s7, s8, s9, s10, s11, s12, s13, s14⟩ := box15 (HD.out.1.var.turn hSw HG.out.1); obtain ⟨r0, r1, r2, r3, r4, r5, r6, r7, r8, r9⟩ := box10 (HD.out.1.rcd.turn hSw HG.out.2.1); go_simp; try (with_reducible rfl))
  simp only [Act.put, List.setIfInBounds_toArray, List.set_cons_zero, List.set_cons_succ]
  refine wpG_do (i := 6) (by kernel_rfl) rfl (by rfl) (fun K hK => ?_)
  go_simp
  refine HCH.out.mono ?_
  rintro e w6 ⟨Y2, y2, rfl, hp2, hy2, ht⟩
  dsimp only at hp2 hy2 ⊢
  have HE : Hid ((Box w6 w.heap.size 27 #[.int .i64 c.id, .int .i64 c.m, .int .i64 c.u, .int .i64 c.b, .int .i64 c.cp, .int .i64 c.z, .int .i64 c.s, .int .i64 c.mt, .int .i64 c.o, .int .i64 c.a, .int .i64 c.l, .int .i64 ep, .int .i64 (n 2), .slice A st.length k, .slice (some ⟨g, 0, none⟩) zs.length d] ∧ Box w6 (w.heap.size + 2) 27 #[.int .i64 0, .int .i64 0, .int .i64 0, .int .i64 0, .int .i64 0, .int .i64 0, .int .i64 0, .int .i64 0, .int .i64 0, .int .i64 0, .int .i64 0, .int .i64 0, .int .i64 0, .slice none 0 0, .slice none 0 0] ∧ w6.ownsRow lo 3 1 (.slice A st.length k) st.length (st.map (Value.int .i64)) ∧ w6.ownsRow lo 51 6 (.slice (some ⟨g, 0, none⟩) zs.length d) zs.length zx ∧ Below w.heap.size w w6 ∧ (w.heap.size + 3 ≤ lo ∧ lo ≤ w6.heap.size)) ∧ ZsRow w6 (TB lo w6) (zs.set q ⟨zg, zsl, zf, zv, zh, zps⟩) (set6 zx (q * 6) (.int .i64 zg) (.int .i64 zsl) (.bool zf) (.int .i64 zv) (.bool zh) (.slice Y2 zps.length y2))) := by
    have hg : wd.grownBy w6 v.ownBlock := ⟨ht.os, ht.tape, ht.output, ht.size, fun k hk hn => ht.block k hk (fun hm => hn (own_list hm).symm)⟩
    have hlo := HD.out.1.lo_
    have hkb : KeepB lo wd w6 := fun k hk hb => hg.block k hb.lt (hb.own HD.out.2.1 (by decide))
    refine ⟨⟨HD.out.1.var.ownRow HD.out.2.1 hg (by decide), HD.out.1.ret.ownRow HD.out.2.1 hg (by decide), own_other HD.out.1.ints HD.out.2.1 hg (by decide), own_other HD.out.1.zons HD.out.2.1 hg (by decide), HD.out.1.below.trans (ht.below (fun k hk => ?_) HD.out.1.below.size), hlo.1, Nat.le_trans hlo.2 ht.size⟩, ?_⟩
    · have := (World.ownsRow.lt HD.out.2.1 k (own_list hk)).1
      omega
    · exact HD.out.1.new.other hkb (z := ⟨zg, zsl, zf, zv, zh, zps⟩) hp2 hy2 (by have := HLN.out; dsimp only at this ⊢; omega) v HD.out.1.nod HQ.out.2 HPA.out HD.out.2.2 (fun k hk hn => ht.block k hk hn)
  refine hK.out _ _ (ht.mono HG.out.2.2.2) ?_
  try simp only [Act.put, List.setIfInBounds_toArray, List.set_cons_zero, List.set_cons_succ]
  clear hK hp2 hy2 ht HD HCH
  refine wpG_take (i := 7) (d := 50) (v := ?v14x7) rfl rfl (by kernel_rfl) (by kernel_rfl) (by kernel_rfl) (fun _ _ _ h => h) (by rfl) ?y14x7 ?r14x7
  case y14x7 => (intro w' hSw; have hqn := HQ.out.2; go_simp; try (with_reducible rfl))
  simp only [Act.put, List.setIfInBounds_toArray, List.set_cons_zero, List.set_cons_succ]
  have hqn := HQ.out.2
  obtain ⟨u0, e0⟩ := own_cell HE.out.1.2.2.2.1 (i := q * 6) (by omega)
  have f0 := own_frozen HE.out.1.2.2.2.1 (q * 6)
  obtain ⟨u1, e1⟩ := own_cell HE.out.1.2.2.2.1 (i := q * 6 + 1) (by omega)
  have f1 := own_frozen HE.out.1.2.2.2.1 (q * 6 + 1)
  obtain ⟨u2, e2⟩ := own_cell HE.out.1.2.2.2.1 (i := q * 6 + 2) (by omega)
  have f2 := own_frozen HE.out.1.2.2.2.1 (q * 6 + 2)
  obtain ⟨u3, e3⟩ := own_cell HE.out.1.2.2.2.1 (i := q * 6 + 3) (by omega)
  have f3 := own_frozen HE.out.1.2.2.2.1 (q * 6 + 3)
  obtain ⟨u4, e4⟩ := own_cell HE.out.1.2.2.2.1 (i := q * 6 + 4) (by omega)
  have f4 := own_frozen HE.out.1.2.2.2.1 (q * 6 + 4)
  obtain ⟨u5, e5⟩ := own_cell HE.out.1.2.2.2.1 (i := q * 6 + 5) (by omega)
  have f5 := own_frozen HE.out.1.2.2.2.1 (q * 6 + 5)
  refine wpG_do (i := 8) (by kernel_rfl) rfl (by rfl) (fun K hK => ?_)
  go_simp
  have HF : Hid (ApC c ep (n 2) st (zs.set q ⟨zg, zsl, zf, zv, zh, zps⟩) A k (some ⟨g, 0, none⟩) d (set6 zx (q * 6) (.int .i64 zg) (.int .i64 zsl) (.bool zf) (.int .i64 zv) (.bool zh) (.slice Y2 zps.length y2)) lo w (((((((w6.setCell ⟨g, q * 6, none⟩ (.int .i64 zg)).setCell ⟨g, q * 6 + 1, none⟩ (.int .i64 zsl)).setCell ⟨g, q * 6 + 2, none⟩ (.bool zf)).setCell ⟨g, q * 6 + 3, none⟩ (.int .i64 zv)).setCell ⟨g, q * 6 + 4, none⟩ (.bool zh)).setCell ⟨g, q * 6 + 5, none⟩ (.slice Y2 zps.length y2)))) := by
    have ht := turn_set6 (w := w6) (g := g) (i := q * 6) (.int .i64 zg) (.int .i64 zsl) (.bool zf) (.int .i64 zv) (.bool zh) (.slice Y2 zps.length y2)
    obtain ⟨cur, hcur⟩ := own_box HE.out.1.2.2.2.1
    have hgl := World.ownsRow.lt HE.out.1.2.2.2.1 g rfl
    have hlo := HE.out.1.2.2.2.2.2
    refine ⟨?_, HE.out.1.2.1.turn ht (by simp; omega), own_turn HE.out.1.2.2.1 hcur (by decide) ht, ?_, HE.out.2.tb (fun k hk => ht.block k hk.lt (by simpa using hk.box hcur (by decide) (by decide))), HE.out.1.2.2.2.2.1.trans (ht.below (fun k hk => by have : k = g := by { simpa using hk }; omega) HE.out.1.2.2.2.2.1.size), hlo.1, Nat.le_trans hlo.2 ht.size⟩
    · rw [List.length_set]
      exact HE.out.1.1.turn ht (by simp; omega)
    · rw [List.length_set]
      exact own_set6 _ _ _ _ _ _ HE.out.1.2.2.2.1 (by omega)
  refine hK.out _ _ ((turn_set6 (.int .i64 zg) (.int .i64 zsl) (.bool zf) (.int .i64 zv) (.bool zh) (.slice Y2 zps.length y2)).mono (fun k hk => by have : k = g := by { simpa using hk }; subst this; exact HG.out.2.2.1)) ?_
  generalize ((((((w6.setCell ⟨g, q * 6, none⟩ (.int .i64 zg)).setCell ⟨g, q * 6 + 1, none⟩ (.int .i64 zsl)).setCell ⟨g, q * 6 + 2, none⟩ (.bool zf)).setCell ⟨g, q * 6 + 3, none⟩ (.int .i64 zv)).setCell ⟨g, q * 6 + 4, none⟩ (.bool zh)).setCell ⟨g, q * 6 + 5, none⟩ (.slice Y2 zps.length y2)) = w7 at HF ⊢
  clear hK HE hqn u0 u1 u2 u3 u4 u5 e0 e1 e2 e3 e4 e5 f0 f1 f2 f3 f4 f5
  refine wpG_done (by kernel_rfl) ?_
  go_wp2_with (first | (refine list_load27 rfl (.tmp 2) rfl w.heap.size #[.int .i64 c.id, .int .i64 c.m, .int .i64 c.u, .int .i64 c.b, .int .i64 c.cp, .int .i64 c.z, .int .i64 c.s, .int .i64 c.mt, .int .i64 c.o, .int .i64 c.a, .int .i64 c.l, .int .i64 ep, .int .i64 (n 2), .slice A st.length k, .slice (some ⟨g, 0, none⟩) (zs.set q ⟨zg, zsl, zf, zv, zh, zps⟩).length d] HF.out.var rfl rfl ?_) | (refine list_store27 rfl (.tmp 4) (.tmp 51) rfl (w.heap.size + 2) #[.int .i64 c.id, .int .i64 c.m, .int .i64 c.u, .int .i64 c.b, .int .i64 c.cp, .int .i64 c.z, .int .i64 c.s, .int .i64 c.mt, .int .i64 c.o, .int .i64 c.a, .int .i64 c.l, .int .i64 ep, .int .i64 (n 2), .slice A st.length k, .slice (some ⟨g, 0, none⟩) (zs.set q ⟨zg, zsl, zf, zv, zh, zps⟩).length d] _ HF.out.ret rfl rfl (by first | kernel_rfl | simp [Value.oneCell']) rfl rfl (fun w8 q1 q2 => ?_)))
  obtain ⟨hst, hbel⟩ := HF.out.fin (q2 [w.heap.size + 2] (by simp))
  exact bodyPost_ret (v := .tuple #[.agg #[.int .i64 c.id, .int .i64 c.m, .int .i64 c.u, .int .i64 c.b, .int .i64 c.cp, .int .i64 c.z, .int .i64 c.s, .int .i64 c.mt, .int .i64 c.o, .int .i64 c.a, .int .i64 c.l, .int .i64 ep, .int .i64 (n 2), .slice A st.length k, .slice (some ⟨g, 0, none⟩) (zs.set q ⟨zg, zsl, zf, zv, zh, zps⟩).length d], .int .i64 0]) (res9 rfl rfl q1 rfl) rfl (GotAN.next HR.out HFO.out HNX.out.symm hst hbel)
end Go.Proofs.Ytaceaemombnhkaa
namespace Go.Proofs.Ytaceaemombnhkaa
set_option linter.unusedVariables false
set_option maxRecDepth 100000
set_option linter.unusedSimpArgs false
open Go.RowKit
open Go.RowKit (wrap64)

theorem mem_freeL' {c : Cf} {zs : List Zn} {v : Int} : v ∈ freeL c zs ↔ 0 ≤ v ∧ v < slotsC c ∧ ¬ usedB zs v.toNat = true := by
  unfold freeL
  rw [List.mem_map]
  constructor
  · rintro ⟨m, hm, rfl⟩
    obtain ⟨h1, h2⟩ := freeN_mem.1 hm
    refine ⟨by omega, by omega, fun hu => ?_⟩
    obtain ⟨z, hz, he⟩ := usedB_iff.1 hu
    exact h2 z hz (by simpa using he)
  · rintro ⟨h1, h2, h3⟩
    refine ⟨v.toNat, freeN_mem.2 ⟨by omega, fun z hz he => h3 (usedB_iff.2 ⟨z, hz, he⟩)⟩, by omega⟩
theorem oddL_zero : ∀ (l : List Int) (i : Nat), oddL l i = none → oddN l = 0
  | [], _, _ => rfl
  | n :: l, i, h => by
    by_cases h0 : n = 0
    · subst h0
      have h' : oddL l (i + 1) = none := by simpa [oddL] using h
      show (if (0 : Int) = 0 then 0 else 1) + oddN l = 0
      rw [oddL_zero l (i + 1) h']
      rfl
    · simp [oddL, h0] at h
theorem oddL_at : ∀ (l : List Int) (i m : Nat) (k : Int), oddL l i = some (m, k) → i ≤ m ∧ ∃ h : m - i < l.length, l[m - i] ≠ 0
  | [], _, _, _, h => by simp [oddL] at h
  | n :: l, i, m, k, h => by
    by_cases h0 : n = 0
    · subst h0
      have h' : oddL l (i + 1) = some (m, k) := by simpa [oddL] using h
      obtain ⟨h1, h2, h3⟩ := oddL_at l (i + 1) m k h'
      refine ⟨by omega, by simp; omega, ?_⟩
      have e : m - i = (m - (i + 1)) + 1 := by omega
      simp only [e, List.getElem_cons_succ]
      exact h3
    · simp only [oddL, if_neg h0, Option.some.injEq, Prod.mk.injEq] at h
      obtain ⟨rfl, rfl⟩ := h
      exact ⟨Nat.le_refl _, by simp, by simpa using h0⟩
theorem oddN_set : ∀ (l : List Int) (m : Nat) (v : Int) (h : m < l.length), oddN (l.set m v) + (if l[m] = 0 then 0 else 1) = oddN l + (if v = 0 then 0 else 1)
  | n :: l, 0, v, _ => by
    show (if v = 0 then 0 else 1) + oddN l + (if n = 0 then 0 else 1) = (if n = 0 then 0 else 1) + oddN l + (if v = 0 then 0 else 1)
    omega
  | n :: l, m + 1, v, h => by
    have hm : m < l.length := by simpa using h
    have ih := oddN_set l m v hm
    show (if n = 0 then 0 else 1) + oddN (l.set m v) + (if l[m] = 0 then 0 else 1) = (if n = 0 then 0 else 1) + oddN l + (if v = 0 then 0 else 1)
    omega
theorem stand_next {st : List Int} {m v : Int} (h : StandR st) (ht : TurnR st m) (hv : 0 ≤ v ∧ v ≤ 2) : StandR (st.set m.toNat v) := by
  refine ⟨fun n hn => ?_, ?_⟩
  · rcases List.mem_or_eq_of_mem_set hn with h1 | rfl
    · exact h.1 n h1
    · exact hv
  · have hm : m.toNat < st.length := by have := ht.1; have := ht.2.1; omega
    have e := oddN_set st m.toNat v hm
    have h1 := h.2
    rcases ht.2.2 with h2 | ⟨k, h2⟩
    · have h3 := oddL_zero st 0 h2
      split at e <;> split at e <;> omega
    · obtain ⟨_, h4, h5⟩ := oddL_at st 0 m.toNat k h2
      have h6 : st[m.toNat] ≠ 0 := h5
      rw [if_neg h6] at e
      split at e <;> omega
theorem bare_right {c : Cf} {P Q : Prop} {z : Zn} (h : ZoneR c P z) : ZoneR c Q (bareZ z) :=
  ⟨h.gen, h.slot, h.have_, h.pars, fun h => by simp [bareZ] at h, h.end_, h.full⟩
theorem zone_next {c : Cf} {st : List Int} {zs : List Zn} {z : Zn} {n : Nat → Int} {b : List UInt8} (hg : Good c) (h : ZoneR c (2 ∈ st) z) (hf : FitsR c st zs z n b) : ZoneR c (2 ∈ st) (nextZ (decide (2 ∈ st)) z n b) := by
  have hsl := slots_good hg
  obtain ⟨_, _, _, _, _, _, _, _, _, _, _, hz1, hs1, _⟩ := hg
  have hsz := size_in c
  unfold nextZ
  rcases hf with ⟨k, h1, h2, h3, h4⟩ | ⟨k, h1, h2, h3⟩ | ⟨k, h1, h2⟩ | ⟨k, h1, h2, h3, h4, h5⟩ | ⟨k, h1, h2⟩
  · rw [if_pos k]
    obtain ⟨g1, g2, _⟩ := mem_freeL'.1 h4
    refine ⟨h.gen, ⟨by show -1 ≤ n 5; omega, by show n 5 ≤ _; omega⟩, h.have_, fun _ => by show n 5 ≠ -1; omega, fun hw => ⟨by show n 5 ≠ -1; omega, by simpa using hw⟩, ⟨h.end_.1, Or.inr (by show n 5 ≠ -1; omega)⟩, h.full⟩
  · rw [if_neg (by omega), if_neg (by omega), if_pos k]
    refine ⟨⟨h2, h3⟩, ⟨by show (-1 : Int) ≤ -1; omega, by show (-1 : Int) ≤ slotsC c - 1; omega⟩, ⟨fun p hp => by simp at hp, by simp⟩, fun hp => by simp at hp, fun hw => by simp at hw, ⟨⟨by show (0 : Int) ≤ 0; omega, hsz.1⟩, Or.inl rfl⟩, fun hw => by simp at hw⟩
  · rw [if_neg (by omega), if_pos k]
    exact ⟨h.gen, h.slot, h.have_, h.pars, fun hw => ⟨h1, by simpa using hw⟩, h.end_, h.full⟩
  · rw [if_neg (by omega), if_neg (by omega), if_neg (by omega), if_neg (by omega)]
    have hsn : z.slot ≠ -1 := by
      rcases h5.2 with h6 | h6
      · exact absurd h6 h2
      · exact h6
    refine ⟨h.gen, h.slot, ⟨fun p hp => ?_, ?_⟩, fun _ => hsn, h.whole, h.end_, h.full⟩
    · have hp' : p ∈ z.ps ++ [⟨n 6, b⟩] := List.mem_of_mem_drop hp
      rcases List.mem_append.1 hp' with h6 | h6
      · exact h.have_.1 p h6
      · obtain rfl : p = ⟨n 6, b⟩ := by simpa using h6
        have := h5.1
        exact ⟨⟨by show 1 ≤ n 6; omega, by show n 6 ≤ _; omega⟩, h3⟩
    · show (nextPs z.ps _).length ≤ 2
      have := h.have_.2
      unfold nextPs
      rw [List.length_drop, List.length_append]
      simp only [List.length_cons, List.length_nil]
      omega
  · rw [if_neg (by omega), if_neg (by omega), if_neg (by omega), if_pos k]
    exact ⟨h.gen, h.slot, h.have_, h.pars, h.whole, h2, fun _ => rfl⟩
theorem slot_next {c : Cf} {st : List Int} {zs : List Zn} {z : Zn} {n : Nat → Int} {b : List UInt8} {r : Bool} (hf : FitsR c st zs z n b) : (nextZ r z n b).slot = -1 ∨ (nextZ r z n b).slot = z.slot ∨ ((nextZ r z n b).slot ∈ freeL c zs) := by
  unfold nextZ
  rcases hf with ⟨k, h1, h2, h3, h4⟩ | ⟨k, h1, h2, h3⟩ | ⟨k, h1, h2⟩ | ⟨k, h1, h2, h3, h4, h5⟩ | ⟨k, h1, h2⟩
  · rw [if_pos k]; exact Or.inr (Or.inr h4)
  · rw [if_neg (by omega), if_neg (by omega), if_pos k]; exact Or.inl rfl
  · rw [if_neg (by omega), if_pos k]; exact Or.inr (Or.inl rfl)
  · rw [if_neg (by omega), if_neg (by omega), if_neg (by omega), if_neg (by omega)]; exact Or.inr (Or.inl rfl)
  · rw [if_neg (by omega), if_neg (by omega), if_neg (by omega), if_pos k]; exact Or.inr (Or.inl rfl)
theorem apart_next {zs : List Zn} {z : Zn} {q : Nat} (hq : q < zs.length) (h : ApartR zs) (hz : z.slot = -1 ∨ z.slot = zs[q].slot ∨ ∀ y ∈ zs, y.slot ≠ z.slot) : ApartR (zs.set q z) := by
  have h0 := List.pairwise_iff_getElem.1 h
  refine List.pairwise_iff_getElem.2 fun i j hi hj hij he => ?_
  have hi' : i < zs.length := by simpa using hi
  have hj' : j < zs.length := by simpa using hj
  rw [List.getElem_set, List.getElem_set] at he
  rw [List.getElem_set]
  by_cases h1 : q = i
  · subst h1
    rw [if_pos rfl, if_neg (by omega)] at he
    rw [if_neg (by omega)]
    rcases hz with h2 | h2 | h2
    · rw [← he]; exact h2
    · exact h0 q j hi' hj' hij (by rw [← h2]; exact he)
    · exact absurd he.symm (h2 _ (List.getElem_mem hj'))
  · rw [if_neg h1] at he
    by_cases h3 : q = j
    · subst h3
      rw [if_pos rfl] at he ⊢
      rcases hz with h2 | h2 | h2
      · exact h2
      · rw [h2]; exact h0 i q hi' hj' hij (by rw [← h2]; exact he)
      · exact absurd he (h2 _ (List.getElem_mem hi'))
    · rw [if_neg h3] at he ⊢
      exact h0 i j hi' hj' hij he
theorem right_next {c : Cf} {ep sq : Int} {st : List Int} {zs : List Zn} {n : Nat → Int} {b : List UInt8} (h : RightS ⟨c, ep, sq, st, zs⟩) (hf : FollowR c ep sq st zs n b) : RightS (nextS ⟨c, ep, sq, st, zs⟩ n b) := by
  have hg := check_good0 h.conf
  rcases hf.2.2.2 with ⟨k, h1, h2⟩ | ⟨k, h1⟩
  · rw [nextS_status k]
    refine ⟨h.conf, ?_, ?_, h.ep, hf.2.2.1, stand_next h.stand h1 h2, fun z hz => ?_, ?_⟩
    · show ((st.set _ _).length : Int) = c.m
      rw [List.length_set]; exact h.stat
    · show ((zs.map bareZ).length : Int) = c.z
      rw [List.length_map]; exact h.zone
    · obtain ⟨z0, h0, rfl⟩ := List.mem_map.1 hz
      exact bare_right (h.be z0 h0)
    · exact List.pairwise_map.2 h.apart
  · obtain ⟨q, hq, hn⟩ := zoneFits_in h1
    have hft := (zoneFits_at hq hn).1 h1
    rw [nextS_zone k hq hn]
    refine ⟨h.conf, h.stat, ?_, h.ep, hf.2.2.1, h.stand, fun z hz => ?_, ?_⟩
    · show ((zs.set _ _).length : Int) = c.z
      rw [List.length_set]; exact h.zone
    · rcases List.mem_or_eq_of_mem_set hz with h2 | rfl
      · exact h.be z h2
      · exact zone_next hg (h.be _ (List.getElem_mem hq)) hft
    · refine apart_next hq h.apart ?_
      rcases slot_next (r := decide (2 ∈ st)) hft with h2 | h2 | h2
      · exact Or.inl h2
      · exact Or.inr (Or.inl h2)
      · refine Or.inr (Or.inr fun y hy he => ?_)
        obtain ⟨g1, _, g3⟩ := mem_freeL'.1 h2
        exact g3 (usedB_iff.2 ⟨y, hy, by rw [he]; omega⟩)
end Go.Proofs.Ytaceaemombnhkaa
namespace Go.Proofs.Ytaceaemombnhkaa
set_option linter.unusedVariables false
set_option maxRecDepth 100000
set_option linter.unusedSimpArgs false
open Go.RowKit
open Go.RowKit (wrap64)

theorem bareN_take {zs : List Zn} {k : Nat} (h : k < zs.length) : (bareN (zs.take (k + 1)) : Int) = (bareN (zs.take k) : Int) + (if zs[k].slot = -1 then 1 else 0) := by
  have h1 := hasN_take h
  have h2 := hasN_le (zs.take k)
  have h3 := hasN_le (zs.take (k + 1))
  unfold bareN
  rw [List.length_take] at h2 h3 ⊢
  rw [List.length_take]
  rw [Nat.min_eq_left (by omega)] at h2 h3 ⊢
  rw [Nat.min_eq_left (by omega)]
  split at h1 <;> rename_i hc
  · rw [if_pos hc]; omega
  · rw [if_neg hc]; omega
/-- All blocks but one. -/
def OffG (g : Nat) (w : World) : Nat → Prop := fun k => k ≠ g ∧ k < w.heap.size
/-- Within the loop: the settings', and the state's block. -/
structure GoI (c : Cf) (s : St) (A : Option Addr) (k : Nat) (D : Option Addr) (d g : Nat) (w wr : World) : Prop where
  cf : Box wr w.heap.size 23 #[.int .i64 c.id, .int .i64 c.m, .int .i64 c.u, .int .i64 c.b, .int .i64 c.cp, .int .i64 c.z, .int .i64 c.s, .int .i64 c.mt, .int .i64 c.o, .int .i64 c.a, .int .i64 c.l]
  var : Box wr g 27 #[.int .i64 s.c.id, .int .i64 s.c.m, .int .i64 s.c.u, .int .i64 s.c.b, .int .i64 s.c.cp, .int .i64 s.c.z, .int .i64 s.c.s, .int .i64 s.c.mt, .int .i64 s.c.o, .int .i64 s.c.a, .int .i64 s.c.l, .int .i64 s.ep, .int .i64 s.sq, .slice A s.st.length k, .slice D s.zs.length d]
  st : StAt wr (OffG g wr) A s.st k D s.zs d
  below : Below w.heap.size w wr
  lo : w.heap.size < g
  right : RightS s
  same : s.c = c
section
variable {c : Cf} {s : St} {A : Option Addr} {k : Nat} {D : Option Addr} {d g : Nat} {w wr w1 : World}
theorem GoI.later (h : GoI c s A k D d g w wr) (hb : Below wr.heap.size wr w1) : GoI c s A k D d g w w1 :=
  ⟨h.cf.later hb, h.var.later hb, (h.st.keep (Kept.of_below hb (fun _ h => h.2))).mono (fun k h => ⟨h.1, Nat.lt_of_lt_of_le h.2 hb.size⟩), h.below.trans (hb.mono h.below.size), h.lo, h.right, h.same⟩
theorem GoI.at_ (h : GoI c s A k D d g w wr) : StAt wr (LT wr.heap.size) A s.st k D s.zs d := h.st.mono fun _ h => h.2
/-- A store into a new block. -/
theorem GoI.turn {g2 : Nat} (h : GoI c s A k D d g w wr) (hb : Below wr.heap.size wr w1) {w2 : World} (ht : Turn [g2] w1 w2) (hg : wr.heap.size ≤ g2) : GoI c s A k D d g w w2 := by
  have hb2 : Below wr.heap.size wr w2 := hb.trans (ht.below (fun k hk => by have : k = g2 := by { simpa using hk }; omega) hb.size)
  exact h.later hb2
/-- Another state stored. -/
theorem GoI.next {t : St} {A2 : Option Addr} {k2 : Nat} {D2 : Option Addr} {d2 lo : Nat} (h : GoI c s A k D d g w wr) (hb : Box w1 g 27 #[.int .i64 t.c.id, .int .i64 t.c.m, .int .i64 t.c.u, .int .i64 t.c.b, .int .i64 t.c.cp, .int .i64 t.c.z, .int .i64 t.c.s, .int .i64 t.c.mt, .int .i64 t.c.o, .int .i64 t.c.a, .int .i64 t.c.l, .int .i64 t.ep, .int .i64 t.sq, .slice A2 t.st.length k2, .slice D2 t.zs.length d2]) (ht : Turn [g] wr w1) (hs : StAt wr (Ext (fun _ => False) lo wr) A2 t.st k2 D2 t.zs d2) (hlo : g < lo) (hr : RightS t) (hc : t.c = c) : GoI c t A2 k2 D2 d2 g w w1 := by
  have hgl := h.lo
  refine ⟨h.cf.turn ht (by simp; omega), hb, (hs.keep (Kept.turn ht (fun k hk => hk.elim False.elim (fun hk => ⟨hk.2, by simp; omega⟩)))).mono (fun k hk => hk.elim False.elim (fun hk => ⟨by omega, Nat.lt_of_lt_of_le hk.2 ht.size⟩)), h.below.trans (ht.below (fun k hk => by have : k = g := by { simpa using hk }; omega) h.below.size), h.lo, hr, hc⟩
theorem nextS_c {s : St} {n : Nat → Int} {b : List UInt8} : (nextS s n b).c = s.c := by unfold nextS; split <;> rfl
end
end Go.Proofs.Ytaceaemombnhkaa
namespace Go.Proofs.Ytaceaemombnhkaa
set_option linter.unusedVariables false
set_option linter.unusedSimpArgs false
open Go.RowKit
open Go.RowKit (wrap64)

open Go.ChangeShapes Go.WideShapes Go.ChangeAt

theorem Try.cells30 : Try.prog.cellsOf 30 = 10 := by kernel_rfl
theorem Try.cells28 : Try.prog.cellsOf 28 = 1 := by kernel_rfl
theorem Try.bytes5 : Try.prog.bytesOf 5 = 1 := by kernel_rfl
/-- Nine numbers by their places. -/
def nine (m0 m1 m2 m3 m4 m5 m6 m7 m8 : Int) : Nat → Int
  | 0 => m0
  | 1 => m1
  | 2 => m2
  | 3 => m3
  | 4 => m4
  | 5 => m5
  | 6 => m6
  | 7 => m7
  | 8 => m8
  | _ => 0
section
variable {H : Type} {enc : TypeId × Value → H}
theorem weights_mem_all {P : Program} {e : TypeId} : ∀ {l : List (DataW H)} {d : DataW H}, d ∈ l → ∀ n ∈ d.weights P e, n ∈ DataW.weightsAll P e l
  | d0 :: l, d, h, n, hn => by
    simp only [DataW.weightsAll, List.mem_append]
    rcases List.mem_cons.1 h with rfl | h
    · exact Or.inl hn
    · exact Or.inr (weights_mem_all h n hn)
  | [], _, h, _, _ => by cases h
/-- One block out of its reading. -/
theorem block_trod {w : World} {base : Nat} {spare : Nat → Bool} {held : Bool} {fuel : Nat} {v : Value} {D : DataW H} {Pl : List MemPlace}
    (h : DataW.trod enc Try.prog w base spare held fuel 28 [v] = some (D, Pl)) (hw : ∀ n ∈ D.weights Try.prog 28, n ≤ reachBytes) :
    ∃ X c, ∃ l : List UInt8, v = .slice X l.length c ∧ Rd w w.heap.size X l ∧ l.length ≤ c ∧ l.length ≤ 140737488351232 := by
  rcases open_ints Try.underlying28 Try.underlying5 (by kernel_rfl) h with ⟨hcs, _⟩ | ⟨x, l, c, zs, hcs, _, hl, hm, hz, hx, hcell, hwz⟩
  · simp at hcs
    subst hcs
    exact ⟨none, 0, [], rfl, Rd.nil, Nat.le_refl _, by simp⟩
  · simp at hcs
    subst hcs
    injection hx with hD _
    subst hD
    have hzl : l ≤ zs.length := by rw [hz]; split <;> omega
    have hb := hw ((((lits .u8 (zs.take l) : List (DataW H)).length) + (lits .u8 (zs.drop l) : List (DataW H)).length) * Try.prog.bytesOf 5) (by simp [DataW.weights, Try.underlying28])
    rw [Try.bytes5] at hb
    simp only [lits, List.length_map, List.length_take, List.length_drop, reachBytes] at hb
    refine ⟨some x, c, (zs.take l).map fun n => UInt8.ofNat n.toNat, ?_, fun h0 => ⟨x, rfl, ?_, fun j u hu => ?_⟩, by simp; omega, by simp; omega⟩
    · simp [Nat.min_eq_left hzl]
    · have h := hcell 0 (by simp at h0; omega)
      have hb : (x.add 0).block < w.heap.size := by
        rcases Nat.lt_or_ge (x.add 0).block w.heap.size with h1 | h1
        · exact h1
        · simp [World.cell?, Array.getElem?_eq_none h1] at h
      rwa [step_block] at hb
    · have hj : j < l := by
        have := (List.getElem?_eq_some_iff.1 hu).1
        simp [cBs] at this
        omega
      have hjz : j < zs.length := by omega
      have hb := bounds_u8 (hwz zs[j] (List.getElem_mem hjz))
      have hu' : u = .int .u8 zs[j] := by
        simp [cBs, cB, hj, hjz] at hu
        rw [← hu]
        congr 1
        omega
      rw [hcell j hjz, hu']
      simp [List.getD, hjz]
theorem open_bytes {w : World} {base : Nat} {spare : Nat → Bool} {held : Bool} {A : Option Addr} {len cap : Nat} {d : DataW H} {p : List MemPlace} (h : DataW.Trod enc Try.prog w base spare held 28 (.slice A len cap) d p) (hw : ∀ n ∈ d.weights Try.prog 28, n ≤ reachBytes) :
    ∃ l : List UInt8, l.length = len ∧ Rd w w.heap.size A l ∧ len ≤ cap ∧ len ≤ 140737488351232 := by
  obtain ⟨fuel, hf⟩ := h
  obtain ⟨X, c, l, e, h1, h2, h3⟩ := block_trod (by simpa [Value.cells] using hf) hw
  injection e with e1 e2 e3
  subst e1 e2 e3
  exact ⟨l, rfl, h1, h2, h3⟩
end
end Go.Proofs.Ytaceaemombnhkaa
namespace Go.Proofs.Ytaceaemombnhkaa
set_option linter.unusedVariables false
set_option linter.unusedSimpArgs false
set_option maxRecDepth 100000
open Go.RowKit
open Go.RowKit (wrap64)
open Go.ChangeShapes Go.WideShapes Go.ChangeAt
section
variable {H : Type} {enc : TypeId × Value → H}
/-- One record out of its reading. -/
theorem rec_trod {w : World} {base : Nat} {spare : Nat → Bool} {held : Bool} {fuel : Nat} {cs : List Value} {D : DataW H} {Pl : List MemPlace}
    (h : DataW.trod enc Try.prog w base spare held fuel 30 cs = some (D, Pl)) (hw : ∀ n ∈ D.weights Try.prog 30, n ≤ reachBytes) :
    ∃ n : Nat → Int, ∃ X c, ∃ l : List UInt8, cs = [.int .i64 (n 0), .int .i64 (n 1), .int .i64 (n 2), .int .i64 (n 3), .int .i64 (n 4), .int .i64 (n 5), .int .i64 (n 6), .int .i64 (n 7), .int .i64 (n 8), .slice X l.length c] ∧ Rd w w.heap.size X l ∧ l.length ≤ c ∧ l.length ≤ 140737488351232 ∧ (∀ i, -9223372036854775808 ≤ n i ∧ n i ≤ 9223372036854775807) := by
  obtain ⟨xs, n, _, hx, hl, hxs, hf⟩ := DataW.trod_struct Try.underlying30 h
  rw [Try.cells30] at hl
  match cs, hl with
  | [v0, v1, v2, v3, v4, v5, v6, v7, v8, v9], _ =>
    have f0 : DataW.trod enc Try.prog w base spare held n 3 (([v0, v1, v2, v3, v4, v5, v6, v7, v8, v9].drop 0).take (Try.prog.cellsOf 3)) = xs[0]? := hf 0 _ rfl
    rw [Try.cells3] at f0
    have f1 : DataW.trod enc Try.prog w base spare held n 3 (([v0, v1, v2, v3, v4, v5, v6, v7, v8, v9].drop 1).take (Try.prog.cellsOf 3)) = xs[1]? := hf 1 _ rfl
    rw [Try.cells3] at f1
    have f2 : DataW.trod enc Try.prog w base spare held n 3 (([v0, v1, v2, v3, v4, v5, v6, v7, v8, v9].drop 2).take (Try.prog.cellsOf 3)) = xs[2]? := hf 2 _ rfl
    rw [Try.cells3] at f2
    have f3 : DataW.trod enc Try.prog w base spare held n 3 (([v0, v1, v2, v3, v4, v5, v6, v7, v8, v9].drop 3).take (Try.prog.cellsOf 3)) = xs[3]? := hf 3 _ rfl
    rw [Try.cells3] at f3
    have f4 : DataW.trod enc Try.prog w base spare held n 3 (([v0, v1, v2, v3, v4, v5, v6, v7, v8, v9].drop 4).take (Try.prog.cellsOf 3)) = xs[4]? := hf 4 _ rfl
    rw [Try.cells3] at f4
    have f5 : DataW.trod enc Try.prog w base spare held n 3 (([v0, v1, v2, v3, v4, v5, v6, v7, v8, v9].drop 5).take (Try.prog.cellsOf 3)) = xs[5]? := hf 5 _ rfl
    rw [Try.cells3] at f5
    have f6 : DataW.trod enc Try.prog w base spare held n 3 (([v0, v1, v2, v3, v4, v5, v6, v7, v8, v9].drop 6).take (Try.prog.cellsOf 3)) = xs[6]? := hf 6 _ rfl
    rw [Try.cells3] at f6
    have f7 : DataW.trod enc Try.prog w base spare held n 3 (([v0, v1, v2, v3, v4, v5, v6, v7, v8, v9].drop 7).take (Try.prog.cellsOf 3)) = xs[7]? := hf 7 _ rfl
    rw [Try.cells3] at f7
    have f8 : DataW.trod enc Try.prog w base spare held n 3 (([v0, v1, v2, v3, v4, v5, v6, v7, v8, v9].drop 8).take (Try.prog.cellsOf 3)) = xs[8]? := hf 8 _ rfl
    rw [Try.cells3] at f8
    have f9 : DataW.trod enc Try.prog w base spare held n 28 (([v0, v1, v2, v3, v4, v5, v6, v7, v8, v9].drop 9).take (Try.prog.cellsOf 28)) = xs[9]? := hf 9 _ rfl
    rw [Try.cells28] at f9
    match xs, hxs with
    | [y0, y1, y2, y3, y4, y5, y6, y7, y8, (D9, P9)], _ =>
      have g0 : DataW.trod enc Try.prog w base spare held n 3 [v0] = some y0 := f0
      obtain ⟨m0, e0, _, b0⟩ := DataW.trod_int Try.underlying3 g0
      simp only [List.cons.injEq, and_true] at e0
      subst e0
      have g1 : DataW.trod enc Try.prog w base spare held n 3 [v1] = some y1 := f1
      obtain ⟨m1, e1, _, b1⟩ := DataW.trod_int Try.underlying3 g1
      simp only [List.cons.injEq, and_true] at e1
      subst e1
      have g2 : DataW.trod enc Try.prog w base spare held n 3 [v2] = some y2 := f2
      obtain ⟨m2, e2, _, b2⟩ := DataW.trod_int Try.underlying3 g2
      simp only [List.cons.injEq, and_true] at e2
      subst e2
      have g3 : DataW.trod enc Try.prog w base spare held n 3 [v3] = some y3 := f3
      obtain ⟨m3, e3, _, b3⟩ := DataW.trod_int Try.underlying3 g3
      simp only [List.cons.injEq, and_true] at e3
      subst e3
      have g4 : DataW.trod enc Try.prog w base spare held n 3 [v4] = some y4 := f4
      obtain ⟨m4, e4, _, b4⟩ := DataW.trod_int Try.underlying3 g4
      simp only [List.cons.injEq, and_true] at e4
      subst e4
      have g5 : DataW.trod enc Try.prog w base spare held n 3 [v5] = some y5 := f5
      obtain ⟨m5, e5, _, b5⟩ := DataW.trod_int Try.underlying3 g5
      simp only [List.cons.injEq, and_true] at e5
      subst e5
      have g6 : DataW.trod enc Try.prog w base spare held n 3 [v6] = some y6 := f6
      obtain ⟨m6, e6, _, b6⟩ := DataW.trod_int Try.underlying3 g6
      simp only [List.cons.injEq, and_true] at e6
      subst e6
      have g7 : DataW.trod enc Try.prog w base spare held n 3 [v7] = some y7 := f7
      obtain ⟨m7, e7, _, b7⟩ := DataW.trod_int Try.underlying3 g7
      simp only [List.cons.injEq, and_true] at e7
      subst e7
      have g8 : DataW.trod enc Try.prog w base spare held n 3 [v8] = some y8 := f8
      obtain ⟨m8, e8, _, b8⟩ := DataW.trod_int Try.underlying3 g8
      simp only [List.cons.injEq, and_true] at e8
      subst e8
      have g9 : DataW.trod enc Try.prog w base spare held n 28 [v9] = some (D9, P9) := f9
      injection hx with hD _
      obtain ⟨X, c, l, e9, h3, h4, h5⟩ := block_trod g9 (fun k hk => hw k (by
        subst hD
        simp only [DataW.weights, Try.underlying30, List.map_cons, List.map_nil, DataW.weightsEach, List.mem_append]
        exact Or.inr (Or.inr (Or.inr (Or.inr (Or.inr (Or.inr (Or.inr (Or.inr (Or.inr (Or.inl hk)))))))))))
      subst e9
      refine ⟨nine m0 m1 m2 m3 m4 m5 m6 m7 m8, X, c, l, rfl, h3, h4, h5, fun i => ?_⟩
      match i with
      | 0 => exact bounds_i64 b0
      | 1 => exact bounds_i64 b1
      | 2 => exact bounds_i64 b2
      | 3 => exact bounds_i64 b3
      | 4 => exact bounds_i64 b4
      | 5 => exact bounds_i64 b5
      | 6 => exact bounds_i64 b6
      | 7 => exact bounds_i64 b7
      | 8 => exact bounds_i64 b8
      | i + 9 => exact ⟨by show _ ≤ (0 : Int); omega, by show (0 : Int) ≤ _; omega⟩
theorem open_rec {w : World} {base b0 : Nat} {spare : Nat → Bool} {held : Bool} {r : Reach} {v : Value} {d : DataW H} {p : List MemPlace} (hv : Value.okWide Try.prog w r b0 30 v) (h : DataW.Trod enc Try.prog w base spare held 30 v d p) (hw : ∀ n ∈ d.weights Try.prog 30, n ≤ reachBytes) :
    ∃ n : Nat → Int, ∃ X c, ∃ l : List UInt8, v = .agg #[.int .i64 (n 0), .int .i64 (n 1), .int .i64 (n 2), .int .i64 (n 3), .int .i64 (n 4), .int .i64 (n 5), .int .i64 (n 6), .int .i64 (n 7), .int .i64 (n 8), .slice X l.length c] ∧ Rd w w.heap.size X l ∧ l.length ≤ c ∧ l.length ≤ 140737488351232 ∧ (∀ i, -9223372036854775808 ≤ n i ∧ n i ≤ 9223372036854775807) := by
  obtain ⟨cs, rfl, hsz⟩ := okWide_struct Try.underlying30 hv
  obtain ⟨fuel, hf⟩ := h
  obtain ⟨n, X, c, l, hc, h1, h2, h3, h4⟩ := rec_trod hf hw
  refine ⟨n, X, c, l, ?_, h1, h2, h3, h4⟩
  rcases cs with ⟨cl⟩
  simp only [Value.cells] at hc
  rw [hc]
end
end Go.Proofs.Ytaceaemombnhkaa
namespace Go.Proofs.Ytaceaemombnhkaa
set_option linter.unusedVariables false
set_option linter.unusedSimpArgs false
set_option maxRecDepth 100000
open Go.RowKit
open Go.RowKit (wrap64)
open Go.ChangeShapes Go.WideShapes Go.ChangeAt
/-- Records at A. -/
def Recs (w : World) (B : Nat) (A : Option Addr) (xs : List ((Nat → Int) × List UInt8)) : Prop :=
  0 < xs.length → ∃ g off, A = some ⟨g, off, none⟩ ∧ g < B ∧ ∀ j (hj : j < xs.length), ∃ X c, (∀ i, i < 9 → w.cell? ⟨g, off + j * 10 + i, none⟩ = some (.int .i64 (xs[j].1 i))) ∧ w.cell? ⟨g, off + j * 10 + 9, none⟩ = some (.slice X xs[j].2.length c) ∧ Rd w B X xs[j].2 ∧ xs[j].2.length ≤ c ∧ xs[j].2.length ≤ 140737488351232
theorem Recs.below {w w' : World} {B : Nat} {A : Option Addr} {xs : List ((Nat → Int) × List UInt8)} (h : Recs w B A xs) (hb : Below B w w') : Recs w' B A xs := fun h0 => by
  obtain ⟨g, off, rfl, hg, hc⟩ := h h0
  refine ⟨g, off, rfl, hg, fun j hj => ?_⟩
  obtain ⟨X, c, h1, h2, h3, h4, h5⟩ := hc j hj
  exact ⟨X, c, fun i hi => (hb.cell (p := ⟨g, off + j * 10 + i, none⟩) hg).trans (h1 i hi), (hb.cell (p := ⟨g, off + j * 10 + 9, none⟩) hg).trans h2, h3.below hb, h4, h5⟩
theorem recs_of {w : World} {a : Addr} {len : Nat} (h : ∀ i, i < len → ∃ n : Nat → Int, ∃ X c, ∃ l : List UInt8, (∀ q, q < 9 → w.cell? (a.add (i * 10 + q)) = some (.int .i64 (n q))) ∧ w.cell? (a.add (i * 10 + 9)) = some (.slice X l.length c) ∧ Rd w w.heap.size X l ∧ l.length ≤ c ∧ l.length ≤ 140737488351232) :
    ∃ xs : List ((Nat → Int) × List UInt8), xs.length = len ∧ Recs w w.heap.size (some a) xs := by
  have h' : ∀ i : Nat, ∃ t : (Nat → Int) × List UInt8, i < len → ∃ X c, (∀ q, q < 9 → w.cell? (a.add (i * 10 + q)) = some (.int .i64 (t.1 q))) ∧ w.cell? (a.add (i * 10 + 9)) = some (.slice X t.2.length c) ∧ Rd w w.heap.size X t.2 ∧ t.2.length ≤ c ∧ t.2.length ≤ 140737488351232 := fun i => by
    by_cases hi : i < len
    · obtain ⟨n, X, c, l, h1⟩ := h i hi
      exact ⟨(n, l), fun _ => ⟨X, c, h1⟩⟩
    · exact ⟨(fun _ => 0, []), fun hl => absurd hl hi⟩
  obtain ⟨f, hf⟩ := Classical.axiomOfChoice h'
  refine ⟨(List.range len).map f, by simp, fun h0 => ?_⟩
  have hlen : 0 < len := by simpa using h0
  obtain ⟨g, off, spot⟩ := a
  obtain ⟨X, c, hc, _⟩ := hf 0 hlen
  have hc := hc 0 (by omega)
  have hspot : spot = none := by simpa [Addr.add] using World.cell?_spot hc
  subst hspot
  have hadd : ∀ j, (⟨g, off, none⟩ : Addr).add j = ⟨g, off + j, none⟩ := fun j => by unfold Addr.add; split <;> simp_all
  have hg : g < w.heap.size := by
    rcases Nat.lt_or_ge g w.heap.size with h1 | h1
    · exact h1
    · rw [hadd] at hc
      simp [World.cell?, Array.getElem?_eq_none h1] at hc
  refine ⟨g, off, rfl, hg, fun j hj => ?_⟩
  have hj' : j < len := by simpa using hj
  obtain ⟨X, c, h1, h2, h3⟩ := hf j hj'
  rw [hadd] at h2
  simp only [List.getElem_map, List.getElem_range]
  exact ⟨X, c, fun i hi => by have h := h1 i hi; rw [hadd] at h; rw [Nat.add_assoc]; exact h, by rw [Nat.add_assoc]; exact h2, h3⟩
section
variable {H : Type} {enc : TypeId × Value → H}
theorem rec_cells {w : World} {base : Nat} {spare : Nat → Bool} {held : Bool} {fuel : Nat} {a : Addr} {cs : List Value} {D : DataW H} {Pl : List MemPlace}
    (hc : w.cells? base a 10 = some cs) (h : DataW.trod enc Try.prog w base spare held fuel 30 cs = some (D, Pl)) (hw : ∀ n ∈ D.weights Try.prog 30, n ≤ reachBytes) :
    ∃ n : Nat → Int, ∃ X c, ∃ l : List UInt8, (∀ q, q < 9 → w.cell? (a.add q) = some (.int .i64 (n q))) ∧ w.cell? (a.add 9) = some (.slice X l.length c) ∧ Rd w w.heap.size X l ∧ l.length ≤ c ∧ l.length ≤ 140737488351232 := by
  obtain ⟨_, hl, hat⟩ := World.cells?_some hc
  obtain ⟨n, X, c, l, rfl, h1, h2, h3, _⟩ := rec_trod h hw
  refine ⟨n, X, c, l, fun q hq => ?_, hat 9 (by omega), h1, h2, h3⟩
  have hq2 := hat q (by omega)
  match q, hq, hq2 with
  | 0, _, hq2 => exact hq2
  | 1, _, hq2 => exact hq2
  | 2, _, hq2 => exact hq2
  | 3, _, hq2 => exact hq2
  | 4, _, hq2 => exact hq2
  | 5, _, hq2 => exact hq2
  | 6, _, hq2 => exact hq2
  | 7, _, hq2 => exact hq2
  | 8, _, hq2 => exact hq2
  | q + 9, hq, _ => omega
theorem open_recs {w : World} {base : Nat} {spare : Nat → Bool} {held : Bool} {A : Option Addr} {len cap : Nat} {d : DataW H} {p : List MemPlace} (h : DataW.Trod enc Try.prog w base spare held 44 (.slice A len cap) d p) (hw : ∀ n ∈ d.weights Try.prog 44, n ≤ reachBytes) :
    ∃ xs : List ((Nat → Int) × List UInt8), xs.length = len ∧ Recs w w.heap.size A xs ∧ len ≤ maxLen := by
  obtain ⟨fuel, hf⟩ := h
  have h : DataW.trod enc Try.prog w base spare held fuel 44 [.slice A len cap] = some (d, p) := by simpa [Value.cells] using hf
  rcases Go.Deep.open_slice Try.underlying44 h with ⟨hcs, _⟩ | ⟨x, l, c, m, n, V, Pl', hcs, _, hl, hm, hmm, hx, hi⟩
  · simp at hcs
    obtain ⟨rfl, rfl, rfl⟩ := hcs
    exact ⟨[], rfl, fun h => by simp at h, Nat.zero_le _⟩
  · simp at hcs
    obtain ⟨rfl, rfl, rfl⟩ := hcs
    injection hx with hD _
    subst hD
    have hR : ∃ xs : List ((Nat → Int) × List UInt8), xs.length = len ∧ Recs w w.heap.size (some x) xs := recs_of fun i hil => by
      obtain ⟨cs', h1, h2⟩ := hi i (by rw [hmm]; split <;> omega)
      rw [Try.cells30] at h1
      obtain ⟨nn, X, c', bs, z1, z2, h3⟩ := rec_cells h1 h2 (fun k hk => hw k (by
        simp only [DataW.weights, Try.underlying44, List.mem_cons, List.mem_append]
        exact Or.inr (Or.inl (weights_mem_all (List.mem_map.2 ⟨i, by simpa using hil, rfl⟩) k hk))))
      rw [step_step] at z2
      exact ⟨nn, X, c', bs, fun q hq => by have h := z1 q hq; rw [step_step] at h; exact h, z2, h3⟩
    obtain ⟨xs, h1, h2⟩ := hR
    exact ⟨xs, h1, h2, Nat.le_trans hl hm⟩
end
end Go.Proofs.Ytaceaemombnhkaa
namespace Go.Proofs.Ytaceaemombnhkaa
set_option linter.unusedVariables false
set_option maxRecDepth 100000
set_option linter.unusedSimpArgs false
open Go.RowKit
open Go.RowKit (wrap64)

theorem right_len {s : St} (h : RightS s) : s.st.length ≤ 16 ∧ s.zs.length ≤ 64 := by
  obtain ⟨h1, h2, h3, h4, h5, h6, h7, h8, h9, h10, h11, h12, h13, h14, h15, _⟩ := (show Good s.c from check_good0 h.conf)
  have h16 := h.stat
  have h17 := h.zone
  omega
/-- Ahead of the loop: the settings' block, and the state's. -/
structure GoH (c : Cf) (s : St) (A : Option Addr) (k : Nat) (D : Option Addr) (d g : Nat) (w wr : World) : Prop where
  cf : Box wr w.heap.size 23 #[.int .i64 c.id, .int .i64 c.m, .int .i64 c.u, .int .i64 c.b, .int .i64 c.cp, .int .i64 c.z, .int .i64 c.s, .int .i64 c.mt, .int .i64 c.o, .int .i64 c.a, .int .i64 c.l]
  var : Box wr g 27 #[.int .i64 s.c.id, .int .i64 s.c.m, .int .i64 s.c.u, .int .i64 s.c.b, .int .i64 s.c.cp, .int .i64 s.c.z, .int .i64 s.c.s, .int .i64 s.c.mt, .int .i64 s.c.o, .int .i64 s.c.a, .int .i64 s.c.l, .int .i64 s.ep, .int .i64 s.sq, .slice A s.st.length k, .slice D s.zs.length d]
  st : StAt wr (LT g) A s.st k D s.zs d
  below : Below w.heap.size w wr
  lo : w.heap.size < g
  sz : w.heap.size + 1 ≤ wr.heap.size
section
variable {c : Cf} {s : St} {A : Option Addr} {k : Nat} {D : Option Addr} {d g : Nat} {w wr w1 : World}
theorem GoH.later (h : GoH c s A k D d g w wr) (hb : Below wr.heap.size wr w1) : GoH c s A k D d g w w1 :=
  ⟨h.cf.later hb, h.var.later hb, h.st.keep (Kept.of_below hb (fun k hk => Nat.lt_trans hk h.var.lt)), h.below.trans (hb.mono h.below.size), h.lo, Nat.le_trans h.sz hb.size⟩
theorem GoH.at_ (h : GoH c s A k D d g w wr) : StAt wr (LT wr.heap.size) A s.st k D s.zs d := h.st.mono fun k hk => Nat.lt_trans hk h.var.lt
end
set_option maxHeartbeats 4000000 in
theorem stateGoes_walk (c : Cf) (L : Option Addr) (cap : Nat) (xs : List ((Nat → Int) × List UInt8)) (w : World) (hx : Recs w w.heap.size L xs) (hxl : xs.length ≤ maxLen) :
    Calls Try.prog 6 #[(.agg #[.int .i64 c.id, .int .i64 c.m, .int .i64 c.u, .int .i64 c.b, .int .i64 c.cp, .int .i64 c.z, .int .i64 c.s, .int .i64 c.mt, .int .i64 c.o, .int .i64 c.a, .int .i64 c.l]), .slice L xs.length cap] w (Says w (.bool true)) := by
  have HRX : Hid (∀ w', Below w.heap.size w w' → Recs w' w.heap.size L xs) := fun w' hb => hx.below hb
  have HXL := Lib.hid hxl
  have HNO : Hid (¬ checkC c = 0 → ∀ w', Calls Try.prog 18 #[(.agg #[.int .i64 c.id, .int .i64 c.m, .int .i64 c.u, .int .i64 c.b, .int .i64 c.cp, .int .i64 c.z, .int .i64 c.s, .int .i64 c.mt, .int .i64 c.o, .int .i64 c.a, .int .i64 c.l])] w' (GotZ w' (checkC c))) := fun h w' => new_no c w' h
  have HRC : Hid (∀ w', Calls Try.prog 19 #[(.agg #[.int .i64 c.id, .int .i64 c.m, .int .i64 c.u, .int .i64 c.b, .int .i64 c.cp, .int .i64 c.z, .int .i64 c.s, .int .i64 c.mt, .int .i64 c.o, .int .i64 c.a, .int .i64 c.l])] w' (Says w' (.int .i64 (checkC c)))) := refCheck_any c
  have HSM : Hid (∀ w', Calls Try.prog 20 #[(.agg #[.int .i64 c.id, .int .i64 c.m, .int .i64 c.u, .int .i64 c.b, .int .i64 c.cp, .int .i64 c.z, .int .i64 c.s, .int .i64 c.mt, .int .i64 c.o, .int .i64 c.a, .int .i64 c.l])] w' (SaysB w')) := small_any c
  have HZ0 : Hid (∀ (s : St) A k D d w', s.st.length ≤ 16 ∧ s.zs.length ≤ 64 → StAt w' (LT w'.heap.size) A s.st k D s.zs d → Calls Try.prog 11 #[(.agg #[.int .i64 s.c.id, .int .i64 s.c.m, .int .i64 s.c.u, .int .i64 s.c.b, .int .i64 s.c.cp, .int .i64 s.c.z, .int .i64 s.c.s, .int .i64 s.c.mt, .int .i64 s.c.o, .int .i64 s.c.a, .int .i64 s.c.l, .int .i64 s.ep, .int .i64 s.sq, .slice A s.st.length k, .slice D s.zs.length d]), .agg #[.int .i64 0, .int .i64 0, .int .i64 0, .int .i64 0, .int .i64 0, .int .i64 0, .int .i64 0, .int .i64 0, .int .i64 0, .int .i64 0, .int .i64 0, .int .i64 0, .int .i64 0, .slice none 0 0, .slice none 0 0]] w' (SaysP w' (s = zeroS))) := fun s A k D d w' hl h =>
    rsame_any s.c s.ep s.sq A s.st k D s.zs d zero_c 0 0 none [] 0 none [] 0 w' h StAt.zero (by omega) (by omega)
  clear hx hxl
  go_enter Try.func6, Try.ntmps6
  go_upto_region 1 with fail
  have HV : Hid (Box (w.alloc (.cells #[.int .i64 c.id, .int .i64 c.m, .int .i64 c.u, .int .i64 c.b, .int .i64 c.cp, .int .i64 c.z, .int .i64 c.s, .int .i64 c.mt, .int .i64 c.o, .int .i64 c.a, .int .i64 c.l] 23)) w.heap.size 23 #[.int .i64 c.id, .int .i64 c.m, .int .i64 c.u, .int .i64 c.b, .int .i64 c.cp, .int .i64 c.z, .int .i64 c.s, .int .i64 c.mt, .int .i64 c.o, .int .i64 c.a, .int .i64 c.l] ∧ Below w.heap.size w (w.alloc (.cells #[.int .i64 c.id, .int .i64 c.m, .int .i64 c.u, .int .i64 c.b, .int .i64 c.cp, .int .i64 c.z, .int .i64 c.s, .int .i64 c.mt, .int .i64 c.o, .int .i64 c.a, .int .i64 c.l] 23)) ∧ w.heap.size + 1 ≤ (w.alloc (.cells #[.int .i64 c.id, .int .i64 c.m, .int .i64 c.u, .int .i64 c.b, .int .i64 c.cp, .int .i64 c.z, .int .i64 c.s, .int .i64 c.mt, .int .i64 c.o, .int .i64 c.a, .int .i64 c.l] 23)).heap.size) := ⟨Box.fresh w 23 _, below_one w _, by simp⟩
  generalize (w.alloc (.cells #[.int .i64 c.id, .int .i64 c.m, .int .i64 c.u, .int .i64 c.b, .int .i64 c.cp, .int .i64 c.z, .int .i64 c.s, .int .i64 c.mt, .int .i64 c.o, .int .i64 c.a, .int .i64 c.l] 23)) = w0 at HV ⊢
  obtain ⟨y0, y1, y2, y3, y4, y5, y6, y7, y8, y9, y10⟩ := box11 HV.out.1
  by_cases hck : checkC c = 0
  case neg =>
    have HK1 := HNO.out hck
    obtain ⟨er, her⟩ : ∃ er, er = checkC c := ⟨_, rfl⟩
    have heb : (er != 0) = true := by rw [her]; simpa using hck
    rw [← her] at HRC HK1
    have HK := Lib.hid HK1
    clear hck her HK1
    go_wp2_with fail
    refine (HK.out w0).mono ?_
    rintro e w1 ⟨rfl, hb⟩
    obtain ⟨cs, hcs⟩ : ∃ cs : Array Value, cs = #[.int .i64 0, .int .i64 0, .int .i64 0, .int .i64 0, .int .i64 0, .int .i64 0, .int .i64 0, .int .i64 0, .int .i64 0, .int .i64 0, .int .i64 0, .int .i64 0, .int .i64 0, .slice none 0 0, .slice none 0 0] := ⟨_, rfl⟩
    have HCN : Hid (cs.size = 15 ∧ cs.all (·.oneCell') = true) := by rw [hcs]; exact ⟨rfl, by first | kernel_rfl | simp [Value.oneCell']⟩
    have HBF := Lib.hid (Box.fresh w1 27 #[.int .i64 0, .int .i64 0, .int .i64 0, .int .i64 0, .int .i64 0, .int .i64 0, .int .i64 0, .int .i64 0, .int .i64 0, .int .i64 0, .int .i64 0, .int .i64 0, .int .i64 0, .slice none 0 0, .slice none 0 0])
    have HCS := Lib.hid hcs
    have HVB := Lib.hid hb
    rw [← hcs]
    clear hb hcs y0 y1 y2 y3 y4 y5 y6 y7 y8 y9 y10
    go_upto_region 2 with (refine list_store27 rfl (.tmp 5) (.tmp 16) rfl w1.heap.size cs #[.int .i64 0, .int .i64 0, .int .i64 0, .int .i64 0, .int .i64 0, .int .i64 0, .int .i64 0, .int .i64 0, .int .i64 0, .int .i64 0, .int .i64 0, .int .i64 0, .int .i64 0, .slice none 0 0, .slice none 0 0] HBF.out rfl HCN.out.1 HCN.out.2 rfl rfl (fun w2 q1 q2 => ?_))
    have HX : Hid (GoH c zeroS none 0 none 0 w1.heap.size w w2) := by
      have hb0 := below_one w1 (.cells #[.int .i64 0, .int .i64 0, .int .i64 0, .int .i64 0, .int .i64 0, .int .i64 0, .int .i64 0, .int .i64 0, .int .i64 0, .int .i64 0, .int .i64 0, .int .i64 0, .int .i64 0, .slice none 0 0, .slice none 0 0] 27)
      have ht := q2 [w1.heap.size] (by simp)
      have hb2 : Below w1.heap.size w1 w2 := hb0.trans (ht.below (by simp) hb0.size)
      have h1 := HVB.out.size
      have h2 := HV.out.2.2
      exact ⟨(HV.out.1.later HVB.out).later hb2, by rw [HCS.out] at q1; exact q1, StAt.zero, (HV.out.2.1.trans (HVB.out.mono HV.out.2.1.size)).trans (hb2.mono (by omega)), by omega, by have := hb2.size; omega⟩
    have HZS : Hid (∀ w', StAt w' (LT w'.heap.size) none zeroS.st 0 none zeroS.zs 0 → Calls Try.prog 11 #[.agg cs, .agg #[.int .i64 0, .int .i64 0, .int .i64 0, .int .i64 0, .int .i64 0, .int .i64 0, .int .i64 0, .int .i64 0, .int .i64 0, .int .i64 0, .int .i64 0, .int .i64 0, .int .i64 0, .slice none 0 0, .slice none 0 0]] w' (SaysP w' True)) := fun w' h => by
      rw [HCS.out]
      refine (HZ0.out zeroS none 0 none 0 w' ⟨Nat.zero_le _, Nat.zero_le _⟩ h).mono ?_
      rintro e w3 ⟨b, rfl, h1, h2⟩
      exact ⟨b, rfl, by rw [h1]; simp, h2⟩
    clear q1 q2 HBF HVB HV
    generalize w1.heap.size = g at HX ⊢
    refine wpB_start (w.heap.size + 1) (by kernel_rfl) ?_
    have HD := Lib.hid (HX.out.later (Below.refl _ _).drew)
    generalize w2.drew = wd at HD ⊢
    clear HX
    have y0 := Box.at_ (B := (w.heap.size + 1)) HD.out.cf (by omega) (i := 0) rfl
    have y1 := Box.at_ (B := (w.heap.size + 1)) HD.out.cf (by omega) (i := 1) rfl
    have y2 := Box.at_ (B := (w.heap.size + 1)) HD.out.cf (by omega) (i := 2) rfl
    have y3 := Box.at_ (B := (w.heap.size + 1)) HD.out.cf (by omega) (i := 3) rfl
    have y4 := Box.at_ (B := (w.heap.size + 1)) HD.out.cf (by omega) (i := 4) rfl
    have y5 := Box.at_ (B := (w.heap.size + 1)) HD.out.cf (by omega) (i := 5) rfl
    have y6 := Box.at_ (B := (w.heap.size + 1)) HD.out.cf (by omega) (i := 6) rfl
    have y7 := Box.at_ (B := (w.heap.size + 1)) HD.out.cf (by omega) (i := 7) rfl
    have y8 := Box.at_ (B := (w.heap.size + 1)) HD.out.cf (by omega) (i := 8) rfl
    have y9 := Box.at_ (B := (w.heap.size + 1)) HD.out.cf (by omega) (i := 9) rfl
    have y10 := Box.at_ (B := (w.heap.size + 1)) HD.out.cf (by omega) (i := 10) rfl
    refine wpB_take (i := 0) (d := 18) (v := ?v2gerx0) rfl rfl (by kernel_rfl) (by kernel_rfl) (by kernel_rfl) (fun _ _ _ h => h) (by rfl) ?y2gerx0 ?r2gerx0
    case y2gerx0 => (intro w' hSw; go_simp; try (with_reducible rfl))
    simp only [Act.put, List.setIfInBounds_toArray, List.set_cons_zero, List.set_cons_succ]
    refine wpB_take (i := 2) (d := 20) (v := ?v2gerx2) rfl rfl (by kernel_rfl) (by kernel_rfl) (by kernel_rfl) (fun _ _ _ h => h) (by rfl) ?y2gerx2 ?r2gerx2
    case y2gerx2 => (intro w' hSw; go_simp; try (with_reducible rfl))
    simp only [Act.put, List.setIfInBounds_toArray, List.set_cons_zero, List.set_cons_succ]
    refine wpB_do (i := 1) (by kernel_rfl) rfl (by rfl) (fun K hK => ?_)
    go_simp
    refine (code_any (er) wd).mono ?_
    rintro e w3 ⟨rfl, rfl⟩
    go_simp
    refine hK.out (w.heap.size + 1) _ _ (Nat.le_refl _) (Below.refl _ _) ?_
    clear hK
    refine wpB_do (i := 3) (by kernel_rfl) rfl (by rfl) (fun K hK => ?_)
    go_simp
    refine (HRC.out wd).mono ?_
    rintro e w3 ⟨rfl, hb⟩
    have HD3 := Lib.hid (HD.out.later hb)
    have hbk := hb.mono HD.out.sz
    go_simp
    refine hK.out (w.heap.size + 1) _ _ (Nat.le_refl _) hbk ?_
    clear hK hb hbk HD y0 y1 y2 y3 y4 y5 y6 y7 y8 y9 y10
    refine wpB_take (i := 4) (d := 22) (v := ?v2gerx4) rfl rfl (by kernel_rfl) (by kernel_rfl) (by kernel_rfl) (fun _ _ _ h => h) (by rfl) ?y2gerx4 ?r2gerx4
    case y2gerx4 => (intro w' hSw; go_simp; try (with_reducible rfl))
    simp only [Act.put, List.setIfInBounds_toArray, List.set_cons_zero, List.set_cons_succ]
    refine wpB_done (by kernel_rfl) ?_
    have hee : (er != er) = false := by simp
    go_upto_region 4 with fail
    go_wp2_with fail
    refine (code_any er w3).mono ?_
    rintro e w4 ⟨rfl, rfl⟩
    go_wp2_with (refine list_load27g (by rfl) (.tmp 5) rfl g cs (by rw [HCS.out]; exact HD3.out.var) HCN.out.1 rfl ?_)
    refine (HZS.out w3 HD3.out.at_).mono ?_
    rintro e w5 ⟨bb, rfl, h1, h2⟩
    obtain rfl : bb = true := by exact h1.2 trivial
    have HB5 := Lib.hid (HD3.out.below.trans (h2.mono HD3.out.below.size))
    clear h1 h2
    go_wp2_with fail
    refine (code_any (er) w5).mono ?_
    rintro e w6 ⟨rfl, rfl⟩
    go_wp2_with fail
    refine (live_any w5).mono ?_
    rintro e w9 ⟨rfl, hb⟩
    have HE := Lib.hid (HB5.out.trans (hb.mono HB5.out.size))
    clear hb
    go_wp2
    go_ret
    exact ⟨rfl, HE.out⟩
  have HCK := Lib.hid hck
  clear hck
  obtain ⟨s, hs⟩ : ∃ s : St, s = newS c := ⟨_, rfl⟩
  have HNW : Hid (∀ w', Calls Try.prog 18 #[(.agg #[.int .i64 c.id, .int .i64 c.m, .int .i64 c.u, .int .i64 c.b, .int .i64 c.cp, .int .i64 c.z, .int .i64 c.s, .int .i64 c.mt, .int .i64 c.o, .int .i64 c.a, .int .i64 c.l])] w' (GotS w' s 0)) := by rw [hs]; exact fun w' => new_ok c w' HCK.out
  have HRN : Hid (∀ w', Calls Try.prog 21 #[(.agg #[.int .i64 c.id, .int .i64 c.m, .int .i64 c.u, .int .i64 c.b, .int .i64 c.cp, .int .i64 c.z, .int .i64 c.s, .int .i64 c.mt, .int .i64 c.o, .int .i64 c.a, .int .i64 c.l])] w' (GotV w' s)) := by rw [hs]; exact fun w' => rnew_any c w' HCK.out
  have HRG : Hid (RightS s ∧ s.c = c ∧ s.ep = 1) := by rw [hs]; exact ⟨new_right HCK.out, rfl, rfl⟩
  rw [HCK.out] at HRC
  clear hs
  go_wp2_with fail
  refine (HNW.out w0).mono ?_
  rintro e w1 ⟨A, k, D, d, rfl, hst, hb⟩
  obtain ⟨cs, hcs⟩ : ∃ cs : Array Value, cs = #[.int .i64 s.c.id, .int .i64 s.c.m, .int .i64 s.c.u, .int .i64 s.c.b, .int .i64 s.c.cp, .int .i64 s.c.z, .int .i64 s.c.s, .int .i64 s.c.mt, .int .i64 s.c.o, .int .i64 s.c.a, .int .i64 s.c.l, .int .i64 s.ep, .int .i64 s.sq, .slice A s.st.length k, .slice D s.zs.length d] := ⟨_, rfl⟩
  have HCN : Hid (cs.size = 15 ∧ cs.all (·.oneCell') = true) := by rw [hcs]; exact ⟨rfl, by first | kernel_rfl | simp [Value.oneCell']⟩
  have HBF := Lib.hid (Box.fresh w1 27 #[.int .i64 0, .int .i64 0, .int .i64 0, .int .i64 0, .int .i64 0, .int .i64 0, .int .i64 0, .int .i64 0, .int .i64 0, .int .i64 0, .int .i64 0, .int .i64 0, .int .i64 0, .slice none 0 0, .slice none 0 0])
  have HCS := Lib.hid hcs
  have HVB := Lib.hid (And.intro hb hst)
  rw [← hcs]
  clear hb hcs hst y0 y1 y2 y3 y4 y5 y6 y7 y8 y9 y10
  go_upto_region 2 with (refine list_store27 rfl (.tmp 5) (.tmp 16) rfl w1.heap.size cs #[.int .i64 0, .int .i64 0, .int .i64 0, .int .i64 0, .int .i64 0, .int .i64 0, .int .i64 0, .int .i64 0, .int .i64 0, .int .i64 0, .int .i64 0, .int .i64 0, .int .i64 0, .slice none 0 0, .slice none 0 0] HBF.out rfl HCN.out.1 HCN.out.2 rfl rfl (fun w2 q1 q2 => ?_))
  have HX : Hid (GoH c s A k D d w1.heap.size w w2) := by
    have hb0 := below_one w1 (.cells #[.int .i64 0, .int .i64 0, .int .i64 0, .int .i64 0, .int .i64 0, .int .i64 0, .int .i64 0, .int .i64 0, .int .i64 0, .int .i64 0, .int .i64 0, .int .i64 0, .int .i64 0, .slice none 0 0, .slice none 0 0] 27)
    have ht := q2 [w1.heap.size] (by simp)
    have hb2 : Below w1.heap.size w1 w2 := hb0.trans (ht.below (by simp) hb0.size)
    have h1 := HVB.out.1.size
    have h2 := HV.out.2.2
    exact ⟨(HV.out.1.later HVB.out.1).later hb2, by rw [HCS.out] at q1; exact q1, HVB.out.2.keep (Kept.below hb2), (HV.out.2.1.trans (HVB.out.1.mono HV.out.2.1.size)).trans (hb2.mono (by omega)), by omega, by have := hb2.size; omega⟩
  have HZS : Hid (∀ w', StAt w' (LT w'.heap.size) A s.st k D s.zs d → Calls Try.prog 11 #[.agg cs, .agg #[.int .i64 0, .int .i64 0, .int .i64 0, .int .i64 0, .int .i64 0, .int .i64 0, .int .i64 0, .int .i64 0, .int .i64 0, .int .i64 0, .int .i64 0, .int .i64 0, .int .i64 0, .slice none 0 0, .slice none 0 0]] w' (SaysP w' False)) := fun w' h => by
    rw [HCS.out]
    refine (HZ0.out s A k D d w' (right_len HRG.out.1) h).mono ?_
    rintro e w3 ⟨b, rfl, h1, h2⟩
    refine ⟨b, rfl, ?_, h2⟩
    rw [h1]
    refine iff_of_false (fun e => ?_) id
    have h3 := HRG.out.2.2
    rw [e] at h3
    exact absurd h3 (by decide)
  clear q1 q2 HBF HVB HV
  generalize w1.heap.size = g at HX ⊢
  refine wpB_start (w.heap.size + 1) (by kernel_rfl) ?_
  have HD := Lib.hid (HX.out.later (Below.refl _ _).drew)
  generalize w2.drew = wd at HD ⊢
  clear HX
  have y0 := Box.at_ (B := (w.heap.size + 1)) HD.out.cf (by omega) (i := 0) rfl
  have y1 := Box.at_ (B := (w.heap.size + 1)) HD.out.cf (by omega) (i := 1) rfl
  have y2 := Box.at_ (B := (w.heap.size + 1)) HD.out.cf (by omega) (i := 2) rfl
  have y3 := Box.at_ (B := (w.heap.size + 1)) HD.out.cf (by omega) (i := 3) rfl
  have y4 := Box.at_ (B := (w.heap.size + 1)) HD.out.cf (by omega) (i := 4) rfl
  have y5 := Box.at_ (B := (w.heap.size + 1)) HD.out.cf (by omega) (i := 5) rfl
  have y6 := Box.at_ (B := (w.heap.size + 1)) HD.out.cf (by omega) (i := 6) rfl
  have y7 := Box.at_ (B := (w.heap.size + 1)) HD.out.cf (by omega) (i := 7) rfl
  have y8 := Box.at_ (B := (w.heap.size + 1)) HD.out.cf (by omega) (i := 8) rfl
  have y9 := Box.at_ (B := (w.heap.size + 1)) HD.out.cf (by omega) (i := 9) rfl
  have y10 := Box.at_ (B := (w.heap.size + 1)) HD.out.cf (by omega) (i := 10) rfl
  refine wpB_take (i := 0) (d := 18) (v := ?v2g0x0) rfl rfl (by kernel_rfl) (by kernel_rfl) (by kernel_rfl) (fun _ _ _ h => h) (by rfl) ?y2g0x0 ?r2g0x0
  case y2g0x0 => (intro w' hSw; go_simp; try (with_reducible rfl))
  simp only [Act.put, List.setIfInBounds_toArray, List.set_cons_zero, List.set_cons_succ]
  refine wpB_take (i := 2) (d := 20) (v := ?v2g0x2) rfl rfl (by kernel_rfl) (by kernel_rfl) (by kernel_rfl) (fun _ _ _ h => h) (by rfl) ?y2g0x2 ?r2g0x2
  case y2g0x2 => (intro w' hSw; go_simp; try (with_reducible rfl))
  simp only [Act.put, List.setIfInBounds_toArray, List.set_cons_zero, List.set_cons_succ]
  refine wpB_do (i := 1) (by kernel_rfl) rfl (by rfl) (fun K hK => ?_)
  go_simp
  refine (code_any (0) wd).mono ?_
  rintro e w3 ⟨rfl, rfl⟩
  go_simp
  refine hK.out (w.heap.size + 1) _ _ (Nat.le_refl _) (Below.refl _ _) ?_
  clear hK
  refine wpB_do (i := 3) (by kernel_rfl) rfl (by rfl) (fun K hK => ?_)
  go_simp
  refine (HRC.out wd).mono ?_
  rintro e w3 ⟨rfl, hb⟩
  have HD3 := Lib.hid (HD.out.later hb)
  have hbk := hb.mono HD.out.sz
  go_simp
  refine hK.out (w.heap.size + 1) _ _ (Nat.le_refl _) hbk ?_
  clear hK hb hbk HD y0 y1 y2 y3 y4 y5 y6 y7 y8 y9 y10
  refine wpB_take (i := 4) (d := 22) (v := ?v2g0x4) rfl rfl (by kernel_rfl) (by kernel_rfl) (by kernel_rfl) (fun _ _ _ h => h) (by rfl) ?y2g0x4 ?r2g0x4
  case y2g0x4 => (intro w' hSw; go_simp; try (with_reducible rfl))
  simp only [Act.put, List.setIfInBounds_toArray, List.set_cons_zero, List.set_cons_succ]
  refine wpB_done (by kernel_rfl) ?_
  go_upto_region 4 with fail
  go_wp2_with fail
  refine (code_any 0 w3).mono ?_
  rintro e w4 ⟨rfl, rfl⟩
  by_cases hl : (40 : Int) < (xs.length : Int)
  · skip
    go_wp2_with (refine list_load27g (by rfl) (.tmp 5) rfl g cs (by rw [HCS.out]; exact HD3.out.var) HCN.out.1 rfl ?_)
    refine (HZS.out w3 HD3.out.at_).mono ?_
    rintro e w5 ⟨bb, rfl, h1, h2⟩
    obtain rfl : bb = false := by cases bb; rfl; exact (h1.1 rfl).elim
    have HB5 := Lib.hid (HD3.out.below.trans (h2.mono HD3.out.below.size))
    clear h1 h2
    go_wp2_with fail
    refine (code_any (0) w5).mono ?_
    rintro e w6 ⟨rfl, rfl⟩
    go_wp2_with fail
    refine (live_any w5).mono ?_
    rintro e w9 ⟨rfl, hb⟩
    have HE := Lib.hid (HB5.out.trans (hb.mono HB5.out.size))
    clear hb
    go_wp2
    go_ret
    exact ⟨rfl, HE.out⟩
  obtain ⟨y0, y1, y2, y3, y4, y5, y6, y7, y8, y9, y10⟩ := box11 HD3.out.cf
  go_wp2_with fail
  refine (HSM.out w3).mono ?_
  rintro e w4 ⟨bs, rfl, hb⟩
  have HX4 := Lib.hid (HD3.out.later hb)
  clear hb HD3 y0 y1 y2 y3 y4 y5 y6 y7 y8 y9 y10
  cases bs
  case false =>
    go_wp2_with (refine list_load27g (by rfl) (.tmp 5) rfl g cs (by rw [HCS.out]; exact HX4.out.var) HCN.out.1 rfl ?_)
    refine (HZS.out w4 HX4.out.at_).mono ?_
    rintro e w5 ⟨bb, rfl, h1, h2⟩
    obtain rfl : bb = false := by cases bb; rfl; exact (h1.1 rfl).elim
    have HB5 := Lib.hid (HX4.out.below.trans (h2.mono HX4.out.below.size))
    clear h1 h2
    go_wp2_with fail
    refine (code_any (0) w5).mono ?_
    rintro e w6 ⟨rfl, rfl⟩
    go_wp2_with fail
    refine (live_any w5).mono ?_
    rintro e w9 ⟨rfl, hb⟩
    have HE := Lib.hid (HB5.out.trans (hb.mono HB5.out.size))
    clear hb
    go_wp2
    go_ret
    exact ⟨rfl, HE.out⟩
  clear HZS
  go_upto_region 6 with fail
  refine wpB_start (g + 1) (by kernel_rfl) ?_
  have HD := Lib.hid (HX4.out.later (Below.refl _ _).drew)
  generalize w4.drew = wd at HD ⊢
  clear HX4
  have hgn : w.heap.size < g + 1 := by have := HD.out.lo; omega
  have y0 := Box.at_ (B := (g + 1)) HD.out.cf hgn (i := 0) rfl
  have y1 := Box.at_ (B := (g + 1)) HD.out.cf hgn (i := 1) rfl
  have y2 := Box.at_ (B := (g + 1)) HD.out.cf hgn (i := 2) rfl
  have y3 := Box.at_ (B := (g + 1)) HD.out.cf hgn (i := 3) rfl
  have y4 := Box.at_ (B := (g + 1)) HD.out.cf hgn (i := 4) rfl
  have y5 := Box.at_ (B := (g + 1)) HD.out.cf hgn (i := 5) rfl
  have y6 := Box.at_ (B := (g + 1)) HD.out.cf hgn (i := 6) rfl
  have y7 := Box.at_ (B := (g + 1)) HD.out.cf hgn (i := 7) rfl
  have y8 := Box.at_ (B := (g + 1)) HD.out.cf hgn (i := 8) rfl
  have y9 := Box.at_ (B := (g + 1)) HD.out.cf hgn (i := 9) rfl
  have y10 := Box.at_ (B := (g + 1)) HD.out.cf hgn (i := 10) rfl
  refine wpB_take (i := 0) (d := 46) (v := ?v6x0) rfl rfl (by kernel_rfl) (by kernel_rfl) (by kernel_rfl) (fun _ _ _ h => h) (by rfl) ?y6x0 ?r6x0
  case y6x0 => (intro w' hSw; refine exec_load27 (.tmp 5) ?_ g cs (by rw [HCS.out]; exact HD.out.var.under hSw (Nat.lt_succ_self _)) HCN.out.1 ?_ <;> rfl)
  simp only [Act.put, List.setIfInBounds_toArray, List.set_cons_zero, List.set_cons_succ]
  refine wpB_take (i := 1) (d := 47) (v := ?v6x1) rfl rfl (by kernel_rfl) (by kernel_rfl) (by kernel_rfl) (fun _ _ _ h => h) (by rfl) ?y6x1 ?r6x1
  case y6x1 => (intro w' hSw; go_simp; try (with_reducible rfl))
  simp only [Act.put, List.setIfInBounds_toArray, List.set_cons_zero, List.set_cons_succ]
  refine wpB_do (i := 2) (by kernel_rfl) rfl (by rfl) (fun K hK => ?_)
  go_simp
  refine (HRN.out wd).mono ?_
  rintro e w5 ⟨A5, k5, D5, d5, rfl, hst5, hb⟩
  have HD5 := Lib.hid (HD.out.later hb)
  have HSS : Hid (Calls Try.prog 11 #[.agg cs, (.agg #[.int .i64 s.c.id, .int .i64 s.c.m, .int .i64 s.c.u, .int .i64 s.c.b, .int .i64 s.c.cp, .int .i64 s.c.z, .int .i64 s.c.s, .int .i64 s.c.mt, .int .i64 s.c.o, .int .i64 s.c.a, .int .i64 s.c.l, .int .i64 s.ep, .int .i64 s.sq, .slice A5 s.st.length k5, .slice D5 s.zs.length d5])] w5 (SaysP w5 True)) := by
    have hln := right_len HRG.out.1
    rw [HCS.out]
    refine (rsame_any s.c s.ep s.sq A s.st k D s.zs d s.c s.ep s.sq A5 s.st k5 D5 s.zs d5 w5 HD5.out.at_ hst5 (by omega) (by omega)).mono ?_
    rintro e w6 ⟨bb, rfl, h1, h2⟩
    exact ⟨bb, rfl, by rw [h1]; simp, h2⟩
  go_simp
  refine hK.out (g + 1) _ _ (Nat.le_refl _) (hb.mono HD.out.var.lt) ?_
  clear hK hb HD y0 y1 y2 y3 y4 y5 y6 y7 y8 y9 y10
  refine wpB_do (i := 3) (by kernel_rfl) rfl (by rfl) (fun K hK => ?_)
  go_simp
  refine HSS.out.mono ?_
  rintro e w6 ⟨bb, rfl, h1, hb⟩
  obtain rfl : bb = true := h1.2 trivial
  have HD6 := Lib.hid (HD5.out.later hb)
  go_simp
  refine hK.out (g + 1) _ _ (Nat.le_refl _) (hb.mono HD5.out.var.lt) ?_
  clear hK hb HD5 h1 HSS hst5
  refine wpB_take (i := 4) (d := 50) (v := ?v6x4) rfl rfl (by kernel_rfl) (by kernel_rfl) (by kernel_rfl) (fun _ _ _ h => h) (by rfl) ?y6x4 ?r6x4
  case y6x4 => (intro w' hSw; go_simp; try (with_reducible rfl))
  simp only [Act.put, List.setIfInBounds_toArray, List.set_cons_zero, List.set_cons_succ]
  refine wpB_done (by kernel_rfl) ?_
  have HI0 : Hid (GoI c s A k D d g w w6) := ⟨HD6.out.cf, HD6.out.var, HD6.out.st.mono (fun k hk => ⟨Nat.ne_of_lt hk, Nat.lt_trans hk HD6.out.var.lt⟩), HD6.out.below, HD6.out.lo, HRG.out.1, HRG.out.2.1⟩
  clear HD6 hgn
  go_wp2
  go_loopw [7, 8, 9, 10, 11, 12] (fun i _ _ _ _ _ wr => ∃ (q : Nat) (s : St) (A : Option Addr) (k : Nat) (D : Option Addr) (d : Nat), q ≤ xs.length ∧ i = .int .i64 q ∧ GoI c s A k D d g w wr) (fun i _ _ _ _ _ _ => xs.length - (intOf i).toNat)
  case atStart => exact ⟨0, s, A, k, D, d, by omega, rfl, HI0.out⟩
  case round =>
    clear HI0 HCS HCN HRN HNW HRG
    obtain ⟨q, s, A, k, D, d, hq, rfl, hI⟩ := hrel
    have HI := Lib.hid hI
    clear hI
    by_cases hlt : q < xs.length
    · obtain ⟨g1, off, hL, hg1, hc⟩ := HRX.out wr HI.out.below (by omega)
      obtain ⟨X, cx, hcell, h9, hrd, hlx, hlb⟩ := hc q hlt
      subst hL
      have HRD : Hid (Rd wr w.heap.size X xs[q].2 ∧ xs[q].2.length ≤ cx) := ⟨hrd, hlx⟩
      have r0 := hcell 0 (by omega)
      have r1 := hcell 1 (by omega)
      have r2 := hcell 2 (by omega)
      have r3 := hcell 3 (by omega)
      have r4 := hcell 4 (by omega)
      have r5 := hcell 5 (by omega)
      have r6 := hcell 6 (by omega)
      have r7 := hcell 7 (by omega)
      have r8 := hcell 8 (by omega)
      rw [Nat.add_zero] at r0
      clear hc hcell hrd hlx hlb hg1
      generalize xs[q] = xq at r0 r1 r2 r3 r4 r5 r6 r7 r8 h9 HRD
      obtain ⟨n, b⟩ := xq
      dsimp only at r0 r1 r2 r3 r4 r5 r6 r7 r8 h9 HRD
      obtain ⟨cs1, hcs1⟩ : ∃ cs1 : Array Value, cs1 = #[.int .i64 s.c.id, .int .i64 s.c.m, .int .i64 s.c.u, .int .i64 s.c.b, .int .i64 s.c.cp, .int .i64 s.c.z, .int .i64 s.c.s, .int .i64 s.c.mt, .int .i64 s.c.o, .int .i64 s.c.a, .int .i64 s.c.l, .int .i64 s.ep, .int .i64 s.sq, .slice A s.st.length k, .slice D s.zs.length d] := ⟨_, rfl⟩
      have HCcs1 := Lib.hid hcs1
      have HCNcs1 : Hid (cs1.size = 15 ∧ cs1.all (·.oneCell') = true) := by rw [hcs1]; exact ⟨rfl, by first | kernel_rfl | simp [Value.oneCell']⟩
      clear hcs1
      go_upto_region 12 with fail
      have hbo := below_one wr (.cells #[.int .i64 (n 0), .int .i64 (n 1), .int .i64 (n 2), .int .i64 (n 3), .int .i64 (n 4), .int .i64 (n 5), .int .i64 (n 6), .int .i64 (n 7), .int .i64 (n 8), .slice X b.length cx] 30)
      have HR1 : Hid (Box (wr.alloc (.cells #[.int .i64 (n 0), .int .i64 (n 1), .int .i64 (n 2), .int .i64 (n 3), .int .i64 (n 4), .int .i64 (n 5), .int .i64 (n 6), .int .i64 (n 7), .int .i64 (n 8), .slice X b.length cx] 30)) wr.heap.size 30 #[.int .i64 (n 0), .int .i64 (n 1), .int .i64 (n 2), .int .i64 (n 3), .int .i64 (n 4), .int .i64 (n 5), .int .i64 (n 6), .int .i64 (n 7), .int .i64 (n 8), .slice X b.length cx] ∧ GoI c s A k D d g w (wr.alloc (.cells #[.int .i64 (n 0), .int .i64 (n 1), .int .i64 (n 2), .int .i64 (n 3), .int .i64 (n 4), .int .i64 (n 5), .int .i64 (n 6), .int .i64 (n 7), .int .i64 (n 8), .slice X b.length cx] 30)) ∧ Rd (wr.alloc (.cells #[.int .i64 (n 0), .int .i64 (n 1), .int .i64 (n 2), .int .i64 (n 3), .int .i64 (n 4), .int .i64 (n 5), .int .i64 (n 6), .int .i64 (n 7), .int .i64 (n 8), .slice X b.length cx] 30)) w.heap.size X b ∧ g < wr.heap.size ∧ wr.heap.size + 1 ≤ (wr.alloc (.cells #[.int .i64 (n 0), .int .i64 (n 1), .int .i64 (n 2), .int .i64 (n 3), .int .i64 (n 4), .int .i64 (n 5), .int .i64 (n 6), .int .i64 (n 7), .int .i64 (n 8), .slice X b.length cx] 30)).heap.size) := ⟨Box.fresh wr 30 _, HI.out.later hbo, HRD.out.1.below (hbo.mono HI.out.below.size), HI.out.var.lt, by simp⟩
      have HLX : Hid (b.length ≤ cx) := HRD.out.2
      have HTU : Hid (∀ w2, Turn [wr.heap.size] (wr.alloc (.cells #[.int .i64 (n 0), .int .i64 (n 1), .int .i64 (n 2), .int .i64 (n 3), .int .i64 (n 4), .int .i64 (n 5), .int .i64 (n 6), .int .i64 (n 7), .int .i64 (n 8), .slice X b.length cx] 30)) w2 → GoI c s A k D d g w w2) := fun w2 ht => HI.out.turn hbo ht (Nat.le_refl _)
      clear hbo HI HRD r0 r1 r2 r3 r4 r5 r6 r7 r8 h9
      generalize wr.alloc (.cells #[.int .i64 (n 0), .int .i64 (n 1), .int .i64 (n 2), .int .i64 (n 3), .int .i64 (n 4), .int .i64 (n 5), .int .i64 (n 6), .int .i64 (n 7), .int .i64 (n 8), .slice X b.length cx] 30) = w1 at HR1 HTU ⊢
      generalize wr.heap.size = g8 at HR1 HTU ⊢
      obtain ⟨y0, y1, y2, y3, y4, y5, y6, y7, y8, y9, y10, y11, y12, y13, y14⟩ := box15 HR1.out.2.1.var
      obtain ⟨r0, r1, r2, r3, r4, r5, r6, r7, r8, r9⟩ := box10 HR1.out.1
      have f1 := HR1.out.1.frozen 1
      have f2 := HR1.out.1.frozen 2
      have HSQ : Hid (0 ≤ s.sq ∧ s.sq ≤ 1099511627776) := HR1.out.2.1.right.sq
      have hw1 : IntKind.i64.wrap (s.sq + 1) = s.sq + 1 := wrapk_in (by have := HSQ.out; omega) (by have := HSQ.out; omega)
      have hw2 : wrap64 (s.sq + 1) = s.sq + 1 := wrap_in (by have := HSQ.out; omega) (by have := HSQ.out; omega)
      go_region
      have HR3 : Hid (Box (((w1.setCell ⟨g8, 1, none⟩ (.int .i64 s.ep)).setCell ⟨g8, 2, none⟩ (.int .i64 (s.sq + 1))).drew) g8 30 #[.int .i64 (n 0), .int .i64 s.ep, .int .i64 (s.sq + 1), .int .i64 (n 3), .int .i64 (n 4), .int .i64 (n 5), .int .i64 (n 6), .int .i64 (n 7), .int .i64 (n 8), .slice X b.length cx] ∧ GoI c s A k D d g w (((w1.setCell ⟨g8, 1, none⟩ (.int .i64 s.ep)).setCell ⟨g8, 2, none⟩ (.int .i64 (s.sq + 1))).drew) ∧ Rd (((w1.setCell ⟨g8, 1, none⟩ (.int .i64 s.ep)).setCell ⟨g8, 2, none⟩ (.int .i64 (s.sq + 1))).drew) w.heap.size X b) := by
        have ht : Turn [g8] w1 (((w1.setCell ⟨g8, 1, none⟩ (.int .i64 s.ep)).setCell ⟨g8, 2, none⟩ (.int .i64 (s.sq + 1))).drew) := (((Turn.refl _ _).put (Or.inl (by simp)) _).put (Or.inl (by simp)) _).drew
        have hgg := HR1.out.2.2.2.1
        have hb1 : Below g8 w1 (((w1.setCell ⟨g8, 1, none⟩ (.int .i64 s.ep)).setCell ⟨g8, 2, none⟩ (.int .i64 (s.sq + 1))).drew) := ht.below (by simp) (by have := HR1.out.2.2.2.2; omega)
        have hlo := HR1.out.2.1.lo
        refine ⟨(HR1.out.1.store 1 (.int .i64 s.ep)).store 2 (.int .i64 (s.sq + 1)), HTU.out _ ht, HR1.out.2.2.1.below (hb1.mono (by omega))⟩
      have HG8 : Hid (g < g8) := HR1.out.2.2.2.1
      clear HR1 HTU hw1 hw2 f1 f2 y0 y1 y2 y3 y4 y5 y6 y7 y8 y9 y10 y11 y12 y13 y14 r0 r1 r2 r3 r4 r5 r6 r7 r8 r9
      generalize ((w1.setCell ⟨g8, 1, none⟩ (.int .i64 s.ep)).setCell ⟨g8, 2, none⟩ (.int .i64 (s.sq + 1))).drew = w3 at HR3 ⊢
      have HAP : Hid (Calls Try.prog 9 #[.agg cs1, .agg #[.int .i64 (n 0), .int .i64 s.ep, .int .i64 (s.sq + 1), .int .i64 (n 3), .int .i64 (n 4), .int .i64 (n 5), .int .i64 (n 6), .int .i64 (n 7), .int .i64 (n 8), .slice X b.length cx]] w3 (GotAN w3 s (nine (n 0) s.ep (s.sq + 1) (n 3) (n 4) (n 5) (n 6) (n 7) (n 8)) b)) := by
        have hln := right_len HR3.out.2.1.right
        rw [HCcs1.out]
        exact apply_new s.c s.ep s.sq A s.st k D s.zs d (nine (n 0) s.ep (s.sq + 1) (n 3) (n 4) (n 5) (n 6) (n 7) (n 8)) X b cx w3 HR3.out.2.1.at_ (by omega) (by omega) (HR3.out.2.2.more HR3.out.2.1.below.size) HLX.out
      obtain ⟨r0, r1, r2, r3, r4, r5, r6, r7, r8, r9⟩ := box10 HR3.out.1
      go_wp2_with (refine list_load27 rfl (.tmp 5) rfl g cs1 (by rw [HCcs1.out]; exact HR3.out.2.1.var) HCNcs1.out.1 rfl ?_)
      refine HAP.out.mono ?_
      rintro e w5 ⟨t, er, A5, k5, D5, d5, rfl, hap, hst, hb⟩
      obtain ⟨cs5, hcs5⟩ : ∃ cs5 : Array Value, cs5 = #[.int .i64 t.c.id, .int .i64 t.c.m, .int .i64 t.c.u, .int .i64 t.c.b, .int .i64 t.c.cp, .int .i64 t.c.z, .int .i64 t.c.s, .int .i64 t.c.mt, .int .i64 t.c.o, .int .i64 t.c.a, .int .i64 t.c.l, .int .i64 t.ep, .int .i64 t.sq, .slice A5 t.st.length k5, .slice D5 t.zs.length d5] := ⟨_, rfl⟩
      have HCcs5 := Lib.hid hcs5
      have HCNcs5 : Hid (cs5.size = 15 ∧ cs5.all (·.oneCell') = true) := by rw [hcs5]; exact ⟨rfl, by first | kernel_rfl | simp [Value.oneCell']⟩
      have HBF := Lib.hid (Box.fresh w5 27 #[.int .i64 0, .int .i64 0, .int .i64 0, .int .i64 0, .int .i64 0, .int .i64 0, .int .i64 0, .int .i64 0, .int .i64 0, .int .i64 0, .int .i64 0, .int .i64 0, .int .i64 0, .slice none 0 0, .slice none 0 0])
      have HADV : Hid (Applied s (nine (n 0) s.ep (s.sq + 1) (n 3) (n 4) (n 5) (n 6) (n 7) (n 8)) b t er ∧ StAt w5 (Ext (fun _ => False) w3.heap.size w5) A5 t.st k5 D5 t.zs d5 ∧ Below w3.heap.size w3 w5) := ⟨hap, hst, hb⟩
      rw [← hcs5]
      clear hap hst hb hcs5 HAP r0 r1 r2 r3 r4 r5 r6 r7 r8 r9
      go_upto_region 14 with (refine list_store27 rfl (.tmp 9) (.tmp 72) rfl w5.heap.size cs5 #[.int .i64 0, .int .i64 0, .int .i64 0, .int .i64 0, .int .i64 0, .int .i64 0, .int .i64 0, .int .i64 0, .int .i64 0, .int .i64 0, .int .i64 0, .int .i64 0, .int .i64 0, .slice none 0 0, .slice none 0 0] HBF.out rfl HCNcs5.out.1 HCNcs5.out.2 rfl rfl (fun w6 q1 q2 => ?_))
      have HI6 : Hid (GoI c s A k D d g w w6) := by
        have hb0 := below_one w5 (.cells #[.int .i64 0, .int .i64 0, .int .i64 0, .int .i64 0, .int .i64 0, .int .i64 0, .int .i64 0, .int .i64 0, .int .i64 0, .int .i64 0, .int .i64 0, .int .i64 0, .int .i64 0, .slice none 0 0, .slice none 0 0] 27)
        exact (HR3.out.2.1.later HADV.out.2.2).turn hb0 (q2 [w5.heap.size] (by simp)) (Nat.le_refl _)
      have HT6 : Hid (Box w6 w5.heap.size 27 cs5 ∧ StAt w6 (Ext (fun _ => False) w3.heap.size w6) A5 t.st k5 D5 t.zs d5 ∧ g < w3.heap.size ∧ g < w5.heap.size) := by
        have hb0 := below_one w5 (.cells #[.int .i64 0, .int .i64 0, .int .i64 0, .int .i64 0, .int .i64 0, .int .i64 0, .int .i64 0, .int .i64 0, .int .i64 0, .int .i64 0, .int .i64 0, .int .i64 0, .int .i64 0, .slice none 0 0, .slice none 0 0] 27)
        have hb2 : Below w5.heap.size w5 w6 := hb0.trans ((q2 [w5.heap.size] (by simp)).below (by simp) hb0.size)
        have h1 := HR3.out.2.1.var.lt
        have h2 := HADV.out.2.2.size
        exact ⟨q1, HADV.out.2.1.extB (B := 0) (fun _ h => h.elim) (Nat.zero_le _) hb2, h1, by omega⟩
      have HAD := Lib.hid HADV.out.1
      clear q1 q2 HBF HADV HR3 HG8 HLX
      generalize w3.heap.size = lo3 at HT6
      generalize w5.heap.size = g9 at HT6 ⊢
      have her : (er = 13) ∨ (er = 0 ∧ RightS t ∧ t.c = c) := by
        rcases HAD.out with ⟨h1, _⟩ | ⟨_, _, _, h1⟩ | ⟨h1, h2, h3, h4⟩
        · exact absurd HI6.out.right h1
        · exact Or.inl h1
        · refine Or.inr ⟨h4, by rw [h3]; exact right_next h1 h2, by rw [h3, nextS_c]; exact HI6.out.same⟩
      rcases her with rfl | ⟨rfl, hrt, hct⟩
      · go_wp2_with fail
        refine (code_any 13 w6).mono ?_
        rintro e w7 ⟨rfl, rfl⟩
        clear HT6 HAD
        have HCCcs1 : Hid (Calls Try.prog 16 #[.agg cs1] w6 (SaysP w6 (RightS s))) := by
          rw [HCcs1.out]
          have hln := right_len HI6.out.right
          exact rright_any s.c s.ep s.sq A s.st k D s.zs d w6 HI6.out.at_ (by omega) (by omega)
        have HFFcs1 : Hid (∀ w', Below w6.heap.size w6 w' → Calls Try.prog 22 #[.agg cs1] w' (FreeG w' (freeL s.c s.zs))) := fun w' hb => by
          rw [HCcs1.out]
          have hln := right_len HI6.out.right
          exact free_any s.c s.ep s.sq A s.st k D s.zs d w' (HI6.out.at_.later hb) (by omega)
        have HFN : Hid (((freeL s.c s.zs).length : Int) = c.s + (bareN s.zs : Int)) := by
          have h := right_free HI6.out.right
          rw [HI6.out.same] at h
          rw [HI6.out.same]
          exact h
        have HCS2 : Hid (1 ≤ c.s ∧ c.s ≤ 64 ∧ s.zs.length ≤ 64) := by
          have hg := check_good0 HI6.out.right.conf
          have hz := HI6.out.right.zone
          rw [HI6.out.same] at hg hz
          unfold Good at hg
          refine ⟨?_, ?_, ?_⟩ <;> omega
        obtain ⟨y0, y1, y2, y3, y4, y5, y6, y7, y8, y9, y10⟩ := box11 HI6.out.cf
        obtain ⟨_, _, _, _, _, _, _, _, _, _, _, _, _, _, s14⟩ := box15 HI6.out.var
        go_wp2
        go_loop [11, 12] (fun bv kv => ∃ m : Nat, m ≤ s.zs.length ∧ kv = .int .i64 m ∧ bv = .int .i64 (c.s + (bareN (s.zs.take m) : Int))) (fun _ kv => s.zs.length - (intOf kv).toNat)
        case atStart => exact ⟨0, by omega, rfl, by simp [bareN, hasN]⟩
        case round =>
          obtain ⟨m, hm, rfl, rfl⟩ := hrel
          have hcs2 := HCS2.out
          have hbl : (bareN (s.zs.take m) : Int) ≤ 64 := by
            unfold bareN
            rw [List.length_take]
            omega
          by_cases hlt : m < s.zs.length
          · have HBT := Lib.hid (bareN_take hlt)
            obtain ⟨gz, off, hD, hgz, hc⟩ := HI6.out.st.2.1 (by omega)
            have HZR := Lib.hid (HI6.out.right.be _ (List.getElem_mem hlt)).slot
            obtain ⟨Y, y, c0, c1, _⟩ := hc m hlt
            rw [hD] at s14
            clear hc c0
            generalize s.zs[m] = z at c1 HBT HZR
            by_cases hz : z.slot < 0
            · have HB1 : Hid ((bareN (s.zs.take (m + 1)) : Int) = (bareN (s.zs.take m) : Int) + 1) := by
                have h1 := HBT.out
                have h2 := HZR.out.1
                rw [if_pos (by omega)] at h1
                exact h1
              clear HBT HZR
              go_wp2
              go_round
              case rel => exact ⟨m + 1, by omega, by first | go_num | (rw [wrap_in (by omega) (by omega)]; rfl), by first | rw [HB1.out, Int.add_assoc] | rw [HB1.out, wrap_in (by omega) (by omega), Int.add_assoc]⟩
              case measure =>
                try rw [wrap_in (by omega) (by omega)]
                simp [intOf]
                omega
            · have HB1 : Hid ((bareN (s.zs.take (m + 1)) : Int) = (bareN (s.zs.take m) : Int)) := by
                have h1 := HBT.out
                rw [if_neg (by omega)] at h1
                rw [h1]
                exact Int.add_zero _
              clear HBT HZR
              go_wp2
              go_round
              case rel => exact ⟨m + 1, by omega, by first | go_num | (rw [wrap_in (by omega) (by omega)]; rfl), by rw [HB1.out]⟩
              case measure =>
                try rw [wrap_in (by omega) (by omega)]
                simp [intOf]
                omega
          · obtain rfl : m = s.zs.length := by omega
            rw [List.take_length] at hbl
            have hfb : (((freeL s.c s.zs).length : Int) != c.s + (bareN (s.zs.take s.zs.length) : Int)) = false := by
              rw [List.take_length, HFN.out]
              simp
            generalize (bareN (s.zs.take s.zs.length) : Int) = bn at hfb ⊢
            clear hbl
            go_wp2_with (refine list_load27g (by rfl) (.tmp 5) rfl g cs1 (by rw [HCcs1.out]; exact HI6.out.var) HCNcs1.out.1 rfl ?_)
            refine HCCcs1.out.mono ?_
            rintro e w7 ⟨bb, rfl, h1, h2⟩
            obtain rfl : bb = true := h1.2 HI6.out.right
            have HH7 := Lib.hid (HI6.out.later h2)
            have HBB := Lib.hid h2
            clear h1 h2
            go_wp2_with (refine list_load27g (by rfl) (.tmp 5) rfl g cs1 (by rw [HCcs1.out]; exact HH7.out.var) HCNcs1.out.1 rfl ?_)
            refine (HFFcs1.out w7 HBB.out).mono ?_
            rintro e w8 ⟨Xf, cf, rfl, hif, hlf, hb⟩
            have HH8 := Lib.hid (HH7.out.later hb)
            clear hif hlf hb HH7 HBB
            go_wp2_with fail
            have hxl := HXL.out
            unfold maxLen at hxl
            go_roundw
            case rel => exact ⟨q + 1, s, A, k, D, d, by omega, by first | go_num | (rw [wrap_in (by omega) (by omega)]; rfl), HH8.out⟩
            case measure =>
              try rw [wrap_in (by omega) (by omega)]
              simp [intOf]
              omega
      · have HRT : Hid (RightS t ∧ t.c = c) := ⟨hrt, hct⟩
        clear hrt hct
        go_wp2_with fail
        refine (code_any 0 w6).mono ?_
        rintro e w7 ⟨rfl, rfl⟩
        go_upto_region 16 with (first | (refine list_load27 rfl (.tmp 9) rfl g9 cs5 HT6.out.1 HCNcs5.out.1 rfl ?_) | (refine list_store27 rfl (.tmp 5) (.tmp 77) rfl g cs5 cs1 (by rw [HCcs1.out]; exact HI6.out.var) HCNcs1.out.1 HCNcs5.out.1 HCNcs5.out.2 rfl rfl (fun w7 q1 q2 => ?_)))
        have HI7 : Hid (GoI c t A5 k5 D5 d5 g w w7) := HI6.out.next (by rw [← HCcs5.out]; exact q1) (q2 [g] (by simp)) HT6.out.2.1 HT6.out.2.2.1 HRT.out.1 HRT.out.2
        clear q1 q2 HI6 HT6 HAD HRT
        have HCCcs5 : Hid (Calls Try.prog 16 #[.agg cs5] w7 (SaysP w7 (RightS t))) := by
          rw [HCcs5.out]
          have hln := right_len HI7.out.right
          exact rright_any t.c t.ep t.sq A5 t.st k5 D5 t.zs d5 w7 HI7.out.at_ (by omega) (by omega)
        have HFFcs5 : Hid (∀ w', Below w7.heap.size w7 w' → Calls Try.prog 22 #[.agg cs5] w' (FreeG w' (freeL t.c t.zs))) := fun w' hb => by
          rw [HCcs5.out]
          have hln := right_len HI7.out.right
          exact free_any t.c t.ep t.sq A5 t.st k5 D5 t.zs d5 w' (HI7.out.at_.later hb) (by omega)
        have HFN : Hid (((freeL t.c t.zs).length : Int) = c.s + (bareN t.zs : Int)) := by
          have h := right_free HI7.out.right
          rw [HI7.out.same] at h
          rw [HI7.out.same]
          exact h
        have HCS2 : Hid (1 ≤ c.s ∧ c.s ≤ 64 ∧ t.zs.length ≤ 64) := by
          have hg := check_good0 HI7.out.right.conf
          have hz := HI7.out.right.zone
          rw [HI7.out.same] at hg hz
          unfold Good at hg
          refine ⟨?_, ?_, ?_⟩ <;> omega
        obtain ⟨y0, y1, y2, y3, y4, y5, y6, y7, y8, y9, y10⟩ := box11 HI7.out.cf
        obtain ⟨_, _, _, _, _, _, _, _, _, _, _, _, _, _, s14⟩ := box15 HI7.out.var
        go_wp2
        go_loop [11, 12] (fun bv kv => ∃ m : Nat, m ≤ t.zs.length ∧ kv = .int .i64 m ∧ bv = .int .i64 (c.s + (bareN (t.zs.take m) : Int))) (fun _ kv => t.zs.length - (intOf kv).toNat)
        case atStart => exact ⟨0, by omega, rfl, by simp [bareN, hasN]⟩
        case round =>
          obtain ⟨m, hm, rfl, rfl⟩ := hrel
          have hcs2 := HCS2.out
          have hbl : (bareN (t.zs.take m) : Int) ≤ 64 := by
            unfold bareN
            rw [List.length_take]
            omega
          by_cases hlt : m < t.zs.length
          · have HBT := Lib.hid (bareN_take hlt)
            obtain ⟨gz, off, hD, hgz, hc⟩ := HI7.out.st.2.1 (by omega)
            have HZR := Lib.hid (HI7.out.right.be _ (List.getElem_mem hlt)).slot
            obtain ⟨Y, y, c0, c1, _⟩ := hc m hlt
            rw [hD] at s14
            clear hc c0
            generalize t.zs[m] = z at c1 HBT HZR
            by_cases hz : z.slot < 0
            · have HB1 : Hid ((bareN (t.zs.take (m + 1)) : Int) = (bareN (t.zs.take m) : Int) + 1) := by
                have h1 := HBT.out
                have h2 := HZR.out.1
                rw [if_pos (by omega)] at h1
                exact h1
              clear HBT HZR
              go_wp2
              go_round
              case rel => exact ⟨m + 1, by omega, by first | go_num | (rw [wrap_in (by omega) (by omega)]; rfl), by first | rw [HB1.out, Int.add_assoc] | rw [HB1.out, wrap_in (by omega) (by omega), Int.add_assoc]⟩
              case measure =>
                try rw [wrap_in (by omega) (by omega)]
                simp [intOf]
                omega
            · have HB1 : Hid ((bareN (t.zs.take (m + 1)) : Int) = (bareN (t.zs.take m) : Int)) := by
                have h1 := HBT.out
                rw [if_neg (by omega)] at h1
                rw [h1]
                exact Int.add_zero _
              clear HBT HZR
              go_wp2
              go_round
              case rel => exact ⟨m + 1, by omega, by first | go_num | (rw [wrap_in (by omega) (by omega)]; rfl), by rw [HB1.out]⟩
              case measure =>
                try rw [wrap_in (by omega) (by omega)]
                simp [intOf]
                omega
          · obtain rfl : m = t.zs.length := by omega
            rw [List.take_length] at hbl
            have hfb : (((freeL t.c t.zs).length : Int) != c.s + (bareN (t.zs.take t.zs.length) : Int)) = false := by
              rw [List.take_length, HFN.out]
              simp
            generalize (bareN (t.zs.take t.zs.length) : Int) = bn at hfb ⊢
            clear hbl
            go_wp2_with (refine list_load27g (by rfl) (.tmp 5) rfl g cs5 (by rw [HCcs5.out]; exact HI7.out.var) HCNcs5.out.1 rfl ?_)
            refine HCCcs5.out.mono ?_
            rintro e w7 ⟨bb, rfl, h1, h2⟩
            obtain rfl : bb = true := h1.2 HI7.out.right
            have HH7 := Lib.hid (HI7.out.later h2)
            have HBB := Lib.hid h2
            clear h1 h2
            go_wp2_with (refine list_load27g (by rfl) (.tmp 5) rfl g cs5 (by rw [HCcs5.out]; exact HH7.out.var) HCNcs5.out.1 rfl ?_)
            refine (HFFcs5.out w7 HBB.out).mono ?_
            rintro e w8 ⟨Xf, cf, rfl, hif, hlf, hb⟩
            have HH8 := Lib.hid (HH7.out.later hb)
            clear hif hlf hb HH7 HBB
            go_wp2_with fail
            have hxl := HXL.out
            unfold maxLen at hxl
            go_roundw
            case rel => exact ⟨q + 1, t, A5, k5, D5, d5, by omega, by first | go_num | (rw [wrap_in (by omega) (by omega)]; rfl), HH8.out⟩
            case measure =>
              try rw [wrap_in (by omega) (by omega)]
              simp [intOf]
              omega
    · obtain rfl : q = xs.length := by omega
      have HB9 := Lib.hid HI.out.below
      clear HI
      go_wp2_with fail
      refine (live_any wr).mono ?_
      rintro e w9 ⟨rfl, hb⟩
      have HE := Lib.hid (HB9.out.trans (hb.mono HB9.out.size))
      clear hb
      go_wp2
      go_ret
      exact ⟨rfl, HE.out⟩
end Go.Proofs.Ytaceaemombnhkaa
namespace Go.Proofs.Ytaceaemombnhkaa.stateGoes
open Go.ChangeShapes Go.WideShapes Go.ChangeAt Go.RowKit
open Go.ChangeMaps (open_string shut_string)
set_option linter.unusedVariables false

theorem own : ownKnob Try.prog.godebug = none := by kernel_rfl
theorem laidOut : laidOutB Try.prog = true := by kernel_rfl

set_option maxRecDepth 100000 in
theorem lifted (os : Os) (started : os.Started) (H : Type) (enc : TypeId × Value → H) :
    ReturnsInHanded {} Try.checked os 6 .any (Rows.stateGoesSpec.pre6 enc Try.prog Try.f6 Rows.stateGoesRow.domain false) (Rows.stateGoesSpec.post enc Try.prog Try.f6 false true false false) := by
  refine returnsInHanded_of_change_sized (C := Try.checked) own started (by kernel_rfl) Try.func6
    (ChangeSpec.witness6 (enc := enc) (C := Try.checked) false ⟨#[], #[.agg #[.int .i64 0, .int .i64 0, .int .i64 0, .int .i64 0, .int .i64 0, .int .i64 0, .int .i64 0, .int .i64 0, .int .i64 0, .int .i64 0, .int .i64 0], .slice none 0 0], []⟩ 8 (by kernel_rfl) (by kernel_rfl) (by kernel_rfl) (by kernel_rfl)) ?_
  intro W base args ds gs before hval0 hW hcnd hsz0 _
  have hval : ∀ (j : Nat) t v, Try.f6.params[j]? = some t → args[j]? = some v → Value.okWide Try.prog W .any base t v := hval0
  have hsz : (DataW.weightsEach Try.prog (Try.f6.params.toList ++ Rows.stateGoesSpec.plain.varTypes Try.prog) (ds ++ gs)).all (· ≤ reachBytes) = true := hsz0
  have hW' := hW
  obtain ⟨p, q, hA0, hV, rfl, hfz, hnd⟩ := hW
  have hA : DataW.TrodAll enc Try.prog W 0 (fun _ => true) true Try.f6.params.toList args.toList ds p := hA0
  rw [Try.params6] at hA hval hsz
  obtain ⟨v0, vs0, d0, ds0, p0, q0, hargs, rfl, rfl, h0, r0⟩ := trodAll_cons hA
  obtain ⟨v1, vs1, d1, ds1, p1, q1, rfl, rfl, rfl, h1, r1⟩ := trodAll_cons r0
  obtain ⟨rfl, rfl, rfl⟩ := trodAll_nil r1
  obtain rfl : args = #[v0, v1] := by cases args; simp_all
  obtain ⟨rfl, rfl⟩ := trodVars_none hV
  have k0 := h0
  have lt0 : ∀ x ∈ p0, x.block < W.heap.size := by obtain ⟨m, hm⟩ := k0; exact DataW.trod_lt m _ _ _ hm
  obtain ⟨cc0, rfl, hF0⟩ := open_conf (hval 0 23 v0 rfl rfl) h0
  obtain ⟨a1, len1, cap1, rfl⟩ := okWide_slice Try.underlying44 (hval 1 44 v1 rfl rfl)
  have k1 := h1
  have lt1 : ∀ x ∈ p1, x.block < W.heap.size := by obtain ⟨m, hm⟩ := k1; exact DataW.trod_lt m _ _ _ hm
  have hw1 : ∀ n ∈ d1.weights Try.prog 44, n ≤ reachBytes := fun n hn => by
    have := List.all_eq_true.1 hsz n (DataW.weights_mem_each (j := 1) rfl rfl n hn)
    simpa using this
  obtain ⟨xs1, rfl, hR1, hC1⟩ := open_recs h1 hw1
  clear hA0 hval0 hsz0
  refine (stateGoes_walk cc0 a1 cap1 xs1 W hR1 hC1).mono fun e W' ⟨he, bel⟩ => ?_
  subst he
  exact ⟨_, rfl, _, _, _, [], _, [], hW', trodAll_mk1 (shut_bool Try.underlying4 _), (trodAll_cons_mk (Below.trod laidOut (by kernel_rfl) (of_decide_eq_true (by kernel_rfl)) k0 bel lt0) (trodAll_cons_mk (Below.trod laidOut (by kernel_rfl) (of_decide_eq_true (by kernel_rfl)) k1 bel lt1) trodAll_mk0)), rfl, bel.frame _, fun h => by cases h⟩

theorem over : Rows.stateGoesRow.holds Try.pinned (OpenSpec.ofChange Rows.stateGoesSpec) :=
  OpenClaim.holds_of_wide 6 Try.f6 rfl rfl rfl rfl rfl rfl rfl ⟨rfl, rfl, rfl, rfl, rfl⟩ rfl rfl rfl rfl rfl (by kernel_rfl) Try.func6 (by kernel_rfl)
    (of_decide_eq_true (by kernel_rfl)) (by unfold Func.isWrapper; first | (rw [if_pos (by decide +kernel)]; kernel_rfl) | (rw [if_neg (by decide +kernel)]; exact ⟨rfl, rfl⟩))
    (fun os started H enc _ => lifted os started H enc)

end Go.Proofs.Ytaceaemombnhkaa.stateGoes

namespace Go.Proofs.Ytaceaemombnhkaa
theorem stateGoes_holds : Rows.StateGoesSaid := stateGoes.over
#print axioms stateGoes_holds
end Go.Proofs.Ytaceaemombnhkaa
