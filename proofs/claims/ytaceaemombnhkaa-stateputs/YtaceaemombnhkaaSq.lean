/- The contracts of bytes.Equal, samePar, sameZone, slices.Equal, slices.EqualFunc, Same. -/
import Derived.Test.YtaceaemombnhkaaSo
import Derived.Deep.DeepCutAuto
namespace Go.Proofs.Ytaceaemombnhkaa
set_option linter.unusedVariables false
set_option maxRecDepth 100000
set_option linter.unusedSimpArgs false
open Go.RowKit
open Go.RowKit (wrap64)

theorem eql_str (l r : List UInt8) : (l == r) = decide (l = r) := by
  rw [Bool.eq_iff_iff]
  simp
theorem equal_any (A D : Option Addr) (c d B B2 : Nat) (l r : List UInt8) (w : World) (hl : Rd w B A l) (hr : Rd w B2 D r) : Calls Try.prog 89 #[.slice A l.length c, .slice D r.length d] w (SaysP w (l = r)) := by
  have h1 := conv_any A c _ l w hl
  have h2 := conv_any D d _ r w hr
  go_enter Try.func89, Try.ntmps89
  go_wp2
  go_ret
  exact ⟨_, rfl, by simp, Below.refl _ _⟩
set_option maxHeartbeats 4000000 in
theorem samePar_any (pw pw2 : Int) (V V2 : Option Addr) (pb pb2 : List UInt8) (v v2 : Nat) (w : World) (h1 : Rd w w.heap.size V pb) (h2 : Rd w w.heap.size V2 pb2) :
    Calls Try.prog 75 #[.agg #[.int .i64 pw, .slice V pb.length v], .agg #[.int .i64 pw2, .slice V2 pb2.length v2]] w (SaysP w ((⟨pw, pb⟩ : Pr) = ⟨pw2, pb2⟩)) := by
  go_enter Try.func75, Try.ntmps75
  go_upto_region 1 with fail
  have HT : Hid (Box ((w.alloc (.cells #[.int .i64 pw, .slice V pb.length v] 55)).alloc (.cells #[.int .i64 pw2, .slice V2 pb2.length v2] 55)) w.heap.size 55 #[.int .i64 pw, .slice V pb.length v] ∧ Box ((w.alloc (.cells #[.int .i64 pw, .slice V pb.length v] 55)).alloc (.cells #[.int .i64 pw2, .slice V2 pb2.length v2] 55)) (w.heap.size + 1) 55 #[.int .i64 pw2, .slice V2 pb2.length v2] ∧ Below w.heap.size w ((w.alloc (.cells #[.int .i64 pw, .slice V pb.length v] 55)).alloc (.cells #[.int .i64 pw2, .slice V2 pb2.length v2] 55)) ∧ ((w.alloc (.cells #[.int .i64 pw, .slice V pb.length v] 55)).alloc (.cells #[.int .i64 pw2, .slice V2 pb2.length v2] 55)).heap.size = w.heap.size + 2) := two_boxes' w 55 55 _ _
  generalize ((w.alloc (.cells #[.int .i64 pw, .slice V pb.length v] 55)).alloc (.cells #[.int .i64 pw2, .slice V2 pb2.length v2] 55)) = w0 at HT ⊢
  obtain ⟨y0, y1⟩ := box2 HT.out.1
  obtain ⟨x0, x1⟩ := box2 HT.out.2.1
  have HR : Hid (Rd w0 w.heap.size V pb ∧ Rd w0 w.heap.size V2 pb2) := ⟨h1.below HT.out.2.2.1, h2.below HT.out.2.2.1⟩
  have HB := Lib.hid HT.out.2.2.1
  clear h1 h2 HT
  by_cases hw : pw = pw2
  case neg =>
    have hwb : (pw == pw2) = false := by simpa using hw
    have HE := Lib.hid hw
    clear hw
    go_wp2
    go_ret
    exact SaysP.no (fun h => HE.out (by first | exact congrArg Pr.w h | exact h.1)) HB.out
  have hwb : (pw == pw2) = true := by simpa using hw
  have HW := Lib.hid hw
  clear hw
  go_wp2_with fail
  refine (equal_any V V2 v v2 _ _ pb pb2 w0 HR.out.1 HR.out.2).mono ?_
  rintro e w1 ⟨b, rfl, hb, hbl⟩
  have HB1 := Lib.hid (HB.out.trans (hbl.mono HB.out.size))
  have HE := Lib.hid hb
  clear hb hbl HB y0 y1 x0 x1 HR
  go_wp2
  go_ret
  exact ⟨b, rfl, HE.out.trans ⟨fun h => by rw [HW.out, h], fun h => by first | exact congrArg Pr.b h | exact h.2⟩, HB1.out⟩
set_option maxHeartbeats 4000000 in
theorem equalPs_any (Y Y2 : Option Addr) (ps ps2 : List Pr) (y yc2 : Nat) (w : World) (h1 : PrsAt w (LT w.heap.size) Y ps) (h2 : PrsAt w (LT w.heap.size) Y2 ps2) (hl : ps.length ≤ 1000000) :
    Calls Try.prog 74 #[.slice Y ps.length y, .slice Y2 ps2.length yc2, .func (.func 75) #[] #[]] w (SaysP w (ps = ps2)) := by
  have HP : Hid (∀ w', Below w.heap.size w w' → PrsAt w' (LT w.heap.size) Y ps ∧ PrsAt w' (LT w.heap.size) Y2 ps2) := fun w' hb => ⟨h1.keep (Kept.below hb), h2.keep (Kept.below hb)⟩
  clear h1 h2
  go_enter Try.func74, Try.ntmps74
  by_cases hn : (ps.length : Int) = (ps2.length : Int)
  case neg =>
    have hnb : ((ps.length : Int) != (ps2.length : Int)) = true := by simpa using hn
    have HE := Lib.hid hn
    clear hn
    go_wp2
    go_ret
    exact SaysP.no (fun h => HE.out (by rw [h])) (Below.refl _ _)
  have hnb : ((ps.length : Int) != (ps2.length : Int)) = false := by simp [hn]
  have HN : Hid (ps.length = ps2.length) := by show _ = _; omega
  clear hn
  go_wp2
  clear hnb
  go_loopw [7, 8, 9, 17] (fun _ _ _ i wr => ∃ m : Nat, m ≤ ps.length ∧ i = .int .i64 m ∧ (∀ j (hj : j < ps.length) (hj2 : j < ps2.length), j < m → ps[j] = ps2[j]) ∧ Below w.heap.size w wr) (fun _ _ _ i _ => ps.length - (intOf i).toNat)
  case atStart => exact ⟨0, by omega, rfl, fun j _ _ hj => absurd hj (Nat.not_lt_zero j), Below.refl _ _⟩
  case round =>
    obtain ⟨m, hm, rfl, hall, hb0⟩ := hrel
    have HB := Lib.hid hb0
    have HALL := Lib.hid hall
    clear hall hb0
    by_cases hlm : m < ps.length
    · have hlm2 : m < ps2.length := by have := HN.out; omega
      obtain ⟨g, off, hY, hg, hc⟩ := (HP.out wr HB.out).1 (by omega)
      subst hY
      obtain ⟨g2, off2, hY2, hg2, hc2⟩ := (HP.out wr HB.out).2 (by omega)
      subst hY2
      obtain ⟨V, v, c0, c1, hV, _, _⟩ := hc m hlm
      obtain ⟨V2, v2, e0, e1, hV2, _, _⟩ := hc2 m hlm2
      have HNP : Hid (ps[m] ≠ ps2[m] → ¬ ps = ps2) := fun hx h => hx (by simp only [h])
      have HN3 : Hid (ps[m] = ps2[m] → ∀ j (hj : j < ps.length) (hj2 : j < ps2.length), j < m + 1 → ps[j] = ps2[j]) := fun he j hj hj2 hjk => by
        rcases Nat.lt_or_ge j m with h1 | h1
        · exact HALL.out j hj hj2 h1
        · obtain rfl : j = m := by omega
          exact he
      have HRD : Hid (Rd wr w.heap.size V ps[m].b ∧ Rd wr w.heap.size V2 ps2[m].b) := ⟨hV.lt, hV2.lt⟩
      have hg' : g < wr.heap.size := Nat.lt_of_lt_of_le hg HB.out.size
      have hg2' : g2 < wr.heap.size := Nat.lt_of_lt_of_le hg2 HB.out.size
      clear hc hc2 hV hV2 HALL
      generalize ps[m] = p1 at c0 c1 HNP HN3 HRD
      generalize ps2[m] = p2 at e0 e1 HNP HN3 HRD
      obtain ⟨pw, pb⟩ := p1
      obtain ⟨pw2, pb2⟩ := p2
      dsimp only at c0 c1 e0 e1
      have HRD : Hid (Rd wr w.heap.size V pb ∧ Rd wr w.heap.size V2 pb2) := HRD.out
      go_upto_region 6 with fail
      have HX : Hid (Box (wr.alloc (.cells #[.int .i64 pw, .slice V pb.length v] 55)) wr.heap.size 55 #[.int .i64 pw, .slice V pb.length v] ∧ Below wr.heap.size wr (wr.alloc (.cells #[.int .i64 pw, .slice V pb.length v] 55))) := ⟨Box.fresh _ _ _, below_one _ _⟩
      have f0 : (wr.alloc (.cells #[.int .i64 pw, .slice V pb.length v] 55)).cell? ⟨g2, off2 + m * 2, none⟩ = some (.int .i64 pw2) := (HX.out.2.cell (p := ⟨g2, off2 + m * 2, none⟩) hg2').trans e0
      have f1 : (wr.alloc (.cells #[.int .i64 pw, .slice V pb.length v] 55)).cell? ⟨g2, off2 + m * 2 + 1, none⟩ = some (.slice V2 pb2.length v2) := (HX.out.2.cell (p := ⟨g2, off2 + m * 2 + 1, none⟩) hg2').trans e1
      generalize (wr.alloc (.cells #[.int .i64 pw, .slice V pb.length v] 55)) = w2 at HX f0 f1 ⊢
      generalize hgw : wr.heap.size = ga at HX ⊢
      clear c0 c1 e0 e1
      go_upto_region 7 with fail
      have HX2 : Hid (Box (w2.alloc (.cells #[.int .i64 pw2, .slice V2 pb2.length v2] 55)) ga 55 #[.int .i64 pw, .slice V pb.length v] ∧ Box (w2.alloc (.cells #[.int .i64 pw2, .slice V2 pb2.length v2] 55)) w2.heap.size 55 #[.int .i64 pw2, .slice V2 pb2.length v2] ∧ Below w.heap.size w (w2.alloc (.cells #[.int .i64 pw2, .slice V2 pb2.length v2] 55)) ∧ Rd (w2.alloc (.cells #[.int .i64 pw2, .slice V2 pb2.length v2] 55)) (w2.alloc (.cells #[.int .i64 pw2, .slice V2 pb2.length v2] 55)).heap.size V pb ∧ Rd (w2.alloc (.cells #[.int .i64 pw2, .slice V2 pb2.length v2] 55)) (w2.alloc (.cells #[.int .i64 pw2, .slice V2 pb2.length v2] 55)).heap.size V2 pb2) := by
        have hbb : Below wr.heap.size wr (w2.alloc (.cells #[.int .i64 pw2, .slice V2 pb2.length v2] 55)) := by
          have h1 := HX.out.2
          rw [← hgw] at h1
          exact below_trans h1 (below_one _ _)
        have hb2 := hbb.mono HB.out.size
        have hb3 := HB.out.trans hb2
        exact ⟨HX.out.1.later (below_one _ _), Box.fresh _ _ _, hb3, (HRD.out.1.below hb2).more hb3.size, (HRD.out.2.below hb2).more hb3.size⟩
      generalize (w2.alloc (.cells #[.int .i64 pw2, .slice V2 pb2.length v2] 55)) = w3 at HX2 ⊢
      generalize w2.heap.size = gb at HX2 ⊢
      clear HX f0 f1 HB HRD hgw hg hg2 hg' hg2'
      obtain ⟨y0, y1⟩ := box2 HX2.out.1
      obtain ⟨x0, x1⟩ := box2 HX2.out.2.1
      go_wp2_with fail
      refine (samePar_any pw pw2 V V2 pb pb2 v v2 w3 HX2.out.2.2.2.1 HX2.out.2.2.2.2).mono ?_
      rintro e w4 ⟨b, rfl, hb, hbl⟩
      have HB4 := Lib.hid (HX2.out.2.2.1.trans (hbl.mono HX2.out.2.2.1.size))
      have HE := Lib.hid hb
      clear hb hbl HX2 y0 y1 x0 x1
      cases b with
      | false =>
        have HNQ : Hid (¬ ps = ps2) := HNP.out (fun h => by have := HE.out.2 h; simp at this)
        go_wp2
        go_ret
        exact SaysP.no HNQ.out HB4.out
      | true =>
        have HNQ := Lib.hid (HN3.out (HE.out.1 rfl))
        go_wp2
        go_roundw
        case rel => exact ⟨m + 1, by omega, by go_num, HNQ.out, HB4.out⟩
        case measure => simp [intOf]; omega
    · obtain rfl : m = ps.length := by omega
      have HPP : Hid (ps = ps2) := List.ext_getElem HN.out (fun j hj hj2 => HALL.out j hj hj2 hj)
      go_wp2
      go_ret
      exact SaysP.yes HPP.out HB.out
set_option maxHeartbeats 4000000 in
theorem sameZone_any (gen slot : Int) (full : Bool) (zw : Int) (whole : Bool) (Y : Option Addr) (ps : List Pr) (y : Nat) (gen2 slot2 : Int) (full2 : Bool) (zw2 : Int) (whole2 : Bool) (Y2 : Option Addr) (ps2 : List Pr) (yc2 : Nat) (w : World) (h1 : PrsAt w (LT w.heap.size) Y ps) (h2 : PrsAt w (LT w.heap.size) Y2 ps2) (hl : ps.length ≤ 1000000) :
    Calls Try.prog 40 #[.agg #[.int .i64 gen, .int .i64 slot, .bool full, .int .i64 zw, .bool whole, .slice Y ps.length y], .agg #[.int .i64 gen2, .int .i64 slot2, .bool full2, .int .i64 zw2, .bool whole2, .slice Y2 ps2.length yc2]] w (SaysP w ((⟨gen, slot, full, zw, whole, ps⟩ : Zn) = ⟨gen2, slot2, full2, zw2, whole2, ps2⟩)) := by
  go_enter Try.func40, Try.ntmps40
  go_upto_region 1 with fail
  have HT : Hid (Box ((w.alloc (.cells #[.int .i64 gen, .int .i64 slot, .bool full, .int .i64 zw, .bool whole, .slice Y ps.length y] 51)).alloc (.cells #[.int .i64 gen2, .int .i64 slot2, .bool full2, .int .i64 zw2, .bool whole2, .slice Y2 ps2.length yc2] 51)) w.heap.size 51 #[.int .i64 gen, .int .i64 slot, .bool full, .int .i64 zw, .bool whole, .slice Y ps.length y] ∧ Box ((w.alloc (.cells #[.int .i64 gen, .int .i64 slot, .bool full, .int .i64 zw, .bool whole, .slice Y ps.length y] 51)).alloc (.cells #[.int .i64 gen2, .int .i64 slot2, .bool full2, .int .i64 zw2, .bool whole2, .slice Y2 ps2.length yc2] 51)) (w.heap.size + 1) 51 #[.int .i64 gen2, .int .i64 slot2, .bool full2, .int .i64 zw2, .bool whole2, .slice Y2 ps2.length yc2] ∧ Below w.heap.size w ((w.alloc (.cells #[.int .i64 gen, .int .i64 slot, .bool full, .int .i64 zw, .bool whole, .slice Y ps.length y] 51)).alloc (.cells #[.int .i64 gen2, .int .i64 slot2, .bool full2, .int .i64 zw2, .bool whole2, .slice Y2 ps2.length yc2] 51)) ∧ ((w.alloc (.cells #[.int .i64 gen, .int .i64 slot, .bool full, .int .i64 zw, .bool whole, .slice Y ps.length y] 51)).alloc (.cells #[.int .i64 gen2, .int .i64 slot2, .bool full2, .int .i64 zw2, .bool whole2, .slice Y2 ps2.length yc2] 51)).heap.size = w.heap.size + 2) := two_boxes' w 51 51 _ _
  have HP : Hid (PrsAt ((w.alloc (.cells #[.int .i64 gen, .int .i64 slot, .bool full, .int .i64 zw, .bool whole, .slice Y ps.length y] 51)).alloc (.cells #[.int .i64 gen2, .int .i64 slot2, .bool full2, .int .i64 zw2, .bool whole2, .slice Y2 ps2.length yc2] 51)) (LT ((w.alloc (.cells #[.int .i64 gen, .int .i64 slot, .bool full, .int .i64 zw, .bool whole, .slice Y ps.length y] 51)).alloc (.cells #[.int .i64 gen2, .int .i64 slot2, .bool full2, .int .i64 zw2, .bool whole2, .slice Y2 ps2.length yc2] 51)).heap.size) Y ps ∧ PrsAt ((w.alloc (.cells #[.int .i64 gen, .int .i64 slot, .bool full, .int .i64 zw, .bool whole, .slice Y ps.length y] 51)).alloc (.cells #[.int .i64 gen2, .int .i64 slot2, .bool full2, .int .i64 zw2, .bool whole2, .slice Y2 ps2.length yc2] 51)) (LT ((w.alloc (.cells #[.int .i64 gen, .int .i64 slot, .bool full, .int .i64 zw, .bool whole, .slice Y ps.length y] 51)).alloc (.cells #[.int .i64 gen2, .int .i64 slot2, .bool full2, .int .i64 zw2, .bool whole2, .slice Y2 ps2.length yc2] 51)).heap.size) Y2 ps2) := ⟨h1.later HT.out.2.2.1, h2.later HT.out.2.2.1⟩
  generalize ((w.alloc (.cells #[.int .i64 gen, .int .i64 slot, .bool full, .int .i64 zw, .bool whole, .slice Y ps.length y] 51)).alloc (.cells #[.int .i64 gen2, .int .i64 slot2, .bool full2, .int .i64 zw2, .bool whole2, .slice Y2 ps2.length yc2] 51)) = w0 at HT HP ⊢
  clear h1 h2
  obtain ⟨a0, a1, a2, a3, a4, a5⟩ := box6 HT.out.1
  obtain ⟨x0, x1, x2, x3, x4, x5⟩ := box6 HT.out.2.1
  by_cases hq : gen = gen2
  case neg =>
    have hbb : (gen == gen2) = false := by simpa using hq
    have HE := Lib.hid hq
    clear hq
    go_wp2
    go_ret
    exact SaysP.no (fun h => HE.out (by first | exact congrArg Zn.gen h | (simp at h; simp [h]))) HT.out.2.2.1
  subst hq
  by_cases hq : slot = slot2
  case neg =>
    have hbb : (slot == slot2) = false := by simpa using hq
    have HE := Lib.hid hq
    clear hq
    go_wp2
    go_ret
    exact SaysP.no (fun h => HE.out (by first | exact congrArg Zn.slot h | (simp at h; simp [h]))) HT.out.2.2.1
  subst hq
  by_cases hq : full = full2
  case neg =>
    have hbb : (full == full2) = false := by simpa using hq
    have HE := Lib.hid hq
    clear hq
    go_wp2
    go_ret
    exact SaysP.no (fun h => HE.out (by first | exact congrArg Zn.full h | (simp at h; simp [h]))) HT.out.2.2.1
  subst hq
  by_cases hq : zw = zw2
  case neg =>
    have hbb : (zw == zw2) = false := by simpa using hq
    have HE := Lib.hid hq
    clear hq
    go_wp2
    go_ret
    exact SaysP.no (fun h => HE.out (by first | exact congrArg Zn.w h | (simp at h; simp [h]))) HT.out.2.2.1
  subst hq
  by_cases hq : whole = whole2
  case neg =>
    have hbb : (whole == whole2) = false := by simpa using hq
    have HE := Lib.hid hq
    clear hq
    go_wp2
    go_ret
    exact SaysP.no (fun h => HE.out (by first | exact congrArg Zn.whole h | (simp at h; simp [h]))) HT.out.2.2.1
  subst hq
  go_wp2_with fail
  refine (equalPs_any Y Y2 ps ps2 y yc2 w0 HP.out.1 HP.out.2 hl).mono ?_
  rintro e w1 ⟨b, rfl, hb, hbl⟩
  have HB1 := Lib.hid (HT.out.2.2.1.trans (hbl.mono HT.out.2.2.1.size))
  have HE := Lib.hid hb
  clear hb hbl HT HP a0 a1 a2 a3 a4 a5 x0 x1 x2 x3 x4 x5
  go_wp2
  go_ret
  exact ⟨b, rfl, HE.out.trans ⟨fun h => by rw [h], fun h => congrArg Zn.ps h⟩, HB1.out⟩
set_option maxHeartbeats 4000000 in
theorem equalZs_any (D D2 : Option Addr) (zs zs2 : List Zn) (d d2 : Nat) (w : World) (h1 : ZnsAt w (LT w.heap.size) D zs) (h2 : ZnsAt w (LT w.heap.size) D2 zs2) (hl : zs.length ≤ 1000000) (hl5 : ∀ z ∈ zs, z.ps.length ≤ 1000000) :
    Calls Try.prog 39 #[.slice D zs.length d, .slice D2 zs2.length d2, .func (.func 40) #[] #[]] w (SaysP w (zs = zs2)) := by
  have HP : Hid (∀ w', Below w.heap.size w w' → ZnsAt w' (LT w.heap.size) D zs ∧ ZnsAt w' (LT w.heap.size) D2 zs2) := fun w' hb => ⟨h1.keep (Kept.below hb), h2.keep (Kept.below hb)⟩
  have HL5 := Lib.hid hl5
  clear h1 h2 hl5
  go_enter Try.func39, Try.ntmps39
  by_cases hn : (zs.length : Int) = (zs2.length : Int)
  case neg =>
    have hnb : ((zs.length : Int) != (zs2.length : Int)) = true := by simpa using hn
    have HE := Lib.hid hn
    clear hn
    go_wp2
    go_ret
    exact SaysP.no (fun h => HE.out (by rw [h])) (Below.refl _ _)
  have hnb : ((zs.length : Int) != (zs2.length : Int)) = false := by simp [hn]
  have HN : Hid (zs.length = zs2.length) := by show _ = _; omega
  clear hn
  go_wp2
  clear hnb
  go_loopw [7, 8, 9, 17] (fun _ _ _ i wr => ∃ m : Nat, m ≤ zs.length ∧ i = .int .i64 m ∧ (∀ j (hj : j < zs.length) (hj2 : j < zs2.length), j < m → zs[j] = zs2[j]) ∧ Below w.heap.size w wr) (fun _ _ _ i _ => zs.length - (intOf i).toNat)
  case atStart => exact ⟨0, by omega, rfl, fun j _ _ hj => absurd hj (Nat.not_lt_zero j), Below.refl _ _⟩
  case round =>
    obtain ⟨m, hm, rfl, hall, hb0⟩ := hrel
    have HB := Lib.hid hb0
    have HALL := Lib.hid hall
    clear hall hb0
    by_cases hlm : m < zs.length
    · have hlm2 : m < zs2.length := by have := HN.out; omega
      obtain ⟨g, off, hY, hg, hc⟩ := (HP.out wr HB.out).1 (by omega)
      subst hY
      obtain ⟨g2, off2, hY2, hg2, hc2⟩ := (HP.out wr HB.out).2 (by omega)
      subst hY2
      obtain ⟨Y, y, c0, c1, c2, c3, c4, c5, hps, _, hpl⟩ := hc m hlm
      obtain ⟨Y2, yc2, e0, e1, e2, e3, e4, e5, hps2, _, hpl2⟩ := hc2 m hlm2
      have HNP : Hid (zs[m] ≠ zs2[m] → ¬ zs = zs2) := fun hx h => hx (by simp only [h])
      have HN3 : Hid (zs[m] = zs2[m] → ∀ j (hj : j < zs.length) (hj2 : j < zs2.length), j < m + 1 → zs[j] = zs2[j]) := fun he j hj hj2 hjk => by
        rcases Nat.lt_or_ge j m with h1 | h1
        · exact HALL.out j hj hj2 h1
        · obtain rfl : j = m := by omega
          exact he
      have HRD : Hid (PrsAt wr (LT w.heap.size) Y zs[m].ps ∧ PrsAt wr (LT w.heap.size) Y2 zs2[m].ps) := ⟨hps, hps2⟩
      have HL6 := Lib.hid (HL5.out _ (List.getElem_mem hlm))
      have hg' : g < wr.heap.size := Nat.lt_of_lt_of_le hg HB.out.size
      have hg2' : g2 < wr.heap.size := Nat.lt_of_lt_of_le hg2 HB.out.size
      clear hc hc2 hps hps2 HALL
      generalize zs[m] = p1 at c0 c1 c2 c3 c4 c5 HNP HN3 HRD HL6 hpl
      generalize zs2[m] = p2 at e0 e1 e2 e3 e4 e5 HNP HN3 HRD hpl2
      obtain ⟨gen, slot, full, zw, whole, ps⟩ := p1
      obtain ⟨gen2, slot2, full2, zw2, whole2, ps2⟩ := p2
      dsimp only at c0 c1 c2 c3 c4 c5 e0 e1 e2 e3 e4 e5 hpl hpl2
      have HRD : Hid (PrsAt wr (LT w.heap.size) Y ps ∧ PrsAt wr (LT w.heap.size) Y2 ps2) := HRD.out
      go_upto_region 6 with fail
      have HX : Hid (Box (wr.alloc (.cells #[.int .i64 gen, .int .i64 slot, .bool full, .int .i64 zw, .bool whole, .slice Y ps.length y] 51)) wr.heap.size 51 #[.int .i64 gen, .int .i64 slot, .bool full, .int .i64 zw, .bool whole, .slice Y ps.length y] ∧ Below wr.heap.size wr (wr.alloc (.cells #[.int .i64 gen, .int .i64 slot, .bool full, .int .i64 zw, .bool whole, .slice Y ps.length y] 51))) := ⟨Box.fresh _ _ _, below_one _ _⟩
      have f0 : (wr.alloc (.cells #[.int .i64 gen, .int .i64 slot, .bool full, .int .i64 zw, .bool whole, .slice Y ps.length y] 51)).cell? ⟨g2, off2 + m * 6, none⟩ = some (.int .i64 gen2) := (HX.out.2.cell (p := ⟨g2, off2 + m * 6, none⟩) hg2').trans e0
      have f1 : (wr.alloc (.cells #[.int .i64 gen, .int .i64 slot, .bool full, .int .i64 zw, .bool whole, .slice Y ps.length y] 51)).cell? ⟨g2, off2 + m * 6 + 1, none⟩ = some (.int .i64 slot2) := (HX.out.2.cell (p := ⟨g2, off2 + m * 6 + 1, none⟩) hg2').trans e1
      have f2 : (wr.alloc (.cells #[.int .i64 gen, .int .i64 slot, .bool full, .int .i64 zw, .bool whole, .slice Y ps.length y] 51)).cell? ⟨g2, off2 + m * 6 + 2, none⟩ = some (.bool full2) := (HX.out.2.cell (p := ⟨g2, off2 + m * 6 + 2, none⟩) hg2').trans e2
      have f3 : (wr.alloc (.cells #[.int .i64 gen, .int .i64 slot, .bool full, .int .i64 zw, .bool whole, .slice Y ps.length y] 51)).cell? ⟨g2, off2 + m * 6 + 3, none⟩ = some (.int .i64 zw2) := (HX.out.2.cell (p := ⟨g2, off2 + m * 6 + 3, none⟩) hg2').trans e3
      have f4 : (wr.alloc (.cells #[.int .i64 gen, .int .i64 slot, .bool full, .int .i64 zw, .bool whole, .slice Y ps.length y] 51)).cell? ⟨g2, off2 + m * 6 + 4, none⟩ = some (.bool whole2) := (HX.out.2.cell (p := ⟨g2, off2 + m * 6 + 4, none⟩) hg2').trans e4
      have f5 : (wr.alloc (.cells #[.int .i64 gen, .int .i64 slot, .bool full, .int .i64 zw, .bool whole, .slice Y ps.length y] 51)).cell? ⟨g2, off2 + m * 6 + 5, none⟩ = some (.slice Y2 ps2.length yc2) := (HX.out.2.cell (p := ⟨g2, off2 + m * 6 + 5, none⟩) hg2').trans e5
      generalize (wr.alloc (.cells #[.int .i64 gen, .int .i64 slot, .bool full, .int .i64 zw, .bool whole, .slice Y ps.length y] 51)) = w2 at HX f0 f1 f2 f3 f4 f5 ⊢
      generalize hgw : wr.heap.size = ga at HX ⊢
      clear c0 c1 c2 c3 c4 c5 e0 e1 e2 e3 e4 e5
      go_upto_region 7 with fail
      have HX2 : Hid (Box (w2.alloc (.cells #[.int .i64 gen2, .int .i64 slot2, .bool full2, .int .i64 zw2, .bool whole2, .slice Y2 ps2.length yc2] 51)) ga 51 #[.int .i64 gen, .int .i64 slot, .bool full, .int .i64 zw, .bool whole, .slice Y ps.length y] ∧ Box (w2.alloc (.cells #[.int .i64 gen2, .int .i64 slot2, .bool full2, .int .i64 zw2, .bool whole2, .slice Y2 ps2.length yc2] 51)) w2.heap.size 51 #[.int .i64 gen2, .int .i64 slot2, .bool full2, .int .i64 zw2, .bool whole2, .slice Y2 ps2.length yc2] ∧ Below w.heap.size w (w2.alloc (.cells #[.int .i64 gen2, .int .i64 slot2, .bool full2, .int .i64 zw2, .bool whole2, .slice Y2 ps2.length yc2] 51)) ∧ PrsAt (w2.alloc (.cells #[.int .i64 gen2, .int .i64 slot2, .bool full2, .int .i64 zw2, .bool whole2, .slice Y2 ps2.length yc2] 51)) (LT (w2.alloc (.cells #[.int .i64 gen2, .int .i64 slot2, .bool full2, .int .i64 zw2, .bool whole2, .slice Y2 ps2.length yc2] 51)).heap.size) Y ps ∧ PrsAt (w2.alloc (.cells #[.int .i64 gen2, .int .i64 slot2, .bool full2, .int .i64 zw2, .bool whole2, .slice Y2 ps2.length yc2] 51)) (LT (w2.alloc (.cells #[.int .i64 gen2, .int .i64 slot2, .bool full2, .int .i64 zw2, .bool whole2, .slice Y2 ps2.length yc2] 51)).heap.size) Y2 ps2) := by
        have hbb : Below wr.heap.size wr (w2.alloc (.cells #[.int .i64 gen2, .int .i64 slot2, .bool full2, .int .i64 zw2, .bool whole2, .slice Y2 ps2.length yc2] 51)) := by
          have h1 := HX.out.2
          rw [← hgw] at h1
          exact below_trans h1 (below_one _ _)
        have hb2 := hbb.mono HB.out.size
        have hb3 := HB.out.trans hb2
        exact ⟨HX.out.1.later (below_one _ _), Box.fresh _ _ _, hb3, (HRD.out.1.keep (Kept.below hb2)).mono (LT.up hb3.size), (HRD.out.2.keep (Kept.below hb2)).mono (LT.up hb3.size)⟩
      generalize (w2.alloc (.cells #[.int .i64 gen2, .int .i64 slot2, .bool full2, .int .i64 zw2, .bool whole2, .slice Y2 ps2.length yc2] 51)) = w3 at HX2 ⊢
      generalize w2.heap.size = gb at HX2 ⊢
      clear HX f0 f1 f2 f3 f4 f5 HB HRD hgw hg hg2 hg' hg2'
      obtain ⟨a0, a1, a2, a3, a4, a5⟩ := box6 HX2.out.1
      obtain ⟨x0, x1, x2, x3, x4, x5⟩ := box6 HX2.out.2.1
      go_wp2_with fail
      refine (sameZone_any gen slot full zw whole Y ps y gen2 slot2 full2 zw2 whole2 Y2 ps2 yc2 w3 HX2.out.2.2.2.1 HX2.out.2.2.2.2 HL6.out).mono ?_
      rintro e w4 ⟨b, rfl, hb, hbl⟩
      have HB4 := Lib.hid (HX2.out.2.2.1.trans (hbl.mono HX2.out.2.2.1.size))
      have HE := Lib.hid hb
      clear hb hbl HX2 a0 a1 a2 a3 a4 a5 x0 x1 x2 x3 x4 x5
      cases b with
      | false =>
        have HNQ : Hid (¬ zs = zs2) := HNP.out (fun h => by have := HE.out.2 h; simp at this)
        go_wp2
        go_ret
        exact SaysP.no HNQ.out HB4.out
      | true =>
        have HNQ := Lib.hid (HN3.out (HE.out.1 rfl))
        go_wp2
        go_roundw
        case rel => exact ⟨m + 1, by omega, by go_num, HNQ.out, HB4.out⟩
        case measure => simp [intOf]; omega
    · obtain rfl : m = zs.length := by omega
      have HPP : Hid (zs = zs2) := List.ext_getElem HN.out (fun j hj hj2 => HALL.out j hj hj2 hj)
      go_wp2
      go_ret
      exact SaysP.yes HPP.out HB.out
end Go.Proofs.Ytaceaemombnhkaa
