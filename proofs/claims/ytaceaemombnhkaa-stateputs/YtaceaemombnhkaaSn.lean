/- The contracts of putZone, Put. -/
import Derived.Test.YtaceaemombnhkaaSm
import Derived.Test.YtaceaemombnhkaaSg
namespace Go.Proofs.Ytaceaemombnhkaa
set_option linter.unusedVariables false
set_option maxRecDepth 100000
set_option linter.unusedSimpArgs false
open Go.RowKit
open Go.RowKit (wrap64)

theorem pintO (A : Option Addr) (c : Nat) (v : Int) (l : List UInt8) (w : World) (hr : Rd w w.heap.size A l) (hl : l.length ≤ 9000000) : Calls Try.prog 32 #[.slice A l.length c, .int .i64 v] w (GaveO w (l ++ le8 v)) :=
  (int_any A c v l w hr (by omega)).mono fun e w' h => by
    obtain ⟨rfl, rfl⟩ := h
    have hn : (l ++ le8 v).length = l.length + 8 := by rw [List.length_append, le8_length]
    have h1 := own_lit w w.heap.size (l ++ le8 v) (Nat.le_refl _) (by omega)
    rw [hn] at h1
    exact ⟨_, rfl, h1, below_one _ _⟩
theorem pflagO (A : Option Addr) (c : Nat) (v : Bool) (l : List UInt8) (w : World) (hr : Rd w w.heap.size A l) (hl : l.length ≤ 9000000) : Calls Try.prog 71 #[.slice A l.length c, .bool v] w (GaveO w (l ++ fB v)) :=
  (flag_any A c v l w hr (by omega)).mono fun e w' h => by
    obtain ⟨rfl, rfl⟩ := h
    have hn : (l ++ fB v).length = l.length + 1 := by rw [List.length_append]; rfl
    have h1 := own_lit w w.heap.size (l ++ fB v) (Nat.le_refl _) (by omega)
    rw [hn] at h1
    exact ⟨_, rfl, h1, below_one _ _⟩
theorem pbytesO (A X : Option Addr) (c d : Nat) (l x : List UInt8) (w : World) (hr : Rd w w.heap.size A l) (hx : Rd w w.heap.size X x) (hl : l.length ≤ 2000000) (hxl : x.length ≤ 2000000) : Calls Try.prog 72 #[.slice A l.length c, .slice X x.length d] w (GaveO w (l ++ (le8 x.length ++ x))) :=
  (bytes_any A X c d l x w hr hx hl hxl).mono fun e w' h => by
    obtain ⟨rfl, rfl⟩ := h
    have hn : (l ++ le8 x.length ++ x).length = l.length + (8 + x.length) := by simp only [List.length_append, le8_length]; omega
    have h1 := own_lit w w.heap.size (l ++ le8 x.length ++ x) (Nat.le_refl _) (by omega)
    rw [hn] at h1
    rw [List.append_assoc] at h1 ⊢
    exact ⟨_, rfl, h1, below_one _ _⟩
/-- The row beside a zone's block. -/
structure RowZ (w : World) (cz : Array Value) (b : Value) (L : List UInt8) (wr : World) : Prop where
  own : Own wr w.heap.size 5 b L
  zone : Box wr w.heap.size 51 cz
  below : Below w.heap.size w wr
theorem RowZ.later {w wr w2 : World} {cz : Array Value} {b : Value} {L : List UInt8} (h : RowZ w cz b L wr) (hb : Below wr.heap.size wr w2) : RowZ w cz b L w2 := ⟨h.own.later hb, h.zone.later hb, h.below.trans (hb.mono h.below.size)⟩
theorem RowZ.next {w wr w2 : World} {cz : Array Value} {b b2 : Value} {L L2 : List UInt8} (h : RowZ w cz b L wr) (hb : Below wr.heap.size wr w2) (ho : Own w2 wr.heap.size 5 b2 L2) : RowZ w cz b2 L2 w2 := ⟨ho.mono h.below.size, h.zone.later hb, h.below.trans (hb.mono h.below.size)⟩
theorem RowZ.grown {w wr w2 : World} {cz : Array Value} {b b2 : Value} {L L2 : List UInt8} (h : RowZ w cz b L wr) (hg : wr.grownBy w2 b.ownBlock) (ho : Own w2 w.heap.size 5 b2 L2) : RowZ w cz b2 L2 w2 :=
  ⟨ho, h.zone.off (Ofb.grown h.own hg) (by decide), h.below.trans ((Ofb.grown h.own hg).to h.below.size)⟩
set_option maxHeartbeats 8000000 in
theorem putZone_any (gen slot : Int) (full : Bool) (zw : Int) (whole : Bool) (Y : Option Addr) (ps : List Pr) (y : Nat) (w : World) (hp : PrsAt w (LT w.heap.size) Y ps) (hn : ps.length ≤ 5) (hb5 : ∀ p ∈ ps, p.b.length ≤ 262144) :
    Calls Try.prog 33 #[.agg #[.int .i64 gen, .int .i64 slot, .bool full, .int .i64 zw, .bool whole, .slice Y ps.length y]] w (GaveO w (putZ ⟨gen, slot, full, zw, whole, ps⟩)) := by
  have HPA : Hid (∀ w', Below w.heap.size w w' → PrsAt w' (LT w.heap.size) Y ps) := fun w' hb => hp.keep (Kept.below hb)
  have HB5 := Lib.hid hb5
  clear hp hb5
  go_enter Try.func33, Try.ntmps33
  go_upto_region 1 with fail
  have HS0 : Hid (RowZ w #[.int .i64 gen, .int .i64 slot, .bool full, .int .i64 zw, .bool whole, .slice Y ps.length y] (.slice none 0 0) [] (w.alloc (.cells #[.int .i64 gen, .int .i64 slot, .bool full, .int .i64 zw, .bool whole, .slice Y ps.length y] 51))) := ⟨World.ownsRow_nil _ _ _ _, Box.fresh _ _ _, below_one _ _⟩
  generalize (w.alloc (.cells #[.int .i64 gen, .int .i64 slot, .bool full, .int .i64 zw, .bool whole, .slice Y ps.length y] 51)) = w0 at HS0 ⊢
  obtain ⟨z0, z1, z2, z3, z4, z5⟩ := box6 HS0.out.zone
  go_wp2_with fail
  refine (pintO none 0 gen [] w0 Rd.nil (by simp)).mono ?_
  rw [List.nil_append]
  rintro e w1 ⟨b1, rfl, ho, hb⟩
  have HS1 := Lib.hid (HS0.out.next hb ho)
  obtain ⟨D1, d1, hv, hd, _, _⟩ := ho.rd
  subst hv
  have HD1 : Hid (Rd w1 w1.heap.size D1 (le8 gen)) := hd
  clear ho hb hd HS0 z0 z1 z2 z3 z4 z5
  generalize hF : le8 gen = F1 at HS1 HD1 ⊢
  have HF1 := Lib.hid hF
  have HN1 : Hid (F1.length ≤ 8) := by show _ ≤ _; have h0 := trivial; rw [← hF]; simp only [List.length_append, le8_length, fB, List.length_cons, List.length_nil] at h0 ⊢; omega
  clear hF
  obtain ⟨z0, z1, z2, z3, z4, z5⟩ := box6 HS1.out.zone
  go_wp2_with fail
  refine (pintO D1 d1 slot F1 w1 HD1.out (by have := HN1.out; omega)).mono ?_
  rintro e w2 ⟨b2, rfl, ho, hb⟩
  have HS2 := Lib.hid (HS1.out.next hb ho)
  obtain ⟨D2, d2, hv, hd, _, _⟩ := ho.rd
  subst hv
  have HD2 : Hid (Rd w2 w2.heap.size D2 (F1 ++ le8 slot)) := hd
  clear ho hb hd HS1 z0 z1 z2 z3 z4 z5 HD1
  generalize hF : F1 ++ le8 slot = F2 at HS2 HD2 ⊢
  have HF2 := Lib.hid hF
  have HN2 : Hid (F2.length ≤ 16) := by show _ ≤ _; have h0 := HN1.out; rw [← hF]; simp only [List.length_append, le8_length, fB, List.length_cons, List.length_nil] at h0 ⊢; omega
  clear hF
  obtain ⟨z0, z1, z2, z3, z4, z5⟩ := box6 HS2.out.zone
  go_wp2_with fail
  refine (pflagO D2 d2 full F2 w2 HD2.out (by have := HN2.out; omega)).mono ?_
  rintro e w3 ⟨b3, rfl, ho, hb⟩
  have HS3 := Lib.hid (HS2.out.next hb ho)
  obtain ⟨D3, d3, hv, hd, _, _⟩ := ho.rd
  subst hv
  have HD3 : Hid (Rd w3 w3.heap.size D3 (F2 ++ fB full)) := hd
  clear ho hb hd HS2 z0 z1 z2 z3 z4 z5 HD2
  generalize hF : F2 ++ fB full = F3 at HS3 HD3 ⊢
  have HF3 := Lib.hid hF
  have HN3 : Hid (F3.length ≤ 17) := by show _ ≤ _; have h0 := HN2.out; rw [← hF]; simp only [List.length_append, le8_length, fB, List.length_cons, List.length_nil] at h0 ⊢; omega
  clear hF
  obtain ⟨z0, z1, z2, z3, z4, z5⟩ := box6 HS3.out.zone
  go_wp2_with fail
  refine (pintO D3 d3 zw F3 w3 HD3.out (by have := HN3.out; omega)).mono ?_
  rintro e w4 ⟨b4, rfl, ho, hb⟩
  have HS4 := Lib.hid (HS3.out.next hb ho)
  obtain ⟨D4, d4, hv, hd, _, _⟩ := ho.rd
  subst hv
  have HD4 : Hid (Rd w4 w4.heap.size D4 (F3 ++ le8 zw)) := hd
  clear ho hb hd HS3 z0 z1 z2 z3 z4 z5 HD3
  generalize hF : F3 ++ le8 zw = F4 at HS4 HD4 ⊢
  have HF4 := Lib.hid hF
  have HN4 : Hid (F4.length ≤ 25) := by show _ ≤ _; have h0 := HN3.out; rw [← hF]; simp only [List.length_append, le8_length, fB, List.length_cons, List.length_nil] at h0 ⊢; omega
  clear hF
  obtain ⟨z0, z1, z2, z3, z4, z5⟩ := box6 HS4.out.zone
  go_wp2_with fail
  refine (pflagO D4 d4 whole F4 w4 HD4.out (by have := HN4.out; omega)).mono ?_
  rintro e w5 ⟨b5, rfl, ho, hb⟩
  have HS5 := Lib.hid (HS4.out.next hb ho)
  obtain ⟨D5, d5, hv, hd, _, _⟩ := ho.rd
  subst hv
  have HD5 : Hid (Rd w5 w5.heap.size D5 (F4 ++ fB whole)) := hd
  clear ho hb hd HS4 z0 z1 z2 z3 z4 z5 HD4
  generalize hF : F4 ++ fB whole = F5 at HS5 HD5 ⊢
  have HF5 := Lib.hid hF
  have HN5 : Hid (F5.length ≤ 26) := by show _ ≤ _; have h0 := HN4.out; rw [← hF]; simp only [List.length_append, le8_length, fB, List.length_cons, List.length_nil] at h0 ⊢; omega
  clear hF
  obtain ⟨z0, z1, z2, z3, z4, z5⟩ := box6 HS5.out.zone
  go_wp2_with fail
  refine (pintO D5 d5 ps.length F5 w5 HD5.out (by have := HN5.out; omega)).mono ?_
  rintro e w6 ⟨b6, rfl, ho, hb⟩
  have HS6 := Lib.hid (HS5.out.next hb ho)
  obtain ⟨D6, d6, hv, hd, _, _⟩ := ho.rd
  subst hv
  have HD6 : Hid (Rd w6 w6.heap.size D6 (F5 ++ le8 (ps.length : Nat))) := hd
  clear ho hb hd HS5 z0 z1 z2 z3 z4 z5 HD5
  generalize hF : F5 ++ le8 (ps.length : Nat) = F6 at HS6 HD6 ⊢
  have HF6 := Lib.hid hF
  have HN6 : Hid (F6.length ≤ 34) := by show _ ≤ _; have h0 := HN5.out; rw [← hF]; simp only [List.length_append, le8_length, fB, List.length_cons, List.length_nil] at h0 ⊢; omega
  clear hF
  obtain ⟨z0, z1, z2, z3, z4, z5⟩ := box6 HS6.out.zone
  have HH : Hid (headZ ⟨gen, slot, full, zw, whole, ps⟩ = F6) := by
    show _ = _
    rw [← HF6.out, ← HF5.out, ← HF4.out, ← HF3.out, ← HF2.out, ← HF1.out]
    simp only [headZ, List.append_assoc]
  clear HF1 HF2 HF3 HF4 HF5 HF6 HN1 HN2 HN3 HN4 HN5
  go_wp2
  clear z0 z1 z2 z3 z4 z5 HD6
  go_loopw [3, 5, 33] (fun v _ i wr => ∃ m : Nat, m ≤ ps.length ∧ i = .int .i64 m ∧ RowZ w #[.int .i64 gen, .int .i64 slot, .bool full, .int .i64 zw, .bool whole, .slice Y ps.length y] v (F6 ++ putPs (ps.take m)) wr) (fun _ _ i _ => ps.length - (intOf i).toNat)
  case atStart => exact ⟨0, by omega, rfl, by rw [List.take_zero]; show RowZ _ _ _ (F6 ++ []) _; rw [List.append_nil]; exact HS6.out⟩
  case round =>
    clear HS6
    obtain ⟨m, hm, rfl, hst⟩ := hrel
    have HS1 := Lib.hid hst
    clear hst
    by_cases hmq : m < ps.length
    · obtain ⟨g', off', hY, hg, hc⟩ := (HPA.out w (Below.refl _ _)) (by omega)
      subst hY
      obtain ⟨V, v, e0, e1, hV, hvl, _⟩ := hc m hmq
      have c0 := (HS1.out.below.cell (p := ⟨g', off' + m * 2, none⟩) hg).trans e0
      have c1 := (HS1.out.below.cell (p := ⟨g', off' + m * 2 + 1, none⟩) hg).trans e1
      have HT := Lib.hid (putPs_take hmq)
      have HBL := Lib.hid (HB5.out _ (List.getElem_mem hmq))
      have HL2 : Hid ((F6 ++ putPs (ps.take m)).length ≤ 2000000) := by
        show _ ≤ _
        have h1 := HN6.out
        have h3 := putPs_le (M := 262144) (ps.take m) (fun z hz => HB5.out z (List.mem_of_mem_take hz))
        rw [List.length_take] at h3
        have h4 : (16 + 262144) * min m ps.length ≤ (16 + 262144) * 5 := Nat.mul_le_mul_left _ (by omega)
        rw [List.length_append]
        omega
      have HV : Hid (∀ w', Below w.heap.size w w' → Rd w' w.heap.size V ps[m].b) := fun w' hb => (hV.keep (Kept.below hb)).lt
      clear hc hV e0 e1 hg
      generalize ps[m] = p at c0 c1 HT HBL HV hvl
      obtain ⟨pw, pb⟩ := p
      dsimp only at c0 c1 hvl
      have HT2 : Hid (F6 ++ putPs (ps.take (m + 1)) = (F6 ++ putPs (ps.take m)) ++ (le8 pw ++ (le8 pb.length ++ pb))) := by show _ = _; rw [HT.out]; simp only [putP, List.append_assoc]
      generalize F6 ++ putPs (ps.take m) = L at HS1 HL2 HT2
      clear HT
      obtain ⟨G1, hG1⟩ : ∃ E, le8 pw = E := ⟨_, rfl⟩
      obtain ⟨G2, hG2⟩ : ∃ E, G1 ++ (le8 pb.length ++ pb) = E := ⟨_, rfl⟩
      have HGN : Hid (G1.length = 8 ∧ G2.length = 16 + pb.length ∧ pb.length ≤ 262144) := by
        have h1 : G1.length = 8 := by rw [← hG1, le8_length]
        refine ⟨h1, by rw [← hG2, List.length_append, List.length_append, le8_length, h1]; omega, HBL.out⟩
      rw [hG1, hG2] at HT2
      have HG := Lib.hid (And.intro hG1 hG2)
      clear hG1 hG2
      go_upto_region 10 with fail
      have HX1 : Hid (RowZ w #[.int .i64 gen, .int .i64 slot, .bool full, .int .i64 zw, .bool whole, .slice (some ⟨g', off', none⟩) ps.length y] u3 L (wr.alloc (.cells #[.int .i64 pw, .slice V pb.length v] 55)) ∧ Box (wr.alloc (.cells #[.int .i64 pw, .slice V pb.length v] 55)) wr.heap.size 55 #[.int .i64 pw, .slice V pb.length v]) := ⟨HS1.out.later (below_one _ _), Box.fresh _ _ _⟩
      generalize (wr.alloc (.cells #[.int .i64 pw, .slice V pb.length v] 55)) = wz at HX1 ⊢
      generalize wr.heap.size = gz at HX1 ⊢
      clear HS1 c0 c1
      refine wpO_start w.heap.size (by kernel_rfl) ?_
      have HS2 := Lib.hid (HX1.out.1.later (Below.refl _ _).drew)
      have HX2 : Hid (Box wz.drew gz 55 #[.int .i64 pw, .slice V pb.length v]) := HX1.out.2.later (Below.refl _ _).drew
      generalize wz.drew = w2 at HS2 HX2 ⊢
      clear HX1
      have x0 := Box.atO (B := w.heap.size) HX2.out (by decide) (i := 0) rfl
      have x1 := Box.atO (B := w.heap.size) HX2.out (by decide) (i := 1) rfl
      refine wpO_take (i := 0) (d := 37) (v := ?v10x0) rfl rfl (by kernel_rfl) (by kernel_rfl) (by kernel_rfl) (fun _ _ _ h => h) (by rfl) ?y10x0 ?r10x0
      case y10x0 => (intro w' hSw; go_simp; try (with_reducible rfl))
      simp only [Act.put, List.setIfInBounds_toArray, List.set_cons_zero, List.set_cons_succ]
      refine wpO_take (i := 1) (d := 38) (v := ?v10x1) rfl rfl (by kernel_rfl) (by kernel_rfl) (by kernel_rfl) (fun _ _ _ h => h) (by rfl) ?y10x1 ?r10x1
      case y10x1 => (intro w' hSw; go_simp; try (with_reducible rfl))
      simp only [Act.put, List.setIfInBounds_toArray, List.set_cons_zero, List.set_cons_succ]
      refine wpO_take (i := 2) (d := 39) (v := ?v10x2) rfl rfl (by kernel_rfl) (by kernel_rfl) (by kernel_rfl) (fun _ _ _ h => h) (by rfl) ?y10x2 ?r10x2
      case y10x2 => (intro w' hSw; go_simp; try (with_reducible rfl))
      simp only [Act.put, List.setIfInBounds_toArray, List.set_cons_zero, List.set_cons_succ]
      refine wpO_take (i := 4) (d := 41) (v := ?v10x4) rfl rfl (by kernel_rfl) (by kernel_rfl) (by kernel_rfl) (fun _ _ _ h => h) (by rfl) ?y10x4 ?r10x4
      case y10x4 => (intro w' hSw; go_simp; try (with_reducible rfl))
      simp only [Act.put, List.setIfInBounds_toArray, List.set_cons_zero, List.set_cons_succ]
      refine wpO_take (i := 5) (d := 42) (v := ?v10x5) rfl rfl (by kernel_rfl) (by kernel_rfl) (by kernel_rfl) (fun _ _ _ h => h) (by rfl) ?y10x5 ?r10x5
      case y10x5 => (intro w' hSw; go_simp; try (with_reducible rfl))
      simp only [Act.put, List.setIfInBounds_toArray, List.set_cons_zero, List.set_cons_succ]
      refine wpO_do (i := 3) (by kernel_rfl) rfl (by rfl) (fun K hK => ?_)
      go_simp
      refine (pintO none 0 pw [] w2 Rd.nil (by simp)).mono ?_
      rw [List.nil_append, HG.out.1]
      rintro e w3 ⟨b3, rfl, ho, hb⟩
      obtain ⟨D3, d3, hv3, hd, _, _⟩ := ho.rd
      subst hv3
      have HS3 := Lib.hid (HS2.out.later hb)
      have HD3 := Lib.hid hd
      go_simp
      refine hK.out _ _ (Ofb.below hb) ?_
      clear hK hb hd ho HS2 HX2 x0 x1
      refine wpO_do (i := 6) (by kernel_rfl) rfl (by rfl) (fun K hK => ?_)
      go_simp
      refine (pbytesO D3 V d3 v G1 pb w3 HD3.out ((HV.out w3 HS3.out.below).more HS3.out.below.size) (by have hh := HGN.out; omega) (by have hh := HGN.out; omega)).mono ?_
      rw [HG.out.2]
      rintro e w4 ⟨b4, rfl, ho, hb⟩
      obtain ⟨D4, d4, hv4, hd, _, _⟩ := ho.rd
      subst hv4
      have HS4 := Lib.hid (HS3.out.later hb)
      have HD4 := Lib.hid hd
      go_simp
      refine hK.out _ _ (Ofb.below hb) ?_
      clear hK hb hd ho HS3 HD3
      refine wpO_do (i := 7) (by kernel_rfl) rfl (by rfl) (fun K hK => ?_)
      refine oper_own w4 (.tmp 37) (.tmp 43) rfl w.heap.size _ (L) D4 d4 _ G2 rfl rfl HS4.out.own HD4.out (by have hh := HGN.out;have hk := HL2.out; omega) (by have hh := HGN.out;have hk := HL2.out; first | omega | (simp only [List.length_append]; omega)) HS4.out.below.size ?_
      intro b5 w5 ho hg
      have HS5 := Lib.hid (HS4.out.grown hg ho)
      refine hK.out _ _ (Ofb.grown HS4.out.own hg) ?_
      clear hK ho hg HS4 HD4
      refine wpO_take (i := 8) (d := 3) (v := ?v10x8) rfl rfl (by kernel_rfl) (by kernel_rfl) (by kernel_rfl) (fun _ _ _ h => h) (by rfl) ?y10x8 ?r10x8
      case y10x8 => (intro w' hSw; go_simp; try (with_reducible rfl))
      simp only [Act.put, List.setIfInBounds_toArray, List.set_cons_zero, List.set_cons_succ]
      refine wpO_done (by kernel_rfl) ?_
      rw [← HT2.out] at HS5
      go_wp2
      go_roundw
      case rel => exact ⟨m + 1, by omega, by go_num, HS5.out⟩
      case measure => simp [intOf]; omega
    · obtain rfl : m = ps.length := by omega
      rw [List.take_length] at HS1
      have HQ : Hid (Own wr w.heap.size 5 u3 (putZ ⟨gen, slot, full, zw, whole, ps⟩) ∧ Below w.heap.size w wr) := by
        refine ⟨?_, HS1.out.below⟩
        have h := HS1.out.own
        rw [← HH.out] at h
        exact h
      clear HS1
      go_wp2
      go_ret
      exact ⟨_, rfl, HQ.out.1, HQ.out.2⟩
theorem PutIn.next {c : Cf} {ep sq : Int} {A : Option Addr} {st : List Int} {k : Nat} {D : Option Addr} {zs : List Zn} {d : Nat} {w wr w2 : World} {b b2 : Value} {L L2 : List UInt8} (h : PutIn c ep sq A st k D zs d w b L wr) (hb : Below wr.heap.size wr w2) (ho : Own w2 wr.heap.size 5 b2 L2) : PutIn c ep sq A st k D zs d w b2 L2 w2 :=
  ⟨ho.mono h.below.size, h.box.later hb, h.below.trans (hb.mono h.below.size)⟩
set_option maxHeartbeats 8000000 in
theorem put_state_any (c : Cf) (ep sq : Int) (A : Option Addr) (st : List Int) (k : Nat) (D : Option Addr) (zs : List Zn) (d : Nat) (w : World) (h : StAt w (LT w.heap.size) A st k D zs d) (hl1 : st.length ≤ 1000000) (hl2 : zs.length ≤ 1000000) :
    Calls Try.prog 13 #[(.agg #[.int .i64 c.id, .int .i64 c.m, .int .i64 c.u, .int .i64 c.b, .int .i64 c.cp, .int .i64 c.z, .int .i64 c.s, .int .i64 c.mt, .int .i64 c.o, .int .i64 c.a, .int .i64 c.l, .int .i64 ep, .int .i64 sq, .slice A st.length k, .slice D zs.length d])] w (PutG w ⟨c, ep, sq, st, zs⟩) := by
  obtain ⟨i0, hi, hz0, hz1, hz2⟩ := info_parts Try.info5
  have I1 := Lib.hid hi
  have I2 := Lib.hid hz0
  have I3 := Lib.hid hz1
  have I4 := Lib.hid hz2
  clear hi hz0 hz1 hz2
  have HA : Hid (∀ w', Below w.heap.size w w' → StAt w' (LT w.heap.size) A st k D zs d) := fun w' hb => h.keep (Kept.below hb)
  go_enter Try.func13, Try.ntmps13
  go_upto_region 1 with fail
  have HV := Lib.hid (StIn.new (c := c) (ep := ep) (sq := sq) h)
  generalize (w.alloc (.cells #[.int .i64 c.id, .int .i64 c.m, .int .i64 c.u, .int .i64 c.b, .int .i64 c.cp, .int .i64 c.z, .int .i64 c.s, .int .i64 c.mt, .int .i64 c.o, .int .i64 c.a, .int .i64 c.l, .int .i64 ep, .int .i64 sq, .slice A st.length k, .slice D zs.length d] 27)) = w0 at HV ⊢
  clear h
  obtain ⟨y0, y1, y2, y3, y4, y5, y6, y7, y8, y9, y10, y11, y12, y13, y14⟩ := box15 HV.out.1
  go_wp2_with fail
  refine (right_any c ep sq A st k D zs d w0 HV.out.2.1 hl1 hl2).mono ?_
  rintro e w1 ⟨r, rfl, hr, hb⟩
  have HS1 : Hid (PutIn c ep sq A st k D zs d w (.slice none 0 0) [] w1) := ⟨World.ownsRow_nil _ _ _ _, HV.out.1.later hb, HV.out.2.2.trans (hb.mono HV.out.2.2.size)⟩
  clear hb HV y0 y1 y2 y3 y4 y5 y6 y7 y8 y9 y10 y11 y12 y13 y14
  cases r with
  | false =>
    have HN : Hid (¬ RightS ⟨c, ep, sq, st, zs⟩) := fun h => by have := hr.2 h; simp at this
    clear hr
    go_wp2
    go_ret
    exact ⟨[], fun h => absurd h HN.out, fun _ => rfl, none, 0, rfl, Rd.nil, Nat.le_refl _, HS1.out.below⟩
  | true =>
    have HR : Hid (RightS ⟨c, ep, sq, st, zs⟩) := hr.1 rfl
    clear hr
    have HZ := Lib.hid (right_sizes HR.out)
    obtain ⟨E0, hE0⟩ : ∃ E, les c 11 = E := ⟨_, rfl⟩
    have hn0 : E0.length = 88 := by rw [← hE0, les_length c 11 (by omega)]
    have HP0 : Hid (∀ w, Calls Try.prog 31 #[(.agg #[.int .i64 c.id, .int .i64 c.m, .int .i64 c.u, .int .i64 c.b, .int .i64 c.cp, .int .i64 c.z, .int .i64 c.s, .int .i64 c.mt, .int .i64 c.o, .int .i64 c.a, .int .i64 c.l])] w (GaveB w E0)) := fun w => by rw [← hE0]; exact put_any c w
    have HPS : Hid (putS ⟨c, ep, sq, st, zs⟩ = E0 ++ le8 ep ++ le8 sq ++ putIs st ++ putZs zs) := by
      show putS _ = _
      unfold putS
      rw [hE0]
      simp only [List.append_assoc]
    have HN0 := Lib.hid hn0
    clear hE0 hn0
    obtain ⟨y0, y1, y2, y3, y4, y5, y6, y7, y8, y9, y10, y11, y12, y13, y14⟩ := box15 HS1.out.box
    go_wp2_with fail
    refine (HP0.out w1).mono ?_
    rintro e w2 ⟨D2, d2, rfl, hd, _, hb⟩
    have HS2 := Lib.hid (HS1.out.later hb)
    have HD2 := Lib.hid hd
    clear hd hb HS1 y0 y1 y2 y3 y4 y5 y6 y7 y8 y9 y10 y11 y12 y13 y14
    obtain ⟨y0, y1, y2, y3, y4, y5, y6, y7, y8, y9, y10, y11, y12, y13, y14⟩ := box15 HS2.out.box
    go_wp2_with fail
    refine (pintO D2 d2 ep E0 w2 HD2.out (by have := HN0.out; omega)).mono ?_
    rintro e w3 ⟨b3, rfl, ho, hb⟩
    have HS3 := Lib.hid (HS2.out.next hb ho)
    obtain ⟨D3, d3, hv3, hd, _, _⟩ := ho.rd
    subst hv3
    have HD3 : Hid (Rd w3 w3.heap.size D3 (E0 ++ le8 ep)) := hd
    have HN3 : Hid ((E0 ++ le8 ep).length = 96) := by show _ = _; rw [List.length_append, le8_length, HN0.out]
    clear ho hb hd HS2 HD2 y0 y1 y2 y3 y4 y5 y6 y7 y8 y9 y10 y11 y12 y13 y14
    generalize E0 ++ le8 ep = E3 at HS3 HD3 HN3 HPS ⊢
    obtain ⟨y0, y1, y2, y3, y4, y5, y6, y7, y8, y9, y10, y11, y12, y13, y14⟩ := box15 HS3.out.box
    go_wp2_with fail
    refine (pintO D3 d3 sq E3 w3 HD3.out (by have := HN3.out; omega)).mono ?_
    rintro e w4 ⟨b4, rfl, ho, hb⟩
    have HS4 := Lib.hid (HS3.out.next hb ho)
    have HL0 : Hid ((E3 ++ le8 sq).length = 104) := by show _ = _; rw [List.length_append, le8_length, HN3.out]
    clear ho hb HS3 HD3 y0 y1 y2 y3 y4 y5 y6 y7 y8 y9 y10 y11 y12 y13 y14
    generalize E3 ++ le8 sq = L0 at HS4 HL0 HPS ⊢
    obtain ⟨y0, y1, y2, y3, y4, y5, y6, y7, y8, y9, y10, y11, y12, y13, y14⟩ := box15 HS4.out.box
    go_wp2
    clear y0 y1 y2 y3 y4 y5 y6 y7 y8 y9 y10 y11 y12 y13 y14 HN0 HN3
    go_loopw [3, 5, 25] (fun v _ i wr => ∃ q : Nat, q ≤ st.length ∧ i = .int .i64 q ∧ PutIn c ep sq A st k D zs d w v (L0 ++ putIs (st.take q)) wr) (fun _ _ i _ => st.length - (intOf i).toNat)
    case atStart => exact ⟨0, by omega, rfl, by rw [List.take_zero]; show PutIn _ _ _ _ _ _ _ _ _ _ _ (L0 ++ []) _; rw [List.append_nil]; exact HS4.out⟩
    case round =>
      clear HS4
      obtain ⟨q, hq, rfl, hst⟩ := hrel
      have HS1 := Lib.hid hst
      clear hst
      by_cases hlt : q < st.length
      · obtain ⟨g, off, rfl, hg, hc⟩ := (HA.out wr HS1.out.below).1 (by omega)
        have hcq := hc q hlt
        have HT := Lib.hid (putIs_take hlt)
        have HL1 : Hid ((L0 ++ putIs (st.take q)).length ≤ 1000) := by
          show _ ≤ _
          have h1 := HL0.out
          have h2 := HZ.out.1
          rw [List.length_append, putIs_length, List.length_take]
          omega
        clear hc hg
        generalize st[q] = x at hcq HT
        have HT2 : Hid (L0 ++ putIs (st.take (q + 1)) = (L0 ++ putIs (st.take q)) ++ le8 x) := by show _ = _; rw [HT.out, List.append_assoc]
        generalize L0 ++ putIs (st.take q) = L at HS1 HL1 HT2
        clear HT
        obtain ⟨D1, d1, hv1, hd, _, _⟩ := HS1.out.own.rd
        subst hv1
        have HD1 := Lib.hid hd
        clear hd
        go_wp2_with fail
        refine (pintO D1 d1 x L wr HD1.out (by have := HL1.out; omega)).mono ?_
        rintro e w3 ⟨b3, rfl, ho, hb⟩
        have HQ := Lib.hid (HS1.out.next hb ho)
        rw [← HT2.out] at HQ
        clear ho hb HS1 hcq HD1 HT2 HL1
        go_wp2
        go_roundw
        case rel => exact ⟨q + 1, by omega, by go_num, HQ.out⟩
        case measure => simp [intOf]; omega
      · obtain rfl : q = st.length := by omega
        rw [List.take_length] at HS1
        have HL1 : Hid ((L0 ++ putIs st).length ≤ 1000) := by
          show _ ≤ _
          have h1 := HL0.out
          have h2 := HZ.out.1
          rw [List.length_append, putIs_length]
          omega
        generalize L0 ++ putIs st = L1 at HS1 HPS HL1
        obtain ⟨y0, y1, y2, y3, y4, y5, y6, y7, y8, y9, y10, y11, y12, y13, y14⟩ := box15 HS1.out.box
        go_wp2
        clear y0 y1 y2 y3 y4 y5 y6 y7 y8 y9 y10 y11 y12 y13 y14
        go_loopw [3, 7, 36] (fun v _ i wr => ∃ q : Nat, q ≤ zs.length ∧ i = .int .i64 q ∧ PutIn c ep sq A st k D zs d w v (L1 ++ putZs (zs.take q)) wr) (fun _ _ i _ => zs.length - (intOf i).toNat)
        case atStart => exact ⟨0, by omega, rfl, by rw [List.take_zero]; show PutIn _ _ _ _ _ _ _ _ _ _ _ (L1 ++ []) _; rw [List.append_nil]; exact HS1.out⟩
        case round =>
          clear HS1
          obtain ⟨q, hq, rfl, hst⟩ := hrel
          have HS1 := Lib.hid hst
          clear hst
          by_cases hlt : q < zs.length
          · obtain ⟨g, off, rfl, hg, hc⟩ := (HA.out wr HS1.out.below).2.1 (by omega)
            obtain ⟨Y, y, c0, c1, c2, c3, c4, c5, hps, hpy, hpl⟩ := hc q hlt
            have HT := Lib.hid (putZs_take hlt)
            have HZQ := Lib.hid (HZ.out.2.2 _ (List.getElem_mem hlt))
            have HL2 : Hid ((L1 ++ putZs (zs.take q)).length ≤ 40000000) := by
              show _ ≤ _
              have h1 := HL1.out
              have h2 := HZ.out.2.1
              have h3 := putZs_le (zs.take q) (fun z hz => HZ.out.2.2 z (List.mem_of_mem_take hz))
              rw [List.length_take] at h3
              rw [List.length_append]
              omega
            have HPA : Hid (PrsAt wr (LT wr.heap.size) Y zs[q].ps) := hps.mono (LT.up HS1.out.below.size)
            clear hc hg hps
            generalize zs[q] = p at c0 c1 c2 c3 c4 c5 HT HZQ hpl HPA
            obtain ⟨gen, slot, full, zw, whole, ps⟩ := p
            dsimp only at c0 c1 c2 c3 c4 c5 hpl
            have HPA : Hid (PrsAt wr (LT wr.heap.size) Y ps) := HPA.out
            have HT2 : Hid (L1 ++ putZs (zs.take (q + 1)) = (L1 ++ putZs (zs.take q)) ++ putZ ⟨gen, slot, full, zw, whole, ps⟩) := by show _ = _; rw [HT.out, List.append_assoc]
            have HPL : Hid (0 < (putZ ⟨gen, slot, full, zw, whole, ps⟩).length ∧ (putZ ⟨gen, slot, full, zw, whole, ps⟩).length ≤ 600000) := by
              have h1 := headZ_length ⟨gen, slot, full, zw, whole, ps⟩
              have h2 := putPs_le (M := 262144) ps HZQ.out.2
              have h3 : (16 + 262144) * ps.length ≤ (16 + 262144) * 2 := Nat.mul_le_mul_left _ HZQ.out.1
              show 0 < (headZ _ ++ putPs ps).length ∧ (headZ _ ++ putPs ps).length ≤ 600000
              rw [List.length_append]
              omega
            generalize L1 ++ putZs (zs.take q) = L at HS1 HL2 HT2
            clear HT
            go_upto_region 14 with fail
            have HX1 : Hid (PutIn c ep sq A st k (some ⟨g, off, none⟩) zs d w u3 L (wr.alloc (.cells #[.int .i64 gen, .int .i64 slot, .bool full, .int .i64 zw, .bool whole, .slice Y ps.length y] 51)) ∧ Box (wr.alloc (.cells #[.int .i64 gen, .int .i64 slot, .bool full, .int .i64 zw, .bool whole, .slice Y ps.length y] 51)) wr.heap.size 51 #[.int .i64 gen, .int .i64 slot, .bool full, .int .i64 zw, .bool whole, .slice Y ps.length y] ∧ PrsAt (wr.alloc (.cells #[.int .i64 gen, .int .i64 slot, .bool full, .int .i64 zw, .bool whole, .slice Y ps.length y] 51)) (LT (wr.alloc (.cells #[.int .i64 gen, .int .i64 slot, .bool full, .int .i64 zw, .bool whole, .slice Y ps.length y] 51)).heap.size) Y ps) := ⟨HS1.out.later (below_one _ _), Box.fresh _ _ _, HPA.out.later (below_one _ _)⟩
            generalize (wr.alloc (.cells #[.int .i64 gen, .int .i64 slot, .bool full, .int .i64 zw, .bool whole, .slice Y ps.length y] 51)) = w2 at HX1 ⊢
            generalize wr.heap.size = gz at HX1 ⊢
            clear HS1 c0 c1 c2 c3 c4 c5 HPA
            obtain ⟨z0, z1, z2, z3, z4, z5⟩ := box6 HX1.out.2.1
            go_wp2_with fail
            refine (putZone_any gen slot full zw whole Y ps y w2 HX1.out.2.2 (by have := HZQ.out.1; omega) HZQ.out.2).mono ?_
            rintro e w3 ⟨b3, rfl, ho, hb⟩
            obtain ⟨D3, d3, hv3, hd, _, _⟩ := ho.rd
            subst hv3
            have HS3 := Lib.hid (HX1.out.1.later hb)
            have HD3 := Lib.hid hd
            clear hd hb ho HX1 z0 z1 z2 z3 z4 z5
            generalize putZ ⟨gen, slot, full, zw, whole, ps⟩ = E at HD3 HT2 HPL ⊢
            go_upto_region 15 with (at_builtin; refine wpList_app _ rfl (.tmp 40) (.tmp 42) 28 rfl w.heap.size 5 i0 Try.underlying28 I1.out I2.out I3.out I4.out _ L rfl HS3.out.own w3.heap.size D3 d3 E rfl HD3.out (by have h1 := HL2.out; have h2 := HPL.out; omega) HS3.out.below.size ?_; intro v' w4 ho' hg' hb')
            have HQ := Lib.hid (HS3.out.grown hg' ho')
            rw [← HT2.out] at HQ
            clear ho' hg' hb' HS3 HD3 HT2 HL2
            go_wp2
            go_roundw
            case rel => exact ⟨q + 1, by omega, by go_num, HQ.out⟩
            case measure => simp [intOf]; omega
          · obtain rfl : q = zs.length := by omega
            rw [List.take_length] at HS1
            obtain ⟨X, cx, hv, hX, hcx, _⟩ := HS1.out.own.rd
            subst hv
            have HX := Lib.hid (And.intro hX (And.intro hcx HS1.out.below))
            clear hX hcx HS1
            rw [← HPS.out] at HX ⊢
            generalize hP : putS ⟨c, ep, sq, st, zs⟩ = Pp at HX ⊢
            have HP := Lib.hid hP
            clear hP
            go_wp2
            go_ret
            exact ⟨Pp, fun _ => HP.out.symm, fun h => absurd HR.out h, X, cx, rfl, HX.out.1, HX.out.2.1, HX.out.2.2⟩
end Go.Proofs.Ytaceaemombnhkaa
