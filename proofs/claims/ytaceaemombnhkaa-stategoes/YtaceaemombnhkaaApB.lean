/- What Apply answers, as plain data; the zones' own rows while one turns. -/
import Derived.Test.YtaceaemombnhkaaApA
import Derived.BigQuiet
import Derived.Maps.AppendAt
import Derived.Test.YtaceaemombnhkaaWa
import Derived.Test.YtaceaemombnhkaaUa
namespace Go.Proofs.Ytaceaemombnhkaa
set_option linter.unusedVariables false
set_option maxRecDepth 100000
set_option linter.unusedSimpArgs false
open Go.RowKit
open Go.RowKit (wrap64)

/-- The last two of the parities and one more. -/
def nextPs (ps : List Pr) (p : Pr) : List Pr := (ps ++ [p]).drop (ps.length + 1 - 2)
/-- A zone by a record that fits it. -/
def nextZ (reb : Bool) (z : Zn) (n : Nat → Int) (b : List UInt8) : Zn :=
  if n 0 = 1 then ⟨z.gen, n 5, z.full, z.w, reb, z.ps⟩ else
  if n 0 = 5 then ⟨z.gen, z.slot, z.full, z.w, reb, z.ps⟩ else
  if n 0 = 2 then ⟨n 4, -1, false, 0, false, []⟩ else
  if n 0 = 3 then ⟨z.gen, z.slot, true, n 6, z.whole, z.ps⟩ else
  ⟨z.gen, z.slot, z.full, z.w, z.whole, nextPs z.ps ⟨n 6, b⟩⟩
def GotN (w : World) (lo : Nat) (v : Value) (z : Zn) (e : Ending) (w' : World) : Prop := ∃ Y y, e = .returned (.agg #[.int .i64 z.gen, .int .i64 z.slot, .bool z.full, .int .i64 z.w, .bool z.whole, .slice Y z.ps.length y]) ∧ PrsAt w' (TB lo w') Y z.ps ∧ z.ps.length ≤ y ∧ Turn v.ownBlock.toList w w'
/-- The two values boxed, the answer's block, and the zone's. -/
def ChgIn (c : Cf) (ep sq : Int) (A : Option Addr) (st : List Int) (k : Nat) (D : Option Addr) (zs : List Zn) (d : Nat) (n : Nat → Int) (X : Option Addr) (b : List UInt8) (x : Nat) (cz : Array Value) (w w0 : World) : Prop :=
  Box w0 w.heap.size 27 #[.int .i64 c.id, .int .i64 c.m, .int .i64 c.u, .int .i64 c.b, .int .i64 c.cp, .int .i64 c.z, .int .i64 c.s, .int .i64 c.mt, .int .i64 c.o, .int .i64 c.a, .int .i64 c.l, .int .i64 ep, .int .i64 sq, .slice A st.length k, .slice D zs.length d] ∧ Box w0 (w.heap.size + 1) 30 #[.int .i64 (n 0), .int .i64 (n 1), .int .i64 (n 2), .int .i64 (n 3), .int .i64 (n 4), .int .i64 (n 5), .int .i64 (n 6), .int .i64 (n 7), .int .i64 (n 8), .slice X b.length x] ∧ Box w0 (w.heap.size + 2) 51 #[.int .i64 0, .int .i64 0, .bool false, .int .i64 0, .bool false, .slice none 0 0] ∧ Box w0 (w.heap.size + 3) 51 cz ∧ Below w.heap.size w w0
section
variable {c : Cf} {ep sq : Int} {A : Option Addr} {st : List Int} {k : Nat} {D : Option Addr} {zs : List Zn} {d : Nat} {n : Nat → Int} {X : Option Addr} {b : List UInt8} {x : Nat} {cz : Array Value} {w w0 w1 : World}
theorem ChgIn.later (h : ChgIn c ep sq A st k D zs d n X b x cz w w0) (hb : Below w0.heap.size w0 w1) : ChgIn c ep sq A st k D zs d n X b x cz w w1 :=
  ⟨h.1.later hb, h.2.1.later hb, h.2.2.1.later hb, h.2.2.2.1.later hb, h.2.2.2.2.trans (hb.mono h.2.2.2.2.size)⟩
theorem ChgIn.set (h : ChgIn c ep sq A st k D zs d n X b x cz w w0) (i : Nat) (u : Value) : ChgIn c ep sq A st k D zs d n X b x (cz.setIfInBounds i u) w (w0.setCell ⟨w.heap.size + 3, i, none⟩ u) := by
  have ht : Turn [w.heap.size + 3] w0 (w0.setCell ⟨w.heap.size + 3, i, none⟩ u) := (Turn.refl _ _).put (Or.inl (by simp)) _
  exact ⟨h.1.turn ht (by simp), h.2.1.turn ht (by simp), h.2.2.1.turn ht (by simp), h.2.2.2.1.store i u, h.2.2.2.2.setCell (by show w.heap.size ≤ w.heap.size + 3; omega) _⟩
end
set_option maxHeartbeats 4000000 in
theorem changed_any (c : Cf) (ep sq : Int) (A : Option Addr) (st : List Int) (k : Nat) (D : Option Addr) (zs : List Zn) (d : Nat) (n : Nat → Int) (X : Option Addr) (b : List UInt8) (x q lo : Nat) (w : World) (h : StAt w (LT w.heap.size) A st k D zs d) (hl : st.length ≤ 1000000) (hzl : zs.length ≤ 1000000) (hq : q < zs.length) (hn : n 3 = (q : Int)) (hb : Rd w w.heap.size X b) (hbl : b.length ≤ 10000000) (hbx : b.length ≤ x) (hlo : lo ≤ w.heap.size) (Y : Option Addr) (y : Nat) (xs : List Value)
    (hcell : ∀ g off, D = some ⟨g, off, none⟩ → w.cell? ⟨g, off + q * 6 + 5, none⟩ = some (.slice Y zs[q].ps.length y)) (ho : w.ownsRow lo 55 2 (.slice Y zs[q].ps.length y) zs[q].ps.length xs) (hp : PsRow w (NB lo w) zs[q].ps xs) (hps : zs[q].ps.length ≤ 2) (reb : Bool) (hreb : reb = true ↔ 2 ∈ st) (hk : n 0 = 1 ∨ n 0 = 2 ∨ n 0 = 3 ∨ n 0 = 5) :
    Calls Try.prog 27 #[(.agg #[.int .i64 c.id, .int .i64 c.m, .int .i64 c.u, .int .i64 c.b, .int .i64 c.cp, .int .i64 c.z, .int .i64 c.s, .int .i64 c.mt, .int .i64 c.o, .int .i64 c.a, .int .i64 c.l, .int .i64 ep, .int .i64 sq, .slice A st.length k, .slice D zs.length d]), (.agg #[.int .i64 (n 0), .int .i64 (n 1), .int .i64 (n 2), .int .i64 (n 3), .int .i64 (n 4), .int .i64 (n 5), .int .i64 (n 6), .int .i64 (n 7), .int .i64 (n 8), .slice X b.length x])] w (GotN w lo (.slice Y zs[q].ps.length y) (nextZ reb zs[q] n b)) := by
  obtain ⟨g1, off, hD, hg1, hc⟩ := h.2.1 (by omega)
  obtain ⟨Y0, y0, c0, c1, c2, c3, c4, c5, _⟩ := hc q hq
  have hY := hcell g1 off hD
  rw [c5] at hY
  simp only [Option.some.injEq, Value.slice.injEq, true_and] at hY
  obtain ⟨rfl, rfl⟩ := hY
  have HZ : Hid (∀ w', Below w.heap.size w w' → w'.cell? ⟨g1, off + q * 6, none⟩ = some (.int .i64 zs[q].gen) ∧ w'.cell? ⟨g1, off + q * 6 + 1, none⟩ = some (.int .i64 zs[q].slot) ∧ w'.cell? ⟨g1, off + q * 6 + 2, none⟩ = some (.bool zs[q].full) ∧ w'.cell? ⟨g1, off + q * 6 + 3, none⟩ = some (.int .i64 zs[q].w) ∧ w'.cell? ⟨g1, off + q * 6 + 4, none⟩ = some (.bool zs[q].whole) ∧ w'.cell? ⟨g1, off + q * 6 + 5, none⟩ = some (.slice Y0 zs[q].ps.length y0)) := fun w' hb =>
    ⟨((Kept.below hb).cell (p := ⟨g1, off + q * 6, none⟩) hg1).trans c0, ((Kept.below hb).cell (p := ⟨g1, off + q * 6 + 1, none⟩) hg1).trans c1, ((Kept.below hb).cell (p := ⟨g1, off + q * 6 + 2, none⟩) hg1).trans c2, ((Kept.below hb).cell (p := ⟨g1, off + q * 6 + 3, none⟩) hg1).trans c3, ((Kept.below hb).cell (p := ⟨g1, off + q * 6 + 4, none⟩) hg1).trans c4, ((Kept.below hb).cell (p := ⟨g1, off + q * 6 + 5, none⟩) hg1).trans c5⟩
  have HS : Hid (∀ w', Below w.heap.size w w' → IntsAt w' (LT w'.heap.size) A st) := fun w' hb => (h.later hb).1
  have HQ : Hid (q < zs.length ∧ zs.length ≤ 1000000 ∧ st.length ≤ 1000000) := ⟨hq, hzl, hl⟩
  clear c0 c1 c2 c3 c4 c5 hc hg1 hcell
  generalize zs[q] = z at HZ ho hp hps ⊢
  have HPR : Hid (∀ w', Below w.heap.size w w' → PrsAt w' (TB lo w') Y0 z.ps ∧ z.ps.length ≤ y0) := fun w' hb => by
    obtain ⟨Y2, y2, e, h5, h6⟩ := hp.row ho
    simp only [Value.slice.injEq, true_and] at e
    obtain ⟨rfl, rfl⟩ := e
    exact ⟨h5.tb (fun k hk => hb.block k hk.lt), h6⟩
  have HTN : Hid (∀ (v : Value) w', Below w.heap.size w w' → Turn v.ownBlock.toList w w') := fun v w' hb => Turn.of_below hb (Nat.le_refl _)
  obtain ⟨gen, slot, full, zw, whole, ps⟩ := z
  dsimp only at HZ HPR
  have HN3 := Lib.hid hn
  have HDD := Lib.hid hD
  have HK := Lib.hid hk
  have HRB := Lib.hid hreb
  clear hn hD hk hreb ho hp hps
  go_enter Try.func27, Try.ntmps27
  go_upto_region 1 with fail
  have HV : Hid (Box (((w.alloc (.cells #[.int .i64 c.id, .int .i64 c.m, .int .i64 c.u, .int .i64 c.b, .int .i64 c.cp, .int .i64 c.z, .int .i64 c.s, .int .i64 c.mt, .int .i64 c.o, .int .i64 c.a, .int .i64 c.l, .int .i64 ep, .int .i64 sq, .slice A st.length k, .slice D zs.length d] 27)).alloc (.cells #[.int .i64 (n 0), .int .i64 (n 1), .int .i64 (n 2), .int .i64 (n 3), .int .i64 (n 4), .int .i64 (n 5), .int .i64 (n 6), .int .i64 (n 7), .int .i64 (n 8), .slice X b.length x] 30)).alloc (.cells #[.int .i64 0, .int .i64 0, .bool false, .int .i64 0, .bool false, .slice none 0 0] 51)) w.heap.size 27 #[.int .i64 c.id, .int .i64 c.m, .int .i64 c.u, .int .i64 c.b, .int .i64 c.cp, .int .i64 c.z, .int .i64 c.s, .int .i64 c.mt, .int .i64 c.o, .int .i64 c.a, .int .i64 c.l, .int .i64 ep, .int .i64 sq, .slice A st.length k, .slice D zs.length d] ∧ Box (((w.alloc (.cells #[.int .i64 c.id, .int .i64 c.m, .int .i64 c.u, .int .i64 c.b, .int .i64 c.cp, .int .i64 c.z, .int .i64 c.s, .int .i64 c.mt, .int .i64 c.o, .int .i64 c.a, .int .i64 c.l, .int .i64 ep, .int .i64 sq, .slice A st.length k, .slice D zs.length d] 27)).alloc (.cells #[.int .i64 (n 0), .int .i64 (n 1), .int .i64 (n 2), .int .i64 (n 3), .int .i64 (n 4), .int .i64 (n 5), .int .i64 (n 6), .int .i64 (n 7), .int .i64 (n 8), .slice X b.length x] 30)).alloc (.cells #[.int .i64 0, .int .i64 0, .bool false, .int .i64 0, .bool false, .slice none 0 0] 51)) (w.heap.size + 1) 30 #[.int .i64 (n 0), .int .i64 (n 1), .int .i64 (n 2), .int .i64 (n 3), .int .i64 (n 4), .int .i64 (n 5), .int .i64 (n 6), .int .i64 (n 7), .int .i64 (n 8), .slice X b.length x] ∧ Box (((w.alloc (.cells #[.int .i64 c.id, .int .i64 c.m, .int .i64 c.u, .int .i64 c.b, .int .i64 c.cp, .int .i64 c.z, .int .i64 c.s, .int .i64 c.mt, .int .i64 c.o, .int .i64 c.a, .int .i64 c.l, .int .i64 ep, .int .i64 sq, .slice A st.length k, .slice D zs.length d] 27)).alloc (.cells #[.int .i64 (n 0), .int .i64 (n 1), .int .i64 (n 2), .int .i64 (n 3), .int .i64 (n 4), .int .i64 (n 5), .int .i64 (n 6), .int .i64 (n 7), .int .i64 (n 8), .slice X b.length x] 30)).alloc (.cells #[.int .i64 0, .int .i64 0, .bool false, .int .i64 0, .bool false, .slice none 0 0] 51)) (w.heap.size + 2) 51 #[.int .i64 0, .int .i64 0, .bool false, .int .i64 0, .bool false, .slice none 0 0] ∧ Below w.heap.size w (((w.alloc (.cells #[.int .i64 c.id, .int .i64 c.m, .int .i64 c.u, .int .i64 c.b, .int .i64 c.cp, .int .i64 c.z, .int .i64 c.s, .int .i64 c.mt, .int .i64 c.o, .int .i64 c.a, .int .i64 c.l, .int .i64 ep, .int .i64 sq, .slice A st.length k, .slice D zs.length d] 27)).alloc (.cells #[.int .i64 (n 0), .int .i64 (n 1), .int .i64 (n 2), .int .i64 (n 3), .int .i64 (n 4), .int .i64 (n 5), .int .i64 (n 6), .int .i64 (n 7), .int .i64 (n 8), .slice X b.length x] 30)).alloc (.cells #[.int .i64 0, .int .i64 0, .bool false, .int .i64 0, .bool false, .slice none 0 0] 51)) ∧ (((w.alloc (.cells #[.int .i64 c.id, .int .i64 c.m, .int .i64 c.u, .int .i64 c.b, .int .i64 c.cp, .int .i64 c.z, .int .i64 c.s, .int .i64 c.mt, .int .i64 c.o, .int .i64 c.a, .int .i64 c.l, .int .i64 ep, .int .i64 sq, .slice A st.length k, .slice D zs.length d] 27)).alloc (.cells #[.int .i64 (n 0), .int .i64 (n 1), .int .i64 (n 2), .int .i64 (n 3), .int .i64 (n 4), .int .i64 (n 5), .int .i64 (n 6), .int .i64 (n 7), .int .i64 (n 8), .slice X b.length x] 30)).alloc (.cells #[.int .i64 0, .int .i64 0, .bool false, .int .i64 0, .bool false, .slice none 0 0] 51)).heap.size = w.heap.size + 3) := three_boxes w 27 30 51 #[.int .i64 c.id, .int .i64 c.m, .int .i64 c.u, .int .i64 c.b, .int .i64 c.cp, .int .i64 c.z, .int .i64 c.s, .int .i64 c.mt, .int .i64 c.o, .int .i64 c.a, .int .i64 c.l, .int .i64 ep, .int .i64 sq, .slice A st.length k, .slice D zs.length d] #[.int .i64 (n 0), .int .i64 (n 1), .int .i64 (n 2), .int .i64 (n 3), .int .i64 (n 4), .int .i64 (n 5), .int .i64 (n 6), .int .i64 (n 7), .int .i64 (n 8), .slice X b.length x] #[.int .i64 0, .int .i64 0, .bool false, .int .i64 0, .bool false, .slice none 0 0]
  generalize (((w.alloc (.cells #[.int .i64 c.id, .int .i64 c.m, .int .i64 c.u, .int .i64 c.b, .int .i64 c.cp, .int .i64 c.z, .int .i64 c.s, .int .i64 c.mt, .int .i64 c.o, .int .i64 c.a, .int .i64 c.l, .int .i64 ep, .int .i64 sq, .slice A st.length k, .slice D zs.length d] 27)).alloc (.cells #[.int .i64 (n 0), .int .i64 (n 1), .int .i64 (n 2), .int .i64 (n 3), .int .i64 (n 4), .int .i64 (n 5), .int .i64 (n 6), .int .i64 (n 7), .int .i64 (n 8), .slice X b.length x] 30)).alloc (.cells #[.int .i64 0, .int .i64 0, .bool false, .int .i64 0, .bool false, .slice none 0 0] 51)) = w0 at HV ⊢
  obtain ⟨s0, s1, s2, s3, s4, s5, s6, s7, s8, s9, s10, s11, s12, s13, s14⟩ := box15 HV.out.1
  obtain ⟨r0, r1, r2, r3, r4, r5, r6, r7, r8, r9⟩ := box10 HV.out.2.1
  obtain ⟨z0, z1, z2, z3, z4, z5⟩ := HZ.out w0 HV.out.2.2.2.1
  rw [HN3.out] at r3
  rw [HDD.out] at s14
  have hsz := HV.out.2.2.2.2
  go_upto_region 2 with fail
  have HX : Hid (ChgIn c ep sq A st k D zs d n X b x #[.int .i64 gen, .int .i64 slot, .bool full, .int .i64 zw, .bool whole, .slice Y0 ps.length y0] w (w0.alloc (.cells #[.int .i64 gen, .int .i64 slot, .bool full, .int .i64 zw, .bool whole, .slice Y0 ps.length y0] 51))) := by
    have hb := below_one w0 (.cells #[.int .i64 gen, .int .i64 slot, .bool full, .int .i64 zw, .bool whole, .slice Y0 ps.length y0] 51)
    have hz := Box.fresh w0 51 #[.int .i64 gen, .int .i64 slot, .bool full, .int .i64 zw, .bool whole, .slice Y0 ps.length y0]
    rw [hsz] at hz
    exact ⟨HV.out.1.later hb, HV.out.2.1.later hb, HV.out.2.2.1.later hb, hz, HV.out.2.2.2.1.trans (hb.mono (by omega))⟩
  generalize w0.alloc (.cells #[.int .i64 gen, .int .i64 slot, .bool full, .int .i64 zw, .bool whole, .slice Y0 ps.length y0] 51) = w1 at HX ⊢
  clear HV HZ hsz h s0 s1 s2 s3 s4 s5 s6 s7 s8 s9 s10 s11 s12 s13 s14 r0 r1 r2 r3 r4 r5 r6 r7 r8 r9 z0 z1 z2 z3 z4 z5
  obtain ⟨s0, s1, s2, s3, s4, s5, s6, s7, s8, s9, s10, s11, s12, s13, s14⟩ := box15 HX.out.1
  obtain ⟨r0, r1, r2, r3, r4, r5, r6, r7, r8, r9⟩ := box10 HX.out.2.1
  obtain ⟨z0, z1, z2, z3, z4, z5⟩ := box6 HX.out.2.2.2.1
  obtain ⟨f0, f1, f2, f3, f4, f5⟩ := froz6 HX.out.2.2.2.1
  by_cases k1 : n 0 = 1
  · have HNX : Hid (nextZ reb ⟨gen, slot, full, zw, whole, ps⟩ n b = ⟨gen, n 5, full, zw, reb, ps⟩) := if_pos k1
    rw [k1] at r0
    clear k1
    go_upto_region 9 with fail
    have HX2 := Lib.hid (HX.out.set 1 (.int .i64 (n 5)))
    generalize w1.setCell ⟨w.heap.size + 3, 1, none⟩ (.int .i64 (n 5)) = w2 at HX2 ⊢
    clear HX s0 s1 s2 s3 s4 s5 s6 s7 s8 s9 s10 s11 s12 s13 s14 r0 r1 r2 r3 r4 r5 r6 r7 r8 r9 z0 z1 z2 z3 z4 z5 f0 f1 f2 f3 f4 f5
    obtain ⟨s0, s1, s2, s3, s4, s5, s6, s7, s8, s9, s10, s11, s12, s13, s14⟩ := box15 HX2.out.1
    obtain ⟨r0, r1, r2, r3, r4, r5, r6, r7, r8, r9⟩ := box10 HX2.out.2.1
    obtain ⟨z0, z1, z2, z3, z4, z5⟩ := box6 HX2.out.2.2.2.1
    obtain ⟨f0, f1, f2, f3, f4, f5⟩ := froz6 HX2.out.2.2.2.1
    go_wp2_with fail
    refine (rebuilds_any c ep sq A st k D zs d w2 (HS.out w2 HX2.out.2.2.2.2) HQ.out.2.2).mono ?_
    rintro e w4 ⟨b4, rfl, hr4, hb4⟩
    have hbb : b4 = reb := by
      have h1 := hr4.trans HRB.out.symm
      cases b4 <;> cases reb <;> simp_all
    subst hbb
    have HX4 := Lib.hid (HX2.out.later hb4)
    clear hb4 hr4 HX2 s0 s1 s2 s3 s4 s5 s6 s7 s8 s9 s10 s11 s12 s13 s14 r0 r1 r2 r3 r4 r5 r6 r7 r8 r9 z0 z1 z2 z3 z4 z5 f0 f1 f2 f3 f4 f5 HRB
    obtain ⟨s0, s1, s2, s3, s4, s5, s6, s7, s8, s9, s10, s11, s12, s13, s14⟩ := box15 HX4.out.1
    obtain ⟨r0, r1, r2, r3, r4, r5, r6, r7, r8, r9⟩ := box10 HX4.out.2.1
    obtain ⟨z0, z1, z2, z3, z4, z5⟩ := box6 HX4.out.2.2.2.1
    obtain ⟨f0, f1, f2, f3, f4, f5⟩ := froz6 HX4.out.2.2.2.1
    go_upto_region 14 with fail
    have HX5 := Lib.hid (HX4.out.set 4 (.bool b4))
    generalize w4.setCell ⟨w.heap.size + 3, 4, none⟩ (.bool b4) = w5 at HX5 ⊢
    clear HX4 s0 s1 s2 s3 s4 s5 s6 s7 s8 s9 s10 s11 s12 s13 s14 r0 r1 r2 r3 r4 r5 r6 r7 r8 r9 z0 z1 z2 z3 z4 z5 f0 f1 f2 f3 f4 f5
    obtain ⟨z0, z1, z2, z3, z4, z5⟩ := box6 HX5.out.2.2.2.1
    obtain ⟨r0, r1, r2, r3, r4, r5⟩ := box6 HX5.out.2.2.1
    obtain ⟨f0, f1, f2, f3, f4, f5⟩ := froz6 HX5.out.2.2.1
    go_wp2_with fail
    have HF := Lib.hid (put6 (.int .i64 gen) (.int .i64 (n 5)) (.bool full) (.int .i64 zw) (.bool b4) (.slice Y0 ps.length y0) HX5.out.2.2.1 rfl HX5.out.2.2.2.2 (show w.heap.size ≤ w.heap.size + 2 by omega))
    generalize ((((((w5.setCell ⟨w.heap.size + 2, 0, none⟩ (.int .i64 gen)).setCell ⟨w.heap.size + 2, 1, none⟩ (.int .i64 (n 5))).setCell ⟨w.heap.size + 2, 2, none⟩ (.bool full)).setCell ⟨w.heap.size + 2, 3, none⟩ (.int .i64 zw)).setCell ⟨w.heap.size + 2, 4, none⟩ (.bool b4)).setCell ⟨w.heap.size + 2, 5, none⟩ (.slice Y0 ps.length y0)) = w9 at HF ⊢
    clear HX5 z0 z1 z2 z3 z4 z5 r0 r1 r2 r3 r4 r5 f0 f1 f2 f3 f4 f5
    obtain ⟨r0, r1, r2, r3, r4, r5⟩ := box6 HF.out.1
    rw [HNX.out]
    refine bodyPost_ret (v := .agg #[.int .i64 gen, .int .i64 (n 5), .bool full, .int .i64 zw, .bool b4, .slice Y0 ps.length y0]) (by simp [results, Try.results27, go_sem, *]) rfl ⟨Y0, y0, rfl, (HPR.out w9 HF.out.2).1, (HPR.out w9 HF.out.2).2, HTN.out _ _ HF.out.2⟩
  have kb1 : (n 0 == 1) = false := by simpa using k1
  by_cases k5 : n 0 = 5
  · have HNX : Hid (nextZ reb ⟨gen, slot, full, zw, whole, ps⟩ n b = ⟨gen, slot, full, zw, reb, ps⟩) := (if_neg k1).trans (if_pos k5)
    rw [k5] at r0
    clear k5 kb1 k1
    go_upto_region 9 with fail
    clear s0 s1 s2 s3 s4 s5 s6 s7 s8 s9 s10 s11 s12 s13 s14 r0 r1 r2 r3 r4 r5 r6 r7 r8 r9 z0 z1 z2 z3 z4 z5 f0 f1 f2 f3 f4 f5
    obtain ⟨s0, s1, s2, s3, s4, s5, s6, s7, s8, s9, s10, s11, s12, s13, s14⟩ := box15 HX.out.1
    obtain ⟨r0, r1, r2, r3, r4, r5, r6, r7, r8, r9⟩ := box10 HX.out.2.1
    obtain ⟨z0, z1, z2, z3, z4, z5⟩ := box6 HX.out.2.2.2.1
    obtain ⟨f0, f1, f2, f3, f4, f5⟩ := froz6 HX.out.2.2.2.1
    go_wp2_with fail
    refine (rebuilds_any c ep sq A st k D zs d w1 (HS.out w1 HX.out.2.2.2.2) HQ.out.2.2).mono ?_
    rintro e w4 ⟨b4, rfl, hr4, hb4⟩
    have hbb : b4 = reb := by
      have h1 := hr4.trans HRB.out.symm
      cases b4 <;> cases reb <;> simp_all
    subst hbb
    have HX4 := Lib.hid (HX.out.later hb4)
    clear hb4 hr4 HX s0 s1 s2 s3 s4 s5 s6 s7 s8 s9 s10 s11 s12 s13 s14 r0 r1 r2 r3 r4 r5 r6 r7 r8 r9 z0 z1 z2 z3 z4 z5 f0 f1 f2 f3 f4 f5 HRB
    obtain ⟨s0, s1, s2, s3, s4, s5, s6, s7, s8, s9, s10, s11, s12, s13, s14⟩ := box15 HX4.out.1
    obtain ⟨r0, r1, r2, r3, r4, r5, r6, r7, r8, r9⟩ := box10 HX4.out.2.1
    obtain ⟨z0, z1, z2, z3, z4, z5⟩ := box6 HX4.out.2.2.2.1
    obtain ⟨f0, f1, f2, f3, f4, f5⟩ := froz6 HX4.out.2.2.2.1
    go_upto_region 14 with fail
    have HX5 := Lib.hid (HX4.out.set 4 (.bool b4))
    generalize w4.setCell ⟨w.heap.size + 3, 4, none⟩ (.bool b4) = w5 at HX5 ⊢
    clear HX4 s0 s1 s2 s3 s4 s5 s6 s7 s8 s9 s10 s11 s12 s13 s14 r0 r1 r2 r3 r4 r5 r6 r7 r8 r9 z0 z1 z2 z3 z4 z5 f0 f1 f2 f3 f4 f5
    obtain ⟨z0, z1, z2, z3, z4, z5⟩ := box6 HX5.out.2.2.2.1
    obtain ⟨r0, r1, r2, r3, r4, r5⟩ := box6 HX5.out.2.2.1
    obtain ⟨f0, f1, f2, f3, f4, f5⟩ := froz6 HX5.out.2.2.1
    go_wp2_with fail
    have HF := Lib.hid (put6 (.int .i64 gen) (.int .i64 slot) (.bool full) (.int .i64 zw) (.bool b4) (.slice Y0 ps.length y0) HX5.out.2.2.1 rfl HX5.out.2.2.2.2 (show w.heap.size ≤ w.heap.size + 2 by omega))
    generalize ((((((w5.setCell ⟨w.heap.size + 2, 0, none⟩ (.int .i64 gen)).setCell ⟨w.heap.size + 2, 1, none⟩ (.int .i64 slot)).setCell ⟨w.heap.size + 2, 2, none⟩ (.bool full)).setCell ⟨w.heap.size + 2, 3, none⟩ (.int .i64 zw)).setCell ⟨w.heap.size + 2, 4, none⟩ (.bool b4)).setCell ⟨w.heap.size + 2, 5, none⟩ (.slice Y0 ps.length y0)) = w9 at HF ⊢
    clear HX5 z0 z1 z2 z3 z4 z5 r0 r1 r2 r3 r4 r5 f0 f1 f2 f3 f4 f5
    obtain ⟨r0, r1, r2, r3, r4, r5⟩ := box6 HF.out.1
    rw [HNX.out]
    refine bodyPost_ret (v := .agg #[.int .i64 gen, .int .i64 slot, .bool full, .int .i64 zw, .bool b4, .slice Y0 ps.length y0]) (by simp [results, Try.results27, go_sem, *]) rfl ⟨Y0, y0, rfl, (HPR.out w9 HF.out.2).1, (HPR.out w9 HF.out.2).2, HTN.out _ _ HF.out.2⟩
  have kb5 : (n 0 == 5) = false := by simpa using k5
  by_cases k2 : n 0 = 2
  · have HNX : Hid (nextZ reb ⟨gen, slot, full, zw, whole, ps⟩ n b = ⟨n 4, -1, false, 0, false, []⟩) := (if_neg k1).trans ((if_neg k5).trans (if_pos k2))
    rw [k2] at r0
    clear k2 kb1 k1 kb5 k5
    go_upto_region 14 with fail
    have HX5 : Hid (ChgIn c ep sq A st k D zs d n X b x #[.int .i64 (n 4), .int .i64 (-1), .bool false, .int .i64 0, .bool false, .slice none 0 0] w ((((((w1.setCell ⟨w.heap.size + 3, 0, none⟩ (.int .i64 (n 4))).setCell ⟨w.heap.size + 3, 1, none⟩ (.int .i64 (-1))).setCell ⟨w.heap.size + 3, 2, none⟩ (.bool false)).setCell ⟨w.heap.size + 3, 3, none⟩ (.int .i64 0)).setCell ⟨w.heap.size + 3, 4, none⟩ (.bool false)).setCell ⟨w.heap.size + 3, 5, none⟩ (.slice none 0 0))) := by
      obtain ⟨q1, q2⟩ := put6 (.int .i64 (n 4)) (.int .i64 (-1)) (.bool false) (.int .i64 0) (.bool false) (.slice none 0 0) HX.out.2.2.2.1 rfl (Below.refl (w.heap.size + 3) w1) (Nat.le_refl _)
      exact ⟨HX.out.1.under q2 (by omega), HX.out.2.1.under q2 (by omega), HX.out.2.2.1.under q2 (by omega), q1, HX.out.2.2.2.2.trans (q2.mono (by omega))⟩
    generalize ((((((w1.setCell ⟨w.heap.size + 3, 0, none⟩ (.int .i64 (n 4))).setCell ⟨w.heap.size + 3, 1, none⟩ (.int .i64 (-1))).setCell ⟨w.heap.size + 3, 2, none⟩ (.bool false)).setCell ⟨w.heap.size + 3, 3, none⟩ (.int .i64 0)).setCell ⟨w.heap.size + 3, 4, none⟩ (.bool false)).setCell ⟨w.heap.size + 3, 5, none⟩ (.slice none 0 0)) = w5 at HX5 ⊢
    clear HX s0 s1 s2 s3 s4 s5 s6 s7 s8 s9 s10 s11 s12 s13 s14 r0 r1 r2 r3 r4 r5 r6 r7 r8 r9 z0 z1 z2 z3 z4 z5 f0 f1 f2 f3 f4 f5
    obtain ⟨z0, z1, z2, z3, z4, z5⟩ := box6 HX5.out.2.2.2.1
    obtain ⟨r0, r1, r2, r3, r4, r5⟩ := box6 HX5.out.2.2.1
    obtain ⟨f0, f1, f2, f3, f4, f5⟩ := froz6 HX5.out.2.2.1
    go_wp2_with fail
    have HF := Lib.hid (put6 (.int .i64 (n 4)) (.int .i64 (-1)) (.bool false) (.int .i64 0) (.bool false) (.slice none 0 0) HX5.out.2.2.1 rfl HX5.out.2.2.2.2 (show w.heap.size ≤ w.heap.size + 2 by omega))
    generalize ((((((w5.setCell ⟨w.heap.size + 2, 0, none⟩ (.int .i64 (n 4))).setCell ⟨w.heap.size + 2, 1, none⟩ (.int .i64 (-1))).setCell ⟨w.heap.size + 2, 2, none⟩ (.bool false)).setCell ⟨w.heap.size + 2, 3, none⟩ (.int .i64 0)).setCell ⟨w.heap.size + 2, 4, none⟩ (.bool false)).setCell ⟨w.heap.size + 2, 5, none⟩ (.slice none 0 0)) = w9 at HF ⊢
    clear HX5 z0 z1 z2 z3 z4 z5 r0 r1 r2 r3 r4 r5 f0 f1 f2 f3 f4 f5
    obtain ⟨r0, r1, r2, r3, r4, r5⟩ := box6 HF.out.1
    rw [HNX.out]
    refine bodyPost_ret (v := .agg #[.int .i64 (n 4), .int .i64 (-1), .bool false, .int .i64 0, .bool false, .slice none 0 0]) (by simp [results, Try.results27, go_sem, *]) rfl ⟨none, 0, rfl, PrsAt.nil, Nat.le_refl _, HTN.out _ _ HF.out.2⟩
  have kb2 : (n 0 == 2) = false := by simpa using k2
  have k3 : n 0 = 3 := by have := HK.out; omega
  have HNX : Hid (nextZ reb ⟨gen, slot, full, zw, whole, ps⟩ n b = ⟨gen, slot, true, n 6, whole, ps⟩) := (if_neg k1).trans ((if_neg k5).trans ((if_neg k2).trans (if_pos k3)))
  rw [k3] at r0
  clear k2 kb1 k1 kb5 k5 kb2 k3
  go_upto_region 11 with fail
  go_region
  have HX5 : Hid (ChgIn c ep sq A st k D zs d n X b x #[.int .i64 gen, .int .i64 slot, .bool true, .int .i64 (n 6), .bool whole, .slice Y0 ps.length y0] w (((w1.setCell ⟨w.heap.size + 3, 2, none⟩ (.bool true)).setCell ⟨w.heap.size + 3, 3, none⟩ (.int .i64 (n 6))).drew)) := by
    have h := ((HX.out.set 2 (.bool true)).set 3 (.int .i64 (n 6))).later (Below.refl _ _).drew
    refine Lib.hid ?_
    simpa using h
  generalize ((w1.setCell ⟨w.heap.size + 3, 2, none⟩ (.bool true)).setCell ⟨w.heap.size + 3, 3, none⟩ (.int .i64 (n 6))).drew = w5 at HX5 ⊢
  clear HX s0 s1 s2 s3 s4 s5 s6 s7 s8 s9 s10 s11 s12 s13 s14 r0 r1 r2 r3 r4 r5 r6 r7 r8 r9 z0 z1 z2 z3 z4 z5 f0 f1 f2 f3 f4 f5
  obtain ⟨z0, z1, z2, z3, z4, z5⟩ := box6 HX5.out.2.2.2.1
  obtain ⟨r0, r1, r2, r3, r4, r5⟩ := box6 HX5.out.2.2.1
  obtain ⟨f0, f1, f2, f3, f4, f5⟩ := froz6 HX5.out.2.2.1
  go_wp2_with fail
  have HF := Lib.hid (put6 (.int .i64 gen) (.int .i64 slot) (.bool true) (.int .i64 (n 6)) (.bool whole) (.slice Y0 ps.length y0) HX5.out.2.2.1 rfl HX5.out.2.2.2.2 (show w.heap.size ≤ w.heap.size + 2 by omega))
  generalize ((((((w5.setCell ⟨w.heap.size + 2, 0, none⟩ (.int .i64 gen)).setCell ⟨w.heap.size + 2, 1, none⟩ (.int .i64 slot)).setCell ⟨w.heap.size + 2, 2, none⟩ (.bool true)).setCell ⟨w.heap.size + 2, 3, none⟩ (.int .i64 (n 6))).setCell ⟨w.heap.size + 2, 4, none⟩ (.bool whole)).setCell ⟨w.heap.size + 2, 5, none⟩ (.slice Y0 ps.length y0)) = w9 at HF ⊢
  clear HX5 z0 z1 z2 z3 z4 z5 r0 r1 r2 r3 r4 r5 f0 f1 f2 f3 f4 f5
  obtain ⟨r0, r1, r2, r3, r4, r5⟩ := box6 HF.out.1
  rw [HNX.out]
  refine bodyPost_ret (v := .agg #[.int .i64 gen, .int .i64 slot, .bool true, .int .i64 (n 6), .bool whole, .slice Y0 ps.length y0]) (by simp [results, Try.results27, go_sem, *]) rfl ⟨Y0, y0, rfl, (HPR.out w9 HF.out.2).1, (HPR.out w9 HF.out.2).2, HTN.out _ _ HF.out.2⟩
end Go.Proofs.Ytaceaemombnhkaa
namespace Go.Proofs.Ytaceaemombnhkaa
set_option linter.unusedVariables false
set_option maxRecDepth 100000
set_option linter.unusedSimpArgs false
open Go.RowKit
open Go.RowKit (wrap64)

theorem oper_rowA (W : World) {o : Oper} {a : Act} {K : Act → World → Prop} {Q : Exit → Act → World → Prop} (t e : TypeId) (z : Value) (size bytes : Nat) (s y : Operand)
    (ho : o.op = .call { callee := .builtin .append, args := #[s, y], argTypes := #[t, t] }) (ht : Try.prog.underlying t = some (.slice e)) (hinfo : (Try.prog.info? e).map (fun i => (i.zero, i.size, i.bytes)) = some (some z, size, bytes)) (hz : z.cells.size = size) (hsz : 0 < size)
    (base : Nat) (v : Value) (k : Nat) (xs : List Value) (ad : Addr) (m cy : Nat) (news : List Value) (hs : a.eval s = v) (hy : a.eval y = .slice (some ad) m cy) (hrow : W.ownsRow base e size v k xs)
    (hl : news.length = m * size) (hc : ∀ j u, news[j]? = some u → W.cell? (ad.add j) = some u) (h1 : ∀ u ∈ news, u.oneCell' = true) (hn : k + m ≤ 1000000000) (hby : bytes ≤ 1000) (hb : base ≤ W.heap.size)
    (hK : ∀ v' w', w'.ownsRow base e size v' (k + m) (xs ++ news) → W.grownBy w' v.ownBlock → v'.ownBlock = v.ownBlock ∨ v'.ownBlock = some W.heap.size → K (a.put o.dst v') w') : Oper.wp Try.prog o a W K Q := by
  obtain ⟨i0, hi, hz0, hz1, hz2⟩ := info_parts hinfo
  have hm : (k + m) * bytes ≤ 1000000000 * 1000 := Nat.mul_le_mul hn hby
  obtain ⟨v', w', hrun, h2, h3, _, h5⟩ := run_append_own_at (P := Try.prog) W base t o.type e i0 z size bytes ht hi hz0 hz1 hz2 hz hsz v k xs hrow ad m cy news hl hc h1 (by unfold maxLen; omega) (by omega) hb
  exact oper_app s y t ho _ _ _ _ hs hy hrun (hK _ _ h2 h3 h5)
/-- The two values boxed, the answer's block, and the zone's, while the zone's row of parities turns. -/
structure ChgP (c : Cf) (ep sq : Int) (A : Option Addr) (st : List Int) (k : Nat) (D : Option Addr) (zs : List Zn) (d : Nat) (n : Nat → Int) (X : Option Addr) (b : List UInt8) (x lo : Nat) (V : Value) (cz : Array Value) (v : Value) (ps : List Pr) (xs : List Value) (w w0 : World) : Prop where
  rcd : Box w0 (w.heap.size + 1) 30 #[.int .i64 (n 0), .int .i64 (n 1), .int .i64 (n 2), .int .i64 (n 3), .int .i64 (n 4), .int .i64 (n 5), .int .i64 (n 6), .int .i64 (n 7), .int .i64 (n 8), .slice X b.length x]
  ret : Box w0 (w.heap.size + 2) 51 #[.int .i64 0, .int .i64 0, .bool false, .int .i64 0, .bool false, .slice none 0 0]
  var : Box w0 (w.heap.size + 3) 51 cz
  own : w0.ownsRow lo 55 2 v ps.length xs
  row : PsRow w0 (NB lo w0) ps xs
  turn : Turn V.ownBlock.toList w w0
  at_ : ∀ k, v.ownBlock = some k → V.ownBlock = some k ∨ w.heap.size ≤ k
  size : w.heap.size + 4 ≤ w0.heap.size
section
variable {c : Cf} {ep sq : Int} {A : Option Addr} {st : List Int} {k : Nat} {D : Option Addr} {zs : List Zn} {d : Nat} {n : Nat → Int} {X : Option Addr} {b : List UInt8} {x lo : Nat} {V v : Value} {cz : Array Value} {ps : List Pr} {xs : List Value} {w w0 w1 : World}
theorem ChgP.later (h : ChgP c ep sq A st k D zs d n X b x lo V cz v ps xs w w0) (hb : Below w0.heap.size w0 w1) : ChgP c ep sq A st k D zs d n X b x lo V cz v ps xs w w1 :=
  ⟨h.rcd.later hb, h.ret.later hb, h.var.later hb, h.own.kept (turned_of_below hb none) (by cases v.ownBlock <;> simp), h.row.keepB (fun k hk hk2 => hb.block k hk2.lt), h.turn.trans (Turn.of_below hb (Nat.le_refl _)), h.at_, Nat.le_trans h.size hb.size⟩
theorem own_list {v : Value} {k : Nat} (h : k ∈ v.ownBlock.toList) : v.ownBlock = some k := by
  cases hv : v.ownBlock with
  | none => rw [hv] at h; simp at h
  | some j => rw [hv] at h; simp at h; rw [h]
theorem ChgP.app {B : Option Addr} {cx : Nat} {v' : Value} {w3 : World} (h : ChgP c ep sq A st k D zs d n X b x lo V cz v ps xs w w0) (hcz : True) (ho : w3.ownsRow lo 55 2 v' (ps.length + 1) (xs ++ [.int .i64 (n 6), .slice B b.length cx])) (hg : w0.grownBy w3 v.ownBlock) (hat : v'.ownBlock = v.ownBlock ∨ v'.ownBlock = some w0.heap.size)
    (hA : RdS w0 (NB lo w0) B b) (hc : b.length ≤ cx) (hl : b.length ≤ 10000000) : ChgP c ep sq A st k D zs d n X b x lo V cz v' (ps ++ [⟨n 6, b⟩]) (xs ++ [.int .i64 (n 6), .slice B b.length cx]) w w3 ∧ Turn v.ownBlock.toList w0 w3 := by
  have hkb : KeepB lo w0 w3 := fun k hk hb => hg.block k hb.lt (hb.own h.own (by decide))
  have ht2 : Turn v.ownBlock.toList w0 w3 := ⟨hg.os, hg.tape, hg.output, hg.size, fun k hk hn => hg.block k hk (fun e => hn (by rw [← e]; simp))⟩
  have hsz := h.size
  refine ⟨⟨h.rcd.ownRow h.own hg (by decide), h.ret.ownRow h.own hg (by decide), h.var.ownRow h.own hg (by decide), by simpa using ho, (h.row.keepB hkb).snoc (p := ⟨n 6, b⟩) (hA.keepB hkb) hc (by show b.length ≤ _; omega), h.turn.to ht2 (fun k hk => ?_), fun k hk => ?_, Nat.le_trans h.size hg.size⟩, ht2⟩
  · rcases h.at_ k (own_list hk) with h1 | h1
    · exact Or.inl (by rw [h1]; simp)
    · exact Or.inr h1
  · rcases hat with h1 | h1
    · exact h.at_ k (h1 ▸ hk)
    · rw [h1] at hk
      simp only [Option.some.injEq] at hk
      right
      omega
theorem ChgP.store (h : ChgP c ep sq A st k D zs d n X b x lo V cz v ps xs w w0) (u : Value) : ChgP c ep sq A st k D zs d n X b x lo V (cz.setIfInBounds 5 u) v ps xs w (w0.setCell ⟨w.heap.size + 3, 5, none⟩ u) ∧ Turn [w.heap.size + 3] w0 (w0.setCell ⟨w.heap.size + 3, 5, none⟩ u) := by
  have ht : Turn [w.heap.size + 3] w0 (w0.setCell ⟨w.heap.size + 3, 5, none⟩ u) := (Turn.refl _ _).put (Or.inl (by simp)) _
  have hkb : KeepB lo w0 (w0.setCell ⟨w.heap.size + 3, 5, none⟩ u) := fun k hk hb => ht.block k hb.lt (by have := hb.box h.var (by decide); simpa using this)
  refine ⟨⟨h.rcd.turn ht (by simp), h.ret.turn ht (by simp), h.var.store 5 u, own_set (k := 5) (u := u) h.own h.var (by decide), h.row.keepB hkb, h.turn.to ht (fun k hk => Or.inr ?_), h.at_, by simpa using h.size⟩, ht⟩
  have : k = w.heap.size + 3 := by simpa using hk
  omega
theorem own_ne {w : World} {base e size n g : Nat} {t : TypeId} {cs : Array Value} {v : Value} {xs : List Value} (h : w.ownsRow base e size v n xs) (hb : Box w g t cs) (ht : t ≠ e) : v.ownBlock ≠ some g := by
  rcases h.2 with ⟨rfl, _⟩ | ⟨g', cap, cur, rfl, _, hh, _⟩
  · simp [Value.ownBlock]
  · simp only [Value.ownBlock, ne_eq, Option.some.injEq]
    rintro rfl
    have h' : w.heap[g']? = some (.cells cs t (0, 0)) := hb
    rw [h'] at hh
    simp at hh
    exact ht hh.2
theorem own_caps {w : World} {base e size n c : Nat} {A : Option Addr} {xs : List Value} (h : w.ownsRow base e size (.slice A n c) n xs) : n ≤ c ∧ c ≤ maxLen ∧ (0 < n → ∃ g, A = some ⟨g, 0, none⟩) := by
  rcases h.2 with ⟨h0, h1⟩ | ⟨g, cap, cur, hv, _, hh, hc, hm, _⟩
  · simp only [Value.slice.injEq] at h0
    obtain ⟨rfl, rfl, rfl⟩ := h0
    exact ⟨Nat.le_refl _, by unfold maxLen; omega, fun h => by omega⟩
  · simp only [Value.slice.injEq] at hv
    obtain ⟨rfl, -, rfl⟩ := hv
    exact ⟨hc, hm, fun _ => ⟨g, rfl⟩⟩
theorem ChgP.done (h : ChgP c ep sq A st k D zs d n X b x lo V cz v ps xs w w0) (a0 a1 a2 a3 a4 a5 : Value) : Box ((((((w0.setCell ⟨w.heap.size + 2, 0, none⟩ (a0)).setCell ⟨w.heap.size + 2, 1, none⟩ (a1)).setCell ⟨w.heap.size + 2, 2, none⟩ (a2)).setCell ⟨w.heap.size + 2, 3, none⟩ (a3)).setCell ⟨w.heap.size + 2, 4, none⟩ (a4)).setCell ⟨w.heap.size + 2, 5, none⟩ (a5)) (w.heap.size + 2) 51 #[a0, a1, a2, a3, a4, a5] ∧ (∃ Y y, v = .slice Y ps.length y ∧ PrsAt ((((((w0.setCell ⟨w.heap.size + 2, 0, none⟩ (a0)).setCell ⟨w.heap.size + 2, 1, none⟩ (a1)).setCell ⟨w.heap.size + 2, 2, none⟩ (a2)).setCell ⟨w.heap.size + 2, 3, none⟩ (a3)).setCell ⟨w.heap.size + 2, 4, none⟩ (a4)).setCell ⟨w.heap.size + 2, 5, none⟩ (a5)) (TB lo ((((((w0.setCell ⟨w.heap.size + 2, 0, none⟩ (a0)).setCell ⟨w.heap.size + 2, 1, none⟩ (a1)).setCell ⟨w.heap.size + 2, 2, none⟩ (a2)).setCell ⟨w.heap.size + 2, 3, none⟩ (a3)).setCell ⟨w.heap.size + 2, 4, none⟩ (a4)).setCell ⟨w.heap.size + 2, 5, none⟩ (a5))) Y ps ∧ ps.length ≤ y) ∧ Turn V.ownBlock.toList w ((((((w0.setCell ⟨w.heap.size + 2, 0, none⟩ (a0)).setCell ⟨w.heap.size + 2, 1, none⟩ (a1)).setCell ⟨w.heap.size + 2, 2, none⟩ (a2)).setCell ⟨w.heap.size + 2, 3, none⟩ (a3)).setCell ⟨w.heap.size + 2, 4, none⟩ (a4)).setCell ⟨w.heap.size + 2, 5, none⟩ (a5)) := by
  have ht : Turn [w.heap.size + 2] w0 ((((((w0.setCell ⟨w.heap.size + 2, 0, none⟩ (a0)).setCell ⟨w.heap.size + 2, 1, none⟩ (a1)).setCell ⟨w.heap.size + 2, 2, none⟩ (a2)).setCell ⟨w.heap.size + 2, 3, none⟩ (a3)).setCell ⟨w.heap.size + 2, 4, none⟩ (a4)).setCell ⟨w.heap.size + 2, 5, none⟩ (a5)) := turn6 _ _ _ _ _ _ (by simp)
  have hb := (put6 a0 a1 a2 a3 a4 a5 h.ret rfl (Below.refl (w.heap.size + 2) w0) (Nat.le_refl _)).1
  generalize ((((((w0.setCell ⟨w.heap.size + 2, 0, none⟩ (a0)).setCell ⟨w.heap.size + 2, 1, none⟩ (a1)).setCell ⟨w.heap.size + 2, 2, none⟩ (a2)).setCell ⟨w.heap.size + 2, 3, none⟩ (a3)).setCell ⟨w.heap.size + 2, 4, none⟩ (a4)).setCell ⟨w.heap.size + 2, 5, none⟩ (a5)) = w9 at ht hb ⊢
  have hkb : KeepB lo w0 w9 := fun k hk hb => ht.block k hb.lt (by have := hb.box h.ret (by decide); simpa using this)
  refine ⟨hb, (h.row.keepB hkb).row (h.own.kept ht.grown (Or.inr (own_ne h.own h.ret (by decide)))), h.turn.to ht (fun k hk => Or.inr ?_)⟩
  have : k = w.heap.size + 2 := by simpa using hk
  omega
theorem ChgP.cut {p0 : Pr} {v' : Value} {u0 u1 : Value} (h : ChgP c ep sq A st k D zs d n X b x lo V cz v (p0 :: ps) (u0 :: u1 :: xs) w w0) (ho : w1.ownsRow lo 55 2 v' ps.length xs) (hv : v'.ownBlock = v.ownBlock) (ht : Turn v.ownBlock.toList w0 w1) : ChgP c ep sq A st k D zs d n X b x lo V cz v' ps xs w w1 := by
  have hg : w0.grownBy w1 v.ownBlock := ⟨ht.os, ht.tape, ht.output, ht.size, fun k hk hn => ht.block k hk (fun hm => hn (own_list hm).symm)⟩
  have hkb : KeepB lo w0 w1 := fun k hk hb => hg.block k hb.lt (hb.own h.own (by decide))
  have hr : PsRow w0 (NB lo w0) ps xs := by
    obtain ⟨Y, y, xs', e, _, _, _, g4⟩ := h.row
    simp only [List.cons.injEq] at e
    obtain ⟨_, _, rfl⟩ := e
    exact g4
  refine ⟨h.rcd.ownRow h.own hg (by decide), h.ret.ownRow h.own hg (by decide), h.var.ownRow h.own hg (by decide), ho, hr.keepB hkb, h.turn.to ht (fun k hk => ?_), fun k hk => h.at_ k (hv ▸ hk), Nat.le_trans h.size ht.size⟩
  rcases h.at_ k (own_list hk) with h1 | h1
  · exact Or.inl (by rw [h1]; simp)
  · exact Or.inr h1
theorem del_any {p : Pr} {A2 : Option Addr} {a2 : Nat} (h : ChgP c ep sq A st k D zs d n X b x lo V cz (.slice A2 (ps.length + 1) a2) (ps ++ [p]) xs w w0) (hps : ps.length ≤ 2) :
    Calls Try.prog 63 #[.slice A2 (ps.length + 1) a2, .int .i64 0, .int .i64 ((ps.length + 1 - 2 : Nat) : Int)] w0 fun e w' => ∃ A3 a3 xs', e = .returned (.slice A3 (nextPs ps p).length a3) ∧ ChgP c ep sq A st k D zs d n X b x lo V cz (.slice A3 (nextPs ps p).length a3) (nextPs ps p) xs' w w' := by
  have ho := h.own
  rw [show (ps ++ [p]).length = ps.length + 1 by simp] at ho
  obtain ⟨h1, h2, h3⟩ := own_caps ho
  by_cases hp : ps.length = 2
  · obtain ⟨p0, p1, rfl⟩ : ∃ p0 p1, ps = [p0, p1] := by
      match ps, hp with
      | [p0, p1], _ => exact ⟨p0, p1, rfl⟩
    obtain ⟨g, rfl⟩ := h3 (by omega)
    have hone := h.row.one
    obtain ⟨u0, u1, u2, u3, u4, u5, rfl⟩ : ∃ u0 u1 u2 u3 u4 u5, xs = [u0, u1, u2, u3, u4, u5] := by
      obtain ⟨_, _, _, rfl, _, _, _, _, _, _, rfl, _, _, _, _, _, _, rfl, _, _, _, rfl⟩ := h.row
      exact ⟨_, _, _, _, _, _, rfl⟩
    refine (delete1_any g a2 lo u0 u1 u2 u3 u4 u5 w0 ho hone).mono ?_
    rintro e w' ⟨rfl, ho', ht⟩
    exact ⟨_, a2, [u2, u3, u4, u5], rfl, h.cut ho' rfl ht⟩
  · have hn : nextPs ps p = ps ++ [p] := by
      unfold nextPs
      rw [show ps.length + 1 - 2 = 0 by omega]
      rfl
    rw [show ps.length + 1 - 2 = 0 by omega, hn, show (ps ++ [p]).length = ps.length + 1 by simp]
    refine (delete0_any A2 (ps.length + 1) a2 w0 (by omega) h1 h2).mono ?_
    rintro e w' ⟨rfl, rfl⟩
    exact ⟨A2, a2, xs, rfl, h⟩
end
set_option maxHeartbeats 4000000 in
theorem changedP_any (c : Cf) (ep sq : Int) (A : Option Addr) (st : List Int) (k : Nat) (D : Option Addr) (zs : List Zn) (d : Nat) (n : Nat → Int) (X : Option Addr) (b : List UInt8) (x q lo : Nat) (w : World) (h : StAt w (LT w.heap.size) A st k D zs d) (hl : st.length ≤ 1000000) (hzl : zs.length ≤ 1000000) (hq : q < zs.length) (hn : n 3 = (q : Int)) (hb : Rd w w.heap.size X b) (hbl : b.length ≤ 10000000) (hbx : b.length ≤ x) (hlo : lo ≤ w.heap.size) (Y : Option Addr) (y : Nat) (xs : List Value)
    (hcell : ∀ g off, D = some ⟨g, off, none⟩ → w.cell? ⟨g, off + q * 6 + 5, none⟩ = some (.slice Y zs[q].ps.length y)) (ho : w.ownsRow lo 55 2 (.slice Y zs[q].ps.length y) zs[q].ps.length xs) (hp : PsRow w (NB lo w) zs[q].ps xs) (hps : zs[q].ps.length ≤ 2) (reb : Bool) (hreb : reb = true ↔ 2 ∈ st) (hk : n 0 = 4) :
    Calls Try.prog 27 #[(.agg #[.int .i64 c.id, .int .i64 c.m, .int .i64 c.u, .int .i64 c.b, .int .i64 c.cp, .int .i64 c.z, .int .i64 c.s, .int .i64 c.mt, .int .i64 c.o, .int .i64 c.a, .int .i64 c.l, .int .i64 ep, .int .i64 sq, .slice A st.length k, .slice D zs.length d]), (.agg #[.int .i64 (n 0), .int .i64 (n 1), .int .i64 (n 2), .int .i64 (n 3), .int .i64 (n 4), .int .i64 (n 5), .int .i64 (n 6), .int .i64 (n 7), .int .i64 (n 8), .slice X b.length x])] w (GotN w lo (.slice Y zs[q].ps.length y) (nextZ reb zs[q] n b)) := by
  obtain ⟨g1, off, hD, hg1, hc⟩ := h.2.1 (by omega)
  obtain ⟨Y0, y0, c0, c1, c2, c3, c4, c5, _⟩ := hc q hq
  have hY := hcell g1 off hD
  rw [c5] at hY
  simp only [Option.some.injEq, Value.slice.injEq, true_and] at hY
  obtain ⟨rfl, rfl⟩ := hY
  have HZ : Hid (∀ w', Below w.heap.size w w' → w'.cell? ⟨g1, off + q * 6, none⟩ = some (.int .i64 zs[q].gen) ∧ w'.cell? ⟨g1, off + q * 6 + 1, none⟩ = some (.int .i64 zs[q].slot) ∧ w'.cell? ⟨g1, off + q * 6 + 2, none⟩ = some (.bool zs[q].full) ∧ w'.cell? ⟨g1, off + q * 6 + 3, none⟩ = some (.int .i64 zs[q].w) ∧ w'.cell? ⟨g1, off + q * 6 + 4, none⟩ = some (.bool zs[q].whole) ∧ w'.cell? ⟨g1, off + q * 6 + 5, none⟩ = some (.slice Y0 zs[q].ps.length y0)) := fun w' hb =>
    ⟨((Kept.below hb).cell (p := ⟨g1, off + q * 6, none⟩) hg1).trans c0, ((Kept.below hb).cell (p := ⟨g1, off + q * 6 + 1, none⟩) hg1).trans c1, ((Kept.below hb).cell (p := ⟨g1, off + q * 6 + 2, none⟩) hg1).trans c2, ((Kept.below hb).cell (p := ⟨g1, off + q * 6 + 3, none⟩) hg1).trans c3, ((Kept.below hb).cell (p := ⟨g1, off + q * 6 + 4, none⟩) hg1).trans c4, ((Kept.below hb).cell (p := ⟨g1, off + q * 6 + 5, none⟩) hg1).trans c5⟩
  have HS : Hid (∀ w', Below w.heap.size w w' → IntsAt w' (LT w'.heap.size) A st) := fun w' hb => (h.later hb).1
  have HQ : Hid (q < zs.length ∧ zs.length ≤ 1000000 ∧ st.length ≤ 1000000) := ⟨hq, hzl, hl⟩
  clear c0 c1 c2 c3 c4 c5 hc hg1 hcell
  generalize zs[q] = z at HZ ho hp hps ⊢
  have HPR : Hid (∀ w', Below w.heap.size w w' → PrsAt w' (TB lo w') Y0 z.ps ∧ z.ps.length ≤ y0) := fun w' hb => by
    obtain ⟨Y2, y2, e, h5, h6⟩ := hp.row ho
    simp only [Value.slice.injEq, true_and] at e
    obtain ⟨rfl, rfl⟩ := e
    exact ⟨h5.tb (fun k hk => hb.block k hk.lt), h6⟩
  have HTN : Hid (∀ (v : Value) w', Below w.heap.size w w' → Turn v.ownBlock.toList w w') := fun v w' hb => Turn.of_below hb (Nat.le_refl _)
  obtain ⟨gen, slot, full, zw, whole, ps⟩ := z
  dsimp only at HZ HPR
  have HN3 := Lib.hid hn
  have HDD := Lib.hid hD
  have HK := Lib.hid hk
  have HRB := Lib.hid hreb
  have HOW : Hid (∀ w', Below w.heap.size w w' → w'.ownsRow lo 55 2 (.slice Y0 ps.length y0) ps.length xs ∧ PsRow w' (NB lo w') ps xs) := fun w' hb => ⟨ho.kept (turned_of_below hb none) (by cases (Value.slice Y0 ps.length y0).ownBlock <;> simp), hp.keepB (fun k hk hk2 => hb.block k hk2.lt)⟩
  have HPS : Hid (ps.length ≤ 2) := hps
  have HBB : Hid (Rd w w.heap.size X b ∧ b.length ≤ 10000000 ∧ lo ≤ w.heap.size) := ⟨hb, hbl, hlo⟩
  clear hn hD hk hreb ho hp hps hb hbl hbx hlo
  go_enter Try.func27, Try.ntmps27
  go_upto_region 1 with fail
  have HV : Hid (Box (((w.alloc (.cells #[.int .i64 c.id, .int .i64 c.m, .int .i64 c.u, .int .i64 c.b, .int .i64 c.cp, .int .i64 c.z, .int .i64 c.s, .int .i64 c.mt, .int .i64 c.o, .int .i64 c.a, .int .i64 c.l, .int .i64 ep, .int .i64 sq, .slice A st.length k, .slice D zs.length d] 27)).alloc (.cells #[.int .i64 (n 0), .int .i64 (n 1), .int .i64 (n 2), .int .i64 (n 3), .int .i64 (n 4), .int .i64 (n 5), .int .i64 (n 6), .int .i64 (n 7), .int .i64 (n 8), .slice X b.length x] 30)).alloc (.cells #[.int .i64 0, .int .i64 0, .bool false, .int .i64 0, .bool false, .slice none 0 0] 51)) w.heap.size 27 #[.int .i64 c.id, .int .i64 c.m, .int .i64 c.u, .int .i64 c.b, .int .i64 c.cp, .int .i64 c.z, .int .i64 c.s, .int .i64 c.mt, .int .i64 c.o, .int .i64 c.a, .int .i64 c.l, .int .i64 ep, .int .i64 sq, .slice A st.length k, .slice D zs.length d] ∧ Box (((w.alloc (.cells #[.int .i64 c.id, .int .i64 c.m, .int .i64 c.u, .int .i64 c.b, .int .i64 c.cp, .int .i64 c.z, .int .i64 c.s, .int .i64 c.mt, .int .i64 c.o, .int .i64 c.a, .int .i64 c.l, .int .i64 ep, .int .i64 sq, .slice A st.length k, .slice D zs.length d] 27)).alloc (.cells #[.int .i64 (n 0), .int .i64 (n 1), .int .i64 (n 2), .int .i64 (n 3), .int .i64 (n 4), .int .i64 (n 5), .int .i64 (n 6), .int .i64 (n 7), .int .i64 (n 8), .slice X b.length x] 30)).alloc (.cells #[.int .i64 0, .int .i64 0, .bool false, .int .i64 0, .bool false, .slice none 0 0] 51)) (w.heap.size + 1) 30 #[.int .i64 (n 0), .int .i64 (n 1), .int .i64 (n 2), .int .i64 (n 3), .int .i64 (n 4), .int .i64 (n 5), .int .i64 (n 6), .int .i64 (n 7), .int .i64 (n 8), .slice X b.length x] ∧ Box (((w.alloc (.cells #[.int .i64 c.id, .int .i64 c.m, .int .i64 c.u, .int .i64 c.b, .int .i64 c.cp, .int .i64 c.z, .int .i64 c.s, .int .i64 c.mt, .int .i64 c.o, .int .i64 c.a, .int .i64 c.l, .int .i64 ep, .int .i64 sq, .slice A st.length k, .slice D zs.length d] 27)).alloc (.cells #[.int .i64 (n 0), .int .i64 (n 1), .int .i64 (n 2), .int .i64 (n 3), .int .i64 (n 4), .int .i64 (n 5), .int .i64 (n 6), .int .i64 (n 7), .int .i64 (n 8), .slice X b.length x] 30)).alloc (.cells #[.int .i64 0, .int .i64 0, .bool false, .int .i64 0, .bool false, .slice none 0 0] 51)) (w.heap.size + 2) 51 #[.int .i64 0, .int .i64 0, .bool false, .int .i64 0, .bool false, .slice none 0 0] ∧ Below w.heap.size w (((w.alloc (.cells #[.int .i64 c.id, .int .i64 c.m, .int .i64 c.u, .int .i64 c.b, .int .i64 c.cp, .int .i64 c.z, .int .i64 c.s, .int .i64 c.mt, .int .i64 c.o, .int .i64 c.a, .int .i64 c.l, .int .i64 ep, .int .i64 sq, .slice A st.length k, .slice D zs.length d] 27)).alloc (.cells #[.int .i64 (n 0), .int .i64 (n 1), .int .i64 (n 2), .int .i64 (n 3), .int .i64 (n 4), .int .i64 (n 5), .int .i64 (n 6), .int .i64 (n 7), .int .i64 (n 8), .slice X b.length x] 30)).alloc (.cells #[.int .i64 0, .int .i64 0, .bool false, .int .i64 0, .bool false, .slice none 0 0] 51)) ∧ (((w.alloc (.cells #[.int .i64 c.id, .int .i64 c.m, .int .i64 c.u, .int .i64 c.b, .int .i64 c.cp, .int .i64 c.z, .int .i64 c.s, .int .i64 c.mt, .int .i64 c.o, .int .i64 c.a, .int .i64 c.l, .int .i64 ep, .int .i64 sq, .slice A st.length k, .slice D zs.length d] 27)).alloc (.cells #[.int .i64 (n 0), .int .i64 (n 1), .int .i64 (n 2), .int .i64 (n 3), .int .i64 (n 4), .int .i64 (n 5), .int .i64 (n 6), .int .i64 (n 7), .int .i64 (n 8), .slice X b.length x] 30)).alloc (.cells #[.int .i64 0, .int .i64 0, .bool false, .int .i64 0, .bool false, .slice none 0 0] 51)).heap.size = w.heap.size + 3) := three_boxes w 27 30 51 #[.int .i64 c.id, .int .i64 c.m, .int .i64 c.u, .int .i64 c.b, .int .i64 c.cp, .int .i64 c.z, .int .i64 c.s, .int .i64 c.mt, .int .i64 c.o, .int .i64 c.a, .int .i64 c.l, .int .i64 ep, .int .i64 sq, .slice A st.length k, .slice D zs.length d] #[.int .i64 (n 0), .int .i64 (n 1), .int .i64 (n 2), .int .i64 (n 3), .int .i64 (n 4), .int .i64 (n 5), .int .i64 (n 6), .int .i64 (n 7), .int .i64 (n 8), .slice X b.length x] #[.int .i64 0, .int .i64 0, .bool false, .int .i64 0, .bool false, .slice none 0 0]
  generalize (((w.alloc (.cells #[.int .i64 c.id, .int .i64 c.m, .int .i64 c.u, .int .i64 c.b, .int .i64 c.cp, .int .i64 c.z, .int .i64 c.s, .int .i64 c.mt, .int .i64 c.o, .int .i64 c.a, .int .i64 c.l, .int .i64 ep, .int .i64 sq, .slice A st.length k, .slice D zs.length d] 27)).alloc (.cells #[.int .i64 (n 0), .int .i64 (n 1), .int .i64 (n 2), .int .i64 (n 3), .int .i64 (n 4), .int .i64 (n 5), .int .i64 (n 6), .int .i64 (n 7), .int .i64 (n 8), .slice X b.length x] 30)).alloc (.cells #[.int .i64 0, .int .i64 0, .bool false, .int .i64 0, .bool false, .slice none 0 0] 51)) = w0 at HV ⊢
  obtain ⟨s0, s1, s2, s3, s4, s5, s6, s7, s8, s9, s10, s11, s12, s13, s14⟩ := box15 HV.out.1
  obtain ⟨r0, r1, r2, r3, r4, r5, r6, r7, r8, r9⟩ := box10 HV.out.2.1
  obtain ⟨z0, z1, z2, z3, z4, z5⟩ := HZ.out w0 HV.out.2.2.2.1
  rw [HN3.out] at r3
  rw [HDD.out] at s14
  have hsz := HV.out.2.2.2.2
  go_upto_region 2 with fail
  have HX : Hid (ChgIn c ep sq A st k D zs d n X b x #[.int .i64 gen, .int .i64 slot, .bool full, .int .i64 zw, .bool whole, .slice Y0 ps.length y0] w (w0.alloc (.cells #[.int .i64 gen, .int .i64 slot, .bool full, .int .i64 zw, .bool whole, .slice Y0 ps.length y0] 51))) := by
    have hb := below_one w0 (.cells #[.int .i64 gen, .int .i64 slot, .bool full, .int .i64 zw, .bool whole, .slice Y0 ps.length y0] 51)
    have hz := Box.fresh w0 51 #[.int .i64 gen, .int .i64 slot, .bool full, .int .i64 zw, .bool whole, .slice Y0 ps.length y0]
    rw [hsz] at hz
    exact ⟨HV.out.1.later hb, HV.out.2.1.later hb, HV.out.2.2.1.later hb, hz, HV.out.2.2.2.1.trans (hb.mono (by omega))⟩
  generalize w0.alloc (.cells #[.int .i64 gen, .int .i64 slot, .bool full, .int .i64 zw, .bool whole, .slice Y0 ps.length y0] 51) = w1 at HX ⊢
  clear HV HZ hsz h s0 s1 s2 s3 s4 s5 s6 s7 s8 s9 s10 s11 s12 s13 s14 r0 r1 r2 r3 r4 r5 r6 r7 r8 r9 z0 z1 z2 z3 z4 z5
  obtain ⟨s0, s1, s2, s3, s4, s5, s6, s7, s8, s9, s10, s11, s12, s13, s14⟩ := box15 HX.out.1
  obtain ⟨r0, r1, r2, r3, r4, r5, r6, r7, r8, r9⟩ := box10 HX.out.2.1
  have HP : Hid (ChgP c ep sq A st k D zs d n X b x lo (.slice Y0 ps.length y0) #[.int .i64 gen, .int .i64 slot, .bool full, .int .i64 zw, .bool whole, .slice Y0 ps.length y0] (.slice Y0 ps.length y0) ps xs w w1 ∧ w.heap.size ≤ w1.heap.size) := by
    have hb := HX.out.2.2.2.2
    exact ⟨⟨HX.out.2.1, HX.out.2.2.1, HX.out.2.2.2.1, (HOW.out w1 hb).1, (HOW.out w1 hb).2, Turn.of_below hb (Nat.le_refl _), fun _ hk => Or.inl hk, HX.out.2.2.2.1.lt⟩, hb.size⟩
  have HNX : Hid (nextZ reb ⟨gen, slot, full, zw, whole, ps⟩ n b = ⟨gen, slot, full, zw, whole, nextPs ps ⟨n 6, b⟩⟩) := by
    have h4 := HK.out
    show nextZ _ _ _ _ = _
    unfold nextZ
    rw [if_neg (by omega), if_neg (by omega), if_neg (by omega), if_neg (by omega)]
  rw [HK.out] at r0
  have HBY : Hid (∀ w', Below w.heap.size w w' → Rd w' w'.heap.size X b) := fun w' hb => (HBB.out.1.below hb).more hb.size
  go_upto_region 12 with fail
  clear s0 s1 s2 s3 s4 s5 s6 s7 s8 s9 s10 s11 s12 s13 s14 r0 r1 r2 r3 r4 r5 r6 r7 r8 r9
  obtain ⟨V, hV⟩ : ∃ V, V = Value.slice Y0 ps.length y0 := ⟨_, rfl⟩
  obtain ⟨gs, hgs⟩ : ∃ gs, gs = (w.heap.size + 3) :: V.ownBlock.toList := ⟨_, rfl⟩
  refine wpG_start gs (by kernel_rfl) ?_
  have HD : Hid (ChgP c ep sq A st k D zs d n X b x lo V #[.int .i64 gen, .int .i64 slot, .bool full, .int .i64 zw, .bool whole, V] V ps xs w w1.drew ∧ Below w.heap.size w w1.drew) := by
    rw [hV]
    exact ⟨HP.out.1.later (Below.refl _ _).drew, HX.out.2.2.2.2.drew⟩
  have HG : Hid (w.heap.size + 1 ∉ gs ∧ (∀ k ∈ gs, k < w.heap.size + 4) ∧ (w.heap.size + 3) ∈ gs ∧ ∀ k, V.ownBlock = some k → k ∈ gs ∧ k < w.heap.size) := by
    have hlt : ∀ k, V.ownBlock = some k → k < w.heap.size := fun k hk => by
      rw [hV] at hk
      exact (World.ownsRow.lt (HOW.out w (Below.refl _ _)).1 k hk).2
    rw [hgs]
    refine ⟨fun hm => ?_, fun k hk => ?_, by simp, fun k hk => ⟨by simp [hk], hlt k hk⟩⟩
    · rcases List.mem_cons.1 hm with hm | hm
      · omega
      · have := hlt _ (by simpa using hm)
        omega
    · rcases List.mem_cons.1 hk with rfl | hk
      · omega
      · have := hlt _ (by simpa using hk)
        omega
  generalize w1.drew = wd at HD ⊢
  have HVV := Lib.hid hV
  rw [← hV]
  clear hV hgs HP HX
  refine wpG_take (i := 0) (d := 37) (v := ?v12x0) rfl rfl (by kernel_rfl) (by kernel_rfl) (by kernel_rfl) (fun _ _ _ h => h) (by rfl) ?y12x0 ?r12x0
  case y12x0 => (intro w' hSw; obtain ⟨r0, r1, r2, r3, r4, r5, r6, r7, r8, r9⟩ := box10 (HD.out.1.rcd.turn hSw HG.out.1); go_simp; try (with_reducible rfl))
  simp only [Act.put, List.setIfInBounds_toArray, List.set_cons_zero, List.set_cons_succ]
  refine wpG_take (i := 2) (d := 39) (v := ?v12x2) rfl rfl (by kernel_rfl) (by kernel_rfl) (by kernel_rfl) (fun _ _ _ h => h) (by rfl) ?y12x2 ?r12x2
  case y12x2 => (intro w' hSw; obtain ⟨r0, r1, r2, r3, r4, r5, r6, r7, r8, r9⟩ := box10 (HD.out.1.rcd.turn hSw HG.out.1); go_simp; try (with_reducible rfl))
  simp only [Act.put, List.setIfInBounds_toArray, List.set_cons_zero, List.set_cons_succ]
  refine wpG_take (i := 3) (d := 40) (v := ?v12x3) rfl rfl (by kernel_rfl) (by kernel_rfl) (by kernel_rfl) (fun _ _ _ h => h) (by rfl) ?y12x3 ?r12x3
  case y12x3 => (intro w' hSw; obtain ⟨r0, r1, r2, r3, r4, r5, r6, r7, r8, r9⟩ := box10 (HD.out.1.rcd.turn hSw HG.out.1); go_simp; try (with_reducible rfl))
  simp only [Act.put, List.setIfInBounds_toArray, List.set_cons_zero, List.set_cons_succ]
  refine wpG_take (i := 4) (d := 41) (v := ?v12x4) rfl rfl (by kernel_rfl) (by kernel_rfl) (by kernel_rfl) (fun _ _ _ h => h) (by rfl) ?y12x4 ?r12x4
  case y12x4 => (intro w' hSw; obtain ⟨r0, r1, r2, r3, r4, r5, r6, r7, r8, r9⟩ := box10 (HD.out.1.rcd.turn hSw HG.out.1); go_simp; try (with_reducible rfl))
  simp only [Act.put, List.setIfInBounds_toArray, List.set_cons_zero, List.set_cons_succ]
  refine wpG_take (i := 5) (d := 42) (v := ?v12x5) rfl rfl (by kernel_rfl) (by kernel_rfl) (by kernel_rfl) (fun _ _ _ h => h) (by rfl) ?y12x5 ?r12x5
  case y12x5 => (intro w' hSw; obtain ⟨r0, r1, r2, r3, r4, r5, r6, r7, r8, r9⟩ := box10 (HD.out.1.rcd.turn hSw HG.out.1); go_simp; try (with_reducible rfl))
  simp only [Act.put, List.setIfInBounds_toArray, List.set_cons_zero, List.set_cons_succ]
  refine wpG_island (fuel := 3) [(6, 43), (7, 44), (8, 45)] [(1, 38)] #[true, true, true, true, true, true, true, true, true, false, false, false] 4 (fun j w' => ChgP c ep sq A st k D zs d n X b x lo V #[.int .i64 gen, .int .i64 slot, .bool full, .int .i64 zw, .bool whole, V] V ps xs w w' ∧ Below w.heap.size w w') (fun i v w' => match i with | 6 => ∃ B cx, v = .slice B b.length cx ∧ RdS w' (NG lo gs w') B b ∧ b.length ≤ cx | 7 => ∃ B cx, v = .agg #[.int .i64 (n 6), .slice B b.length cx] ∧ RdS w' (NG lo gs w') B b ∧ b.length ≤ cx | 8 => ∃ B cx r, v = .slice (some ⟨r, 0, none⟩) 1 1 ∧ Box w' r 55 #[.int .i64 (n 6), .slice B b.length cx] ∧ r ∉ gs ∧ RdS w' (NG lo gs w') B b ∧ b.length ≤ cx | 1 => v = V | _ => True) (by kernel_rfl) (by kernel_rfl) (by decide) (by decide) (by kernel_rfl) (by kernel_rfl) ?_ (HD.out) ⟨?_, ?_, ?_, trivial⟩ ⟨?_, trivial⟩ ?_
  · intro i v w1 w2 hT h
    revert h
    split
    case h_1 => exact fun ⟨B, cx, e, hA, hc⟩ => ⟨B, cx, e, hA.turnG hT, hc⟩
    case h_2 => exact fun ⟨B, cx, e, hA, hc⟩ => ⟨B, cx, e, hA.turnG hT, hc⟩
    case h_3 => exact fun ⟨B, cx, r, e, hb, hr, hA, hc⟩ => ⟨B, cx, r, e, hb.turn hT hr, hr, hA.turnG hT, hc⟩
    all_goals exact id
  · as_aux_lemma =>
      intro u w1 hT hX hW a ha K hK
      simp only [List.cons_append, List.nil_append, puts, Act.put, List.setIfInBounds_toArray, List.set_cons_zero, List.set_cons_succ] at ha
      subst ha
      have HX := Lib.hid hX
      clear hX hW HD
      refine wpOp_run rfl (by rfl) ?_
      go_simp
      refine (cloneT_any X x w1.heap.size b w1 (HBY.out w1 HX.out.2) (Nat.le_refl _) HBB.out.2.1).mono ?_
      rintro e w2 ⟨B, cx, rfl, hB, hcx, hb⟩
      exact hK.out _ w2 (Turn.of_below hb (Nat.le_refl _)) ⟨HX.out.1.later hb, HX.out.2.trans (hb.mono HX.out.2.size)⟩ ⟨B, cx, rfl, hB.ng (Nat.le_trans HBB.out.2.2 HX.out.2.size) (fun k hk => Nat.lt_of_lt_of_le (HG.out.2.1 k hk) HX.out.1.size), hcx⟩
  · as_aux_lemma =>
      intro u w1 hT hX hW a ha K hK
      simp only [List.cons_append, List.nil_append, puts, Act.put, List.setIfInBounds_toArray, List.set_cons_zero, List.set_cons_succ] at ha
      subst ha
      have HX := Lib.hid hX
      obtain ⟨B, cx, f6, hB, hcx⟩ : ∃ B cx, u 6 = .slice B b.length cx ∧ RdS w1 (NG lo gs w1) B b ∧ b.length ≤ cx := hW 6 (by decide) (by kernel_rfl)
      have HA := Lib.hid (And.intro hB hcx)
      rw [f6] at hK ⊢
      clear f6 hB hcx
      clear hX hW HD
      refine wpOp_run rfl (by rfl) ?_
      go_simp
      exact hK.out _ w1 (Turn.refl _ _) HX.out ⟨B, cx, rfl, HA.out⟩
  · as_aux_lemma =>
      intro u w1 hT hX hW a ha K hK
      simp only [List.cons_append, List.nil_append, puts, Act.put, List.setIfInBounds_toArray, List.set_cons_zero, List.set_cons_succ] at ha
      subst ha
      have HX := Lib.hid hX
      obtain ⟨B, cx, f7, hB, hcx⟩ : ∃ B cx, u 7 = .agg #[.int .i64 (n 6), .slice B b.length cx] ∧ RdS w1 (NG lo gs w1) B b ∧ b.length ≤ cx := hW 7 (by decide) (by kernel_rfl)
      have HA := Lib.hid (And.intro hB hcx)
      rw [f7] at hK ⊢
      clear f7 hB hcx
      clear hX hW HD
      refine wpOp_run rfl (by rfl) ?_
      go_simp
      exact hK.out _ _ ((Turn.refl _ _).alloc _) ⟨HX.out.1.later (below_one _ _), HX.out.2.alloc HX.out.2.size _⟩ ⟨B, cx, _, rfl, Box.fresh w1 55 _, (fun hm => absurd (Nat.lt_of_lt_of_le (HG.out.2.1 _ hm) HX.out.1.size) (Nat.lt_irrefl _)), HA.out.1.turnG ((Turn.refl _ _).alloc _), HA.out.2⟩
  · as_aux_lemma =>
      intro u w1 j hT hX hW a ha K hK
      simp only [List.cons_append, List.nil_append, puts, Act.put, List.setIfInBounds_toArray, List.set_cons_zero, List.set_cons_succ] at ha
      subst ha
      have HX := Lib.hid hX
      obtain ⟨z0, z1, z2, z3, z4, z5⟩ := box6 HX.out.1.var
      clear hX hW HD
      refine wpOp_run rfl (by rfl) ?_
      go_simp
      exact hK.out _ w1 (Turn.refl _ _) HX.out rfl
  · intro u w2 hT hX hF a ha
    simp only [List.cons_append, List.nil_append, puts, Act.put, List.setIfInBounds_toArray, List.set_cons_zero, List.set_cons_succ] at ha
    obtain ⟨g6, g7, g8, g1, -⟩ := hF
    obtain ⟨B, cx, r, hr, hbx, hrg, hA, hc⟩ := g8
    rw [g1, hr] at ha
    subst ha
    have HX : Hid (ChgP c ep sq A st k D zs d n X b x lo V #[.int .i64 gen, .int .i64 slot, .bool full, .int .i64 zw, .bool whole, V] V ps xs w w2 ∧ Box w2 r 55 #[.int .i64 (n 6), .slice B b.length cx] ∧ RdS w2 (NB lo w2) B b ∧ b.length ≤ cx) := ⟨hX.1, hbx, hA.mono (fun _ h => h.1), hc⟩
    clear g1 g6 g7 hr hbx hrg hA hc hT hX HD
    refine ⟨gs, fun k hk => Or.inl hk, ?_⟩
    generalize u 6 = u6, u 7 = u7
    refine wpG_do (i := 9) (by kernel_rfl) rfl (by rfl) (fun K hK => ?_)
    refine oper_rowA w2 49 55 (.agg #[.int .i64 0, .slice none 0 0]) 2 32 (.tmp 38) (.tmp 45) rfl Try.underlying49 Try.info55 rfl (by omega) lo V ps.length xs ⟨r, 0, none⟩ 1 1 [.int .i64 (n 6), .slice B b.length cx] rfl rfl HX.out.1.own rfl (row_cell HX.out.2.1) (by simp [Value.oneCell']) (by have := HPS.out; omega) (by omega) (by have := HX.out.1.size; have := HBB.out.2.2; omega) ?_
    intro V' w3 ho hg hat
    obtain ⟨A2, a2, hv2⟩ := own_form ho
    subst hv2
    have HR := Lib.hid (HX.out.1.app trivial ho hg hat HX.out.2.2.1 HX.out.2.2.2 HBB.out.2.1)
    refine hK.out _ _ ⟨HR.out.2.os, HR.out.2.tape, HR.out.2.output, HR.out.2.size, fun k hk hn => HR.out.2.block k hk (fun hm => hn (HG.out.2.2.2 k (own_list hm)).1)⟩ ?_
    clear hK ho hg hat HX
    simp only [Act.put, List.setIfInBounds_toArray, List.set_cons_zero, List.set_cons_succ]
    refine wpG_take (i := 10) (d := 47) (v := ?v4x10) rfl rfl (by kernel_rfl) (by kernel_rfl) (by kernel_rfl) (fun _ _ _ h => h) (by rfl) ?y4x10 ?r4x10
    case y4x10 => (intro w' hSw; go_simp; try (with_reducible rfl))
    simp only [Act.put, List.setIfInBounds_toArray, List.set_cons_zero, List.set_cons_succ]
    refine wpG_do (i := 11) (by kernel_rfl) rfl (by rfl) (fun K hK => ?_)
    obtain ⟨y0, y1, y2, y3, y4, y5⟩ := box6 HR.out.1.var
    obtain ⟨f0, f1, f2, f3, f4, f5⟩ := froz6 HR.out.1.var
    go_simp
    have HS2 := Lib.hid (HR.out.1.store (.slice A2 (ps.length + 1) a2))
    refine hK.out _ _ (HS2.out.2.wide HG.out.2.2.1) ?_
    have HQ2 : Hid (ChgP c ep sq A st k D zs d n X b x lo V #[.int .i64 gen, .int .i64 slot, .bool full, .int .i64 zw, .bool whole, .slice A2 (ps.length + 1) a2] (.slice A2 (ps.length + 1) a2) (ps ++ [⟨n 6, b⟩]) (xs ++ [.int .i64 (n 6), .slice B b.length cx]) w (w3.setCell ⟨w.heap.size + 3, 5, none⟩ (.slice A2 (ps.length + 1) a2))) := HS2.out.1
    generalize w3.setCell ⟨w.heap.size + 3, 5, none⟩ (.slice A2 (ps.length + 1) a2) = w4 at HQ2 ⊢
    clear hK HR HS2 y0 y1 y2 y3 y4 y5 f0 f1 f2 f3 f4 f5
    refine wpG_done (by kernel_rfl) ?_
    have HDL := Lib.hid (del_any HQ2.out HPS.out)
    obtain ⟨y0, y1, y2, y3, y4, y5⟩ := box6 HQ2.out.var
    go_wp2_with fail
    all_goals
      have hmx := h
      clear h
      have hzz : wrap64 (↑ps.length + 1 - 2) = (ps.length : Int) - 1 := by
        have h2 := HPS.out
        unfold wrap64
        omega
      first
        | (have hz : wrap64 (↑ps.length + 1 - 2) = ((ps.length + 1 - 2 : Nat) : Int) := by
            have hm2 : 0 < wrap64 (↑ps.length + 1 - 2) := hmx
            rw [hzz] at hm2 ⊢
            omega
           rw [hz]
           clear hzz hmx)
        | (have hz : ((ps.length + 1 - 2 : Nat) : Int) = 0 := by
            have hm2 : wrap64 (↑ps.length + 1 - 2) ≤ 0 := by first | exact hmx | exact Int.not_lt.1 hmx
            rw [hzz] at hm2
            omega
           rw [hz] at HDL
           clear hzz hmx)
      refine HDL.out.mono ?_
      rintro e w5 ⟨A3, a3, xs5, rfl, h5⟩
      have HQ5 := Lib.hid h5
      clear h5 HDL HQ2 y0 y1 y2 y3 y4 y5
      obtain ⟨y0, y1, y2, y3, y4, y5⟩ := box6 HQ5.out.var
      obtain ⟨f0, f1, f2, f3, f4, f5⟩ := froz6 HQ5.out.var
      go_upto_region 14 with fail
      have HQ6 : Hid (ChgP c ep sq A st k D zs d n X b x lo V #[.int .i64 gen, .int .i64 slot, .bool full, .int .i64 zw, .bool whole, .slice A3 (nextPs ps ⟨n 6, b⟩).length a3] (.slice A3 (nextPs ps ⟨n 6, b⟩).length a3) (nextPs ps ⟨n 6, b⟩) xs5 w (w5.setCell ⟨w.heap.size + 3, 5, none⟩ (.slice A3 (nextPs ps ⟨n 6, b⟩).length a3))) := (HQ5.out.store (.slice A3 (nextPs ps ⟨n 6, b⟩).length a3)).1
      generalize w5.setCell ⟨w.heap.size + 3, 5, none⟩ (.slice A3 (nextPs ps ⟨n 6, b⟩).length a3) = w6 at HQ6 ⊢
      clear HQ5 y0 y1 y2 y3 y4 y5 f0 f1 f2 f3 f4 f5
      obtain ⟨y0, y1, y2, y3, y4, y5⟩ := box6 HQ6.out.var
      obtain ⟨r0, r1, r2, r3, r4, r5⟩ := box6 HQ6.out.ret
      obtain ⟨f0, f1, f2, f3, f4, f5⟩ := froz6 HQ6.out.ret
      go_wp2_with fail
      have HF := Lib.hid (HQ6.out.done (.int .i64 gen) (.int .i64 slot) (.bool full) (.int .i64 zw) (.bool whole) (.slice A3 (nextPs ps ⟨n 6, b⟩).length a3))
      generalize ((((((w6.setCell ⟨w.heap.size + 2, 0, none⟩ (.int .i64 gen)).setCell ⟨w.heap.size + 2, 1, none⟩ (.int .i64 slot)).setCell ⟨w.heap.size + 2, 2, none⟩ (.bool full)).setCell ⟨w.heap.size + 2, 3, none⟩ (.int .i64 zw)).setCell ⟨w.heap.size + 2, 4, none⟩ (.bool whole)).setCell ⟨w.heap.size + 2, 5, none⟩ (.slice A3 (nextPs ps ⟨n 6, b⟩).length a3)) = w9 at HF ⊢
      clear HQ6 y0 y1 y2 y3 y4 y5 r0 r1 r2 r3 r4 r5 f0 f1 f2 f3 f4 f5
      obtain ⟨r0, r1, r2, r3, r4, r5⟩ := box6 HF.out.1
      rw [HNX.out]
      obtain ⟨Y9, y9, e9, hp9, hl9⟩ := HF.out.2.1
      simp only [Value.slice.injEq, true_and] at e9
      obtain ⟨rfl, rfl⟩ := e9
      refine bodyPost_ret (v := .agg #[.int .i64 gen, .int .i64 slot, .bool full, .int .i64 zw, .bool whole, .slice A3 (nextPs ps ⟨n 6, b⟩).length a3]) (by simp [results, Try.results27, go_sem, *]) rfl ⟨A3, a3, rfl, hp9, hl9, by rw [← HVV.out]; exact HF.out.2.2⟩
end Go.Proofs.Ytaceaemombnhkaa
namespace Go.Proofs.Ytaceaemombnhkaa
set_option linter.unusedVariables false
set_option maxRecDepth 100000
set_option linter.unusedSimpArgs false
open Go.RowKit
open Go.RowKit (wrap64)

/-- A zone's six cells in a row. -/
def set6 (xs : List Value) (i : Nat) (a0 a1 a2 a3 a4 a5 : Value) : List Value := (((((xs.set i a0).set (i + 1) a1).set (i + 2) a2).set (i + 3) a3).set (i + 4) a4).set (i + 5) a5
theorem ownT_form {w : World} {base e size n c : Nat} {A : Option Addr} {xs : List Value} (h : w.ownsRow base e size (.slice A n c) n xs) : n ≤ c ∧ (0 < n → ∃ g, A = some ⟨g, 0, none⟩) := by
  rcases h.2 with ⟨h0, h1⟩ | ⟨g, cap, cur, hv, _, hh, hc, hm, _⟩
  · simp only [Value.slice.injEq] at h0
    obtain ⟨rfl, rfl, rfl⟩ := h0
    exact ⟨Nat.le_refl _, fun h => by omega⟩
  · simp only [Value.slice.injEq] at hv
    obtain ⟨rfl, -, rfl⟩ := hv
    exact ⟨hc, fun _ => ⟨g, rfl⟩⟩
theorem own_cell {w : World} {base e size n g c i : Nat} {xs : List Value} (h : w.ownsRow base e size (.slice (some ⟨g, 0, none⟩) n c) n xs) (hi : i < n * size) : ∃ u, w.cell? ⟨g, i, none⟩ = some u := by
  have hx : i < xs.length := by rw [h.1]; exact hi
  exact ⟨xs[i], by rw [World.ownsRow.cellAt h i hi]; simp [hx]⟩
theorem own_set6 {w : World} {base g n c i : Nat} {xs : List Value} (a0 a1 a2 a3 a4 a5 : Value) (h : w.ownsRow base 51 6 (.slice (some ⟨g, 0, none⟩) n c) n xs) (hi : i + 5 < n * 6) :
    ((((((w.setCell ⟨g, i, none⟩ a0).setCell ⟨g, i + 1, none⟩ a1).setCell ⟨g, i + 2, none⟩ a2).setCell ⟨g, i + 3, none⟩ a3).setCell ⟨g, i + 4, none⟩ a4).setCell ⟨g, i + 5, none⟩ a5).ownsRow base 51 6 (.slice (some ⟨g, 0, none⟩) n c) n (set6 xs i a0 a1 a2 a3 a4 a5) :=
  own_store a5 (own_store a4 (own_store a3 (own_store a2 (own_store a1 (own_store a0 h (by omega)) (by omega)) (by omega)) (by omega)) (by omega)) (by omega)
theorem turn_set6 {w : World} {g i : Nat} (a0 a1 a2 a3 a4 a5 : Value) : Turn [g] w ((((((w.setCell ⟨g, i, none⟩ a0).setCell ⟨g, i + 1, none⟩ a1).setCell ⟨g, i + 2, none⟩ a2).setCell ⟨g, i + 3, none⟩ a3).setCell ⟨g, i + 4, none⟩ a4).setCell ⟨g, i + 5, none⟩ a5) :=
  ((((((Turn.refl _ _).put (Or.inl (by simp)) a0).put (Or.inl (by simp)) a1).put (Or.inl (by simp)) a2).put (Or.inl (by simp)) a3).put (Or.inl (by simp)) a4).put (Or.inl (by simp)) a5
theorem ZsRow.set {w : World} {S : Nat → Prop} {z : Zn} {Y : Option Addr} {y : Nat} (hp : PrsAt w S Y z.ps) (hy : z.ps.length ≤ y) (hz : z.ps.length ≤ 140737488351232) : ∀ {zs : List Zn} {xs : List Value} {q : Nat}, ZsRow w S zs xs → q < zs.length → ZsRow w S (zs.set q z) (set6 xs (q * 6) (.int .i64 z.gen) (.int .i64 z.slot) (.bool z.full) (.int .i64 z.w) (.bool z.whole) (.slice Y z.ps.length y))
  | [], _, _, _, h => absurd h (by simp)
  | _ :: _, _, 0, ⟨Y0, y0, xs', rfl, g1, g2, g3, g4⟩, _ => ⟨Y, y, xs', rfl, hp, hy, hz, g4⟩
  | _ :: _, _, q + 1, ⟨Y0, y0, xs', rfl, g1, g2, g3, g4⟩, h => by
    have ih := ZsRow.set hp hy hz g4 (q := q) (by simpa using h)
    refine ⟨Y0, y0, _, ?_, g1, g2, g3, ih⟩
    rw [show (q + 1) * 6 = q * 6 + 6 by omega]
    simp [set6]
/-- The call's own row of zones, as zones that are read. -/
theorem ZsRow.rowOf {w : World} {S S' : Nat → Prop} {zs : List Zn} {xs : List Value} {base n k : Nat} {A : Option Addr} (h : ZsRow w S zs xs) (hn : zs.length = n) (ho : w.ownsRow base 51 6 (.slice A n k) n xs) (hS : ∀ g, S g → S' g) (hS2 : ∀ g, base ≤ g → g < w.heap.size → S' g) : ZnsAt w S' A zs ∧ zs.length ≤ k := by
  subst hn
  obtain ⟨h1, h3⟩ := ownT_form ho
  refine ⟨fun hn => ?_, h1⟩
  obtain ⟨g, rfl⟩ := h3 hn
  have hlt := World.ownsRow.lt ho g rfl
  have h' : ZsRow w S' zs xs := h.map fun _ _ h => h.mono hS
  refine ⟨g, 0, rfl, hS2 g hlt.1 hlt.2, fun j hj => ?_⟩
  have := ZsRow.at_ (g := g) (off := 0) (m := 0) h' (fun i hi => by
    have := World.ownsRow.cellAt ho i (by rw [h.length] at hi; exact hi)
    simpa using this) j hj
  simpa using this
/-- The blocks of S, and new ones. -/
def Ext (S : Nat → Prop) (lo : Nat) (w : World) : Nat → Prop := fun g => S g ∨ (lo ≤ g ∧ g < w.heap.size)
theorem Ext.kept {S : Nat → Prop} {B lo : Nat} {gs : List Nat} {w w' : World} (hS : ∀ g, S g → g < B) (hB : B ≤ w.heap.size) (ht : Turn gs w w') (hg : ∀ g ∈ gs, B ≤ g ∧ g < lo) : Kept (Ext S lo w) w w' :=
  Kept.turn ht fun g h => ⟨h.elim (fun h => Nat.lt_of_lt_of_le (hS g h) hB) (fun h => h.2), fun hm => h.elim (fun h => absurd (hS g h) (Nat.not_lt.2 (hg g hm).1)) (fun h => absurd h.1 (Nat.not_le.2 (hg g hm).2))⟩
theorem Ext.up {S : Nat → Prop} {lo : Nat} {w w' : World} (hs : w.heap.size ≤ w'.heap.size) : ∀ g, Ext S lo w g → Ext S lo w' g := fun g h => h.imp id fun h => ⟨h.1, Nat.lt_of_lt_of_le h.2 hs⟩
theorem Ext.low {S : Nat → Prop} {lo lo' : Nat} {w : World} (hl : lo' ≤ lo) : ∀ g, Ext S lo w g → Ext S lo' w g := fun g h => h.imp id fun h => ⟨Nat.le_trans hl h.1, h.2⟩
theorem Ext.ext {S : Nat → Prop} {lo : Nat} {w w' : World} (hl : lo ≤ w.heap.size) (hs : w.heap.size ≤ w'.heap.size) : ∀ g, Ext (Ext S lo w) w.heap.size w' g → Ext S lo w' g := fun g h => h.elim (fun h => Ext.up hs g h) (fun h => Or.inr ⟨Nat.le_trans hl h.1, h.2⟩)
theorem Ext.lt {S : Nat → Prop} {B lo : Nat} {w : World} (hS : ∀ g, S g → g < B) (hB : B ≤ w.heap.size) : ∀ g, Ext S lo w g → g < w.heap.size := fun g h => h.elim (fun h => Nat.lt_of_lt_of_le (hS g h) hB) (fun h => h.2)
theorem StAt.ext {S : Nat → Prop} {B lo : Nat} {gs : List Nat} {w w' : World} {A D : Option Addr} {st : List Int} {zs : List Zn} {k d : Nat} (h : StAt w (Ext S lo w) A st k D zs d) (hS : ∀ g, S g → g < B) (hB : B ≤ w.heap.size) (ht : Turn gs w w') (hg : ∀ g ∈ gs, B ≤ g ∧ g < lo) : StAt w' (Ext S lo w') A st k D zs d :=
  (h.keep (Ext.kept hS hB ht hg)).mono (Ext.up ht.size)
theorem PrsAt.ext {S : Nat → Prop} {B lo : Nat} {gs : List Nat} {w w' : World} {A : Option Addr} {ps : List Pr} (h : PrsAt w (Ext S lo w) A ps) (hS : ∀ g, S g → g < B) (hB : B ≤ w.heap.size) (ht : Turn gs w w') (hg : ∀ g ∈ gs, B ≤ g ∧ g < lo) : PrsAt w' (Ext S lo w') A ps :=
  (h.keep (Ext.kept hS hB ht hg)).mono (Ext.up ht.size)
theorem StAt.extB {S : Nat → Prop} {B lo : Nat} {w w' : World} {A D : Option Addr} {st : List Int} {zs : List Zn} {k d : Nat} (h : StAt w (Ext S lo w) A st k D zs d) (hS : ∀ g, S g → g < B) (hB : B ≤ w.heap.size) (hb : Below w.heap.size w w') : StAt w' (Ext S lo w') A st k D zs d :=
  (h.keep (Kept.of_below hb (Ext.lt hS hB))).mono (Ext.up hb.size)
theorem PrsAt.extB {S : Nat → Prop} {B lo : Nat} {w w' : World} {A : Option Addr} {ps : List Pr} (h : PrsAt w (Ext S lo w) A ps) (hS : ∀ g, S g → g < B) (hB : B ≤ w.heap.size) (hb : Below w.heap.size w w') : PrsAt w' (Ext S lo w') A ps :=
  (h.keep (Kept.of_below hb (Ext.lt hS hB))).mono (Ext.up hb.size)
/-- A state as a value, in blocks of S and new ones. -/
def GotVS (w : World) (S : Nat → Prop) (s : St) (e : Ending) (w' : World) : Prop := ∃ A k D d, e = .returned (.agg #[.int .i64 s.c.id, .int .i64 s.c.m, .int .i64 s.c.u, .int .i64 s.c.b, .int .i64 s.c.cp, .int .i64 s.c.z, .int .i64 s.c.s, .int .i64 s.c.mt, .int .i64 s.c.o, .int .i64 s.c.a, .int .i64 s.c.l, .int .i64 s.ep, .int .i64 s.sq, .slice A s.st.length k, .slice D s.zs.length d]) ∧ StAt w' (Ext S w.heap.size w') A s.st k D s.zs d ∧ Below w.heap.size w w'
set_option maxHeartbeats 2000000 in
theorem rwith_any (c : Cf) (ep sq : Int) (A : Option Addr) (st : List Int) (k : Nat) (D : Option Addr) (zs : List Zn) (d : Nat) (q : Nat) (z : Zn) (X : Option Addr) (x : Nat) (w : World) (S : Nat → Prop) (hS : ∀ g, S g → g < w.heap.size) (h : StAt w S A st k D zs d) (hl2 : zs.length ≤ 1000000) (hq : q < zs.length) (hp : PrsAt w S X z.ps) (hx : z.ps.length ≤ x) (hz : z.ps.length ≤ 140737488351232) :
    Calls Try.prog 30 #[(.agg #[.int .i64 c.id, .int .i64 c.m, .int .i64 c.u, .int .i64 c.b, .int .i64 c.cp, .int .i64 c.z, .int .i64 c.s, .int .i64 c.mt, .int .i64 c.o, .int .i64 c.a, .int .i64 c.l, .int .i64 ep, .int .i64 sq, .slice A st.length k, .slice D zs.length d]), .int .i64 q, (.agg #[.int .i64 z.gen, .int .i64 z.slot, .bool z.full, .int .i64 z.w, .bool z.whole, .slice X z.ps.length x])] w (GotVS w S ⟨c, ep, sq, st, zs.set q z⟩) := by
  obtain ⟨g0, off, hD, hg0, hc⟩ := h.2.1 (by omega)
  obtain ⟨xs, hxr, hcx⟩ := ZnsAt.cells hc
  have HL : Hid (xs.length = zs.length * 6) := hxr.length
  have H1 : Hid (∀ u ∈ xs, u.oneCell' = true) := hxr.one
  have HA : Hid (∀ w', Below w.heap.size w w' → StAt w' (Ext S w.heap.size w') A st k D zs d) := fun w' hb => (h.keep (Kept.of_below hb hS)).mono fun _ h => Or.inl h
  have HXR : Hid (∀ w', Below w.heap.size w w' → ZsRow w' S zs xs ∧ PrsAt w' S X z.ps) := fun w' hb => ⟨hxr.map fun _ _ h => h.keep (Kept.of_below hb hS), hp.keep (Kept.of_below hb hS)⟩
  have hcx' : ∀ j u, xs[j]? = some u → w.cell? ((⟨g0, off, none⟩ : Addr).add j) = some u := fun j u hu => by
    have hadd : (⟨g0, off, none⟩ : Addr).add j = ⟨g0, off + j, none⟩ := by unfold Addr.add; split <;> simp_all
    rw [hadd]
    exact hcx j u hu
  have HC0 : Hid (∀ w', Below w.heap.size w w' → ∀ j u, xs[j]? = some u → w'.cell? ((⟨g0, off, none⟩ : Addr).add j) = some u) := fun w' hb j u hu => (hb.cell (by rw [step_block]; exact hS _ hg0)).trans (hcx' j u hu)
  have HQ : Hid (q < zs.length ∧ zs.length ≤ 1000000) := ⟨hq, hl2⟩
  have HLX : Hid (z.ps.length ≤ x ∧ z.ps.length ≤ 140737488351232) := ⟨hx, hz⟩
  have HZZ : Hid (∀ w' Y y (xs' : List Value), PrsAt w' S Y z.ps → z.ps.length ≤ y → ZsRow w' S zs xs' → ZsRow w' S (zs.set q z) (set6 xs' (q * 6) (.int .i64 z.gen) (.int .i64 z.slot) (.bool z.full) (.int .i64 z.w) (.bool z.whole) (.slice Y z.ps.length y))) := fun w' Y y xs' h1 h2 h3 => h3.set h1 h2 hz hq
  have HDD := Lib.hid hD
  obtain ⟨gen, slot, full, zw, whole, ps⟩ := z
  dsimp only at HXR HLX HZZ
  clear h hc hcx hcx' hxr hp hx hz hg0 hD hl2
  go_enter Try.func30, Try.ntmps30
  go_upto_region 1 with fail
  have HV := Lib.hid (three_boxes w 27 51 27 #[.int .i64 c.id, .int .i64 c.m, .int .i64 c.u, .int .i64 c.b, .int .i64 c.cp, .int .i64 c.z, .int .i64 c.s, .int .i64 c.mt, .int .i64 c.o, .int .i64 c.a, .int .i64 c.l, .int .i64 ep, .int .i64 sq, .slice A st.length k, .slice D zs.length d] #[.int .i64 gen, .int .i64 slot, .bool full, .int .i64 zw, .bool whole, .slice X ps.length x] #[.int .i64 0, .int .i64 0, .int .i64 0, .int .i64 0, .int .i64 0, .int .i64 0, .int .i64 0, .int .i64 0, .int .i64 0, .int .i64 0, .int .i64 0, .int .i64 0, .int .i64 0, .slice none 0 0, .slice none 0 0])
  generalize (((w.alloc (.cells #[.int .i64 c.id, .int .i64 c.m, .int .i64 c.u, .int .i64 c.b, .int .i64 c.cp, .int .i64 c.z, .int .i64 c.s, .int .i64 c.mt, .int .i64 c.o, .int .i64 c.a, .int .i64 c.l, .int .i64 ep, .int .i64 sq, .slice A st.length k, .slice D zs.length d] 27)).alloc (.cells #[.int .i64 gen, .int .i64 slot, .bool full, .int .i64 zw, .bool whole, .slice X ps.length x] 51)).alloc (.cells #[.int .i64 0, .int .i64 0, .int .i64 0, .int .i64 0, .int .i64 0, .int .i64 0, .int .i64 0, .int .i64 0, .int .i64 0, .int .i64 0, .int .i64 0, .int .i64 0, .int .i64 0, .slice none 0 0, .slice none 0 0] 27)) = w0 at HV ⊢
  obtain ⟨y0, y1, y2, y3, y4, y5, y6, y7, y8, y9, y10, y11, y12, y13, y14⟩ := box15 HV.out.1
  obtain ⟨z0, z1, z2, z3, z4, z5⟩ := box6 HV.out.2.1
  have HO : Hid ((w0.alloc (.cells #[] 51)).ownsRow w0.heap.size 51 6 (.slice (some ⟨w0.heap.size, 0, none⟩) 0 0) 0 []) := World.ownsRow_lit w0 #[] 0 (Nat.le_refl _) (by simp [maxLen]) rfl
  have y14' := (box15 (HV.out.1.later (below_one w0 (.cells #[] 51)))).2.2.2.2.2.2.2.2.2.2.2.2.2.2
  rw [HDD.out] at y14'
  have HC : Hid (∀ j u, xs[j]? = some u → (w0.alloc (.cells #[] 51)).cell? ((⟨g0, off, none⟩ : Addr).add j) = some u) := HC0.out _ (HV.out.2.2.2.1.alloc (HV.out.2.2.2.1.size) _)
  go_upto_region 2 with (at_builtin; refine wpList_own _ rfl 25 51 (.agg #[.int .i64 0, .int .i64 0, .bool false, .int .i64 0, .bool false, .slice none 0 0]) 6 64 (.tmp 8) (.tmp 10) rfl Try.underlying25 Try.info51 rfl (by omega) w0.heap.size _ 0 [] ⟨g0, off, none⟩ zs.length d xs rfl rfl HO.out HL.out HC.out H1.out (by have := HQ.out.2; omega) (by omega) (by simp) ?_; intro v' w1 ho' hg)
  rw [Nat.zero_add] at ho'
  simp only [List.nil_append] at ho'
  obtain ⟨A2, d2, hv⟩ := own_form ho'
  subst hv
  obtain ⟨g, hA2⟩ := (ownT_form ho').2 (by have := HQ.out.1; omega)
  subst hA2
  have hb1 : Below w0.heap.size w0 w1 := (below_one w0 _).grown hg (by simp) (fun k hk => Nat.le_of_eq (Option.some.inj hk))
  have HW : Hid (Box w1 w.heap.size 27 #[.int .i64 c.id, .int .i64 c.m, .int .i64 c.u, .int .i64 c.b, .int .i64 c.cp, .int .i64 c.z, .int .i64 c.s, .int .i64 c.mt, .int .i64 c.o, .int .i64 c.a, .int .i64 c.l, .int .i64 ep, .int .i64 sq, .slice A st.length k, .slice D zs.length d] ∧ Box w1 (w.heap.size + 1) 51 #[.int .i64 gen, .int .i64 slot, .bool full, .int .i64 zw, .bool whole, .slice X ps.length x] ∧ Box w1 (w.heap.size + 2) 27 #[.int .i64 0, .int .i64 0, .int .i64 0, .int .i64 0, .int .i64 0, .int .i64 0, .int .i64 0, .int .i64 0, .int .i64 0, .int .i64 0, .int .i64 0, .int .i64 0, .int .i64 0, .slice none 0 0, .slice none 0 0] ∧ Below w.heap.size w w1 ∧ w1.ownsRow w.heap.size 51 6 (.slice (some ⟨g, 0, none⟩) zs.length d2) zs.length xs ∧ w.heap.size + 3 ≤ g) := ⟨HV.out.1.later hb1, HV.out.2.1.later hb1, HV.out.2.2.1.later hb1, HV.out.2.2.2.1.trans (hb1.mono HV.out.2.2.2.1.size), own_mono ho' HV.out.2.2.2.1.size, by have h1 := (World.ownsRow.lt ho' g rfl).1; have h2 := HV.out.2.2.2.2; omega⟩
  clear ho' hg hb1 HO HC HV y14' y0 y1 y2 y3 y4 y5 y6 y7 y8 y9 y10 y11 y12 y13 y14 z0 z1 z2 z3 z4 z5
  obtain ⟨y0, y1, y2, y3, y4, y5, y6, y7, y8, y9, y10, y11, y12, y13, y14⟩ := box15 HW.out.1
  obtain ⟨z0, z1, z2, z3, z4, z5⟩ := box6 HW.out.2.1
  have hqn := HQ.out.1
  obtain ⟨u0, e0⟩ := own_cell HW.out.2.2.2.2.1 (i := q * 6) (by omega)
  have f0 := own_frozen HW.out.2.2.2.2.1 (q * 6)
  obtain ⟨u1, e1⟩ := own_cell HW.out.2.2.2.2.1 (i := q * 6 + 1) (by omega)
  have f1 := own_frozen HW.out.2.2.2.2.1 (q * 6 + 1)
  obtain ⟨u2, e2⟩ := own_cell HW.out.2.2.2.2.1 (i := q * 6 + 2) (by omega)
  have f2 := own_frozen HW.out.2.2.2.2.1 (q * 6 + 2)
  obtain ⟨u3, e3⟩ := own_cell HW.out.2.2.2.2.1 (i := q * 6 + 3) (by omega)
  have f3 := own_frozen HW.out.2.2.2.2.1 (q * 6 + 3)
  obtain ⟨u4, e4⟩ := own_cell HW.out.2.2.2.2.1 (i := q * 6 + 4) (by omega)
  have f4 := own_frozen HW.out.2.2.2.2.1 (q * 6 + 4)
  obtain ⟨u5, e5⟩ := own_cell HW.out.2.2.2.2.1 (i := q * 6 + 5) (by omega)
  have f5 := own_frozen HW.out.2.2.2.2.1 (q * 6 + 5)
  go_upto_region 3 with fail
  have HW3 : Hid (Box (((((((w1.setCell ⟨g, q * 6, none⟩ (.int .i64 gen)).setCell ⟨g, q * 6 + 1, none⟩ (.int .i64 slot)).setCell ⟨g, q * 6 + 2, none⟩ (.bool full)).setCell ⟨g, q * 6 + 3, none⟩ (.int .i64 zw)).setCell ⟨g, q * 6 + 4, none⟩ (.bool whole)).setCell ⟨g, q * 6 + 5, none⟩ (.slice X ps.length x))) w.heap.size 27 #[.int .i64 c.id, .int .i64 c.m, .int .i64 c.u, .int .i64 c.b, .int .i64 c.cp, .int .i64 c.z, .int .i64 c.s, .int .i64 c.mt, .int .i64 c.o, .int .i64 c.a, .int .i64 c.l, .int .i64 ep, .int .i64 sq, .slice A st.length k, .slice D zs.length d] ∧ Box (((((((w1.setCell ⟨g, q * 6, none⟩ (.int .i64 gen)).setCell ⟨g, q * 6 + 1, none⟩ (.int .i64 slot)).setCell ⟨g, q * 6 + 2, none⟩ (.bool full)).setCell ⟨g, q * 6 + 3, none⟩ (.int .i64 zw)).setCell ⟨g, q * 6 + 4, none⟩ (.bool whole)).setCell ⟨g, q * 6 + 5, none⟩ (.slice X ps.length x))) (w.heap.size + 2) 27 #[.int .i64 0, .int .i64 0, .int .i64 0, .int .i64 0, .int .i64 0, .int .i64 0, .int .i64 0, .int .i64 0, .int .i64 0, .int .i64 0, .int .i64 0, .int .i64 0, .int .i64 0, .slice none 0 0, .slice none 0 0] ∧ Below w.heap.size w (((((((w1.setCell ⟨g, q * 6, none⟩ (.int .i64 gen)).setCell ⟨g, q * 6 + 1, none⟩ (.int .i64 slot)).setCell ⟨g, q * 6 + 2, none⟩ (.bool full)).setCell ⟨g, q * 6 + 3, none⟩ (.int .i64 zw)).setCell ⟨g, q * 6 + 4, none⟩ (.bool whole)).setCell ⟨g, q * 6 + 5, none⟩ (.slice X ps.length x))) ∧ (((((((w1.setCell ⟨g, q * 6, none⟩ (.int .i64 gen)).setCell ⟨g, q * 6 + 1, none⟩ (.int .i64 slot)).setCell ⟨g, q * 6 + 2, none⟩ (.bool full)).setCell ⟨g, q * 6 + 3, none⟩ (.int .i64 zw)).setCell ⟨g, q * 6 + 4, none⟩ (.bool whole)).setCell ⟨g, q * 6 + 5, none⟩ (.slice X ps.length x))).ownsRow w.heap.size 51 6 (.slice (some ⟨g, 0, none⟩) zs.length d2) zs.length (set6 xs (q * 6) (.int .i64 gen) (.int .i64 slot) (.bool full) (.int .i64 zw) (.bool whole) (.slice X ps.length x))) := by
    have ht := turn_set6 (w := w1) (g := g) (i := q * 6) (.int .i64 gen) (.int .i64 slot) (.bool full) (.int .i64 zw) (.bool whole) (.slice X ps.length x)
    have hgl := HW.out.2.2.2.2.2
    exact ⟨HW.out.1.turn ht (by simp; omega), HW.out.2.2.1.turn ht (by simp; omega), HW.out.2.2.2.1.trans (ht.below (fun k hk => by have : k = g := by { simpa using hk }; omega) HW.out.2.2.2.1.size), own_set6 _ _ _ _ _ _ HW.out.2.2.2.2.1 (by omega)⟩
  generalize (((((((w1.setCell ⟨g, q * 6, none⟩ (.int .i64 gen)).setCell ⟨g, q * 6 + 1, none⟩ (.int .i64 slot)).setCell ⟨g, q * 6 + 2, none⟩ (.bool full)).setCell ⟨g, q * 6 + 3, none⟩ (.int .i64 zw)).setCell ⟨g, q * 6 + 4, none⟩ (.bool whole)).setCell ⟨g, q * 6 + 5, none⟩ (.slice X ps.length x))) = w3 at HW3 ⊢
  clear HW hqn y0 y1 y2 y3 y4 y5 y6 y7 y8 y9 y10 y11 y12 y13 y14 z0 z1 z2 z3 z4 z5 u0 u1 u2 u3 u4 u5 e0 e1 e2 e3 e4 e5 f0 f1 f2 f3 f4 f5
  obtain ⟨y0, y1, y2, y3, y4, y5, y6, y7, y8, y9, y10, y11, y12, y13, y14⟩ := box15 HW3.out.1
  obtain ⟨f0, f1, f2, f3, f4, f5, f6, f7, f8, f9, f10, f11, f12, f13, f14⟩ := froz15 HW3.out.1
  go_upto_region 4 with fail
  have HW4 : Hid (Box (w3.setCell ⟨w.heap.size, 14, none⟩ (.slice (some ⟨g, 0, none⟩) zs.length d2)) w.heap.size 27 #[.int .i64 c.id, .int .i64 c.m, .int .i64 c.u, .int .i64 c.b, .int .i64 c.cp, .int .i64 c.z, .int .i64 c.s, .int .i64 c.mt, .int .i64 c.o, .int .i64 c.a, .int .i64 c.l, .int .i64 ep, .int .i64 sq, .slice A st.length k, .slice (some ⟨g, 0, none⟩) zs.length d2] ∧ Box (w3.setCell ⟨w.heap.size, 14, none⟩ (.slice (some ⟨g, 0, none⟩) zs.length d2)) (w.heap.size + 2) 27 #[.int .i64 0, .int .i64 0, .int .i64 0, .int .i64 0, .int .i64 0, .int .i64 0, .int .i64 0, .int .i64 0, .int .i64 0, .int .i64 0, .int .i64 0, .int .i64 0, .int .i64 0, .slice none 0 0, .slice none 0 0] ∧ Below w.heap.size w (w3.setCell ⟨w.heap.size, 14, none⟩ (.slice (some ⟨g, 0, none⟩) zs.length d2)) ∧ (w3.setCell ⟨w.heap.size, 14, none⟩ (.slice (some ⟨g, 0, none⟩) zs.length d2)).ownsRow w.heap.size 51 6 (.slice (some ⟨g, 0, none⟩) zs.length d2) zs.length (set6 xs (q * 6) (.int .i64 gen) (.int .i64 slot) (.bool full) (.int .i64 zw) (.bool whole) (.slice X ps.length x))) := by
    have ht : Turn [w.heap.size] w3 (w3.setCell ⟨w.heap.size, 14, none⟩ (.slice (some ⟨g, 0, none⟩) zs.length d2)) := (Turn.refl _ _).put (Or.inl (by simp)) _
    exact ⟨by simpa using HW3.out.1.store 14 (.slice (some ⟨g, 0, none⟩) zs.length d2), HW3.out.2.1.turn ht (by simp), HW3.out.2.2.1.setCell (by exact Nat.le_refl _) _, own_set HW3.out.2.2.2 HW3.out.1 (by decide)⟩
  generalize w3.setCell ⟨w.heap.size, 14, none⟩ (.slice (some ⟨g, 0, none⟩) zs.length d2) = w4 at HW4 ⊢
  clear HW3 y0 y1 y2 y3 y4 y5 y6 y7 y8 y9 y10 y11 y12 y13 y14 f0 f1 f2 f3 f4 f5 f6 f7 f8 f9 f10 f11 f12 f13 f14
  go_wp2_with (first | (refine list_load27 rfl (.tmp 3) rfl w.heap.size #[.int .i64 c.id, .int .i64 c.m, .int .i64 c.u, .int .i64 c.b, .int .i64 c.cp, .int .i64 c.z, .int .i64 c.s, .int .i64 c.mt, .int .i64 c.o, .int .i64 c.a, .int .i64 c.l, .int .i64 ep, .int .i64 sq, .slice A st.length k, .slice (some ⟨g, 0, none⟩) zs.length d2] HW4.out.1 rfl rfl ?_) | (refine list_store27 rfl (.tmp 6) (.tmp 18) rfl (w.heap.size + 2) #[.int .i64 c.id, .int .i64 c.m, .int .i64 c.u, .int .i64 c.b, .int .i64 c.cp, .int .i64 c.z, .int .i64 c.s, .int .i64 c.mt, .int .i64 c.o, .int .i64 c.a, .int .i64 c.l, .int .i64 ep, .int .i64 sq, .slice A st.length k, .slice (some ⟨g, 0, none⟩) zs.length d2] _ HW4.out.2.1 rfl rfl (by first | kernel_rfl | simp [Value.oneCell']) rfl rfl (fun w5 q1 q2 => ?_)))
  have ht := q2 [w.heap.size + 2] (by simp)
  have hbel : Below w.heap.size w w5 := HW4.out.2.2.1.trans (ht.below (by simp) HW4.out.2.2.1.size)
  have ho := own_turn HW4.out.2.2.2 HW4.out.2.1 (by decide) ht
  have hzr := HZZ.out w5 X x xs (HXR.out w5 hbel).2 HLX.out.1 (HXR.out w5 hbel).1
  have hza := hzr.rowOf (S' := Ext S w.heap.size w5) (List.length_set ..) ho (fun _ h => Or.inl h) (fun g h1 h2 => Or.inr ⟨h1, h2⟩)
  have hst := HA.out w5 hbel
  refine bodyPost_ret (v := .agg #[.int .i64 c.id, .int .i64 c.m, .int .i64 c.u, .int .i64 c.b, .int .i64 c.cp, .int .i64 c.z, .int .i64 c.s, .int .i64 c.mt, .int .i64 c.o, .int .i64 c.a, .int .i64 c.l, .int .i64 ep, .int .i64 sq, .slice A st.length k, .slice (some ⟨g, 0, none⟩) zs.length d2]) (results27 (p := 6) rfl _ _ (w.heap.size + 2) #[.int .i64 c.id, .int .i64 c.m, .int .i64 c.u, .int .i64 c.b, .int .i64 c.cp, .int .i64 c.z, .int .i64 c.s, .int .i64 c.mt, .int .i64 c.o, .int .i64 c.a, .int .i64 c.l, .int .i64 ep, .int .i64 sq, .slice A st.length k, .slice (some ⟨g, 0, none⟩) zs.length d2] rfl q1 rfl) rfl ⟨A, k, some ⟨g, 0, none⟩, d2, by simp only [List.length_set], ⟨hst.1, hza.1, hst.2.2.1, hza.2⟩, hbel⟩
end Go.Proofs.Ytaceaemombnhkaa
namespace Go.Proofs.Ytaceaemombnhkaa
set_option linter.unusedVariables false
set_option maxRecDepth 100000
set_option linter.unusedSimpArgs false
open Go.RowKit
open Go.RowKit (wrap64)

def bareZ (z : Zn) : Zn := ⟨z.gen, z.slot, z.full, z.w, false, z.ps⟩
/-- The first q zones bare. -/
def bareQ (zs : List Zn) (q : Nat) : List Zn := (zs.take q).map bareZ ++ zs.drop q
theorem bareQ_length (zs : List Zn) (q : Nat) : (bareQ zs q).length = zs.length := by simp [bareQ]; omega
theorem bareQ_at {zs : List Zn} {q : Nat} (h : q < zs.length) : (bareQ zs q)[q]? = some zs[q] := by
  have e : ((zs.take q).map bareZ).length = q := by simp; omega
  unfold bareQ
  rw [List.getElem?_append_right (by omega), e]
  simp [h]
theorem bareQ_set {zs : List Zn} {q : Nat} (h : q < zs.length) : (bareQ zs q).set q (bareZ zs[q]) = bareQ zs (q + 1) := by
  have e : ((zs.take q).map bareZ).length = q := by simp; omega
  unfold bareQ
  rw [List.set_append_right _ _ (by omega), e, List.drop_eq_getElem_cons h, Nat.sub_self, List.set_cons_zero, List.take_succ_eq_append_getElem h, List.map_append]
  simp
theorem bareQ_zero (zs : List Zn) : bareQ zs 0 = zs := by simp [bareQ]
theorem bareQ_all (zs : List Zn) : bareQ zs zs.length = zs.map bareZ := by simp [bareQ]
end Go.Proofs.Ytaceaemombnhkaa
namespace Go.Proofs.Ytaceaemombnhkaa
set_option linter.unusedVariables false
set_option maxRecDepth 100000
set_option linter.unusedSimpArgs false
open Go.RowKit
open Go.RowKit (wrap64)

/-- A state and whether it holds. -/
def GotSs (w : World) (S : Nat → Prop) (s : St) (P : Prop) (e : Ending) (w' : World) : Prop := ∃ (ok : Bool) (s2 : St) (A : Option Addr) (k : Nat) (D : Option Addr) (d : Nat), e = .returned (.tuple #[(.agg #[.int .i64 s2.c.id, .int .i64 s2.c.m, .int .i64 s2.c.u, .int .i64 s2.c.b, .int .i64 s2.c.cp, .int .i64 s2.c.z, .int .i64 s2.c.s, .int .i64 s2.c.mt, .int .i64 s2.c.o, .int .i64 s2.c.a, .int .i64 s2.c.l, .int .i64 s2.ep, .int .i64 s2.sq, .slice A s2.st.length k, .slice D s2.zs.length d]), .bool ok]) ∧ (ok = true ↔ P) ∧ (ok = true → s2 = s) ∧ StAt w' (Ext S w.heap.size w') A s2.st k D s2.zs d ∧ Below w.heap.size w w'
theorem res28 {tmps : Array Value} {w : World} {g : Nat} {cs : Array Value} {v : Value} (hp : tmps.getD 4 undef = .pointer (some ⟨g, 0, none⟩)) (hv : tmps.getD 5 undef = v) (hg : Box w g 27 cs) (hn : cs.size = 15) : (results Try.f28 tmps).run Try.prog w = .ok (.tuple #[.agg cs, v]) w := by
  have h1 := run_loadVar_row (P := Try.prog) w g 27 27 cs (0, 0) _ hg rfl rfl (by rw [hn]; exact Try.size27)
  have hp' : tmps[4]?.getD undef = .pointer (some ⟨g, 0, none⟩) := by simpa using hp
  have hv' : tmps[5]?.getD undef = v := by simpa using hv
  simp [results, Try.results28, hp', hv', asAddr, h1]
theorem IntsAt.cellsOf {w : World} {S : Nat → Prop} {st : List Int} {ad : Addr} (h : IntsAt w S (some ad) st) : ∀ j u, (st.map (Value.int .i64))[j]? = some u → w.cell? (ad.add j) = some u := fun j u hu => by
  have hj : j < st.length := by
    have := (List.getElem?_eq_some_iff.1 hu).1
    simpa using this
  obtain ⟨g, off, e, _, hall⟩ := h (by omega)
  obtain rfl := Option.some.inj e
  have hadd : (⟨g, off, none⟩ : Addr).add j = ⟨g, off + j, none⟩ := by unfold Addr.add; split <;> simp_all
  rw [hadd, hall j hj, ← hu]
  simp [hj]
/-- Within the loop: q zones are bare. -/
def StL (S : Nat → Prop) (c : Cf) (ep sq : Int) (st : List Int) (zs : List Zn) (q : Nat) (w wr : World) : Prop :=
  ∃ (A : Option Addr) (k : Nat) (D : Option Addr) (d : Nat), Box wr w.heap.size 27 #[.int .i64 c.id, .int .i64 c.m, .int .i64 c.u, .int .i64 c.b, .int .i64 c.cp, .int .i64 c.z, .int .i64 c.s, .int .i64 c.mt, .int .i64 c.o, .int .i64 c.a, .int .i64 c.l, .int .i64 ep, .int .i64 sq, .slice A st.length k, .slice D (bareQ zs q).length d] ∧ Box wr (w.heap.size + 2) 27 #[.int .i64 0, .int .i64 0, .int .i64 0, .int .i64 0, .int .i64 0, .int .i64 0, .int .i64 0, .int .i64 0, .int .i64 0, .int .i64 0, .int .i64 0, .int .i64 0, .int .i64 0, .slice none 0 0, .slice none 0 0] ∧ StAt wr (Ext S (w.heap.size + 3) wr) A st k D (bareQ zs q) d ∧ Below w.heap.size w wr ∧ w.heap.size + 3 ≤ wr.heap.size
/-- The call's own row of ints, as ints that are read. -/
theorem ints_own {w : World} {base k : Nat} {A : Option Addr} {l : List Int} {S : Nat → Prop} (h : w.ownsRow base 3 1 (.slice A l.length k) l.length (l.map (Value.int .i64))) : IntsAt w (Ext S base w) A l ∧ l.length ≤ k := by
  obtain ⟨h1, h3⟩ := ownT_form h
  refine ⟨fun hn => ?_, h1⟩
  obtain ⟨g, rfl⟩ := h3 hn
  have hlt := World.ownsRow.lt h g rfl
  refine ⟨g, 0, rfl, Or.inr ⟨hlt.1, hlt.2⟩, fun j hj => ?_⟩
  rw [Nat.zero_add, World.ownsRow.cellAt h j (by omega)]
  simp [hj]
set_option maxHeartbeats 4000000 in
theorem rstatus_any (c : Cf) (ep sq : Int) (A : Option Addr) (st : List Int) (k : Nat) (D : Option Addr) (zs : List Zn) (d : Nat) (n : Nat → Int) (X : Option Addr) (b : List UInt8) (x : Nat) (w : World) (S : Nat → Prop) (hS : ∀ g, S g → g < w.heap.size) (h : StAt w S A st k D zs d) (hl1 : st.length ≤ 1000000) (hl2 : zs.length ≤ 1000000) :
    Calls Try.prog 28 #[(.agg #[.int .i64 c.id, .int .i64 c.m, .int .i64 c.u, .int .i64 c.b, .int .i64 c.cp, .int .i64 c.z, .int .i64 c.s, .int .i64 c.mt, .int .i64 c.o, .int .i64 c.a, .int .i64 c.l, .int .i64 ep, .int .i64 sq, .slice A st.length k, .slice D zs.length d]), (.agg #[.int .i64 (n 0), .int .i64 (n 1), .int .i64 (n 2), .int .i64 (n 3), .int .i64 (n 4), .int .i64 (n 5), .int .i64 (n 6), .int .i64 (n 7), .int .i64 (n 8), .slice X b.length x])] w (GotSs w S ⟨c, ep, sq, st.set (n 7).toNat (n 8), zs.map bareZ⟩ (TurnR st (n 7) ∧ (0 ≤ n 8 ∧ n 8 ≤ 2))) := by
  have HA : Hid (∀ w', Below w.heap.size w w' → StAt w' S A st k D zs d) := fun w' hb => h.keep (Kept.of_below hb hS)
  have HSS := Lib.hid hS
  obtain ⟨P, hP⟩ : ∃ P : Prop, P = (TurnR st (n 7) ∧ (0 ≤ n 8 ∧ n 8 ≤ 2)) := ⟨_, rfl⟩
  obtain ⟨S2, hS2⟩ : ∃ S2 : St, S2 = ⟨c, ep, sq, st.set (n 7).toNat (n 8), zs.map bareZ⟩ := ⟨_, rfl⟩
  rw [← hP, ← hS2]
  have HPP := Lib.hid hP
  have HS2 := Lib.hid hS2
  clear hP hS2
  have HLL : Hid (st.length ≤ 1000000 ∧ zs.length ≤ 1000000) := ⟨hl1, hl2⟩
  obtain ⟨cs, hcs⟩ : ∃ cs : Array Value, cs = #[.int .i64 c.id, .int .i64 c.m, .int .i64 c.u, .int .i64 c.b, .int .i64 c.cp, .int .i64 c.z, .int .i64 c.s, .int .i64 c.mt, .int .i64 c.o, .int .i64 c.a, .int .i64 c.l, .int .i64 ep, .int .i64 sq, .slice A st.length k, .slice D zs.length d] := ⟨_, rfl⟩
  have HCS := Lib.hid hcs
  have HCN : Hid (cs.size = 15 ∧ cs.all (·.oneCell') = true) := by rw [hcs]; exact ⟨rfl, by first | kernel_rfl | simp [Value.oneCell']⟩
  have HOD : Hid (∀ w', Below w.heap.size w w' → Calls Try.prog 64 #[.agg cs] w' (OddG w' st)) := fun w' hb => by rw [hcs]; exact rOdd_any c ep sq A st k D zs d w' ((h.mono hS).later hb) hl1
  have HB15 : Hid (∀ w' g, Box w' g 27 cs → w'.cell? ⟨g, 13, none⟩ = some (.slice A st.length k) ∧ w'.cell? ⟨g, 14, none⟩ = some (.slice D zs.length d)) := fun w' g hb => by
    rw [hcs] at hb
    obtain ⟨y0, y1, y2, y3, y4, y5, y6, y7, y8, y9, y10, y11, y12, y13, y14⟩ := box15 hb
    exact ⟨y13, y14⟩
  rw [← hcs]
  clear h hl1 hl2 hcs hS
  go_enter Try.func28, Try.ntmps28
  go_upto_region 1 with fail
  have HV := Lib.hid (three_boxes w 27 30 27 cs #[.int .i64 (n 0), .int .i64 (n 1), .int .i64 (n 2), .int .i64 (n 3), .int .i64 (n 4), .int .i64 (n 5), .int .i64 (n 6), .int .i64 (n 7), .int .i64 (n 8), .slice X b.length x] #[.int .i64 0, .int .i64 0, .int .i64 0, .int .i64 0, .int .i64 0, .int .i64 0, .int .i64 0, .int .i64 0, .int .i64 0, .int .i64 0, .int .i64 0, .int .i64 0, .int .i64 0, .slice none 0 0, .slice none 0 0])
  generalize (((w.alloc (.cells cs 27)).alloc (.cells #[.int .i64 (n 0), .int .i64 (n 1), .int .i64 (n 2), .int .i64 (n 3), .int .i64 (n 4), .int .i64 (n 5), .int .i64 (n 6), .int .i64 (n 7), .int .i64 (n 8), .slice X b.length x] 30)).alloc (.cells #[.int .i64 0, .int .i64 0, .int .i64 0, .int .i64 0, .int .i64 0, .int .i64 0, .int .i64 0, .int .i64 0, .int .i64 0, .int .i64 0, .int .i64 0, .int .i64 0, .int .i64 0, .slice none 0 0, .slice none 0 0] 27)) = w0 at HV ⊢
  obtain ⟨y13, y14⟩ := HB15.out w0 _ HV.out.1
  obtain ⟨r0, r1, r2, r3, r4, r5, r6, r7, r8, r9⟩ := box10 HV.out.2.1
  go_wp2_with (refine list_load27 rfl (.tmp 2) rfl w.heap.size cs HV.out.1 HCN.out.1 rfl ?_)
  refine (HOD.out w0 HV.out.2.2.2.1).mono ?_
  rintro e w1 ⟨hb, hr⟩
  have HV1 : Hid (Box w1 w.heap.size 27 cs ∧ Box w1 (w.heap.size + 1) 30 #[.int .i64 (n 0), .int .i64 (n 1), .int .i64 (n 2), .int .i64 (n 3), .int .i64 (n 4), .int .i64 (n 5), .int .i64 (n 6), .int .i64 (n 7), .int .i64 (n 8), .slice X b.length x] ∧ Box w1 (w.heap.size + 2) 27 #[.int .i64 0, .int .i64 0, .int .i64 0, .int .i64 0, .int .i64 0, .int .i64 0, .int .i64 0, .int .i64 0, .int .i64 0, .int .i64 0, .int .i64 0, .int .i64 0, .int .i64 0, .slice none 0 0, .slice none 0 0] ∧ Below w.heap.size w w1) := ⟨HV.out.1.later hb, HV.out.2.1.later hb, HV.out.2.2.1.later hb, HV.out.2.2.2.1.trans (hb.mono HV.out.2.2.2.1.size)⟩
  have HSZ : Hid (w1.heap.size ≥ w.heap.size + 3) := by
    have h1 := HV.out.2.2.2.2
    have h2 := hb.size
    show _ ≥ _
    omega
  clear hb HV y13 y14 r0 r1 r2 r3 r4 r5 r6 r7 r8 r9
  obtain ⟨y13, y14⟩ := HB15.out w1 _ HV1.out.1
  obtain ⟨r0, r1, r2, r3, r4, r5, r6, r7, r8, r9⟩ := box10 HV1.out.2.1
  have hoo : ∃ (m0 : Nat) (n0 : Int) (ob : Bool), e = .returned (.tuple #[.int .i64 (m0 : Int), .int .i64 n0, .bool ob]) ∧ ((ob = false ∧ oddL st 0 = none) ∨ (ob = true ∧ oddL st 0 = some (m0, n0))) := by
    rcases hr with ⟨ho, rfl⟩ | ⟨m0, n0, ho, rfl⟩
    · exact ⟨0, 0, false, rfl, Or.inl ⟨rfl, ho⟩⟩
    · exact ⟨m0, n0, true, rfl, Or.inr ⟨rfl, ho⟩⟩
  obtain ⟨m0, n0, ob, rfl, hob⟩ := hoo
  clear hr
  have HOB := Lib.hid hob
  clear hob
  go_upto_region 2 with fail
  by_cases k1 : n 7 < 0
  · have HNO : Hid (¬ P) := fun h => by
      rw [HPP.out] at h
      have := h.1.1; omega
    go_wp2_with (first | (refine list_load27 rfl (.tmp 2) rfl w.heap.size cs HV1.out.1 HCN.out.1 rfl ?_) | (refine list_store27 rfl (.tmp 4) (.tmp 48) rfl (w.heap.size + 2) cs _ HV1.out.2.2.1 rfl HCN.out.1 HCN.out.2 rfl rfl (fun w5 q1 q2 => ?_)))
    have ht := q2 [w.heap.size + 2] (by simp)
    have hbel : Below w.heap.size w w5 := HV1.out.2.2.2.trans (ht.below (by simp) HV1.out.2.2.2.size)
    exact bodyPost_ret (v := .tuple #[.agg cs, .bool false]) (res28 rfl rfl q1 HCN.out.1) rfl ⟨false, ⟨c, ep, sq, st, zs⟩, A, k, D, d, by rw [HCS.out], ⟨fun h => by simp at h, fun h => absurd h HNO.out⟩, fun h => by simp at h, (HA.out w5 hbel).mono (fun _ h => Or.inl h), hbel⟩
  by_cases k2 : (st.length : Int) ≤ n 7
  · have HNO : Hid (¬ P) := fun h => by
      rw [HPP.out] at h
      have := h.1.2.1; omega
    go_wp2_with (first | (refine list_load27 rfl (.tmp 2) rfl w.heap.size cs HV1.out.1 HCN.out.1 rfl ?_) | (refine list_store27 rfl (.tmp 4) (.tmp 48) rfl (w.heap.size + 2) cs _ HV1.out.2.2.1 rfl HCN.out.1 HCN.out.2 rfl rfl (fun w5 q1 q2 => ?_)))
    have ht := q2 [w.heap.size + 2] (by simp)
    have hbel : Below w.heap.size w w5 := HV1.out.2.2.2.trans (ht.below (by simp) HV1.out.2.2.2.size)
    exact bodyPost_ret (v := .tuple #[.agg cs, .bool false]) (res28 rfl rfl q1 HCN.out.1) rfl ⟨false, ⟨c, ep, sq, st, zs⟩, A, k, D, d, by rw [HCS.out], ⟨fun h => by simp at h, fun h => absurd h HNO.out⟩, fun h => by simp at h, (HA.out w5 hbel).mono (fun _ h => Or.inl h), hbel⟩
  by_cases k3 : n 8 < 0
  · have HNO : Hid (¬ P) := fun h => by
      rw [HPP.out] at h
      have := h.2.1; omega
    go_wp2_with (first | (refine list_load27 rfl (.tmp 2) rfl w.heap.size cs HV1.out.1 HCN.out.1 rfl ?_) | (refine list_store27 rfl (.tmp 4) (.tmp 48) rfl (w.heap.size + 2) cs _ HV1.out.2.2.1 rfl HCN.out.1 HCN.out.2 rfl rfl (fun w5 q1 q2 => ?_)))
    have ht := q2 [w.heap.size + 2] (by simp)
    have hbel : Below w.heap.size w w5 := HV1.out.2.2.2.trans (ht.below (by simp) HV1.out.2.2.2.size)
    exact bodyPost_ret (v := .tuple #[.agg cs, .bool false]) (res28 rfl rfl q1 HCN.out.1) rfl ⟨false, ⟨c, ep, sq, st, zs⟩, A, k, D, d, by rw [HCS.out], ⟨fun h => by simp at h, fun h => absurd h HNO.out⟩, fun h => by simp at h, (HA.out w5 hbel).mono (fun _ h => Or.inl h), hbel⟩
  by_cases k4 : 2 < n 8
  · have HNO : Hid (¬ P) := fun h => by
      rw [HPP.out] at h
      have := h.2.2; omega
    go_wp2_with (first | (refine list_load27 rfl (.tmp 2) rfl w.heap.size cs HV1.out.1 HCN.out.1 rfl ?_) | (refine list_store27 rfl (.tmp 4) (.tmp 48) rfl (w.heap.size + 2) cs _ HV1.out.2.2.1 rfl HCN.out.1 HCN.out.2 rfl rfl (fun w5 q1 q2 => ?_)))
    have ht := q2 [w.heap.size + 2] (by simp)
    have hbel : Below w.heap.size w w5 := HV1.out.2.2.2.trans (ht.below (by simp) HV1.out.2.2.2.size)
    exact bodyPost_ret (v := .tuple #[.agg cs, .bool false]) (res28 rfl rfl q1 HCN.out.1) rfl ⟨false, ⟨c, ep, sq, st, zs⟩, A, k, D, d, by rw [HCS.out], ⟨fun h => by simp at h, fun h => absurd h HNO.out⟩, fun h => by simp at h, (HA.out w5 hbel).mono (fun _ h => Or.inl h), hbel⟩
  by_cases k5 : ob = true ∧ (m0 : Int) ≠ n 7
  · obtain ⟨k5, k6⟩ := k5
    subst k5
    have HNO : Hid (¬ P) := fun h => by
      rw [HPP.out] at h
      rcases HOB.out with ⟨h1, _⟩ | ⟨_, h1⟩
      · simp at h1
      · rcases h.1.2.2 with h2 | ⟨n2, h2⟩
        · rw [h1] at h2; simp at h2
        · rw [h1] at h2
          simp only [Option.some.injEq, Prod.mk.injEq] at h2
          omega
    have k6b : ((m0 : Int) != n 7) = true := by simpa using k6
    generalize (m0 : Int) = m1 at k6 k6b ⊢
    clear k6 HOB
    go_wp2_with (first | (refine list_load27 rfl (.tmp 2) rfl w.heap.size cs HV1.out.1 HCN.out.1 rfl ?_) | (refine list_store27 rfl (.tmp 4) (.tmp 48) rfl (w.heap.size + 2) cs _ HV1.out.2.2.1 rfl HCN.out.1 HCN.out.2 rfl rfl (fun w5 q1 q2 => ?_)))
    have ht := q2 [w.heap.size + 2] (by simp)
    have hbel : Below w.heap.size w w5 := HV1.out.2.2.2.trans (ht.below (by simp) HV1.out.2.2.2.size)
    exact bodyPost_ret (v := .tuple #[.agg cs, .bool false]) (res28 rfl rfl q1 HCN.out.1) rfl ⟨false, ⟨c, ep, sq, st, zs⟩, A, k, D, d, by rw [HCS.out], ⟨fun h => by simp at h, fun h => absurd h HNO.out⟩, fun h => by simp at h, (HA.out w5 hbel).mono (fun _ h => Or.inl h), hbel⟩
  have HYES : Hid (TurnR st (n 7) ∧ (0 ≤ n 8 ∧ n 8 ≤ 2)) := by
    refine ⟨⟨by omega, by omega, ?_⟩, by omega, by omega⟩
    rcases HOB.out with ⟨_, h1⟩ | ⟨h2, h1⟩
    · exact Or.inl h1
    · refine Or.inr ⟨n0, ?_⟩
      rw [h1]
      have : (m0 : Int) = n 7 := by
        rcases Classical.em ((m0 : Int) = n 7) with h | h
        · exact h
        · exact absurd ⟨h2, h⟩ k5
      rw [← this]
      rfl
  have hm67 : ob = false ∨ ((m0 : Int) != n 7) = false := by
    cases ob
    · exact Or.inl rfl
    · right
      have : (m0 : Int) = n 7 := by
        rcases Classical.em ((m0 : Int) = n 7) with h | h
        · exact h
        · exact absurd ⟨rfl, h⟩ k5
      simp [this]
  obtain ⟨m, hm⟩ : ∃ m : Nat, n 7 = (m : Int) := ⟨(n 7).toNat, by omega⟩
  have HM : Hid (n 7 = (m : Int) ∧ m < st.length ∧ (n 7).toNat = m) := ⟨hm, by omega, by omega⟩
  have HG : Hid (∃ ad, A = some ad) := by
    obtain ⟨g, off, e, _⟩ := (HA.out w (Below.refl _ _)).1 (by have := HM.out.2.1; omega)
    exact ⟨_, e⟩
  obtain ⟨ad, had⟩ := HG.out
  have HAD := Lib.hid had
  rw [had] at y13
  clear had HG k5 hm
  go_cut [47] from 18 to 46 (fun s wx => s = .bool false ∧ wx = w1)
  case first =>
    rcases hm67 with rfl | hm67
    · go_wp2_with fail
      go_meet
      exact ⟨rfl, rfl⟩
    · cases ob
      · go_wp2_with fail
        go_meet
        exact ⟨rfl, rfl⟩
      · go_wp2_with fail
        go_meet
        exact ⟨rfl, rfl⟩
  obtain ⟨rfl, hwc⟩ := hcut
  rw [hwc]
  clear hwc
  clear hm67 HOB k1 k2 k3 k4
  rw [HM.out.1] at r7
  have hmn := HM.out.2.1
  have HO : Hid ((w1.alloc (.cells #[] 3)).ownsRow w1.heap.size 3 1 (.slice (some ⟨w1.heap.size, 0, none⟩) 0 0) 0 []) := World.ownsRow_lit w1 #[] 0 (Nat.le_refl _) (by simp [maxLen]) rfl
  have HC : Hid (∀ j u, (st.map (Value.int .i64))[j]? = some u → (w1.alloc (.cells #[] 3)).cell? (ad.add j) = some u) := by
    have h1 := (HA.out _ (HV1.out.2.2.2.alloc HV1.out.2.2.2.size (.cells #[] 3))).1
    rw [HAD.out] at h1
    exact h1.cellsOf
  have HL : Hid ((st.map (Value.int .i64)).length = st.length * 1) := by show _ = _; simp
  have H1 : Hid (∀ u ∈ st.map (Value.int .i64), u.oneCell' = true) := by show ∀ _, _; simp [Value.oneCell']
  have y13' := (HB15.out (w1.alloc (.cells #[] 3)) _ (HV1.out.1.later (below_one w1 (.cells #[] 3)))).1
  rw [HAD.out] at y13'
  go_upto_region 5 with (at_builtin; refine wpList_own _ rfl 24 3 (.int .i64 0) 1 8 (.tmp 49) (.tmp 51) rfl Try.underlying24 Try.info3 rfl (by omega) w1.heap.size _ 0 [] ad st.length k (st.map (Value.int .i64)) rfl rfl HO.out HL.out HC.out H1.out (by have := HLL.out.1; omega) (by omega) (by simp) ?_; intro v' w2 ho' hg)
  rw [Nat.zero_add] at ho'
  simp only [List.nil_append] at ho'
  obtain ⟨A2, k2, hv⟩ := own_form ho'
  subst hv
  obtain ⟨g, hA2⟩ := (ownT_form ho').2 (by omega)
  subst hA2
  have hb1 : Below w1.heap.size w1 w2 := (below_one w1 _).grown hg (by simp) (fun k hk => Nat.le_of_eq (Option.some.inj hk))
  have HW : Hid ((Box w2 w.heap.size 27 cs ∧ Box w2 (w.heap.size + 1) 30 #[.int .i64 (n 0), .int .i64 (n 1), .int .i64 (n 2), .int .i64 (n 3), .int .i64 (n 4), .int .i64 (n 5), .int .i64 (n 6), .int .i64 (n 7), .int .i64 (n 8), .slice X b.length x] ∧ Box w2 (w.heap.size + 2) 27 #[.int .i64 0, .int .i64 0, .int .i64 0, .int .i64 0, .int .i64 0, .int .i64 0, .int .i64 0, .int .i64 0, .int .i64 0, .int .i64 0, .int .i64 0, .int .i64 0, .int .i64 0, .slice none 0 0, .slice none 0 0] ∧ Below w.heap.size w w2) ∧ w2.ownsRow (w.heap.size + 3) 3 1 (.slice (some ⟨g, 0, none⟩) st.length k2) st.length (st.map (Value.int .i64)) ∧ w.heap.size + 3 ≤ g) := ⟨⟨HV1.out.1.later hb1, HV1.out.2.1.later hb1, HV1.out.2.2.1.later hb1, HV1.out.2.2.2.trans (hb1.mono HV1.out.2.2.2.size)⟩, own_mono ho' HSZ.out, by have h1 := (World.ownsRow.lt ho' g rfl).1; have h2 := HSZ.out; omega⟩
  clear ho' hg hb1 HO HC HL H1 HV1 HSZ y13' y13 y14 r0 r1 r2 r3 r4 r5 r6 r7 r8 r9
  obtain ⟨r0, r1, r2, r3, r4, r5, r6, r7, r8, r9⟩ := box10 HW.out.1.2.1
  rw [HM.out.1] at r7
  obtain ⟨u0, e0⟩ := own_cell HW.out.2.1 (i := m) (by omega)
  have f0 := own_frozen HW.out.2.1 m
  go_upto_region 6 with fail
  obtain ⟨st2, hst2⟩ : ∃ st2 : List Int, st2 = st.set m (n 8) := ⟨_, rfl⟩
  have HL2 : Hid (st2.length = st.length ∧ st2 = st.set (n 7).toNat (n 8)) := by rw [hst2, HM.out.2.2]; exact ⟨List.length_set .., rfl⟩
  have HW3 : Hid ((Box (w2.setCell ⟨g, m, none⟩ (.int .i64 (n 8))) w.heap.size 27 cs ∧ Box (w2.setCell ⟨g, m, none⟩ (.int .i64 (n 8))) (w.heap.size + 1) 30 #[.int .i64 (n 0), .int .i64 (n 1), .int .i64 (n 2), .int .i64 (n 3), .int .i64 (n 4), .int .i64 (n 5), .int .i64 (n 6), .int .i64 (n 7), .int .i64 (n 8), .slice X b.length x] ∧ Box (w2.setCell ⟨g, m, none⟩ (.int .i64 (n 8))) (w.heap.size + 2) 27 #[.int .i64 0, .int .i64 0, .int .i64 0, .int .i64 0, .int .i64 0, .int .i64 0, .int .i64 0, .int .i64 0, .int .i64 0, .int .i64 0, .int .i64 0, .int .i64 0, .int .i64 0, .slice none 0 0, .slice none 0 0] ∧ Below w.heap.size w (w2.setCell ⟨g, m, none⟩ (.int .i64 (n 8)))) ∧ (w2.setCell ⟨g, m, none⟩ (.int .i64 (n 8))).ownsRow (w.heap.size + 3) 3 1 (.slice (some ⟨g, 0, none⟩) st.length k2) st.length (st2.map (Value.int .i64))) := by
    have ht : Turn [g] w2 (w2.setCell ⟨g, m, none⟩ (.int .i64 (n 8))) := (Turn.refl _ _).put (Or.inl (by simp)) _
    have hgl := HW.out.2.2
    have ho := own_store (i := m) (.int .i64 (n 8)) HW.out.2.1 (by omega)
    rw [← List.map_set, ← hst2] at ho
    exact ⟨⟨HW.out.1.1.turn ht (by simp; omega), HW.out.1.2.1.turn ht (by simp; omega), HW.out.1.2.2.1.turn ht (by simp; omega), HW.out.1.2.2.2.trans (ht.below (fun k hk => by have : k = g := by { simpa using hk }; omega) HW.out.1.2.2.2.size)⟩, ho⟩
  generalize w2.setCell ⟨g, m, none⟩ (.int .i64 (n 8)) = w3 at HW3 ⊢
  clear HW hst2 hmn e0 f0 r0 r1 r2 r3 r4 r5 r6 r7 r8 r9
  have HBX : Hid (Box w3 w.heap.size 27 #[.int .i64 c.id, .int .i64 c.m, .int .i64 c.u, .int .i64 c.b, .int .i64 c.cp, .int .i64 c.z, .int .i64 c.s, .int .i64 c.mt, .int .i64 c.o, .int .i64 c.a, .int .i64 c.l, .int .i64 ep, .int .i64 sq, .slice A st.length k, .slice D zs.length d]) := by rw [← HCS.out]; exact HW3.out.1.1
  obtain ⟨y0, y1, y2, y3, y4, y5, y6, y7, y8, y9, y10, y11, y12, y13, y14⟩ := box15 HBX.out
  obtain ⟨f0, f1, f2, f3, f4, f5, f6, f7, f8, f9, f10, f11, f12, f13, f14⟩ := froz15 HBX.out
  go_upto_region 7 with fail
  have HW4 : Hid (StL S c ep sq st2 zs 0 w (w3.setCell ⟨w.heap.size, 13, none⟩ (.slice (some ⟨g, 0, none⟩) st.length k2))) := by
    have ht : Turn [w.heap.size] w3 (w3.setCell ⟨w.heap.size, 13, none⟩ (.slice (some ⟨g, 0, none⟩) st.length k2)) := (Turn.refl _ _).put (Or.inl (by simp)) _
    have hbl : Below w.heap.size w (w3.setCell ⟨w.heap.size, 13, none⟩ (.slice (some ⟨g, 0, none⟩) st.length k2)) := HW3.out.1.2.2.2.setCell (by exact Nat.le_refl _) _
    have ho := own_set (k := 13) (u := .slice (some ⟨g, 0, none⟩) st.length k2) HW3.out.2 HW3.out.1.1 (by decide)
    have hbx := HBX.out.store 13 (.slice (some ⟨g, 0, none⟩) st.length k2)
    rw [← HL2.out.1] at ho hbx ⊢
    obtain ⟨hi, hc3⟩ := ints_own (S := S) ho
    have hst := (HA.out (w3.setCell ⟨w.heap.size, 13, none⟩ (.slice (some ⟨g, 0, none⟩) st2.length k2)) (by rw [HL2.out.1]; exact hbl)).mono (S' := Ext S (w.heap.size + 3) (w3.setCell ⟨w.heap.size, 13, none⟩ (.slice (some ⟨g, 0, none⟩) st2.length k2))) (fun _ h => Or.inl h)
    refine ⟨some ⟨g, 0, none⟩, k2, D, d, ?_, ?_, ⟨?_, ?_, hc3, ?_⟩, ?_, ?_⟩
    · rw [bareQ_zero]; simpa using hbx
    · exact (HW3.out.1.2.2.1.turn (by rw [HL2.out.1]; exact ht) (by simp))
    · exact hi
    · rw [bareQ_zero]; exact hst.2.1
    · rw [bareQ_zero]; exact hst.2.2.2
    · rw [HL2.out.1]; exact hbl
    · have := HW3.out.1.2.2.1.lt; simp; omega
  generalize w3.setCell ⟨w.heap.size, 13, none⟩ (.slice (some ⟨g, 0, none⟩) st.length k2) = w4 at HW4 ⊢
  clear HW3 HBX HB15 HOD HCS y0 y1 y2 y3 y4 y5 y6 y7 y8 y9 y10 y11 y12 y13 y14 f0 f1 f2 f3 f4 f5 f6 f7 f8 f9 f10 f11 f12 f13 f14
  clear HA HAD HM
  go_wp2
  go_loopw [10, 11] (fun i _ wr => ∃ q : Nat, q ≤ zs.length ∧ i = .int .i64 q ∧ StL S c ep sq st2 zs q w wr) (fun i _ _ => zs.length - (intOf i).toNat)
  case atStart => exact ⟨0, by omega, rfl, HW4.out⟩
  case round =>
    obtain ⟨q, hq, rfl, A1, k1, D1, d1, hb1, hb2, hb3, hb4, hb5⟩ := hrel
    clear HW4
    have HZL : Hid ((bareQ zs q).length = zs.length) := bareQ_length zs q
    by_cases hlt : q < zs.length
    · have HZQ : Hid ((bareQ zs q)[q]? = some zs[q]) := bareQ_at hlt
      have HZN : Hid ((bareQ zs q).set q (bareZ zs[q]) = bareQ zs (q + 1)) := bareQ_set hlt
      generalize bareQ zs q = zq at hb1 hb3 HZL HZQ HZN
      generalize zs[q] = z at HZQ HZN
      obtain ⟨gen, slot, full, zw, whole, ps⟩ := z
      have hqz : q < zq.length := by rw [HZL.out]; exact hlt
      have hzq : zq[q] = ⟨gen, slot, full, zw, whole, ps⟩ := by
        have := HZQ.out
        rw [List.getElem?_eq_getElem hqz] at this
        exact Option.some.inj this
      obtain ⟨g1, off, hD, hg1, hc⟩ := hb3.2.1 (by omega)
      have hcq := hc q hqz
      rw [hzq] at hcq
      obtain ⟨Y, y, c0, c1, c2, c3, c4, c5, hps, hy, hy2⟩ := hcq
      dsimp only at c0 c1 c2 c3 c4 c5 hps hy hy2
      clear hc hzq
      have HQ := Lib.hid hqz
      obtain ⟨y0, y1, y2, y3, y4, y5, y6, y7, y8, y9, y10, y11, y12, y13, y14⟩ := box15 hb1
      rw [hD] at y14
      obtain ⟨cs1, hcs1⟩ : ∃ cs1 : Array Value, cs1 = #[.int .i64 c.id, .int .i64 c.m, .int .i64 c.u, .int .i64 c.b, .int .i64 c.cp, .int .i64 c.z, .int .i64 c.s, .int .i64 c.mt, .int .i64 c.o, .int .i64 c.a, .int .i64 c.l, .int .i64 ep, .int .i64 sq, .slice A1 st2.length k1, .slice D1 zq.length d1] := ⟨_, rfl⟩
      have HC1 := Lib.hid hcs1
      have HCN1 : Hid (cs1.size = 15 ∧ cs1.all (·.oneCell') = true) := by rw [hcs1]; exact ⟨rfl, by first | kernel_rfl | simp [Value.oneCell']⟩
      have HB : Hid (Box wr w.heap.size 27 cs1 ∧ Box wr (w.heap.size + 2) 27 #[.int .i64 0, .int .i64 0, .int .i64 0, .int .i64 0, .int .i64 0, .int .i64 0, .int .i64 0, .int .i64 0, .int .i64 0, .int .i64 0, .int .i64 0, .int .i64 0, .int .i64 0, .slice none 0 0, .slice none 0 0] ∧ StAt wr (Ext S (w.heap.size + 3) wr) A1 st2 k1 D1 zq d1 ∧ Below w.heap.size w wr ∧ w.heap.size + 3 ≤ wr.heap.size) := ⟨by rw [hcs1]; exact hb1, hb2, hb3, hb4, hb5⟩
      have HPS : Hid (PrsAt wr (Ext S (w.heap.size + 3) wr) Y ps ∧ ps.length ≤ y ∧ ps.length ≤ 140737488351232) := ⟨hps, hy, hy2⟩
      have hll := HZL.out
      clear hb1 hb2 hb3 hb4 hb5 hD hcs1 hps hy hy2 hg1
      go_upto_region 11 with fail
      have HW5 : Hid (Box (wr.alloc (.cells #[.int .i64 gen, .int .i64 slot, .bool full, .int .i64 zw, .bool whole, .slice Y ps.length y] 51)) wr.heap.size 51 #[.int .i64 gen, .int .i64 slot, .bool full, .int .i64 zw, .bool whole, .slice Y ps.length y]) := Box.fresh wr 51 _
      have hbl := below_one wr (.cells #[.int .i64 gen, .int .i64 slot, .bool full, .int .i64 zw, .bool whole, .slice Y ps.length y] 51)
      have HB5 : Hid (Box (wr.alloc (.cells #[.int .i64 gen, .int .i64 slot, .bool full, .int .i64 zw, .bool whole, .slice Y ps.length y] 51)) w.heap.size 27 cs1 ∧ Box (wr.alloc (.cells #[.int .i64 gen, .int .i64 slot, .bool full, .int .i64 zw, .bool whole, .slice Y ps.length y] 51)) (w.heap.size + 2) 27 #[.int .i64 0, .int .i64 0, .int .i64 0, .int .i64 0, .int .i64 0, .int .i64 0, .int .i64 0, .int .i64 0, .int .i64 0, .int .i64 0, .int .i64 0, .int .i64 0, .int .i64 0, .slice none 0 0, .slice none 0 0] ∧ StAt (wr.alloc (.cells #[.int .i64 gen, .int .i64 slot, .bool full, .int .i64 zw, .bool whole, .slice Y ps.length y] 51)) (Ext S (w.heap.size + 3) wr) A1 st2 k1 D1 zq d1 ∧ Below w.heap.size w (wr.alloc (.cells #[.int .i64 gen, .int .i64 slot, .bool full, .int .i64 zw, .bool whole, .slice Y ps.length y] 51)) ∧ PrsAt (wr.alloc (.cells #[.int .i64 gen, .int .i64 slot, .bool full, .int .i64 zw, .bool whole, .slice Y ps.length y] 51)) (Ext S (w.heap.size + 3) wr) Y ps ∧ wr.heap.size + 1 ≤ (wr.alloc (.cells #[.int .i64 gen, .int .i64 slot, .bool full, .int .i64 zw, .bool whole, .slice Y ps.length y] 51)).heap.size) := ⟨HB.out.1.later hbl, HB.out.2.1.later hbl, HB.out.2.2.1.keep (Kept.of_below hbl (Ext.lt HSS.out HB.out.2.2.2.1.size)), HB.out.2.2.2.1.trans (hbl.mono HB.out.2.2.2.1.size), HPS.out.1.keep (Kept.of_below hbl (Ext.lt HSS.out HB.out.2.2.2.1.size)), by simp⟩
      have HSZ : Hid (w.heap.size + 3 ≤ wr.heap.size) := HB.out.2.2.2.2
      have HS5 : Hid ((∀ g, Ext S (w.heap.size + 3) wr g → g < wr.heap.size) ∧ ∀ w', wr.heap.size ≤ w'.heap.size → ∀ g, Ext S (w.heap.size + 3) wr g → Ext S (w.heap.size + 3) w' g) := ⟨Ext.lt HSS.out HB.out.2.2.2.1.size, fun w' h => Ext.up h⟩
      have HPL : Hid (ps.length ≤ y ∧ ps.length ≤ 140737488351232) := HPS.out.2
      clear hbl HB hll HPS y0 y1 y2 y3 y4 y5 y6 y7 y8 y9 y10 y11 y12 y13 y14 c0 c1 c2 c3 c4 c5
      generalize Ext S (w.heap.size + 3) wr = S5 at HB5 HS5
      generalize wr.alloc (.cells #[.int .i64 gen, .int .i64 slot, .bool full, .int .i64 zw, .bool whole, .slice Y ps.length y] 51) = w5 at HW5 HB5 ⊢
      generalize wr.heap.size = g5 at HW5 HB5 HSZ HS5 ⊢
      obtain ⟨z0, z1, z2, z3, z4, z5⟩ := box6 HW5.out
      obtain ⟨f0, f1, f2, f3, f4, f5⟩ := froz6 HW5.out
      go_upto_region 12 with fail
      have HB6 : Hid (Box (w5.setCell ⟨g5, 4, none⟩ (.bool false)) w.heap.size 27 cs1 ∧ Box (w5.setCell ⟨g5, 4, none⟩ (.bool false)) (w.heap.size + 2) 27 #[.int .i64 0, .int .i64 0, .int .i64 0, .int .i64 0, .int .i64 0, .int .i64 0, .int .i64 0, .int .i64 0, .int .i64 0, .int .i64 0, .int .i64 0, .int .i64 0, .int .i64 0, .slice none 0 0, .slice none 0 0] ∧ StAt (w5.setCell ⟨g5, 4, none⟩ (.bool false)) S5 A1 st2 k1 D1 zq d1 ∧ Below w.heap.size w (w5.setCell ⟨g5, 4, none⟩ (.bool false)) ∧ PrsAt (w5.setCell ⟨g5, 4, none⟩ (.bool false)) S5 Y ps ∧ Box (w5.setCell ⟨g5, 4, none⟩ (.bool false)) g5 51 #[.int .i64 gen, .int .i64 slot, .bool full, .int .i64 zw, .bool false, .slice Y ps.length y] ∧ g5 + 1 ≤ (w5.setCell ⟨g5, 4, none⟩ (.bool false)).heap.size) := by
        have ht : Turn [g5] w5 (w5.setCell ⟨g5, 4, none⟩ (.bool false)) := (Turn.refl _ _).put (Or.inl (by simp)) _
        have hbl : Below g5 w5 (w5.setCell ⟨g5, 4, none⟩ (.bool false)) := (Below.refl _ _).setCell (by exact Nat.le_refl _) _
        have hs := HSZ.out
        have hs2 := HB5.out.2.2.2.2.2
        exact ⟨HB5.out.1.turn ht (by simp; omega), HB5.out.2.1.turn ht (by simp; omega), HB5.out.2.2.1.keep (Kept.of_below hbl HS5.out.1), HB5.out.2.2.2.1.setCell (by show w.heap.size ≤ g5; omega) _, HB5.out.2.2.2.2.1.keep (Kept.of_below hbl HS5.out.1), HW5.out.store 4 (.bool false), by simpa using hs2⟩
      generalize w5.setCell ⟨g5, 4, none⟩ (.bool false) = w6 at HB6 ⊢
      clear HW5 HB5 z0 z1 z2 z3 z4 z5 f0 f1 f2 f3 f4 f5
      obtain ⟨z0, z1, z2, z3, z4, z5⟩ := box6 HB6.out.2.2.2.2.2.1
      have HWI : Hid (Calls Try.prog 30 #[.agg cs1, .int .i64 (q : Nat), .agg #[.int .i64 gen, .int .i64 slot, .bool full, .int .i64 zw, .bool false, .slice Y ps.length y]] w6 (GotVS w6 S5 ⟨c, ep, sq, st2, bareQ zs (q + 1)⟩)) := by
        have := rwith_any c ep sq A1 st2 k1 D1 zq d1 q ⟨gen, slot, full, zw, false, ps⟩ Y y w6 S5 (fun g h => by have h1 := HS5.out.1 g h; have h2 := HB6.out.2.2.2.2.2.2; omega) HB6.out.2.2.1 (by have h1 := HZL.out; have h2 := HLL.out.2; omega) HQ.out HB6.out.2.2.2.2.1 HPL.out.1 HPL.out.2
        rw [← HC1.out, show zq.set q ⟨gen, slot, full, zw, false, ps⟩ = bareQ zs (q + 1) from HZN.out] at this
        exact this
      go_wp2_with (refine list_load27 rfl (.tmp 2) rfl w.heap.size cs1 HB6.out.1 HCN1.out.1 rfl ?_)
      refine HWI.out.mono ?_
      rintro e w7 ⟨A7, k7, D7, d7, rfl, hst7, hb7⟩
      dsimp only at hst7 ⊢
      have hl7 : (bareQ zs (q + 1)).length = zs.length := bareQ_length zs (q + 1)
      obtain ⟨cs7, hcs7⟩ : ∃ cs7 : Array Value, cs7 = #[.int .i64 c.id, .int .i64 c.m, .int .i64 c.u, .int .i64 c.b, .int .i64 c.cp, .int .i64 c.z, .int .i64 c.s, .int .i64 c.mt, .int .i64 c.o, .int .i64 c.a, .int .i64 c.l, .int .i64 ep, .int .i64 sq, .slice A7 st2.length k7, .slice D7 (bareQ zs (q + 1)).length d7] := ⟨_, rfl⟩
      have HC7 := Lib.hid hcs7
      have HCN7 : Hid (cs7.size = 15 ∧ cs7.all (·.oneCell') = true) := by rw [hcs7]; exact ⟨rfl, by first | kernel_rfl | simp [Value.oneCell']⟩
      have HB7 : Hid (Box w7 w.heap.size 27 cs1 ∧ Box w7 (w.heap.size + 2) 27 #[.int .i64 0, .int .i64 0, .int .i64 0, .int .i64 0, .int .i64 0, .int .i64 0, .int .i64 0, .int .i64 0, .int .i64 0, .int .i64 0, .int .i64 0, .int .i64 0, .int .i64 0, .slice none 0 0, .slice none 0 0] ∧ StAt w7 (Ext S (w.heap.size + 3) w7) A7 st2 k7 D7 (bareQ zs (q + 1)) d7 ∧ Below w.heap.size w w7 ∧ w.heap.size + 3 ≤ w7.heap.size) := by
        have h1 := HSZ.out
        have h2 := HB6.out.2.2.2.2.2.2
        have h3 := hb7.size
        refine ⟨HB6.out.1.later hb7, HB6.out.2.1.later hb7, hst7.mono (fun g h => h.elim (fun h => HS5.out.2 w7 (by omega) g h) (fun h => Or.inr ⟨by omega, h.2⟩)), HB6.out.2.2.2.1.trans (hb7.mono (by omega)), by omega⟩
      rw [← hcs7]
      clear hcs7 HB6 HWI hst7 hb7 hl7 z0 z1 z2 z3 z4 z5
      go_wp2_with (refine list_store27 rfl (.tmp 2) (.tmp 77) rfl w.heap.size cs7 cs1 HB7.out.1 HCN1.out.1 HCN7.out.1 HCN7.out.2 rfl rfl (fun w8 q1 q2 => ?_))
      have HS8 : Hid (StL S c ep sq st2 zs (q + 1) w w8) := by
        have ht := q2 [w.heap.size] (by simp)
        refine ⟨A7, k7, D7, d7, by rw [← HC7.out]; exact q1, HB7.out.2.1.turn ht (by simp), HB7.out.2.2.1.ext HSS.out HB7.out.2.2.2.1.size ht (by simp), HB7.out.2.2.2.1.trans (ht.below (by simp) HB7.out.2.2.2.1.size), Nat.le_trans HB7.out.2.2.2.2 ht.size⟩
      clear HB7 q1 q2
      have hlz := HLL.out.2
      go_roundw
      case rel => exact ⟨q + 1, by omega, by rw [wrap_in (by omega) (by omega)]; rfl, HS8.out⟩
      case measure =>
        rw [wrap_in (by omega) (by omega)]
        simp [intOf]
        omega
    · obtain rfl : q = zs.length := by omega
      obtain ⟨y0, y1, y2, y3, y4, y5, y6, y7, y8, y9, y10, y11, y12, y13, y14⟩ := box15 hb1
      have hll := HZL.out
      obtain ⟨cs1, hcs1⟩ : ∃ cs1 : Array Value, cs1 = #[.int .i64 c.id, .int .i64 c.m, .int .i64 c.u, .int .i64 c.b, .int .i64 c.cp, .int .i64 c.z, .int .i64 c.s, .int .i64 c.mt, .int .i64 c.o, .int .i64 c.a, .int .i64 c.l, .int .i64 ep, .int .i64 sq, .slice A1 st2.length k1, .slice D1 (bareQ zs zs.length).length d1] := ⟨_, rfl⟩
      have HC1 := Lib.hid hcs1
      have HCN1 : Hid (cs1.size = 15 ∧ cs1.all (·.oneCell') = true) := by rw [hcs1]; exact ⟨rfl, by first | kernel_rfl | simp [Value.oneCell']⟩
      have HB : Hid (Box wr w.heap.size 27 cs1 ∧ Box wr (w.heap.size + 2) 27 #[.int .i64 0, .int .i64 0, .int .i64 0, .int .i64 0, .int .i64 0, .int .i64 0, .int .i64 0, .int .i64 0, .int .i64 0, .int .i64 0, .int .i64 0, .int .i64 0, .int .i64 0, .slice none 0 0, .slice none 0 0] ∧ StAt wr (Ext S (w.heap.size + 3) wr) A1 st2 k1 D1 (zs.map bareZ) d1 ∧ Below w.heap.size w wr ∧ w.heap.size + 3 ≤ wr.heap.size) := ⟨by rw [hcs1]; exact hb1, hb2, by rw [bareQ_all] at hb3; exact hb3, hb4, hb5⟩
      rw [bareQ_all] at hcs1
      have HC2 := Lib.hid hcs1
      clear hb1 hb2 hb3 hb4 hb5 hcs1
      go_wp2_with (first | (refine list_load27 rfl (.tmp 2) rfl w.heap.size cs1 HB.out.1 HCN1.out.1 rfl ?_) | (refine list_store27 rfl (.tmp 4) (.tmp 78) rfl (w.heap.size + 2) cs1 _ HB.out.2.1 rfl HCN1.out.1 HCN1.out.2 rfl rfl (fun w5 q1 q2 => ?_)))
      have ht := q2 [w.heap.size + 2] (by simp)
      have hbel : Below w.heap.size w w5 := HB.out.2.2.2.1.trans (ht.below (by simp) HB.out.2.2.2.1.size)
      have hst := (HB.out.2.2.1.ext HSS.out HB.out.2.2.2.1.size ht (by simp)).mono (Ext.low (show w.heap.size ≤ w.heap.size + 3 by omega))
      exact bodyPost_ret (v := .tuple #[.agg cs1, .bool true]) (res28 rfl rfl q1 HCN1.out.1) rfl ⟨true, ⟨c, ep, sq, st2, zs.map bareZ⟩, A1, k1, D1, d1, by rw [HC2.out], iff_of_true rfl (by rw [HPP.out]; exact HYES.out), fun _ => by rw [HS2.out, HL2.out.2], hst, hbel⟩
end Go.Proofs.Ytaceaemombnhkaa
namespace Go.Proofs.Ytaceaemombnhkaa
set_option linter.unusedVariables false
set_option maxRecDepth 100000
set_option linter.unusedSimpArgs false
open Go.RowKit
open Go.RowKit (wrap64)

/-- The zones behind a record of one. -/
def nextZs (st : List Int) (zs : List Zn) (n : Nat → Int) (b : List UInt8) : List Zn :=
  match zs[(n 3).toNat]? with
  | some z => zs.set (n 3).toNat (nextZ (decide (2 ∈ st)) z n b)
  | none => zs
/-- A state behind a record that follows. -/
def nextS (s : St) (n : Nat → Int) (b : List UInt8) : St :=
  if n 0 = 6 then ⟨s.c, s.ep, n 2, s.st.set (n 7).toNat (n 8), s.zs.map bareZ⟩ else ⟨s.c, s.ep, n 2, s.st, nextZs s.st s.zs n b⟩
/-- What Apply answers. -/
def Applied (s : St) (n : Nat → Int) (b : List UInt8) (t : St) (er : Int) : Prop :=
  (¬ RightS s ∧ t = zeroS ∧ er = 1) ∨ (RightS s ∧ ¬ FollowR s.c s.ep s.sq s.st s.zs n b ∧ t = zeroS ∧ er = 13) ∨ (RightS s ∧ FollowR s.c s.ep s.sq s.st s.zs n b ∧ t = nextS s n b ∧ er = 0)
theorem Applied.same {s : St} {n : Nat → Int} {b : List UInt8} {t t' : St} {er er' : Int} (h : Applied s n b t er) (h' : Applied s n b t' er') : t = t' ∧ er = er' := by
  rcases h with ⟨h1, h2, h3⟩ | ⟨h1, h2, h3, h4⟩ | ⟨h1, h2, h3, h4⟩ <;> rcases h' with ⟨g1, g2, g3⟩ | ⟨g1, g2, g3, g4⟩ | ⟨g1, g2, g3, g4⟩ <;> first
    | exact absurd h1 g1
    | exact absurd g1 h1
    | exact absurd h2 g2
    | exact absurd g2 h2
    | (subst_vars; exact ⟨rfl, rfl⟩)
def GotA (w : World) (s : St) (n : Nat → Int) (b : List UInt8) (e : Ending) (w' : World) : Prop :=
  ∃ (t : St) (er : Int) (A : Option Addr) (k : Nat) (D : Option Addr) (d : Nat), e = .returned (.tuple #[(.agg #[.int .i64 t.c.id, .int .i64 t.c.m, .int .i64 t.c.u, .int .i64 t.c.b, .int .i64 t.c.cp, .int .i64 t.c.z, .int .i64 t.c.s, .int .i64 t.c.mt, .int .i64 t.c.o, .int .i64 t.c.a, .int .i64 t.c.l, .int .i64 t.ep, .int .i64 t.sq, .slice A t.st.length k, .slice D t.zs.length d]), .int .i64 er]) ∧ Applied s n b t er ∧ StAt w' (LT w'.heap.size) A t.st k D t.zs d ∧ Below w.heap.size w w'
theorem StAt.zero {w : World} {S : Nat → Prop} : StAt w S none [] 0 none [] 0 := ⟨IntsAt.nil, ZnsAt.nil, Nat.le_refl _, Nat.le_refl _⟩
theorem GotA.arg {w w' : World} {s : St} {n : Nat → Int} {b : List UInt8} (h : ¬ RightS s) (hb : Below w.heap.size w w') : GotA w s n b (.returned (.tuple #[.agg #[.int .i64 0, .int .i64 0, .int .i64 0, .int .i64 0, .int .i64 0, .int .i64 0, .int .i64 0, .int .i64 0, .int .i64 0, .int .i64 0, .int .i64 0, .int .i64 0, .int .i64 0, .slice none 0 0, .slice none 0 0], .int .i64 1])) w' :=
  ⟨zeroS, 1, none, 0, none, 0, rfl, Or.inl ⟨h, rfl, rfl⟩, StAt.zero, hb⟩
theorem GotA.form {w w' : World} {s : St} {n : Nat → Int} {b : List UInt8} (h : RightS s) (h2 : ¬ FollowR s.c s.ep s.sq s.st s.zs n b) (hb : Below w.heap.size w w') : GotA w s n b (.returned (.tuple #[.agg #[.int .i64 0, .int .i64 0, .int .i64 0, .int .i64 0, .int .i64 0, .int .i64 0, .int .i64 0, .int .i64 0, .int .i64 0, .int .i64 0, .int .i64 0, .int .i64 0, .int .i64 0, .slice none 0 0, .slice none 0 0], .int .i64 13])) w' :=
  ⟨zeroS, 13, none, 0, none, 0, rfl, Or.inr (Or.inl ⟨h, h2, rfl, rfl⟩), StAt.zero, hb⟩
theorem GotA.next {w w' : World} {s : St} {n : Nat → Int} {b : List UInt8} {A D : Option Addr} {k d : Nat} {t : St} (h : RightS s) (h2 : FollowR s.c s.ep s.sq s.st s.zs n b) (ht : t = nextS s n b) (hs : StAt w' (LT w'.heap.size) A t.st k D t.zs d) (hb : Below w.heap.size w w') : GotA w s n b (.returned (.tuple #[(.agg #[.int .i64 t.c.id, .int .i64 t.c.m, .int .i64 t.c.u, .int .i64 t.c.b, .int .i64 t.c.cp, .int .i64 t.c.z, .int .i64 t.c.s, .int .i64 t.c.mt, .int .i64 t.c.o, .int .i64 t.c.a, .int .i64 t.c.l, .int .i64 t.ep, .int .i64 t.sq, .slice A t.st.length k, .slice D t.zs.length d]), .int .i64 0])) w' :=
  ⟨t, 0, A, k, D, d, rfl, Or.inr (Or.inr ⟨h, h2, ht, rfl⟩), hs, hb⟩
theorem nextS_status {c : Cf} {ep sq : Int} {st : List Int} {zs : List Zn} {n : Nat → Int} {b : List UInt8} (h : n 0 = 6) : nextS ⟨c, ep, sq, st, zs⟩ n b = ⟨c, ep, n 2, st.set (n 7).toNat (n 8), zs.map bareZ⟩ := if_pos h
theorem nextS_zone {c : Cf} {ep sq : Int} {st : List Int} {zs : List Zn} {n : Nat → Int} {b : List UInt8} {q : Nat} (h : n 0 ≠ 6) (hq : q < zs.length) (hn : n 3 = (q : Int)) : nextS ⟨c, ep, sq, st, zs⟩ n b = ⟨c, ep, n 2, st, zs.set q (nextZ (decide (2 ∈ st)) zs[q] n b)⟩ := by
  unfold nextS
  rw [if_neg h]
  unfold nextZs
  simp only
  rw [show (n 3).toNat = q by omega, List.getElem?_eq_getElem hq]
theorem zoneFits_at {c : Cf} {st : List Int} {zs : List Zn} {n : Nat → Int} {b : List UInt8} {q : Nat} (hq : q < zs.length) (hn : n 3 = (q : Int)) : ZoneFits c st zs n b ↔ FitsR c st zs zs[q] n b := by
  constructor
  · rintro ⟨q', z, h1, h2, h3⟩
    obtain rfl : q' = q := by omega
    rw [List.getElem?_eq_getElem hq] at h2
    obtain rfl := Option.some.inj h2
    exact h3
  · intro h
    exact ⟨q, zs[q], hn, List.getElem?_eq_getElem hq, h⟩
theorem zoneFits_in {c : Cf} {st : List Int} {zs : List Zn} {n : Nat → Int} {b : List UInt8} (h : ZoneFits c st zs n b) : ∃ q, q < zs.length ∧ n 3 = (q : Int) := by
  obtain ⟨q, z, h1, h2, _⟩ := h
  exact ⟨q, (List.getElem?_eq_some_iff.1 h2).1, h1⟩
/-- The rows in blocks that stay. -/
theorem ZOwn.on {w w' : World} {lo : Nat} (hk : KeepB lo w w') : ∀ {zs : List Zn} {zx : List Value} {bs : List Nat}, ZOwn w lo zs zx bs → (∀ k ∈ bs, w'.heap[k]? = w.heap[k]?) → ZOwn w' lo zs zx bs
  | [], _, _, h, _ => h
  | _ :: _, _, _, ⟨Y, y, xs, zx', bs', e, h1, h2, h3, h4⟩, hs => by
    subst h3
    refine ⟨Y, y, xs, zx', bs', e, ⟨h1.1, ?_⟩, h2.keepB hk, rfl, h4.on hk (fun k hk => hs k (List.mem_append_right _ hk))⟩
    rcases h1.2 with h | ⟨g, cap, cur, hv, hg, hh, hr⟩
    · exact Or.inl h
    · exact Or.inr ⟨g, cap, cur, hv, hg, (hs g (List.mem_append_left _ (by rw [hv]; simp [Value.ownBlock]))).trans hh, hr⟩
/-- One zone's row. -/
theorem ZOwn.at_ {w : World} {lo : Nat} : ∀ {zs : List Zn} {zx : List Value} {bs : List Nat} {q : Nat} (hq : q < zs.length), ZOwn w lo zs zx bs → ∃ Y y xs, zx[q * 6 + 5]? = some (.slice Y zs[q].ps.length y) ∧ w.ownsRow lo 55 2 (.slice Y zs[q].ps.length y) zs[q].ps.length xs ∧ PsRow w (NB lo w) zs[q].ps xs
  | _ :: _, _, _, 0, _, ⟨Y, y, xs, zx', bs', rfl, h1, h2, _, _⟩ => ⟨Y, y, xs, rfl, h1, h2⟩
  | _ :: _, _, _, q + 1, hq, ⟨_, _, _, zx', bs', rfl, _, _, _, h4⟩ => by
    obtain ⟨Y, y, xs, g1, g2, g3⟩ := ZOwn.at_ (q := q) (by simpa using hq) h4
    refine ⟨Y, y, xs, ?_, g2, g3⟩
    rw [show (q + 1) * 6 + 5 = q * 6 + 5 + 6 by omega]
    simpa using g1
theorem ZOwn.bare {w : World} {lo : Nat} : ∀ {zs : List Zn} {zx : List Value} {bs : List Nat} {q : Nat} (hq : q < zs.length), ZOwn w lo zs zx bs → ZOwn w lo (zs.set q (bareZ zs[q])) (zx.set (q * 6 + 4) (.bool false)) bs
  | _ :: _, _, _, 0, _, ⟨Y, y, xs, zx', bs', rfl, h1, h2, h3, h4⟩ => ⟨Y, y, xs, zx', bs', rfl, h1, h2, h3, h4⟩
  | _ :: _, _, _, q + 1, hq, ⟨Y, y, xs, zx', bs', rfl, h1, h2, h3, h4⟩ => by
    refine ⟨Y, y, xs, _, bs', ?_, h1, h2, h3, ZOwn.bare (q := q) (by simpa using hq) h4⟩
    rw [show (q + 1) * 6 + 4 = q * 6 + 4 + 6 by omega]
    simp
theorem ZOwn.mem {w : World} {lo : Nat} : ∀ {zs : List Zn} {zx : List Value} {bs : List Nat} {q : Nat} {v : Value}, ZOwn w lo zs zx bs → q < zs.length → zx[q * 6 + 5]? = some v → ∀ k ∈ v.ownBlock.toList, k ∈ bs
  | _ :: _, _, _, 0, v, ⟨Y0, y0, xs, zx', bs', rfl, _, _, rfl, _⟩, _, hv, k, hk => by
    obtain rfl : Value.slice Y0 _ y0 = v := by simpa using hv
    exact List.mem_append_left _ hk
  | _ :: _, _, _, q + 1, v, ⟨Y0, y0, xs, zx', bs', rfl, _, _, rfl, h4⟩, hq, hv, k, hk => by
    rw [show (q + 1) * 6 + 5 = q * 6 + 5 + 6 by omega] at hv
    exact List.mem_append_right _ (ZOwn.mem h4 (by simpa using hq) (by simpa using hv) k hk)
/-- The zones as they are read, behind a turn of one's row, with another one in its place. -/
theorem ZOwn.other {w w' : World} {lo : Nat} (hkb : KeepB lo w w') {z : Zn} {Y : Option Addr} {y : Nat} (hp : PrsAt w' (TB lo w') Y z.ps) (hy : z.ps.length ≤ y) (hz : z.ps.length ≤ 140737488351232) :
    ∀ {zs : List Zn} {zx : List Value} {bs : List Nat} {q : Nat} (v : Value), ZOwn w lo zs zx bs → bs.Nodup → q < zs.length → (∀ z ∈ zs, z.ps.length ≤ 140737488351232) → zx[q * 6 + 5]? = some v → (∀ k, k < w.heap.size → k ∉ v.ownBlock.toList → w'.heap[k]? = w.heap[k]?) →
    ZsRow w' (TB lo w') (zs.set q z) (set6 zx (q * 6) (.int .i64 z.gen) (.int .i64 z.slot) (.bool z.full) (.int .i64 z.w) (.bool z.whole) (.slice Y z.ps.length y))
  | [], _, _, _, _, _, _, hq, _, _, _ => absurd hq (by simp)
  | _ :: zs, _, _, 0, v, ⟨Y0, y0, xs, zx', bs', rfl, h1, h2, rfl, h4⟩, hn, _, hl, hv, ht => by
    obtain rfl : Value.slice Y0 _ y0 = v := by simpa using hv
    rw [List.nodup_append] at hn
    have h4' := h4.on hkb (fun k hk => ht k (h4.lt k hk).2 (fun hm => hn.2.2 k hm k hk rfl))
    exact ⟨Y, y, zx', rfl, hp, hy, hz, h4'.row fun q hq => hl q (List.mem_cons_of_mem _ hq)⟩
  | z0 :: zs, _, _, q + 1, v, ⟨Y0, y0, xs, zx', bs', rfl, h1, h2, rfl, h4⟩, hn, hq, hl, hv, ht => by
    rw [List.nodup_append] at hn
    have hq' : q < zs.length := by simpa using hq
    have hv' : zx'[q * 6 + 5]? = some v := by
      rw [show (q + 1) * 6 + 5 = q * 6 + 5 + 6 by omega] at hv
      simpa using hv
    have ih := ZOwn.other hkb hp hy hz (q := q) v h4 hn.2.1 hq' (fun q hq => hl q (List.mem_cons_of_mem _ hq)) hv' ht
    have hmem : ∀ k ∈ v.ownBlock.toList, k ∈ bs' := ZOwn.mem h4 hq' hv'
    have h1' : w'.ownsRow lo 55 2 (.slice Y0 z0.ps.length y0) z0.ps.length xs := by
      refine ⟨h1.1, ?_⟩
      rcases h1.2 with h | ⟨g, cap, cur, hv, hg, hh, hr⟩
      · exact Or.inl h
      · refine Or.inr ⟨g, cap, cur, hv, hg, (ht g (Array.getElem?_eq_some_iff.1 hh).1 (fun hm => ?_)).trans hh, hr⟩
        exact hn.2.2 g (by rw [hv]; simp [Value.ownBlock]) g (hmem g hm) rfl
    obtain ⟨Y2, y2, e, h5, h6⟩ := (h2.keepB hkb).row h1'
    simp only [Value.slice.injEq, true_and] at e
    obtain ⟨rfl, rfl⟩ := e
    refine ⟨Y0, y0, _, ?_, h5, h6, hl z0 List.mem_cons_self, ih⟩
    rw [show (q + 1) * 6 = q * 6 + 6 by omega]
    simp [set6]
end Go.Proofs.Ytaceaemombnhkaa
