/- The contract of the reference's Put. -/
import Derived.Test.YtaceaemombnhkaaSl
namespace Go.Proofs.Ytaceaemombnhkaa
set_option linter.unusedVariables false
set_option maxRecDepth 100000
set_option linter.unusedSimpArgs false
open Go.RowKit
open Go.RowKit (wrap64)

theorem Box.atO {w : World} {g B : Nat} {t : TypeId} {cs : Array Value} {i : Nat} {v : Value} (h : Box w g t cs) (ht : t ≠ 5) (hv : cs[i]? = some v) : ∀ w', Ofb B w w' → w'.cell? ⟨g, i, none⟩ = some v := fun w' hb => by
  rw [(h.off hb ht).cell]
  exact hv
theorem cellO {w : World} {p : Addr} {v : Value} {B : Nat} (h : w.cell? p = some v) (hp : p.block < B) (hB : B ≤ w.heap.size) : ∀ w', Ofb B w w' → w'.cell? p = some v := fun w' hb => ((hb.to hB).cell hp).trans h
def GaveE (w : World) (E : List UInt8) (e : Ending) (w' : World) : Prop := ∃ D d, e = .returned (.slice D E.length d) ∧ Rd w' w'.heap.size D E ∧ Below w.heap.size w w'
theorem GaveE.of {w : World} {E : List UInt8} {e : Ending} {w' : World} (h : GaveO w E e w') : GaveE w E e w' := by
  obtain ⟨v, rfl, ho, hb⟩ := h
  obtain ⟨D, d, rfl, hd, _, _⟩ := ho.rd
  exact ⟨D, d, rfl, hd, hb⟩
theorem rintE (x : Int) (E : List UInt8) (hE : le8 x = E) (w : World) : Calls Try.prog 35 #[.int .i64 x] w (GaveE w E) := (refInt_any x w).mono fun e w' h => by rw [← hE]; exact GaveE.of h
theorem rflagE (x : Bool) (E : List UInt8) (hE : fB x = E) (w : World) : Calls Try.prog 36 #[.bool x] w (GaveE w E) := (refFlag_any x w).mono fun e w' h => by rw [← hE]; exact GaveE.of h
theorem rbytesE (X : Option Addr) (c : Nat) (x E : List UInt8) (hE : le8 x.length ++ x = E) (hl : x.length ≤ 2000000) (w : World) (hx : Rd w w.heap.size X x) : Calls Try.prog 37 #[.slice X x.length c] w (GaveE w E) := (refBytes_any X c x w hx hl).mono fun e w' h => by rw [← hE]; exact GaveE.of h
/-- The row of bytes beside the state's block. -/
structure PutIn (c : Cf) (ep sq : Int) (A : Option Addr) (st : List Int) (k : Nat) (D : Option Addr) (zs : List Zn) (d : Nat) (w : World) (b : Value) (L : List UInt8) (wr : World) : Prop where
  own : Own wr w.heap.size 5 b L
  box : Box wr w.heap.size 27 #[.int .i64 c.id, .int .i64 c.m, .int .i64 c.u, .int .i64 c.b, .int .i64 c.cp, .int .i64 c.z, .int .i64 c.s, .int .i64 c.mt, .int .i64 c.o, .int .i64 c.a, .int .i64 c.l, .int .i64 ep, .int .i64 sq, .slice A st.length k, .slice D zs.length d]
  below : Below w.heap.size w wr
theorem PutIn.later {c : Cf} {ep sq : Int} {A : Option Addr} {st : List Int} {k : Nat} {D : Option Addr} {zs : List Zn} {d : Nat} {w wr w2 : World} {b : Value} {L : List UInt8} (h : PutIn c ep sq A st k D zs d w b L wr) (hb : Below wr.heap.size wr w2) : PutIn c ep sq A st k D zs d w b L w2 :=
  ⟨h.own.later hb, h.box.later hb, h.below.trans (hb.mono h.below.size)⟩
theorem PutIn.grown {c : Cf} {ep sq : Int} {A : Option Addr} {st : List Int} {k : Nat} {D : Option Addr} {zs : List Zn} {d : Nat} {w wr w2 : World} {b b2 : Value} {L L2 : List UInt8} (h : PutIn c ep sq A st k D zs d w b L wr) (hg : wr.grownBy w2 b.ownBlock) (ho : Own w2 w.heap.size 5 b2 L2) : PutIn c ep sq A st k D zs d w b2 L2 w2 :=
  ⟨ho, h.box.off (Ofb.grown h.own hg) (by decide), h.below.trans ((Ofb.grown h.own hg).to h.below.size)⟩
/-- And a zone's. -/
structure PutZn (c : Cf) (ep sq : Int) (A : Option Addr) (st : List Int) (k : Nat) (D : Option Addr) (zs : List Zn) (d : Nat) (w : World) (gz : Nat) (cz : Array Value) (b : Value) (L : List UInt8) (wr : World) : Prop where
  own : Own wr w.heap.size 5 b L
  box : Box wr w.heap.size 27 #[.int .i64 c.id, .int .i64 c.m, .int .i64 c.u, .int .i64 c.b, .int .i64 c.cp, .int .i64 c.z, .int .i64 c.s, .int .i64 c.mt, .int .i64 c.o, .int .i64 c.a, .int .i64 c.l, .int .i64 ep, .int .i64 sq, .slice A st.length k, .slice D zs.length d]
  below : Below w.heap.size w wr
  zone : Box wr gz 51 cz
theorem PutZn.later {c : Cf} {ep sq : Int} {A : Option Addr} {st : List Int} {k : Nat} {D : Option Addr} {zs : List Zn} {d : Nat} {w wr w2 : World} {gz : Nat} {cz : Array Value} {b : Value} {L : List UInt8} (h : PutZn c ep sq A st k D zs d w gz cz b L wr) (hb : Below wr.heap.size wr w2) : PutZn c ep sq A st k D zs d w gz cz b L w2 :=
  ⟨h.own.later hb, h.box.later hb, h.below.trans (hb.mono h.below.size), h.zone.later hb⟩
theorem PutZn.grown {c : Cf} {ep sq : Int} {A : Option Addr} {st : List Int} {k : Nat} {D : Option Addr} {zs : List Zn} {d : Nat} {w wr w2 : World} {gz : Nat} {cz : Array Value} {b b2 : Value} {L L2 : List UInt8} (h : PutZn c ep sq A st k D zs d w gz cz b L wr) (hg : wr.grownBy w2 b.ownBlock) (ho : Own w2 w.heap.size 5 b2 L2) : PutZn c ep sq A st k D zs d w gz cz b2 L2 w2 :=
  ⟨ho, h.box.off (Ofb.grown h.own hg) (by decide), h.below.trans ((Ofb.grown h.own hg).to h.below.size), h.zone.off (Ofb.grown h.own hg) (by decide)⟩
/-- What Put answers. -/
def PutG (w : World) (s : St) (e : Ending) (w' : World) : Prop := ∃ L, (RightS s → L = putS s) ∧ (¬ RightS s → L = []) ∧ GaveB w L e w'
theorem putZs_le : ∀ l : List Zn, (∀ z ∈ l, z.ps.length ≤ 2 ∧ ∀ p ∈ z.ps, p.b.length ≤ 262144) → (putZs l).length ≤ 600000 * l.length
  | [], _ => by simp [putZs]
  | z :: l, h => by
    have h1 := putZs_le l (fun q hq => h q (List.mem_cons_of_mem _ hq))
    obtain ⟨h2, h3⟩ := h z List.mem_cons_self
    have h4 := putPs_le (M := 262144) z.ps h3
    have h5 := headZ_length z
    have h6 : (16 + 262144) * z.ps.length ≤ (16 + 262144) * 2 := Nat.mul_le_mul_left _ h2
    show (headZ z ++ putPs z.ps ++ putZs l).length ≤ 600000 * (l.length + 1)
    simp only [List.length_append]
    omega
theorem right_sizes {s : St} (h : RightS s) : s.st.length ≤ 16 ∧ s.zs.length ≤ 64 ∧ ∀ z ∈ s.zs, z.ps.length ≤ 2 ∧ ∀ p ∈ z.ps, p.b.length ≤ 262144 := by
  have hg := check_good0 h.conf
  have h1 := h.stat
  have h2 := h.zone
  unfold Good at hg
  refine ⟨by omega, by omega, fun z hz => ?_⟩
  have h3 := (h.be z hz).have_
  refine ⟨h3.2, fun p hp => ?_⟩
  have h4 := (h3.1 p hp).2
  have h5 := mul_in (a := s.c.u) (b := s.c.b) (A := 64) (B := 4096) (by omega) (by omega) (by omega) (by omega)
  omega
set_option maxHeartbeats 8000000 in
theorem rput_any (c : Cf) (ep sq : Int) (A : Option Addr) (st : List Int) (k : Nat) (D : Option Addr) (zs : List Zn) (d : Nat) (w : World) (h : StAt w (LT w.heap.size) A st k D zs d) (hl1 : st.length ≤ 1000000) (hl2 : zs.length ≤ 1000000) :
    Calls Try.prog 14 #[(.agg #[.int .i64 c.id, .int .i64 c.m, .int .i64 c.u, .int .i64 c.b, .int .i64 c.cp, .int .i64 c.z, .int .i64 c.s, .int .i64 c.mt, .int .i64 c.o, .int .i64 c.a, .int .i64 c.l, .int .i64 ep, .int .i64 sq, .slice A st.length k, .slice D zs.length d])] w (PutG w ⟨c, ep, sq, st, zs⟩) := by
  obtain ⟨i0, hi, hz0, hz1, hz2⟩ := info_parts Try.info5
  have I1 := Lib.hid hi
  have I2 := Lib.hid hz0
  have I3 := Lib.hid hz1
  have I4 := Lib.hid hz2
  clear hi hz0 hz1 hz2
  have HA : Hid (∀ w', Below w.heap.size w w' → StAt w' (LT w.heap.size) A st k D zs d) := fun w' hb => h.keep (Kept.below hb)
  go_enter Try.func14, Try.ntmps14
  go_upto_region 1 with fail
  have HV := Lib.hid (StIn.new (c := c) (ep := ep) (sq := sq) h)
  generalize (w.alloc (.cells #[.int .i64 c.id, .int .i64 c.m, .int .i64 c.u, .int .i64 c.b, .int .i64 c.cp, .int .i64 c.z, .int .i64 c.s, .int .i64 c.mt, .int .i64 c.o, .int .i64 c.a, .int .i64 c.l, .int .i64 ep, .int .i64 sq, .slice A st.length k, .slice D zs.length d] 27)) = w0 at HV ⊢
  clear h
  obtain ⟨y0, y1, y2, y3, y4, y5, y6, y7, y8, y9, y10, y11, y12, y13, y14⟩ := box15 HV.out.1
  go_wp2_with fail
  refine (rright_any c ep sq A st k D zs d w0 HV.out.2.1 hl1 hl2).mono ?_
  rintro e w1 ⟨r, rfl, hr, hb⟩
  have HS1 : Hid (PutIn c ep sq A st k D zs d w (.slice none 0 0) [] w1) := ⟨World.ownsRow_nil _ _ _ _, HV.out.1.later hb, HV.out.2.2.trans (hb.mono HV.out.2.2.size)⟩
  clear hb HV y0 y1 y2 y3 y4 y5 y6 y7 y8 y9 y10 y11 y12 y13 y14
  cases r with
  | false =>
    have HN : Hid (¬ RightS ⟨c, ep, sq, st, zs⟩) := fun h => by have := hr.2 h; simp at this
    clear hr
    go_wp2
    go_ret
    exact ⟨[], fun h => absurd h HN.out, fun _ => rfl, none, 0, rfl, Rd.nil, Nat.le_refl _, HS1.out.below⟩
  | true =>
    have HR : Hid (RightS ⟨c, ep, sq, st, zs⟩) := hr.1 rfl
    clear hr
    have HZ := Lib.hid (right_sizes HR.out)
    obtain ⟨E0, hE0⟩ : ∃ E, les c 11 = E := ⟨_, rfl⟩
    obtain ⟨E1, hE1⟩ : ∃ E, le8 ep = E := ⟨_, rfl⟩
    obtain ⟨E2, hE2⟩ : ∃ E, le8 sq = E := ⟨_, rfl⟩
    have hn0 : E0.length = 88 := by rw [← hE0, les_length c 11 (by omega)]
    have hn1 : E1.length = 8 := by rw [← hE1, le8_length]
    have hn2 : E2.length = 8 := by rw [← hE2, le8_length]
    have HP0 : Hid (∀ w, Calls Try.prog 34 #[(.agg #[.int .i64 c.id, .int .i64 c.m, .int .i64 c.u, .int .i64 c.b, .int .i64 c.cp, .int .i64 c.z, .int .i64 c.s, .int .i64 c.mt, .int .i64 c.o, .int .i64 c.a, .int .i64 c.l])] w (GaveO w E0)) := fun w => by rw [← hE0]; exact refPut_any c w
    have HPS : Hid (putS ⟨c, ep, sq, st, zs⟩ = E0 ++ E1 ++ E2 ++ putIs st ++ putZs zs) := by
      show putS _ = _
      unfold putS
      rw [hE0, hE1, hE2]
      simp only [List.append_assoc]
    have H1 := Lib.hid hE1
    have H2 := Lib.hid hE2
    have HN := Lib.hid (And.intro hn0 (And.intro hn1 hn2))
    clear hE0 hE1 hE2 hn0 hn1 hn2
    go_upto_region 3 with fail
    refine wpO_start w.heap.size (by kernel_rfl) ?_
    have HS2 : Hid (PutIn c ep sq A st k D zs d w (.slice none 0 0) [] w1.drew) := HS1.out.later (Below.refl _ _).drew
    generalize w1.drew = w2 at HS2 ⊢
    clear HS1
    have y0 := Box.atO (B := w.heap.size) HS2.out.box (by decide) (i := 0) rfl
    have y1 := Box.atO (B := w.heap.size) HS2.out.box (by decide) (i := 1) rfl
    have y2 := Box.atO (B := w.heap.size) HS2.out.box (by decide) (i := 2) rfl
    have y3 := Box.atO (B := w.heap.size) HS2.out.box (by decide) (i := 3) rfl
    have y4 := Box.atO (B := w.heap.size) HS2.out.box (by decide) (i := 4) rfl
    have y5 := Box.atO (B := w.heap.size) HS2.out.box (by decide) (i := 5) rfl
    have y6 := Box.atO (B := w.heap.size) HS2.out.box (by decide) (i := 6) rfl
    have y7 := Box.atO (B := w.heap.size) HS2.out.box (by decide) (i := 7) rfl
    have y8 := Box.atO (B := w.heap.size) HS2.out.box (by decide) (i := 8) rfl
    have y9 := Box.atO (B := w.heap.size) HS2.out.box (by decide) (i := 9) rfl
    have y10 := Box.atO (B := w.heap.size) HS2.out.box (by decide) (i := 10) rfl
    have y11 := Box.atO (B := w.heap.size) HS2.out.box (by decide) (i := 11) rfl
    have y12 := Box.atO (B := w.heap.size) HS2.out.box (by decide) (i := 12) rfl
    have y13 := Box.atO (B := w.heap.size) HS2.out.box (by decide) (i := 13) rfl
    have y14 := Box.atO (B := w.heap.size) HS2.out.box (by decide) (i := 14) rfl
    refine wpO_take (i := 0) (d := 11) (v := ?v3x0) rfl rfl (by kernel_rfl) (by kernel_rfl) (by kernel_rfl) (fun _ _ _ h => h) (by rfl) ?y3x0 ?r3x0
    case y3x0 => (intro w' hSw; go_simp; try (with_reducible rfl))
    simp only [Act.put, List.setIfInBounds_toArray, List.set_cons_zero, List.set_cons_succ]
    refine wpO_take (i := 1) (d := 12) (v := ?v3x1) rfl rfl (by kernel_rfl) (by kernel_rfl) (by kernel_rfl) (fun _ _ _ h => h) (by rfl) ?y3x1 ?r3x1
    case y3x1 => (intro w' hSw; go_simp; try (with_reducible rfl))
    simp only [Act.put, List.setIfInBounds_toArray, List.set_cons_zero, List.set_cons_succ]
    refine wpO_take (i := 3) (d := 14) (v := ?v3x3) rfl rfl (by kernel_rfl) (by kernel_rfl) (by kernel_rfl) (fun _ _ _ h => h) (by rfl) ?y3x3 ?r3x3
    case y3x3 => (intro w' hSw; go_simp; try (with_reducible rfl))
    simp only [Act.put, List.setIfInBounds_toArray, List.set_cons_zero, List.set_cons_succ]
    refine wpO_take (i := 4) (d := 15) (v := ?v3x4) rfl rfl (by kernel_rfl) (by kernel_rfl) (by kernel_rfl) (fun _ _ _ h => h) (by rfl) ?y3x4 ?r3x4
    case y3x4 => (intro w' hSw; go_simp; try (with_reducible rfl))
    simp only [Act.put, List.setIfInBounds_toArray, List.set_cons_zero, List.set_cons_succ]
    refine wpO_take (i := 7) (d := 18) (v := ?v3x7) rfl rfl (by kernel_rfl) (by kernel_rfl) (by kernel_rfl) (fun _ _ _ h => h) (by rfl) ?y3x7 ?r3x7
    case y3x7 => (intro w' hSw; go_simp; try (with_reducible rfl))
    simp only [Act.put, List.setIfInBounds_toArray, List.set_cons_zero, List.set_cons_succ]
    refine wpO_take (i := 8) (d := 19) (v := ?v3x8) rfl rfl (by kernel_rfl) (by kernel_rfl) (by kernel_rfl) (fun _ _ _ h => h) (by rfl) ?y3x8 ?r3x8
    case y3x8 => (intro w' hSw; go_simp; try (with_reducible rfl))
    simp only [Act.put, List.setIfInBounds_toArray, List.set_cons_zero, List.set_cons_succ]
    refine wpO_do (i := 2) (by kernel_rfl) rfl (by rfl) (fun K hK => ?_)
    go_simp
    refine (HP0.out w2).mono ?_
    rintro e w3 ⟨b3, rfl, ho, hb⟩
    have HS3 : Hid (PutIn c ep sq A st k D zs d w b3 E0 w3) := ⟨ho.mono HS2.out.below.size, (HS2.out.later hb).box, (HS2.out.later hb).below⟩
    go_simp
    refine hK.out _ _ (Ofb.below hb) ?_
    clear hK hb ho HS2 y0 y1 y2 y3 y4 y5 y6 y7 y8 y9 y10 y11 y12 y13 y14
    refine wpO_do (i := 5) (by kernel_rfl) rfl (by rfl) (fun K hK => ?_)
    go_simp
    refine (rintE ep E1 H1.out w3).mono ?_
    rintro e w4 ⟨D4, d4, rfl, hd, hb⟩
    have HS4 := Lib.hid (HS3.out.later hb)
    have HD4 := Lib.hid hd
    go_simp
    refine hK.out _ _ (Ofb.below hb) ?_
    clear hK hb hd HS3
    refine wpO_do (i := 6) (by kernel_rfl) rfl (by rfl) (fun K hK => ?_)
    refine oper_own w4 (.tmp 13) (.tmp 16) rfl w.heap.size _ (E0) D4 d4 _ E1 rfl rfl HS4.out.own HD4.out (by have hh := HN.out; omega) (by have hh := HN.out; first | omega | (simp only [List.length_append]; omega)) HS4.out.below.size ?_
    intro b5 w5 ho hg
    have HS5 := Lib.hid (HS4.out.grown hg ho)
    refine hK.out _ _ (Ofb.grown HS4.out.own hg) ?_
    clear hK ho hg HS4 HD4
    refine wpO_do (i := 9) (by kernel_rfl) rfl (by rfl) (fun K hK => ?_)
    go_simp
    refine (rintE sq E2 H2.out w5).mono ?_
    rintro e w6 ⟨D6, d6, rfl, hd, hb⟩
    have HS6 := Lib.hid (HS5.out.later hb)
    have HD6 := Lib.hid hd
    go_simp
    refine hK.out _ _ (Ofb.below hb) ?_
    clear hK hb hd HS5
    refine wpO_do (i := 10) (by kernel_rfl) rfl (by rfl) (fun K hK => ?_)
    refine oper_own w6 (.tmp 17) (.tmp 20) rfl w.heap.size _ (E0 ++ E1) D6 d6 _ E2 rfl rfl HS6.out.own HD6.out (by have hh := HN.out; omega) (by have hh := HN.out; first | omega | (simp only [List.length_append]; omega)) HS6.out.below.size ?_
    intro b7 w7 ho hg
    have HS7 := Lib.hid (HS6.out.grown hg ho)
    refine hK.out _ _ (Ofb.grown HS6.out.own hg) ?_
    clear hK ho hg HS6 HD6
    refine wpO_take (i := 11) (d := 3) (v := ?v3x11) rfl rfl (by kernel_rfl) (by kernel_rfl) (by kernel_rfl) (fun _ _ _ h => h) (by rfl) ?y3x11 ?r3x11
    case y3x11 => (intro w' hSw; go_simp; try (with_reducible rfl))
    simp only [Act.put, List.setIfInBounds_toArray, List.set_cons_zero, List.set_cons_succ]
    refine wpO_done (by kernel_rfl) ?_
    have HL0 : Hid ((E0 ++ E1 ++ E2).length = 104) := by show _ = _; have hh := HN.out; simp only [List.length_append]; omega
    generalize E0 ++ E1 ++ E2 = L0 at HS7 HPS HL0
    clear HN H1 H2 HP0
    obtain ⟨y0, y1, y2, y3, y4, y5, y6, y7, y8, y9, y10, y11, y12, y13, y14⟩ := box15 HS7.out.box
    go_wp2
    clear y0 y1 y2 y3 y4 y5 y6 y7 y8 y9 y10 y11 y12 y13 y14
    go_loopw [3, 4] (fun v i wr => ∃ q : Nat, q ≤ st.length ∧ i = .int .i64 q ∧ PutIn c ep sq A st k D zs d w v (L0 ++ putIs (st.take q)) wr) (fun _ i _ => st.length - (intOf i).toNat)
    case atStart => exact ⟨0, by omega, rfl, by rw [List.take_zero]; show PutIn _ _ _ _ _ _ _ _ _ _ _ (L0 ++ []) _; rw [List.append_nil]; exact HS7.out⟩
    case round =>
      clear HS7
      obtain ⟨q, hq, rfl, hst⟩ := hrel
      have HS1 := Lib.hid hst
      clear hst
      obtain ⟨y0, y1, y2, y3, y4, y5, y6, y7, y8, y9, y10, y11, y12, y13, y14⟩ := box15 HS1.out.box
      by_cases hlt : q < st.length
      · obtain ⟨g, off, rfl, hg, hc⟩ := (HA.out wr HS1.out.below).1 (by omega)
        have hcq := hc q hlt
        have HT := Lib.hid (putIs_take hlt)
        have HL1 : Hid ((L0 ++ putIs (st.take q)).length ≤ 1000) := by
          show _ ≤ _
          have h1 := HL0.out
          have h2 := HZ.out.1
          rw [List.length_append, putIs_length, List.length_take]
          omega
        clear hc hg
        generalize st[q] = x at hcq HT
        have HT2 : Hid (L0 ++ putIs (st.take (q + 1)) = (L0 ++ putIs (st.take q)) ++ le8 x) := by show _ = _; rw [HT.out, List.append_assoc]
        generalize L0 ++ putIs (st.take q) = L at HS1 HL1 HT2
        clear HT
        obtain ⟨E, hE⟩ : ∃ E, le8 x = E := ⟨_, rfl⟩
        have HEl : Hid (E.length = 8) := by show _ = _; rw [← hE, le8_length]
        rw [hE] at HT2
        have HE := Lib.hid hE
        clear hE
        go_wp2_with fail
        refine (rintE x E HE.out wr).mono ?_
        rintro e w3 ⟨D3, d3, rfl, hd, hb⟩
        have HS3 := Lib.hid (HS1.out.later hb)
        have HD3 := Lib.hid hd
        clear hd hb HS1 hcq y0 y1 y2 y3 y4 y5 y6 y7 y8 y9 y10 y11 y12 y13 y14 HE
        go_wp2_with (at_builtin; refine wpList_app _ rfl (.tmp 29) (.tmp 35) 28 rfl w.heap.size 5 i0 Try.underlying28 I1.out I2.out I3.out I4.out _ L rfl HS3.out.own w3.heap.size D3 d3 E rfl HD3.out (by have h1 := HL1.out; have h2 := HEl.out; omega) HS3.out.below.size ?_; intro v' w4 ho' hg' hb')
        have HQ := Lib.hid (HS3.out.grown hg' ho')
        rw [← HT2.out] at HQ
        clear ho' hg' hb' HS3 HD3 HT2 HL1
        go_wp2
        go_roundw
        case rel => exact ⟨q + 1, by omega, by go_num, HQ.out⟩
        case measure => simp [intOf]; omega
      · obtain rfl : q = st.length := by omega
        rw [List.take_length] at HS1
        have HL1 : Hid ((L0 ++ putIs st).length ≤ 1000) := by
          show _ ≤ _
          have h1 := HL0.out
          have h2 := HZ.out.1
          rw [List.length_append, putIs_length]
          omega
        generalize L0 ++ putIs st = L1 at HS1 HPS HL1
        go_wp2
        clear y0 y1 y2 y3 y4 y5 y6 y7 y8 y9 y10 y11 y12 y13 y14
        go_loopw [3, 5, 6, 7] (fun v i _ _ wr => ∃ q : Nat, q ≤ zs.length ∧ i = .int .i64 q ∧ PutIn c ep sq A st k D zs d w v (L1 ++ putZs (zs.take q)) wr) (fun _ i _ _ _ => zs.length - (intOf i).toNat)
        case atStart => exact ⟨0, by omega, rfl, by rw [List.take_zero]; show PutIn _ _ _ _ _ _ _ _ _ _ _ (L1 ++ []) _; rw [List.append_nil]; exact HS1.out⟩
        case round =>
          clear HS1
          obtain ⟨q, hq, rfl, hst⟩ := hrel
          have HS1 := Lib.hid hst
          clear hst
          obtain ⟨y0, y1, y2, y3, y4, y5, y6, y7, y8, y9, y10, y11, y12, y13, y14⟩ := box15 HS1.out.box
          by_cases hlt : q < zs.length
          · obtain ⟨g, off, rfl, hg, hc⟩ := (HA.out w (Below.refl _ _)).2.1 (by omega)
            obtain ⟨Y, y, e0, e1, e2, e3, e4, e5, hps, hpy, hpl⟩ := hc q hlt
            have c0 := (HS1.out.below.cell (p := ⟨g, off + q * 6, none⟩) hg).trans e0
            have c1 := (HS1.out.below.cell (p := ⟨g, off + q * 6 + 1, none⟩) hg).trans e1
            have c2 := (HS1.out.below.cell (p := ⟨g, off + q * 6 + 2, none⟩) hg).trans e2
            have c3 := (HS1.out.below.cell (p := ⟨g, off + q * 6 + 3, none⟩) hg).trans e3
            have c4 := (HS1.out.below.cell (p := ⟨g, off + q * 6 + 4, none⟩) hg).trans e4
            have c5 := (HS1.out.below.cell (p := ⟨g, off + q * 6 + 5, none⟩) hg).trans e5
            have HT := Lib.hid (putZs_take hlt)
            have HZQ := Lib.hid (HZ.out.2.2 _ (List.getElem_mem hlt))
            have HL2 : Hid ((L1 ++ putZs (zs.take q)).length ≤ 40000000) := by
              show _ ≤ _
              have h1 := HL1.out
              have h2 := HZ.out.2.1
              have h3 := putZs_le (zs.take q) (fun z hz => HZ.out.2.2 z (List.mem_of_mem_take hz))
              rw [List.length_take] at h3
              rw [List.length_append]
              omega
            have HPA : Hid (∀ w', Below w.heap.size w w' → PrsAt w' (LT w.heap.size) Y zs[q].ps) := fun w' hb => hps.keep (Kept.below hb)
            clear hc hg hps e0 e1 e2 e3 e4 e5
            generalize zs[q] = p at c0 c1 c2 c3 c4 c5 HT HZQ hpl HPA
            obtain ⟨gen, slot, full, zw, whole, ps⟩ := p
            dsimp only at c0 c1 c2 c3 c4 c5 hpl
            have HT2 : Hid (L1 ++ putZs (zs.take (q + 1)) = (L1 ++ putZs (zs.take q)) ++ headZ ⟨gen, slot, full, zw, whole, ps⟩ ++ putPs ps) := by show _ = _; rw [HT.out]; simp only [putZ, List.append_assoc]
            generalize L1 ++ putZs (zs.take q) = L at HS1 HL2 HT2
            clear HT
            obtain ⟨F1, hF1⟩ : ∃ E, le8 gen = E := ⟨_, rfl⟩
            obtain ⟨F2, hF2⟩ : ∃ E, le8 slot = E := ⟨_, rfl⟩
            obtain ⟨F3, hF3⟩ : ∃ E, fB full = E := ⟨_, rfl⟩
            obtain ⟨F4, hF4⟩ : ∃ E, le8 zw = E := ⟨_, rfl⟩
            obtain ⟨F5, hF5⟩ : ∃ E, fB whole = E := ⟨_, rfl⟩
            obtain ⟨F6, hF6⟩ : ∃ E, le8 ps.length = E := ⟨_, rfl⟩
            have HFN : Hid (F1.length = 8 ∧ F2.length = 8 ∧ F3.length = 1 ∧ F4.length = 8 ∧ F5.length = 1 ∧ F6.length = 8) := by
              rw [← hF1, ← hF2, ← hF3, ← hF4, ← hF5, ← hF6]
              exact ⟨le8_length _, le8_length _, rfl, le8_length _, rfl, le8_length _⟩
            have HFH : Hid (headZ ⟨gen, slot, full, zw, whole, ps⟩ = F1 ++ F2 ++ F3 ++ F4 ++ F5 ++ F6) := by
              show _ = _
              rw [← hF1, ← hF2, ← hF3, ← hF4, ← hF5, ← hF6]
              simp only [headZ, List.append_assoc]
            have HF := Lib.hid (And.intro hF1 (And.intro hF2 (And.intro hF3 (And.intro hF4 (And.intro hF5 hF6)))))
            clear hF1 hF2 hF3 hF4 hF5 hF6
            go_upto_region 12 with fail
            have HZ1 : Hid (PutZn c ep sq A st k (some ⟨g, off, none⟩) zs d w wr.heap.size #[.int .i64 gen, .int .i64 slot, .bool full, .int .i64 zw, .bool whole, .slice Y ps.length y] u3 L (wr.alloc (.cells #[.int .i64 gen, .int .i64 slot, .bool full, .int .i64 zw, .bool whole, .slice Y ps.length y] 51)) ∧ Below wr.heap.size wr (wr.alloc (.cells #[.int .i64 gen, .int .i64 slot, .bool full, .int .i64 zw, .bool whole, .slice Y ps.length y] 51))) := ⟨⟨(HS1.out.later (below_one _ _)).own, (HS1.out.later (below_one _ _)).box, (HS1.out.later (below_one _ _)).below, Box.fresh wr 51 #[.int .i64 gen, .int .i64 slot, .bool full, .int .i64 zw, .bool whole, .slice Y ps.length y]⟩, below_one _ _⟩
            generalize (wr.alloc (.cells #[.int .i64 gen, .int .i64 slot, .bool full, .int .i64 zw, .bool whole, .slice Y ps.length y] 51)) = wz at HZ1 ⊢
            generalize wr.heap.size = gz at HZ1 ⊢
            have HPA : Hid (∀ w', Below w.heap.size w w' → PrsAt w' (LT w.heap.size) Y ps) := HPA.out
            clear c0 c1 c2 c3 c4 c5 y0 y1 y2 y3 y4 y5 y6 y7 y8 y9 y10 y11 y12 y13 y14 HS1
            refine wpO_start w.heap.size (by kernel_rfl) ?_
            have HS2 := Lib.hid (HZ1.out.1.later (Below.refl _ _).drew)
            generalize wz.drew = w2 at HS2 ⊢
            clear HZ1
            have z0 := Box.atO (B := w.heap.size) HS2.out.zone (by decide) (i := 0) rfl
            have z1 := Box.atO (B := w.heap.size) HS2.out.zone (by decide) (i := 1) rfl
            have z2 := Box.atO (B := w.heap.size) HS2.out.zone (by decide) (i := 2) rfl
            have z3 := Box.atO (B := w.heap.size) HS2.out.zone (by decide) (i := 3) rfl
            have z4 := Box.atO (B := w.heap.size) HS2.out.zone (by decide) (i := 4) rfl
            have z5 := Box.atO (B := w.heap.size) HS2.out.zone (by decide) (i := 5) rfl
            refine wpO_take (i := 0) (d := 49) (v := ?v12x0) rfl rfl (by kernel_rfl) (by kernel_rfl) (by kernel_rfl) (fun _ _ _ h => h) (by rfl) ?y12x0 ?r12x0
            case y12x0 => (intro w' hSw; go_simp; try (with_reducible rfl))
            simp only [Act.put, List.setIfInBounds_toArray, List.set_cons_zero, List.set_cons_succ]
            refine wpO_take (i := 1) (d := 50) (v := ?v12x1) rfl rfl (by kernel_rfl) (by kernel_rfl) (by kernel_rfl) (fun _ _ _ h => h) (by rfl) ?y12x1 ?r12x1
            case y12x1 => (intro w' hSw; go_simp; try (with_reducible rfl))
            simp only [Act.put, List.setIfInBounds_toArray, List.set_cons_zero, List.set_cons_succ]
            refine wpO_take (i := 2) (d := 51) (v := ?v12x2) rfl rfl (by kernel_rfl) (by kernel_rfl) (by kernel_rfl) (fun _ _ _ h => h) (by rfl) ?y12x2 ?r12x2
            case y12x2 => (intro w' hSw; go_simp; try (with_reducible rfl))
            simp only [Act.put, List.setIfInBounds_toArray, List.set_cons_zero, List.set_cons_succ]
            refine wpO_take (i := 5) (d := 54) (v := ?v12x5) rfl rfl (by kernel_rfl) (by kernel_rfl) (by kernel_rfl) (fun _ _ _ h => h) (by rfl) ?y12x5 ?r12x5
            case y12x5 => (intro w' hSw; go_simp; try (with_reducible rfl))
            simp only [Act.put, List.setIfInBounds_toArray, List.set_cons_zero, List.set_cons_succ]
            refine wpO_take (i := 6) (d := 55) (v := ?v12x6) rfl rfl (by kernel_rfl) (by kernel_rfl) (by kernel_rfl) (fun _ _ _ h => h) (by rfl) ?y12x6 ?r12x6
            case y12x6 => (intro w' hSw; go_simp; try (with_reducible rfl))
            simp only [Act.put, List.setIfInBounds_toArray, List.set_cons_zero, List.set_cons_succ]
            refine wpO_take (i := 9) (d := 58) (v := ?v12x9) rfl rfl (by kernel_rfl) (by kernel_rfl) (by kernel_rfl) (fun _ _ _ h => h) (by rfl) ?y12x9 ?r12x9
            case y12x9 => (intro w' hSw; go_simp; try (with_reducible rfl))
            simp only [Act.put, List.setIfInBounds_toArray, List.set_cons_zero, List.set_cons_succ]
            refine wpO_take (i := 10) (d := 59) (v := ?v12x10) rfl rfl (by kernel_rfl) (by kernel_rfl) (by kernel_rfl) (fun _ _ _ h => h) (by rfl) ?y12x10 ?r12x10
            case y12x10 => (intro w' hSw; go_simp; try (with_reducible rfl))
            simp only [Act.put, List.setIfInBounds_toArray, List.set_cons_zero, List.set_cons_succ]
            refine wpO_take (i := 13) (d := 62) (v := ?v12x13) rfl rfl (by kernel_rfl) (by kernel_rfl) (by kernel_rfl) (fun _ _ _ h => h) (by rfl) ?y12x13 ?r12x13
            case y12x13 => (intro w' hSw; go_simp; try (with_reducible rfl))
            simp only [Act.put, List.setIfInBounds_toArray, List.set_cons_zero, List.set_cons_succ]
            refine wpO_take (i := 14) (d := 63) (v := ?v12x14) rfl rfl (by kernel_rfl) (by kernel_rfl) (by kernel_rfl) (fun _ _ _ h => h) (by rfl) ?y12x14 ?r12x14
            case y12x14 => (intro w' hSw; go_simp; try (with_reducible rfl))
            simp only [Act.put, List.setIfInBounds_toArray, List.set_cons_zero, List.set_cons_succ]
            refine wpO_do (i := 3) (by kernel_rfl) rfl (by rfl) (fun K hK => ?_)
            go_simp
            refine (rintE gen F1 HF.out.1 w2).mono ?_
            rintro e w3 ⟨D3, d3, rfl, hd, hb⟩
            have HS3 := Lib.hid (HS2.out.later hb)
            have HD3 := Lib.hid hd
            go_simp
            refine hK.out _ _ (Ofb.below hb) ?_
            clear hK hb hd HS2
            clear z0 z1 z2 z3 z4 z5
            refine wpO_do (i := 4) (by kernel_rfl) rfl (by rfl) (fun K hK => ?_)
            refine oper_own w3 (.tmp 49) (.tmp 52) rfl w.heap.size _ (L) D3 d3 _ F1 rfl rfl HS3.out.own HD3.out (by have hh := HFN.out;have hk := HL2.out; omega) (by have hh := HFN.out;have hk := HL2.out; first | omega | (simp only [List.length_append]; omega)) HS3.out.below.size ?_
            intro b4 w4 ho hg
            have HS4 := Lib.hid (HS3.out.grown hg ho)
            refine hK.out _ _ (Ofb.grown HS3.out.own hg) ?_
            clear hK ho hg HS3 HD3
            refine wpO_do (i := 7) (by kernel_rfl) rfl (by rfl) (fun K hK => ?_)
            go_simp
            refine (rintE slot F2 HF.out.2.1 w4).mono ?_
            rintro e w5 ⟨D5, d5, rfl, hd, hb⟩
            have HS5 := Lib.hid (HS4.out.later hb)
            have HD5 := Lib.hid hd
            go_simp
            refine hK.out _ _ (Ofb.below hb) ?_
            clear hK hb hd HS4
            refine wpO_do (i := 8) (by kernel_rfl) rfl (by rfl) (fun K hK => ?_)
            refine oper_own w5 (.tmp 53) (.tmp 56) rfl w.heap.size _ (L ++ F1) D5 d5 _ F2 rfl rfl HS5.out.own HD5.out (by have hh := HFN.out;have hk := HL2.out; omega) (by have hh := HFN.out;have hk := HL2.out; first | omega | (simp only [List.length_append]; omega)) HS5.out.below.size ?_
            intro b6 w6 ho hg
            have HS6 := Lib.hid (HS5.out.grown hg ho)
            refine hK.out _ _ (Ofb.grown HS5.out.own hg) ?_
            clear hK ho hg HS5 HD5
            refine wpO_do (i := 11) (by kernel_rfl) rfl (by rfl) (fun K hK => ?_)
            go_simp
            refine (rflagE full F3 HF.out.2.2.1 w6).mono ?_
            rintro e w7 ⟨D7, d7, rfl, hd, hb⟩
            have HS7 := Lib.hid (HS6.out.later hb)
            have HD7 := Lib.hid hd
            go_simp
            refine hK.out _ _ (Ofb.below hb) ?_
            clear hK hb hd HS6
            refine wpO_do (i := 12) (by kernel_rfl) rfl (by rfl) (fun K hK => ?_)
            refine oper_own w7 (.tmp 57) (.tmp 60) rfl w.heap.size _ (L ++ F1 ++ F2) D7 d7 _ F3 rfl rfl HS7.out.own HD7.out (by have hh := HFN.out;have hk := HL2.out; omega) (by have hh := HFN.out;have hk := HL2.out; first | omega | (simp only [List.length_append]; omega)) HS7.out.below.size ?_
            intro b8 w8 ho hg
            have HS8 := Lib.hid (HS7.out.grown hg ho)
            refine hK.out _ _ (Ofb.grown HS7.out.own hg) ?_
            clear hK ho hg HS7 HD7
            refine wpO_do (i := 15) (by kernel_rfl) rfl (by rfl) (fun K hK => ?_)
            go_simp
            refine (rintE zw F4 HF.out.2.2.2.1 w8).mono ?_
            rintro e w9 ⟨D9, d9, rfl, hd, hb⟩
            have HS9 := Lib.hid (HS8.out.later hb)
            have HD9 := Lib.hid hd
            go_simp
            refine hK.out _ _ (Ofb.below hb) ?_
            clear hK hb hd HS8
            refine wpO_do (i := 16) (by kernel_rfl) rfl (by rfl) (fun K hK => ?_)
            refine oper_own w9 (.tmp 61) (.tmp 64) rfl w.heap.size _ (L ++ F1 ++ F2 ++ F3) D9 d9 _ F4 rfl rfl HS9.out.own HD9.out (by have hh := HFN.out;have hk := HL2.out; omega) (by have hh := HFN.out;have hk := HL2.out; first | omega | (simp only [List.length_append]; omega)) HS9.out.below.size ?_
            intro b10 w10 ho hg
            have HS10 := Lib.hid (HS9.out.grown hg ho)
            refine hK.out _ _ (Ofb.grown HS9.out.own hg) ?_
            clear hK ho hg HS9 HD9
            refine wpO_take (i := 17) (d := 3) (v := ?v12x17) rfl rfl (by kernel_rfl) (by kernel_rfl) (by kernel_rfl) (fun _ _ _ h => h) (by rfl) ?y12x17 ?r12x17
            case y12x17 => (intro w' hSw; go_simp; try (with_reducible rfl))
            simp only [Act.put, List.setIfInBounds_toArray, List.set_cons_zero, List.set_cons_succ]
            refine wpO_done (by kernel_rfl) ?_
            go_upto_region 13 with fail
            refine wpO_start w.heap.size (by kernel_rfl) ?_
            have HS11 := Lib.hid (HS10.out.later (Below.refl _ _).drew)
            generalize w10.drew = w11 at HS11 ⊢
            clear HS10
            have z0 := Box.atO (B := w.heap.size) HS11.out.zone (by decide) (i := 0) rfl
            have z1 := Box.atO (B := w.heap.size) HS11.out.zone (by decide) (i := 1) rfl
            have z2 := Box.atO (B := w.heap.size) HS11.out.zone (by decide) (i := 2) rfl
            have z3 := Box.atO (B := w.heap.size) HS11.out.zone (by decide) (i := 3) rfl
            have z4 := Box.atO (B := w.heap.size) HS11.out.zone (by decide) (i := 4) rfl
            have z5 := Box.atO (B := w.heap.size) HS11.out.zone (by decide) (i := 5) rfl
            refine wpO_take (i := 0) (d := 66) (v := ?v13x0) rfl rfl (by kernel_rfl) (by kernel_rfl) (by kernel_rfl) (fun _ _ _ h => h) (by rfl) ?y13x0 ?r13x0
            case y13x0 => (intro w' hSw; go_simp; try (with_reducible rfl))
            simp only [Act.put, List.setIfInBounds_toArray, List.set_cons_zero, List.set_cons_succ]
            refine wpO_take (i := 1) (d := 67) (v := ?v13x1) rfl rfl (by kernel_rfl) (by kernel_rfl) (by kernel_rfl) (fun _ _ _ h => h) (by rfl) ?y13x1 ?r13x1
            case y13x1 => (intro w' hSw; go_simp; try (with_reducible rfl))
            simp only [Act.put, List.setIfInBounds_toArray, List.set_cons_zero, List.set_cons_succ]
            refine wpO_take (i := 2) (d := 68) (v := ?v13x2) rfl rfl (by kernel_rfl) (by kernel_rfl) (by kernel_rfl) (fun _ _ _ h => h) (by rfl) ?y13x2 ?r13x2
            case y13x2 => (intro w' hSw; go_simp; try (with_reducible rfl))
            simp only [Act.put, List.setIfInBounds_toArray, List.set_cons_zero, List.set_cons_succ]
            refine wpO_take (i := 5) (d := 71) (v := ?v13x5) rfl rfl (by kernel_rfl) (by kernel_rfl) (by kernel_rfl) (fun _ _ _ h => h) (by rfl) ?y13x5 ?r13x5
            case y13x5 => (intro w' hSw; go_simp; try (with_reducible rfl))
            simp only [Act.put, List.setIfInBounds_toArray, List.set_cons_zero, List.set_cons_succ]
            refine wpO_take (i := 6) (d := 72) (v := ?v13x6) rfl rfl (by kernel_rfl) (by kernel_rfl) (by kernel_rfl) (fun _ _ _ h => h) (by rfl) ?y13x6 ?r13x6
            case y13x6 => (intro w' hSw; go_simp; try (with_reducible rfl))
            simp only [Act.put, List.setIfInBounds_toArray, List.set_cons_zero, List.set_cons_succ]
            refine wpO_take (i := 7) (d := 73) (v := ?v13x7) rfl rfl (by kernel_rfl) (by kernel_rfl) (by kernel_rfl) (fun _ _ _ h => h) (by rfl) ?y13x7 ?r13x7
            case y13x7 => (intro w' hSw; go_simp; try (with_reducible rfl))
            simp only [Act.put, List.setIfInBounds_toArray, List.set_cons_zero, List.set_cons_succ]
            refine wpO_do (i := 3) (by kernel_rfl) rfl (by rfl) (fun K hK => ?_)
            go_simp
            refine (rflagE whole F5 HF.out.2.2.2.2.1 w11).mono ?_
            rintro e w12 ⟨D12, d12, rfl, hd, hb⟩
            have HS12 := Lib.hid (HS11.out.later hb)
            have HD12 := Lib.hid hd
            go_simp
            refine hK.out _ _ (Ofb.below hb) ?_
            clear hK hb hd HS11
            clear z0 z1 z2 z3 z4 z5
            refine wpO_do (i := 4) (by kernel_rfl) rfl (by rfl) (fun K hK => ?_)
            refine oper_own w12 (.tmp 66) (.tmp 69) rfl w.heap.size _ (L ++ F1 ++ F2 ++ F3 ++ F4) D12 d12 _ F5 rfl rfl HS12.out.own HD12.out (by have hh := HFN.out;have hk := HL2.out; omega) (by have hh := HFN.out;have hk := HL2.out; first | omega | (simp only [List.length_append]; omega)) HS12.out.below.size ?_
            intro b13 w13 ho hg
            have HS13 := Lib.hid (HS12.out.grown hg ho)
            refine hK.out _ _ (Ofb.grown HS12.out.own hg) ?_
            clear hK ho hg HS12 HD12
            refine wpO_do (i := 8) (by kernel_rfl) rfl (by rfl) (fun K hK => ?_)
            go_simp
            refine (rintE ps.length F6 HF.out.2.2.2.2.2 w13).mono ?_
            rintro e w14 ⟨D14, d14, rfl, hd, hb⟩
            have HS14 := Lib.hid (HS13.out.later hb)
            have HD14 := Lib.hid hd
            go_simp
            refine hK.out _ _ (Ofb.below hb) ?_
            clear hK hb hd HS13
            refine wpO_do (i := 9) (by kernel_rfl) rfl (by rfl) (fun K hK => ?_)
            refine oper_own w14 (.tmp 70) (.tmp 74) rfl w.heap.size _ (L ++ F1 ++ F2 ++ F3 ++ F4 ++ F5) D14 d14 _ F6 rfl rfl HS14.out.own HD14.out (by have hh := HFN.out;have hk := HL2.out; omega) (by have hh := HFN.out;have hk := HL2.out; first | omega | (simp only [List.length_append]; omega)) HS14.out.below.size ?_
            intro b15 w15 ho hg
            have HS15 := Lib.hid (HS14.out.grown hg ho)
            refine hK.out _ _ (Ofb.grown HS14.out.own hg) ?_
            clear hK ho hg HS14 HD14
            refine wpO_take (i := 10) (d := 3) (v := ?v13x10) rfl rfl (by kernel_rfl) (by kernel_rfl) (by kernel_rfl) (fun _ _ _ h => h) (by rfl) ?y13x10 ?r13x10
            case y13x10 => (intro w' hSw; go_simp; try (with_reducible rfl))
            simp only [Act.put, List.setIfInBounds_toArray, List.set_cons_zero, List.set_cons_succ]
            refine wpO_done (by kernel_rfl) ?_
            have HLZ : Hid ((L ++ F1 ++ F2 ++ F3 ++ F4 ++ F5 ++ F6).length ≤ 40000034) := by show _ ≤ _; have hh := HFN.out; have hk := HL2.out; simp only [List.length_append]; omega
            have HTZ : Hid (L1 ++ putZs (zs.take (q + 1)) = L ++ F1 ++ F2 ++ F3 ++ F4 ++ F5 ++ F6 ++ putPs ps) := by show _ = _; rw [HT2.out, HFH.out]; simp only [List.append_assoc]
            generalize L ++ F1 ++ F2 ++ F3 ++ F4 ++ F5 ++ F6 = Lz at HS15 HLZ HTZ
            clear HT2 HFH HFN HF HL2
            obtain ⟨z0, z1, z2, z3, z4, z5⟩ := box6 HS15.out.zone
            go_wp2
            clear z0 z1 z2 z3 z4 z5
            go_loopw [3, 7] (fun v i wr => ∃ m : Nat, m ≤ ps.length ∧ i = .int .i64 m ∧ PutZn c ep sq A st k (some ⟨g, off, none⟩) zs d w gz #[.int .i64 gen, .int .i64 slot, .bool full, .int .i64 zw, .bool whole, .slice Y ps.length y] v (Lz ++ putPs (ps.take m)) wr) (fun _ i _ => ps.length - (intOf i).toNat)
            case atStart => exact ⟨0, by omega, rfl, by rw [List.take_zero]; show PutZn _ _ _ _ _ _ _ _ _ _ _ _ _ (Lz ++ []) _; rw [List.append_nil]; exact HS15.out⟩
            case round =>
              clear HS15
              obtain ⟨m, hm, rfl, hst⟩ := hrel
              have HS1 := Lib.hid hst
              clear hst
              obtain ⟨z0, z1, z2, z3, z4, z5⟩ := box6 HS1.out.zone
              by_cases hmq : m < ps.length
              · obtain ⟨g', off', hY, hg, hc⟩ := (HPA.out wr HS1.out.below) (by omega)
                subst hY
                obtain ⟨V, v, c0, c1, hV, hvl, _⟩ := hc m hmq
                have HT := Lib.hid (putPs_take hmq)
                have HBL := Lib.hid (HZQ.out.2 _ (List.getElem_mem hmq))
                have HL2 : Hid ((Lz ++ putPs (ps.take m)).length ≤ 45000000) := by
                  show _ ≤ _
                  have h1 := HLZ.out
                  have h2 := HZQ.out.1
                  have h3 := putPs_le (M := 262144) (ps.take m) (fun z hz => HZQ.out.2 z (List.mem_of_mem_take hz))
                  rw [List.length_take] at h3
                  have h4 : (16 + 262144) * min m ps.length ≤ (16 + 262144) * 2 := Nat.mul_le_mul_left _ (by omega)
                  rw [List.length_append]
                  omega
                have HV := Lib.hid hV
                have hgs : g' < wr.heap.size := Nat.lt_of_lt_of_le hg HS1.out.below.size
                clear hc hV
                generalize ps[m] = p at c0 c1 HT HBL HV hvl
                obtain ⟨pw, pb⟩ := p
                dsimp only at c0 c1 hvl
                have HT2 : Hid (Lz ++ putPs (ps.take (m + 1)) = (Lz ++ putPs (ps.take m)) ++ le8 pw ++ (le8 pb.length ++ pb)) := by show _ = _; rw [HT.out]; simp only [putP, List.append_assoc]
                generalize Lz ++ putPs (ps.take m) = L at HS1 HL2 HT2
                clear HT
                obtain ⟨G1, hG1⟩ : ∃ E, le8 pw = E := ⟨_, rfl⟩
                obtain ⟨G2, hG2⟩ : ∃ E, le8 pb.length ++ pb = E := ⟨_, rfl⟩
                have HGN : Hid (G1.length = 8 ∧ G2.length = 8 + pb.length ∧ pb.length ≤ 262144) := by
                  refine ⟨by rw [← hG1, le8_length], by rw [← hG2, List.length_append, le8_length], HBL.out⟩
                rw [hG1, hG2] at HT2
                have HG := Lib.hid (And.intro hG1 hG2)
                clear hG1 hG2
                go_upto_region 17 with fail
                have HW1 := Lib.hid HS1.out.below.size
                have HVR : Hid (∀ w', Below w.heap.size wr w' → Rd w' w'.heap.size V pb) := fun w' hb => ((HV.out.keep (Kept.below hb)).lt).more (Nat.le_trans HW1.out hb.size)
                refine wpO_start w.heap.size (by kernel_rfl) ?_
                have x0 := cellO (w := wr) c0 hg HW1.out
                have x1 := cellO (w := wr) c1 hg HW1.out
                have hdd : ∀ w', Ofb w.heap.size wr.drew w' → Ofb w.heap.size wr w' := fun w' h => ⟨h.os, h.tape, h.output, h.size, h.block⟩
                have x0 := fun w' h => x0 w' (hdd w' h)
                have x1 := fun w' h => x1 w' (hdd w' h)
                have HS2 := Lib.hid (HS1.out.later (Below.refl _ _).drew)
                have HVS : Hid (∀ w', Below w.heap.size wr.drew w' → Rd w' w'.heap.size V pb) := fun w' hb => HVR.out w' (((Below.refl _ _).drew).trans hb)
                have HW2 : Hid (w.heap.size ≤ wr.drew.heap.size) := HW1.out
                generalize wr.drew = w2 at HS2 x0 x1 HVS HW2 ⊢
                clear hdd HS1 c0 c1 HVR HV z0 z1 z2 z3 z4 z5
                have z0 := Box.atO (B := w.heap.size) HS2.out.zone (by decide) (i := 0) rfl
                have z1 := Box.atO (B := w.heap.size) HS2.out.zone (by decide) (i := 1) rfl
                have z2 := Box.atO (B := w.heap.size) HS2.out.zone (by decide) (i := 2) rfl
                have z3 := Box.atO (B := w.heap.size) HS2.out.zone (by decide) (i := 3) rfl
                have z4 := Box.atO (B := w.heap.size) HS2.out.zone (by decide) (i := 4) rfl
                have z5 := Box.atO (B := w.heap.size) HS2.out.zone (by decide) (i := 5) rfl
                refine wpO_take (i := 0) (d := 83) (v := ?v17x0) rfl rfl (by kernel_rfl) (by kernel_rfl) (by kernel_rfl) (fun _ _ _ h => h) (by rfl) ?y17x0 ?r17x0
                case y17x0 => (intro w' hSw; go_simp; try (with_reducible rfl))
                simp only [Act.put, List.setIfInBounds_toArray, List.set_cons_zero, List.set_cons_succ]
                refine wpO_take (i := 1) (d := 84) (v := ?v17x1) rfl rfl (by kernel_rfl) (by kernel_rfl) (by kernel_rfl) (fun _ _ _ h => h) (by rfl) ?y17x1 ?r17x1
                case y17x1 => (intro w' hSw; go_simp; try (with_reducible rfl))
                simp only [Act.put, List.setIfInBounds_toArray, List.set_cons_zero, List.set_cons_succ]
                refine wpO_take (i := 2) (d := 85) (v := ?v17x2) rfl rfl (by kernel_rfl) (by kernel_rfl) (by kernel_rfl) (fun _ _ _ h => h) (by rfl) ?y17x2 ?r17x2
                case y17x2 => (intro w' hSw; go_simp; try (with_reducible rfl))
                simp only [Act.put, List.setIfInBounds_toArray, List.set_cons_zero, List.set_cons_succ]
                refine wpO_take (i := 3) (d := 86) (v := ?v17x3) rfl rfl (by kernel_rfl) (by kernel_rfl) (by kernel_rfl) (fun _ _ _ h => h) (by rfl) ?y17x3 ?r17x3
                case y17x3 => (intro w' hSw; go_simp; try (with_reducible rfl))
                simp only [Act.put, List.setIfInBounds_toArray, List.set_cons_zero, List.set_cons_succ]
                refine wpO_take (i := 4) (d := 87) (v := ?v17x4) rfl rfl (by kernel_rfl) (by kernel_rfl) (by kernel_rfl) (fun _ _ _ h => h) (by rfl) ?y17x4 ?r17x4
                case y17x4 => (intro w' hSw; go_simp; try (with_reducible rfl))
                simp only [Act.put, List.setIfInBounds_toArray, List.set_cons_zero, List.set_cons_succ]
                refine wpO_take (i := 5) (d := 88) (v := ?v17x5) rfl rfl (by kernel_rfl) (by kernel_rfl) (by kernel_rfl) (fun _ _ _ h => h) (by rfl) ?y17x5 ?r17x5
                case y17x5 => (intro w' hSw; go_simp; try (with_reducible rfl))
                simp only [Act.put, List.setIfInBounds_toArray, List.set_cons_zero, List.set_cons_succ]
                refine wpO_take (i := 6) (d := 89) (v := ?v17x6) rfl rfl (by kernel_rfl) (by kernel_rfl) (by kernel_rfl) (fun _ _ _ h => h) (by rfl) ?y17x6 ?r17x6
                case y17x6 => (intro w' hSw; go_simp; try (with_reducible rfl))
                simp only [Act.put, List.setIfInBounds_toArray, List.set_cons_zero, List.set_cons_succ]
                refine wpO_take (i := 9) (d := 92) (v := ?v17x9) rfl rfl (by kernel_rfl) (by kernel_rfl) (by kernel_rfl) (fun _ _ _ h => h) (by rfl) ?y17x9 ?r17x9
                case y17x9 => (intro w' hSw; go_simp; try (with_reducible rfl))
                simp only [Act.put, List.setIfInBounds_toArray, List.set_cons_zero, List.set_cons_succ]
                refine wpO_take (i := 10) (d := 93) (v := ?v17x10) rfl rfl (by kernel_rfl) (by kernel_rfl) (by kernel_rfl) (fun _ _ _ h => h) (by rfl) ?y17x10 ?r17x10
                case y17x10 => (intro w' hSw; go_simp; try (with_reducible rfl))
                simp only [Act.put, List.setIfInBounds_toArray, List.set_cons_zero, List.set_cons_succ]
                refine wpO_take (i := 11) (d := 94) (v := ?v17x11) rfl rfl (by kernel_rfl) (by kernel_rfl) (by kernel_rfl) (fun _ _ _ h => h) (by rfl) ?y17x11 ?r17x11
                case y17x11 => (intro w' hSw; go_simp; try (with_reducible rfl))
                simp only [Act.put, List.setIfInBounds_toArray, List.set_cons_zero, List.set_cons_succ]
                refine wpO_take (i := 12) (d := 95) (v := ?v17x12) rfl rfl (by kernel_rfl) (by kernel_rfl) (by kernel_rfl) (fun _ _ _ h => h) (by rfl) ?y17x12 ?r17x12
                case y17x12 => (intro w' hSw; go_simp; try (with_reducible rfl))
                simp only [Act.put, List.setIfInBounds_toArray, List.set_cons_zero, List.set_cons_succ]
                refine wpO_take (i := 13) (d := 96) (v := ?v17x13) rfl rfl (by kernel_rfl) (by kernel_rfl) (by kernel_rfl) (fun _ _ _ h => h) (by rfl) ?y17x13 ?r17x13
                case y17x13 => (intro w' hSw; go_simp; try (with_reducible rfl))
                simp only [Act.put, List.setIfInBounds_toArray, List.set_cons_zero, List.set_cons_succ]
                refine wpO_take (i := 14) (d := 97) (v := ?v17x14) rfl rfl (by kernel_rfl) (by kernel_rfl) (by kernel_rfl) (fun _ _ _ h => h) (by rfl) ?y17x14 ?r17x14
                case y17x14 => (intro w' hSw; go_simp; try (with_reducible rfl))
                simp only [Act.put, List.setIfInBounds_toArray, List.set_cons_zero, List.set_cons_succ]
                refine wpO_do (i := 7) (by kernel_rfl) rfl (by rfl) (fun K hK => ?_)
                go_simp
                refine (rintE pw G1 HG.out.1 w2).mono ?_
                rintro e w3 ⟨D3, d3, rfl, hd, hb⟩
                have HS3 := Lib.hid (HS2.out.later hb)
                have HD3 := Lib.hid hd
                have HV3 : Hid (Below w.heap.size w2 w3) := hb.mono HW2.out
                go_simp
                refine hK.out _ _ (Ofb.below hb) ?_
                clear hK hb hd HS2 z0 z1 z2 z3 z4 z5 x0 x1
                refine wpO_do (i := 8) (by kernel_rfl) rfl (by rfl) (fun K hK => ?_)
                refine oper_own w3 (.tmp 83) (.tmp 90) rfl w.heap.size _ L D3 d3 _ G1 rfl rfl HS3.out.own HD3.out (by have hh := HGN.out; omega) (by have hh := HGN.out; have hk := HL2.out; omega) HS3.out.below.size ?_
                intro b4 w4 ho hg'
                have HS4 := Lib.hid (HS3.out.grown hg' ho)
                have HV4 : Hid (Below w.heap.size w2 w4) := HV3.out.trans ((Ofb.grown HS3.out.own hg').to HS3.out.below.size)
                refine hK.out _ _ (Ofb.grown HS3.out.own hg') ?_
                clear hK ho hg' HS3 HD3 HV3
                refine wpO_do (i := 15) (by kernel_rfl) rfl (by rfl) (fun K hK => ?_)
                go_simp
                refine (rbytesE V v pb G2 HG.out.2 (by have hh := HGN.out; omega) w4 (HVS.out w4 HV4.out)).mono ?_
                rintro e w5 ⟨D5, d5, rfl, hd, hb⟩
                have HS5 := Lib.hid (HS4.out.later hb)
                have HD5 := Lib.hid hd
                go_simp
                refine hK.out _ _ (Ofb.below hb) ?_
                clear hK hb hd HS4 HV4
                refine wpO_do (i := 16) (by kernel_rfl) rfl (by rfl) (fun K hK => ?_)
                refine oper_own w5 (.tmp 91) (.tmp 98) rfl w.heap.size _ (L ++ G1) D5 d5 _ G2 rfl rfl HS5.out.own HD5.out (by have hh := HGN.out;have hk := HL2.out; omega) (by have hh := HGN.out;have hk := HL2.out; first | omega | (simp only [List.length_append]; omega)) HS5.out.below.size ?_
                intro b6 w6 ho hg
                have HS6 := Lib.hid (HS5.out.grown hg ho)
                refine hK.out _ _ (Ofb.grown HS5.out.own hg) ?_
                clear hK ho hg HS5 HD5
                refine wpO_take (i := 17) (d := 3) (v := ?v17x17) rfl rfl (by kernel_rfl) (by kernel_rfl) (by kernel_rfl) (fun _ _ _ h => h) (by rfl) ?y17x17 ?r17x17
                case y17x17 => (intro w' hSw; go_simp; try (with_reducible rfl))
                simp only [Act.put, List.setIfInBounds_toArray, List.set_cons_zero, List.set_cons_succ]
                refine wpO_done (by kernel_rfl) ?_
                rw [← HT2.out] at HS6
                go_wp2
                go_roundw
                case rel => exact ⟨m + 1, by omega, by go_num, HS6.out⟩
                case measure => simp [intOf]; omega
              · obtain rfl : m = ps.length := by omega
                rw [List.take_length, ← HTZ.out] at HS1
                have HQ : Hid (PutIn c ep sq A st k (some ⟨g, off, none⟩) zs d w u3 (L1 ++ putZs (zs.take (q + 1))) wr) := ⟨HS1.out.own, HS1.out.box, HS1.out.below⟩
                clear HS1
                go_wp2
                go_roundw
                case rel => exact ⟨q + 1, by omega, by go_num, HQ.out⟩
                case measure => simp [intOf]; omega
          · obtain rfl : q = zs.length := by omega
            rw [List.take_length] at HS1
            obtain ⟨X, cx, hv, hX, hcx, _⟩ := HS1.out.own.rd
            subst hv
            have HX := Lib.hid (And.intro hX (And.intro hcx HS1.out.below))
            clear hX hcx HS1
            rw [← HPS.out] at HX ⊢
            generalize hP : putS ⟨c, ep, sq, st, zs⟩ = Pp at HX ⊢
            have HP := Lib.hid hP
            clear hP
            go_wp2
            go_ret
            exact ⟨Pp, fun _ => HP.out.symm, fun h => absurd HR.out h, X, cx, rfl, HX.out.1, HX.out.2.1, HX.out.2.2⟩
end Go.Proofs.Ytaceaemombnhkaa
