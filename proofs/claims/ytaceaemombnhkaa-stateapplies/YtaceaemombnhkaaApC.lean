/- The reference's step, any kind. -/
import Derived.Test.YtaceaemombnhkaaApB
import Derived.BigQuiet
import Derived.Maps.AppendAt
namespace Go.Proofs.Ytaceaemombnhkaa
set_option linter.unusedVariables false
set_option maxRecDepth 100000
set_option linter.unusedSimpArgs false
open Go.RowKit
open Go.RowKit (wrap64)

/-- The state and the record boxed, the answer's block, and the zone's. -/
def StpIn (cs : Array Value) (n : Nat → Int) (X : Option Addr) (b : List UInt8) (x : Nat) (cy cz : Array Value) (w w0 : World) : Prop :=
  Box w0 w.heap.size 27 cs ∧ Box w0 (w.heap.size + 1) 30 #[.int .i64 (n 0), .int .i64 (n 1), .int .i64 (n 2), .int .i64 (n 3), .int .i64 (n 4), .int .i64 (n 5), .int .i64 (n 6), .int .i64 (n 7), .int .i64 (n 8), .slice X b.length x] ∧ Box w0 (w.heap.size + 2) 51 cy ∧ Box w0 (w.heap.size + 3) 51 cz ∧ Below w.heap.size w w0 ∧ w.heap.size + 4 ≤ w0.heap.size
section
variable {cs cz cy : Array Value} {n : Nat → Int} {X : Option Addr} {b : List UInt8} {x : Nat} {w w0 w1 : World}
theorem StpIn.later (h : StpIn cs n X b x cy cz w w0) (hb : Below w0.heap.size w0 w1) : StpIn cs n X b x cy cz w w1 :=
  ⟨h.1.later hb, h.2.1.later hb, h.2.2.1.later hb, h.2.2.2.1.later hb, h.2.2.2.2.1.trans (hb.mono h.2.2.2.2.1.size), Nat.le_trans h.2.2.2.2.2 hb.size⟩
theorem StpIn.under {B : Nat} (h : StpIn cs n X b x cy cz w w0) (hb : Below B w0 w1) (hB : w.heap.size + 4 ≤ B) : StpIn cs n X b x cy cz w w1 :=
  ⟨h.1.under hb (by omega), h.2.1.under hb (by omega), h.2.2.1.under hb (by omega), h.2.2.2.1.under hb (by omega), h.2.2.2.2.1.trans (hb.mono (by omega)), Nat.le_trans h.2.2.2.2.2 hb.size⟩
theorem StpIn.setZ (h : StpIn cs n X b x cy cz w w0) (i : Nat) (u : Value) : StpIn cs n X b x cy (cz.setIfInBounds i u) w (w0.setCell ⟨w.heap.size + 3, i, none⟩ u) := by
  have ht : Turn [w.heap.size + 3] w0 (w0.setCell ⟨w.heap.size + 3, i, none⟩ u) := (Turn.refl _ _).put (Or.inl (by simp)) _
  exact ⟨h.1.turn ht (by simp), h.2.1.turn ht (by simp), h.2.2.1.turn ht (by simp), h.2.2.2.1.store i u, h.2.2.2.2.1.setCell (by show w.heap.size ≤ w.heap.size + 3; omega) _, by simpa using h.2.2.2.2.2⟩
theorem StpIn.fin (h : StpIn cs n X b x cy cz w w0) (hn : cy.size = 6) (a0 a1 a2 a3 a4 a5 : Value) : StpIn cs n X b x #[a0, a1, a2, a3, a4, a5] cz w ((((((w0.setCell ⟨w.heap.size + 2, 0, none⟩ (a0)).setCell ⟨w.heap.size + 2, 1, none⟩ (a1)).setCell ⟨w.heap.size + 2, 2, none⟩ (a2)).setCell ⟨w.heap.size + 2, 3, none⟩ (a3)).setCell ⟨w.heap.size + 2, 4, none⟩ (a4)).setCell ⟨w.heap.size + 2, 5, none⟩ (a5)) := by
  obtain ⟨q1, q2⟩ := put6 a0 a1 a2 a3 a4 a5 h.2.2.1 hn h.2.2.2.2.1 (show w.heap.size ≤ w.heap.size + 2 by omega)
  have ht : Turn [w.heap.size + 2] w0 ((((((w0.setCell ⟨w.heap.size + 2, 0, none⟩ (a0)).setCell ⟨w.heap.size + 2, 1, none⟩ (a1)).setCell ⟨w.heap.size + 2, 2, none⟩ (a2)).setCell ⟨w.heap.size + 2, 3, none⟩ (a3)).setCell ⟨w.heap.size + 2, 4, none⟩ (a4)).setCell ⟨w.heap.size + 2, 5, none⟩ (a5)) := turn6 a0 a1 a2 a3 a4 a5 (by simp)
  exact ⟨h.1.turn ht (by simp), h.2.1.turn ht (by simp), q1, h.2.2.2.1.turn ht (by simp), q2, Nat.le_trans h.2.2.2.2.2 ht.size⟩
end
theorem res29 {tmps : Array Value} {w : World} {g : Nat} {cs : Array Value} {v : Value} (hp : tmps.getD 4 undef = .pointer (some ⟨g, 0, none⟩)) (hv : tmps.getD 5 undef = v) (hg : Box w g 51 cs) (hn : cs.size = 6) : (results Try.f29 tmps).run Try.prog w = .ok (.tuple #[.agg cs, v]) w := by
  have h1 := run_loadVar_row (P := Try.prog) w g 51 51 cs (0, 0) _ hg rfl rfl (by rw [hn]; exact Try.size51)
  have hp' : tmps[4]?.getD undef = .pointer (some ⟨g, 0, none⟩) := by simpa using hp
  have hv' : tmps[5]?.getD undef = v := by simpa using hv
  simp [results, Try.results29, hp', hv', asAddr, h1]
/-- A zone and whether it holds. -/
def GotSp (w : World) (S : Nat → Prop) (nz : Zn) (P : Prop) (e : Ending) (w' : World) : Prop := ∃ (ok : Bool) (z2 : Zn) (Y : Option Addr) (y : Nat), e = .returned (.tuple #[(.agg #[.int .i64 z2.gen, .int .i64 z2.slot, .bool z2.full, .int .i64 z2.w, .bool z2.whole, .slice Y z2.ps.length y]), .bool ok]) ∧ (ok = true ↔ P) ∧ (ok = true → z2 = nz) ∧ PrsAt w' (Ext S w.heap.size w') Y z2.ps ∧ z2.ps.length ≤ y ∧ z2.ps.length ≤ 140737488351232 ∧ Below w.heap.size w w'
theorem mem_freeL {c : Cf} {zs : List Zn} {v : Int} : v ∈ freeL c zs ↔ 0 ≤ v ∧ v < slotsC c ∧ ¬ usedB zs v.toNat = true := by
  unfold freeL
  rw [List.mem_map]
  constructor
  · rintro ⟨m, hm, rfl⟩
    obtain ⟨h1, h2⟩ := freeN_mem.1 hm
    refine ⟨by omega, by omega, fun hu => ?_⟩
    obtain ⟨z, hz, he⟩ := usedB_iff.1 hu
    exact h2 z hz (by simpa using he)
  · rintro ⟨h1, h2, h3⟩
    refine ⟨v.toNat, freeN_mem.2 ⟨by omega, fun z hz he => h3 (usedB_iff.2 ⟨z, hz, he⟩)⟩, by omega⟩
/-- The call's own row of parities, as parities that are read. -/
theorem PsRow.rowOf {w : World} {S S' : Nat → Prop} {ps : List Pr} {xs : List Value} {base n k : Nat} {A : Option Addr} (h : PsRow w S ps xs) (hn : ps.length = n) (ho : w.ownsRow base 55 2 (.slice A n k) n xs) (hS : ∀ g, S g → S' g) (hS2 : ∀ g, base ≤ g → g < w.heap.size → S' g) : PrsAt w S' A ps ∧ ps.length ≤ k := by
  subst hn
  obtain ⟨h1, h3⟩ := ownT_form ho
  refine ⟨fun hn => ?_, h1⟩
  obtain ⟨g, rfl⟩ := h3 hn
  have hlt := World.ownsRow.lt ho g rfl
  have h' : PsRow w S' ps xs := h.map fun _ _ h => h.mono hS
  refine ⟨g, 0, rfl, hS2 g hlt.1 hlt.2, fun j hj => ?_⟩
  have := PsRow.at_ (g := g) (off := 0) (m := 0) h' (fun i hi => by
    have := World.ownsRow.cellAt ho i (by rw [h.length] at hi; exact hi)
    simpa using this) j hj
  simpa using this
theorem PrsAt.rest {w : World} {S : Nat → Prop} {g off : Nat} {p : Pr} {ps : List Pr} (h : PrsAt w S (some ⟨g, off, none⟩) (p :: ps)) : PrsAt w S (some ⟨g, off + 2, none⟩) ps := fun hn => by
  obtain ⟨g', off', e, hg, hc⟩ := h (by simp)
  simp only [Option.some.injEq, Addr.mk.injEq, and_true] at e
  obtain ⟨rfl, rfl⟩ := e
  refine ⟨g, off + 2, rfl, hg, fun j hj => ?_⟩
  have := hc (j + 1) (by simpa using hj)
  rw [show off + (j + 1) * 2 = off + 2 + j * 2 by omega] at this
  simpa using this
/-- Parities that are read, as a row of cells. -/
theorem PrsAt.rowIn {w : World} {S : Nat → Prop} {A : Option Addr} {ps : List Pr} (h : PrsAt w S A ps) : ∃ xs, (A = none → ps.length = 0) ∧ ∀ w', Kept S w w' → PsRow w' S ps xs ∧ ∀ ad, A = some ad → ∀ j u, xs[j]? = some u → w'.cell? (ad.add j) = some u := by
  rcases Nat.eq_zero_or_pos ps.length with h0 | h0
  · obtain rfl : ps = [] := List.eq_nil_of_length_eq_zero h0
    exact ⟨[], fun _ => rfl, fun w' _ => ⟨rfl, fun ad _ j u hu => by simp at hu⟩⟩
  · obtain ⟨g, off, rfl, hg, hall⟩ := h h0
    obtain ⟨xs, hx, hc⟩ := PrsAt.cells hall
    refine ⟨xs, (fun e => nomatch e), fun w' hk => ⟨hx.map fun _ _ h => h.keep hk, fun ad e j u hu => ?_⟩⟩
    obtain rfl := Option.some.inj e
    have hadd : (⟨g, off, none⟩ : Addr).add j = ⟨g, off + j, none⟩ := by unfold Addr.add; split <;> simp_all
    rw [hadd]
    exact (hk.cell (p := ⟨g, off + j, none⟩) hg).trans (hc j u hu)
theorem own_below {w w' : World} {B e size n : Nat} {v : Value} {xs : List Value} (ho : w.ownsRow B e size v n xs) (hg : w.grownBy w' v.ownBlock) (hB : B ≤ w.heap.size) : Below B w w' :=
  ⟨hg.os, hg.tape, hg.output, hg.size, fun k hk => hg.block k (Nat.lt_of_lt_of_le hk hB) (fun e => absurd (World.ownsRow.lt ho k e.symm).1 (Nat.not_le.2 hk))⟩
theorem oper_rowO (W : World) {o : Oper} {a : Act} {K : Act → World → Prop} {Q : Exit → Act → World → Prop} (t e : TypeId) (z : Value) (size bytes : Nat) (s y : Operand)
    (ho : o.op = .call { callee := .builtin .append, args := #[s, y], argTypes := #[t, t] }) (ht : Try.prog.underlying t = some (.slice e)) (hinfo : (Try.prog.info? e).map (fun i => (i.zero, i.size, i.bytes)) = some (some z, size, bytes)) (hz : z.cells.size = size) (hsz : 0 < size)
    (base : Nat) (v : Value) (k : Nat) (xs : List Value) (A : Option Addr) (m cy : Nat) (news : List Value) (hs : a.eval s = v) (hy : a.eval y = .slice A m cy) (hrow : W.ownsRow base e size v k xs)
    (hl : news.length = m * size) (hnone : A = none → m = 0) (hc : ∀ ad, A = some ad → ∀ j u, news[j]? = some u → W.cell? (ad.add j) = some u) (h1 : ∀ u ∈ news, u.oneCell' = true) (hn : k + m ≤ 1000000000) (hby : bytes ≤ 1000) (hb : base ≤ W.heap.size)
    (hK : ∀ v' w', w'.ownsRow base e size v' (k + m) (xs ++ news) → W.grownBy w' v.ownBlock → v'.ownBlock = v.ownBlock ∨ v'.ownBlock = some W.heap.size → K (a.put o.dst v') w') : Oper.wp Try.prog o a W K Q := by
  obtain ⟨i0, hi, hz0, hz1, hz2⟩ := info_parts hinfo
  rcases A with _ | ad
  · obtain rfl := hnone rfl
    obtain rfl : news = [] := List.eq_nil_of_length_eq_zero (by simpa using hl)
    have hrun : (Builtin.append_ #[t, t] o.type #[v, .slice none 0 cy]).run Try.prog W = .ok v W := by
      rcases hrow.2 with ⟨rfl, hl0⟩ | ⟨g, cap, cur, rfl, _, _, hnc, _⟩
      · simp [Builtin.append_, run_underlying ht, sizeOf, typeInfo, hi, Builtin.lenOf, Builtin.firstCells]
      · simp [Builtin.append_, run_underlying ht, sizeOf, typeInfo, hi, Builtin.lenOf, Builtin.firstCells, hnc, storeCells]
    exact oper_app s y t ho _ _ _ _ hs hy hrun (hK _ _ (by simpa using hrow) (World.grownBy.refl W _) (Or.inl rfl))
  · have hm : (k + m) * bytes ≤ 1000000000 * 1000 := Nat.mul_le_mul hn hby
    obtain ⟨v', w', hrun, h2, h3, _, h5⟩ := run_append_own_at (P := Try.prog) W base t o.type e i0 z size bytes ht hi hz0 hz1 hz2 hz hsz v k xs hrow ad m cy news hl (hc ad rfl) h1 (by unfold maxLen; omega) (by omega) hb
    exact oper_app s y t ho _ _ _ _ hs hy hrun (hK _ _ h2 h3 h5)
theorem wrap_pred {v g : Int} (hv : -9223372036854775808 ≤ v ∧ v ≤ 9223372036854775807) (hg : 0 ≤ g ∧ g ≤ 1099511627776) : (wrap64 (v - 1) == g) = decide (v = g + 1) := by
  by_cases h : v = -9223372036854775808
  · subst h
    have e : wrap64 (-9223372036854775808 - 1) = 9223372036854775807 := by decide +kernel
    rw [e, Bool.eq_iff_iff]
    simp
    omega
  · rw [wrap_in (by omega) (by omega), Bool.eq_iff_iff]
    simp
    omega
theorem wrapk_pred {v g : Int} (hv : -9223372036854775808 ≤ v ∧ v ≤ 9223372036854775807) (hg : 0 ≤ g ∧ g ≤ 1099511627776) : (IntKind.i64.wrap (v - 1) == g) = decide (v = g + 1) := by
  by_cases h : v = -9223372036854775808
  · subst h
    have e : IntKind.i64.wrap (-9223372036854775808 - 1) = 9223372036854775807 := by decide +kernel
    rw [e, Bool.eq_iff_iff]
    simp
    omega
  · rw [wrapk_in (by omega) (by omega), Bool.eq_iff_iff]
    simp
    omega
set_option maxHeartbeats 4000000 in
theorem rstep1_any (c : Cf) (ep sq : Int) (A : Option Addr) (st : List Int) (k : Nat) (D : Option Addr) (zs : List Zn) (d : Nat) (n : Nat → Int) (X : Option Addr) (b : List UInt8) (x q : Nat) (w : World) (S : Nat → Prop) (hS : ∀ g, S g → g < w.heap.size) (h : StAt w S A st k D zs d) (hl : st.length ≤ 1000000) (hzl : zs.length ≤ 1000000) (hq : q < zs.length) (hn : n 3 = (q : Int)) (hnw : ∀ i, -9223372036854775808 ≤ n i ∧ n i ≤ 9223372036854775807) (hb : RdS w S X b) (hbl : b.length ≤ 10000000) (hbx : b.length ≤ x) (hgd : Good c)
    (hz : (0 ≤ zs[q].gen ∧ zs[q].gen ≤ 1099511627776) ∧ -1 ≤ zs[q].slot ∧ zs[q].ps.length ≤ 2) (hk : n 0 = 1) (reb : Bool) (hreb : reb = true ↔ 2 ∈ st) :
    Calls Try.prog 29 #[(.agg #[.int .i64 c.id, .int .i64 c.m, .int .i64 c.u, .int .i64 c.b, .int .i64 c.cp, .int .i64 c.z, .int .i64 c.s, .int .i64 c.mt, .int .i64 c.o, .int .i64 c.a, .int .i64 c.l, .int .i64 ep, .int .i64 sq, .slice A st.length k, .slice D zs.length d]), (.agg #[.int .i64 (n 0), .int .i64 (n 1), .int .i64 (n 2), .int .i64 (n 3), .int .i64 (n 4), .int .i64 (n 5), .int .i64 (n 6), .int .i64 (n 7), .int .i64 (n 8), .slice X b.length x])] w (GotSp w S (nextZ reb zs[q] n b) (FitsR c st zs zs[q] n b)) := by
  obtain ⟨g1, off, hD, hg1, hc⟩ := h.2.1 (by omega)
  obtain ⟨Y0, y0, c0, c1, c2, c3, c4, c5, hp, hpy, hpy2⟩ := hc q hq
  have HZ : Hid (∀ w', Below w.heap.size w w' → w'.cell? ⟨g1, off + q * 6, none⟩ = some (.int .i64 zs[q].gen) ∧ w'.cell? ⟨g1, off + q * 6 + 1, none⟩ = some (.int .i64 zs[q].slot) ∧ w'.cell? ⟨g1, off + q * 6 + 2, none⟩ = some (.bool zs[q].full) ∧ w'.cell? ⟨g1, off + q * 6 + 3, none⟩ = some (.int .i64 zs[q].w) ∧ w'.cell? ⟨g1, off + q * 6 + 4, none⟩ = some (.bool zs[q].whole) ∧ w'.cell? ⟨g1, off + q * 6 + 5, none⟩ = some (.slice Y0 zs[q].ps.length y0)) := fun w' hb =>
    ⟨((Kept.of_below hb hS).cell (p := ⟨g1, off + q * 6, none⟩) hg1).trans c0, ((Kept.of_below hb hS).cell (p := ⟨g1, off + q * 6 + 1, none⟩) hg1).trans c1, ((Kept.of_below hb hS).cell (p := ⟨g1, off + q * 6 + 2, none⟩) hg1).trans c2, ((Kept.of_below hb hS).cell (p := ⟨g1, off + q * 6 + 3, none⟩) hg1).trans c3, ((Kept.of_below hb hS).cell (p := ⟨g1, off + q * 6 + 4, none⟩) hg1).trans c4, ((Kept.of_below hb hS).cell (p := ⟨g1, off + q * 6 + 5, none⟩) hg1).trans c5⟩
  have HPR : Hid (∀ w', Below w.heap.size w w' → PrsAt w' (Ext S w.heap.size w') Y0 zs[q].ps ∧ zs[q].ps.length ≤ y0) := fun w' hb => ⟨(hp.keep (Kept.of_below hb hS)).mono (fun _ h => Or.inl h), hpy⟩
  have HPL0 : Hid (∀ w', Below w.heap.size w w' → PrsAt w' S Y0 zs[q].ps) := fun w' hb => hp.keep (Kept.of_below hb hS)
  obtain ⟨xs, hxn, hxr⟩ := hp.rowIn
  have HROW : Hid ((Y0 = none → zs[q].ps.length = 0) ∧ ∀ w', Below w.heap.size w w' → PsRow w' S zs[q].ps xs ∧ ∀ ad, Y0 = some ad → ∀ j u, xs[j]? = some u → w'.cell? (ad.add j) = some u) := ⟨hxn, fun w' hb => hxr w' (Kept.of_below hb hS)⟩
  clear c0 c1 c2 c3 c4 c5 hc hg1 hp hpy hpy2 hxn hxr
  obtain ⟨cs, hcs⟩ : ∃ cs : Array Value, cs = #[.int .i64 c.id, .int .i64 c.m, .int .i64 c.u, .int .i64 c.b, .int .i64 c.cp, .int .i64 c.z, .int .i64 c.s, .int .i64 c.mt, .int .i64 c.o, .int .i64 c.a, .int .i64 c.l, .int .i64 ep, .int .i64 sq, .slice A st.length k, .slice D zs.length d] := ⟨_, rfl⟩
  have HCS := Lib.hid hcs
  have HCN : Hid (cs.size = 15 ∧ cs.all (·.oneCell') = true) := by rw [hcs]; exact ⟨rfl, by first | kernel_rfl | simp [Value.oneCell']⟩
  have HHAS : Hid (∀ w' (m : Nat), Below w.heap.size w w' → Calls Try.prog 66 #[.agg cs, .int .i64 (m : Int)] w' (SaysP w' (usedB zs m = true))) := fun w' m hb => by rw [hcs]; exact rhas_any c ep sq A st k D zs d m w' ((h.mono hS).later hb) hzl
  have HREB : Hid (∀ w', Below w.heap.size w w' → Calls Try.prog 67 #[.agg cs] w' (SaysP w' (2 ∈ st))) := fun w' hb => by rw [hcs]; exact rRebuilds_any c ep sq A st k D zs d w' ((h.mono hS).later hb) hl
  have HBD : Hid (∀ w', Below w.heap.size w w' → RdS w' S X b) := fun w' hb2 => hb.keep (Kept.of_below hb2 hS)
  have HSS := Lib.hid hS
  have HBL : Hid (b.length ≤ x ∧ b.length ≤ 10000000) := ⟨hbx, hbl⟩
  have HMU : Hid (IntKind.i64.wrap (c.u * c.b) = c.u * c.b ∧ wrap64 (c.u * c.b) = c.u * c.b) := by
    obtain ⟨h1, h2, h3, h4, h5, h6, h7, h8, _⟩ := hgd
    have hm := mul_in (a := c.u) (b := c.b) (A := 64) (B := 4096) (by omega) h6 (by omega) h8
    exact ⟨wrapk_in (by omega) (by omega), wrap_in (by omega) (by omega)⟩
  have HQ := Lib.hid hq
  have HNW := Lib.hid hnw
  have HFR : Hid (FitsR c st zs zs[q] n b ↔ FitsR c st zs zs[q] n b) := Iff.rfl
  generalize zs[q] = z at HZ HPR HPL0 HROW HFR hz ⊢
  obtain ⟨gen, slot, full, zw, whole, ps⟩ := z
  dsimp only at HZ HPR HPL0 HROW hz
  have HZR := Lib.hid hz
  have HPL : Hid (ps.length ≤ 140737488351232) := by have := hz.2.2; show _ ≤ _; omega
  have HN3 := Lib.hid hn
  have HDD := Lib.hid hD
  have HRB := Lib.hid hreb
  rw [← hcs]
  clear hn hnw hD hreb hb hbl hbx hgd hz hcs h HFR hq hS
  have HK0 := Lib.hid hk
  clear hk
  go_enter Try.func29, Try.ntmps29
  go_upto_region 1 with fail
  have HV := Lib.hid (three_boxes w 27 30 51 cs #[.int .i64 (n 0), .int .i64 (n 1), .int .i64 (n 2), .int .i64 (n 3), .int .i64 (n 4), .int .i64 (n 5), .int .i64 (n 6), .int .i64 (n 7), .int .i64 (n 8), .slice X b.length x] #[.int .i64 0, .int .i64 0, .bool false, .int .i64 0, .bool false, .slice none 0 0])
  generalize (((w.alloc (.cells cs 27)).alloc (.cells #[.int .i64 (n 0), .int .i64 (n 1), .int .i64 (n 2), .int .i64 (n 3), .int .i64 (n 4), .int .i64 (n 5), .int .i64 (n 6), .int .i64 (n 7), .int .i64 (n 8), .slice X b.length x] 30)).alloc (.cells #[.int .i64 0, .int .i64 0, .bool false, .int .i64 0, .bool false, .slice none 0 0] 51)) = w0 at HV ⊢
  have HBX : Hid (Box w0 w.heap.size 27 #[.int .i64 c.id, .int .i64 c.m, .int .i64 c.u, .int .i64 c.b, .int .i64 c.cp, .int .i64 c.z, .int .i64 c.s, .int .i64 c.mt, .int .i64 c.o, .int .i64 c.a, .int .i64 c.l, .int .i64 ep, .int .i64 sq, .slice A st.length k, .slice D zs.length d]) := by rw [← HCS.out]; exact HV.out.1
  obtain ⟨s0, s1, s2, s3, s4, s5, s6, s7, s8, s9, s10, s11, s12, s13, s14⟩ := box15 HBX.out
  obtain ⟨r0, r1, r2, r3, r4, r5, r6, r7, r8, r9⟩ := box10 HV.out.2.1
  obtain ⟨z0, z1, z2, z3, z4, z5⟩ := HZ.out w0 HV.out.2.2.2.1
  rw [HN3.out] at r3
  rw [HDD.out] at s14
  have hqn := HQ.out
  have hsz := HV.out.2.2.2.2
  go_upto_region 2 with fail
  have HX : Hid (StpIn cs n X b x #[.int .i64 0, .int .i64 0, .bool false, .int .i64 0, .bool false, .slice none 0 0] #[.int .i64 gen, .int .i64 slot, .bool full, .int .i64 zw, .bool whole, .slice Y0 ps.length y0] w (w0.alloc (.cells #[.int .i64 gen, .int .i64 slot, .bool full, .int .i64 zw, .bool whole, .slice Y0 ps.length y0] 51))) := by
    have hb := below_one w0 (.cells #[.int .i64 gen, .int .i64 slot, .bool full, .int .i64 zw, .bool whole, .slice Y0 ps.length y0] 51)
    have hz := Box.fresh w0 51 #[.int .i64 gen, .int .i64 slot, .bool full, .int .i64 zw, .bool whole, .slice Y0 ps.length y0]
    rw [hsz] at hz
    exact ⟨HV.out.1.later hb, HV.out.2.1.later hb, HV.out.2.2.1.later hb, hz, HV.out.2.2.2.1.trans (hb.mono (by omega)), by simp; omega⟩
  generalize w0.alloc (.cells #[.int .i64 gen, .int .i64 slot, .bool full, .int .i64 zw, .bool whole, .slice Y0 ps.length y0] 51) = w1 at HX ⊢
  clear HV HBX HZ hqn hsz s0 s1 s2 s3 s4 s5 s6 s7 s8 s9 s10 s11 s12 s13 s14 r0 r1 r2 r3 r4 r5 r6 r7 r8 r9 z0 z1 z2 z3 z4 z5
  refine wpB_start (w.heap.size + 4) (by kernel_rfl) ?_
  have HX1 := Lib.hid (HX.out.later (Below.refl _ _).drew)
  generalize w1.drew = w1d at HX1 ⊢
  clear HX
  have HBX : Hid (Box w1d w.heap.size 27 #[.int .i64 c.id, .int .i64 c.m, .int .i64 c.u, .int .i64 c.b, .int .i64 c.cp, .int .i64 c.z, .int .i64 c.s, .int .i64 c.mt, .int .i64 c.o, .int .i64 c.a, .int .i64 c.l, .int .i64 ep, .int .i64 sq, .slice A st.length k, .slice D zs.length d]) := by rw [← HCS.out]; exact HX1.out.1
  have s0 := Box.at_ (B := (w.heap.size + 4)) HBX.out (by omega) (i := 0) rfl
  have s1 := Box.at_ (B := (w.heap.size + 4)) HBX.out (by omega) (i := 1) rfl
  have s2 := Box.at_ (B := (w.heap.size + 4)) HBX.out (by omega) (i := 2) rfl
  have s3 := Box.at_ (B := (w.heap.size + 4)) HBX.out (by omega) (i := 3) rfl
  have s4 := Box.at_ (B := (w.heap.size + 4)) HBX.out (by omega) (i := 4) rfl
  have s5 := Box.at_ (B := (w.heap.size + 4)) HBX.out (by omega) (i := 5) rfl
  have s6 := Box.at_ (B := (w.heap.size + 4)) HBX.out (by omega) (i := 6) rfl
  have s7 := Box.at_ (B := (w.heap.size + 4)) HBX.out (by omega) (i := 7) rfl
  have s8 := Box.at_ (B := (w.heap.size + 4)) HBX.out (by omega) (i := 8) rfl
  have s9 := Box.at_ (B := (w.heap.size + 4)) HBX.out (by omega) (i := 9) rfl
  have s10 := Box.at_ (B := (w.heap.size + 4)) HBX.out (by omega) (i := 10) rfl
  refine wpB_take (i := 0) (d := 19) (v := ?v2x0) rfl rfl (by kernel_rfl) (by kernel_rfl) (by kernel_rfl) (fun _ _ _ h => h) (by rfl) ?y2x0 ?r2x0
  case y2x0 => (intro w' hSw; go_simp; try (with_reducible rfl))
  simp only [Act.put, List.setIfInBounds_toArray, List.set_cons_zero, List.set_cons_succ]
  refine wpB_take (i := 1) (d := 20) (v := ?v2x1) rfl rfl (by kernel_rfl) (by kernel_rfl) (by kernel_rfl) (fun _ _ _ h => h) (by rfl) ?y2x1 ?r2x1
  case y2x1 => (intro w' hSw; go_simp; try (with_reducible rfl))
  simp only [Act.put, List.setIfInBounds_toArray, List.set_cons_zero, List.set_cons_succ]
  refine wpB_take (i := 3) (d := 22) (v := ?v2x3) rfl rfl (by kernel_rfl) (by kernel_rfl) (by kernel_rfl) (fun _ _ _ h => h) (by rfl) ?y2x3 ?r2x3
  case y2x3 => (intro w' hSw; go_simp; try (with_reducible rfl))
  simp only [Act.put, List.setIfInBounds_toArray, List.set_cons_zero, List.set_cons_succ]
  refine wpB_take (i := 4) (d := 23) (v := ?v2x4) rfl rfl (by kernel_rfl) (by kernel_rfl) (by kernel_rfl) (fun _ _ _ h => h) (by rfl) ?y2x4 ?r2x4
  case y2x4 => (intro w' hSw; go_simp; try (with_reducible rfl))
  simp only [Act.put, List.setIfInBounds_toArray, List.set_cons_zero, List.set_cons_succ]
  refine wpB_do (i := 2) (by kernel_rfl) rfl (by rfl) (fun K hK => ?_)
  go_simp
  refine (rsize_any c w1d).mono ?_
  rintro e w2 ⟨rfl, hb⟩
  have HX2 := Lib.hid (HX1.out.later hb)
  have HBX2 : Hid (Box w2 w.heap.size 27 #[.int .i64 c.id, .int .i64 c.m, .int .i64 c.u, .int .i64 c.b, .int .i64 c.cp, .int .i64 c.z, .int .i64 c.s, .int .i64 c.mt, .int .i64 c.o, .int .i64 c.a, .int .i64 c.l, .int .i64 ep, .int .i64 sq, .slice A st.length k, .slice D zs.length d]) := by rw [← HCS.out]; exact HX2.out.1
  have hbk := hb.mono HX1.out.2.2.2.2.2
  go_simp
  refine hK.out (w.heap.size + 4) _ _ (Nat.le_refl _) hbk ?_
  clear hK hb hbk HX1 HBX s0 s1 s2 s3 s4 s5 s6 s7 s8 s9 s10
  have s0 := Box.at_ (B := (w.heap.size + 4)) HBX2.out (by omega) (i := 0) rfl
  have s1 := Box.at_ (B := (w.heap.size + 4)) HBX2.out (by omega) (i := 1) rfl
  have s2 := Box.at_ (B := (w.heap.size + 4)) HBX2.out (by omega) (i := 2) rfl
  have s3 := Box.at_ (B := (w.heap.size + 4)) HBX2.out (by omega) (i := 3) rfl
  have s4 := Box.at_ (B := (w.heap.size + 4)) HBX2.out (by omega) (i := 4) rfl
  have s5 := Box.at_ (B := (w.heap.size + 4)) HBX2.out (by omega) (i := 5) rfl
  have s6 := Box.at_ (B := (w.heap.size + 4)) HBX2.out (by omega) (i := 6) rfl
  have s7 := Box.at_ (B := (w.heap.size + 4)) HBX2.out (by omega) (i := 7) rfl
  have s8 := Box.at_ (B := (w.heap.size + 4)) HBX2.out (by omega) (i := 8) rfl
  have s9 := Box.at_ (B := (w.heap.size + 4)) HBX2.out (by omega) (i := 9) rfl
  have s10 := Box.at_ (B := (w.heap.size + 4)) HBX2.out (by omega) (i := 10) rfl
  refine wpB_do (i := 5) (by kernel_rfl) rfl (by rfl) (fun K hK => ?_)
  go_simp
  refine (nums_any c w2).mono ?_
  rintro e w3 ⟨rfl, hb⟩
  have HX := Lib.hid (HX2.out.later hb)
  have hbk := hb.mono HX2.out.2.2.2.2.2
  have hix := fun w => index4 (.int .i64 (dataC c)) (.int .i64 (dataC c * c.u)) (.int .i64 (stripesC c)) (.int .i64 (stripesC c * (dataC c * c.u))) (.int .i64 (slotsC c)) (.int .i64 (allC c)) (.int .i64 (roomC c)) w
  go_simp
  refine hK.out (w.heap.size + 4) _ _ (Nat.le_refl _) hbk ?_
  clear hK hb hbk HX2 HBX2 s0 s1 s2 s3 s4 s5 s6 s7 s8 s9 s10
  refine wpB_take (i := 6) (d := 25) (v := ?v2x6) rfl rfl (by kernel_rfl) (by kernel_rfl) (by kernel_rfl) (fun _ _ _ h => h) (by rfl) ?y2x6 ?r2x6
  case y2x6 => (intro w' hSw; go_simp; try (with_reducible rfl))
  simp only [Act.put, List.setIfInBounds_toArray, List.set_cons_zero, List.set_cons_succ]
  refine wpB_take (i := 7) (d := 7) (v := ?v2x7) rfl rfl (by kernel_rfl) (by kernel_rfl) (by kernel_rfl) (fun _ _ _ h => h) (by rfl) ?y2x7 ?r2x7
  case y2x7 => (intro w' hSw; go_simp; try (with_reducible rfl))
  simp only [Act.put, List.setIfInBounds_toArray, List.set_cons_zero, List.set_cons_succ]
  refine wpB_take (i := 8) (d := 8) (v := ?v2x8) rfl rfl (by kernel_rfl) (by kernel_rfl) (by kernel_rfl) (fun _ _ _ h => h) (by rfl) ?y2x8 ?r2x8
  case y2x8 => (intro w' hSw; go_simp; try (with_reducible rfl))
  simp only [Act.put, List.setIfInBounds_toArray, List.set_cons_zero, List.set_cons_succ]
  refine wpB_done (by kernel_rfl) ?_
  clear hix
  obtain ⟨r0, r1, r2, r3, r4, r5, r6, r7, r8, r9⟩ := box10 HX.out.2.1
  obtain ⟨z0, z1, z2, z3, z4, z5⟩ := box6 HX.out.2.2.2.1
  obtain ⟨f0, f1, f2, f3, f4, f5⟩ := froz6 HX.out.2.2.2.1
  have k1 : n 0 = 1 := HK0.out
  clear HK0
  · have hfit : FitsR c st zs ⟨gen, slot, full, zw, whole, ps⟩ n b ↔ (slot = -1 ∧ full = false ∧ n 4 = gen ∧ n 5 ∈ freeL c zs) := fits1 k1
    have hnx : nextZ reb ⟨gen, slot, full, zw, whole, ps⟩ n b = ⟨gen, n 5, full, zw, reb, ps⟩ := if_pos k1
    rw [k1] at r0
    have HFIT := Lib.hid hfit
    have HNZ := Lib.hid hnx
    clear hfit hnx k1
    go_upto_region 5 with fail
    go_cut [9] from 30 to 62 (fun s wx => ∃ okb : Bool, s = .bool okb ∧ (okb = true ↔ (slot = -1 ∧ full = false ∧ n 4 = gen ∧ n 5 ∈ freeL c zs)) ∧ StpIn cs n X b x #[.int .i64 0, .int .i64 0, .bool false, .int .i64 0, .bool false, .slice none 0 0] #[.int .i64 gen, .int .i64 slot, .bool full, .int .i64 zw, .bool whole, .slice Y0 ps.length y0] w wx)
    case first =>
      by_cases k1 : slot = -1
      case neg =>
        have k1b : (slot == -1) = false := by simpa using k1
        have HNO := Lib.hid k1
        clear k1
        go_wp2_with fail
        go_meet
        exact ⟨false, rfl, iff_of_false (by simp) (fun h => HNO.out h.1), HX.out⟩
      have k1b : (slot == -1) = true := by simpa using k1
      have HS1 := Lib.hid k1
      clear k1
      cases full
      case true =>
        go_wp2_with fail
        go_meet
        exact ⟨false, rfl, iff_of_false (by simp) (fun h => by simp at h), HX.out⟩
      by_cases k2 : gen = n 4
      case neg =>
        have k2b : (gen == n 4) = false := by simpa using k2
        have HNO := Lib.hid k2
        clear k2
        go_wp2_with fail
        go_meet
        exact ⟨false, rfl, iff_of_false (by simp) (fun h => HNO.out h.2.2.1.symm), HX.out⟩
      have k2b : (gen == n 4) = true := by simpa using k2
      have HS2 := Lib.hid k2
      clear k2
      by_cases k3 : 0 ≤ n 5
      case neg =>
        have HNO := Lib.hid k3
        go_wp2_with fail
        go_meet
        exact ⟨false, rfl, iff_of_false (by simp) (fun h => by have h1 := (mem_freeL.1 h.2.2.2).1; have h2 := HNO.out; omega), HX.out⟩
      by_cases k4 : n 5 < slotsC c
      case neg =>
        have HNO := Lib.hid k4
        go_wp2_with fail
        go_meet
        exact ⟨false, rfl, iff_of_false (by simp) (fun h => by have h1 := (mem_freeL.1 h.2.2.2).2.1; have h2 := HNO.out; omega), HX.out⟩
      obtain ⟨m, hm⟩ : ∃ m : Nat, n 5 = (m : Int) := ⟨(n 5).toNat, by omega⟩
      have HM := Lib.hid hm
      have HK4 : Hid (0 ≤ n 5 ∧ n 5 < slotsC c ∧ (n 5).toNat = m) := ⟨k3, k4, by omega⟩
      rw [hm] at r5 k3 k4
      clear hm
      go_wp2_with (refine list_load27g (by rfl) (.tmp 2) rfl w.heap.size cs HX.out.1 HCN.out.1 rfl ?_)
      refine (HHAS.out w3 m HX.out.2.2.2.2.1).mono ?_
      rintro e w4 ⟨bu, rfl, hu, hb⟩
      have HX4 := Lib.hid (HX.out.later hb)
      have HU := Lib.hid hu
      clear hb hu HX
      go_wp2_with fail
      go_meet
      refine ⟨!bu, by cases bu <;> rfl, ?_, HX4.out⟩
      have h1 := HU.out
      have h2 := HK4.out
      rw [mem_freeL, h2.2.2, ← h1]
      cases bu
      · simp [h2.1, h2.2.1, HS1.out, HS2.out]
      · simp
    case rest =>
      obtain ⟨okb, rfl, hok, hx⟩ := hcut
      have HOK := Lib.hid (hok.trans HFIT.out.symm)
      have HX5 := Lib.hid hx
      clear hok hx HX r0 r1 r2 r3 r4 r5 r6 r7 r8 r9 z0 z1 z2 z3 z4 z5 f0 f1 f2 f3 f4 f5
      go_upto_region 6 with fail
      refine wpG_start [w.heap.size + 3] (by kernel_rfl) ?_
      have HD := Lib.hid (HX5.out.later (Below.refl _ _).drew)
      generalize wc.drew = wd at HD ⊢
      clear HX5
      have hng : w.heap.size + 1 ∉ [w.heap.size + 3] := by simp
      have hng0 : w.heap.size ∉ [w.heap.size + 3] := by simp
      have r0 := Box.atG (gs := [w.heap.size + 3]) HD.out.2.1 hng (i := 0) rfl
      have r1 := Box.atG (gs := [w.heap.size + 3]) HD.out.2.1 hng (i := 1) rfl
      have r2 := Box.atG (gs := [w.heap.size + 3]) HD.out.2.1 hng (i := 2) rfl
      have r3 := Box.atG (gs := [w.heap.size + 3]) HD.out.2.1 hng (i := 3) rfl
      have r4 := Box.atG (gs := [w.heap.size + 3]) HD.out.2.1 hng (i := 4) rfl
      have r5 := Box.atG (gs := [w.heap.size + 3]) HD.out.2.1 hng (i := 5) rfl
      have r6 := Box.atG (gs := [w.heap.size + 3]) HD.out.2.1 hng (i := 6) rfl
      have r7 := Box.atG (gs := [w.heap.size + 3]) HD.out.2.1 hng (i := 7) rfl
      have r8 := Box.atG (gs := [w.heap.size + 3]) HD.out.2.1 hng (i := 8) rfl
      have r9 := Box.atG (gs := [w.heap.size + 3]) HD.out.2.1 hng (i := 9) rfl
      refine wpG_take (i := 0) (d := 63) (v := ?v6x0) rfl rfl (by kernel_rfl) (by kernel_rfl) (by kernel_rfl) (fun _ _ _ h => h) (by rfl) ?y6x0 ?r6x0
      case y6x0 => (intro w' hSw; go_simp; try (with_reducible rfl))
      simp only [Act.put, List.setIfInBounds_toArray, List.set_cons_zero, List.set_cons_succ]
      refine wpG_take (i := 1) (d := 64) (v := ?v6x1) rfl rfl (by kernel_rfl) (by kernel_rfl) (by kernel_rfl) (fun _ _ _ h => h) (by rfl) ?y6x1 ?r6x1
      case y6x1 => (intro w' hSw; go_simp; try (with_reducible rfl))
      simp only [Act.put, List.setIfInBounds_toArray, List.set_cons_zero, List.set_cons_succ]
      refine wpG_take (i := 2) (d := 65) (v := ?v6x2) rfl rfl (by kernel_rfl) (by kernel_rfl) (by kernel_rfl) (fun _ _ _ h => h) (by rfl) ?y6x2 ?r6x2
      case y6x2 => (intro w' hSw; refine exec_load27 (.tmp 2) ?_ w.heap.size cs (HD.out.1.turn hSw hng0) HCN.out.1 ?_ <;> rfl)
      simp only [Act.put, List.setIfInBounds_toArray, List.set_cons_zero, List.set_cons_succ]
      refine wpG_take (i := 4) (d := 67) (v := ?v6x4) rfl rfl (by kernel_rfl) (by kernel_rfl) (by kernel_rfl) (fun _ _ _ h => h) (by rfl) ?y6x4 ?r6x4
      case y6x4 => (intro w' hSw; go_simp; try (with_reducible rfl))
      simp only [Act.put, List.setIfInBounds_toArray, List.set_cons_zero, List.set_cons_succ]
      refine wpG_do (i := 3) (by kernel_rfl) rfl (by rfl) (fun K hK => ?_)
      go_simp
      go_simp
      refine (HREB.out wd HD.out.2.2.2.2.1).mono ?_
      rintro e w4 ⟨b4, rfl, hr4, hb4⟩
      have hbb : b4 = reb := by
        have h1 := hr4.trans HRB.out.symm
        cases b4 <;> cases reb <;> simp_all
      subst hbb
      have HD4 := Lib.hid (HD.out.later hb4)
      refine hK.out _ _ (Turn.of_below hb4 (Nat.le_refl _)) ?_
      clear hK hb4 hr4 HD r0 r1 r2 r3 r4 r5 r6 r7 r8 r9
      refine wpG_do (i := 5) (by kernel_rfl) rfl (by rfl) (fun K hK => ?_)
      go_simp
      obtain ⟨z0, z1, z2, z3, z4, z5⟩ := box6 HD4.out.2.2.2.1
      obtain ⟨f0, f1, f2, f3, f4, f5⟩ := froz6 HD4.out.2.2.2.1
      go_simp
      have HD5 := Lib.hid (HD4.out.setZ 1 (.int .i64 (n 5)))
      refine hK.out _ _ ((Turn.refl _ _).put (Or.inl (by simp)) _) ?_
      generalize w4.setCell ⟨w.heap.size + 3, 1, none⟩ (.int .i64 (n 5)) = w5 at HD5 ⊢
      clear hK HD4 z0 z1 z2 z3 z4 z5 f0 f1 f2 f3 f4 f5
      refine wpG_take (i := 6) (d := 68) (v := ?v6x6) rfl rfl (by kernel_rfl) (by kernel_rfl) (by kernel_rfl) (fun _ _ _ h => h) (by rfl) ?y6x6 ?r6x6
      case y6x6 => (intro w' hSw; go_simp; try (with_reducible rfl))
      simp only [Act.put, List.setIfInBounds_toArray, List.set_cons_zero, List.set_cons_succ]
      refine wpG_do (i := 7) (by kernel_rfl) rfl (by rfl) (fun K hK => ?_)
      go_simp
      obtain ⟨z0, z1, z2, z3, z4, z5⟩ := box6 HD5.out.2.2.2.1
      obtain ⟨f0, f1, f2, f3, f4, f5⟩ := froz6 HD5.out.2.2.2.1
      go_simp
      have HD6 : Hid (StpIn cs n X b x #[.int .i64 0, .int .i64 0, .bool false, .int .i64 0, .bool false, .slice none 0 0] #[.int .i64 gen, .int .i64 (n 5), .bool full, .int .i64 zw, .bool b4, .slice Y0 ps.length y0] w (w5.setCell ⟨w.heap.size + 3, 4, none⟩ (.bool b4))) := HD5.out.setZ 4 (.bool b4)
      refine hK.out _ _ ((Turn.refl _ _).put (Or.inl (by simp)) _) ?_
      generalize w5.setCell ⟨w.heap.size + 3, 4, none⟩ (.bool b4) = w6 at HD6 ⊢
      clear hK HD5 z0 z1 z2 z3 z4 z5 f0 f1 f2 f3 f4 f5
      refine wpG_done (by kernel_rfl) ?_
      have HNX : Hid (okb = true → (⟨gen, n 5, full, zw, b4, ps⟩ : Zn) = nextZ b4 ⟨gen, slot, full, zw, whole, ps⟩ n b) := fun _ => HNZ.out.symm
      obtain ⟨z0, z1, z2, z3, z4, z5⟩ := box6 HD6.out.2.2.2.1
      obtain ⟨t0, t1, t2, t3, t4, t5⟩ := box6 HD6.out.2.2.1
      obtain ⟨f0, f1, f2, f3, f4, f5⟩ := froz6 HD6.out.2.2.1
      go_wp2_with fail
      have HF := Lib.hid (HD6.out.fin rfl (.int .i64 gen) (.int .i64 (n 5)) (.bool full) (.int .i64 zw) (.bool b4) (.slice Y0 ps.length y0))
      generalize ((((((w6.setCell ⟨w.heap.size + 2, 0, none⟩ (.int .i64 gen)).setCell ⟨w.heap.size + 2, 1, none⟩ (.int .i64 (n 5))).setCell ⟨w.heap.size + 2, 2, none⟩ (.bool full)).setCell ⟨w.heap.size + 2, 3, none⟩ (.int .i64 zw)).setCell ⟨w.heap.size + 2, 4, none⟩ (.bool b4)).setCell ⟨w.heap.size + 2, 5, none⟩ (.slice Y0 ps.length y0)) = w9 at HF ⊢
      clear HD6 z0 z1 z2 z3 z4 z5 t0 t1 t2 t3 t4 t5 f0 f1 f2 f3 f4 f5
      exact bodyPost_ret (v := .tuple #[.agg #[.int .i64 gen, .int .i64 (n 5), .bool full, .int .i64 zw, .bool b4, .slice Y0 ps.length y0], .bool okb]) (res29 rfl rfl HF.out.2.2.1 rfl) rfl ⟨okb, ⟨gen, n 5, full, zw, b4, ps⟩, Y0, y0, rfl, HOK.out, HNX.out, (HPR.out w9 HF.out.2.2.2.2.1).1, (HPR.out w9 HF.out.2.2.2.2.1).2, HPL.out, HF.out.2.2.2.2.1⟩
set_option maxHeartbeats 4000000 in
theorem rstep2_any (c : Cf) (ep sq : Int) (A : Option Addr) (st : List Int) (k : Nat) (D : Option Addr) (zs : List Zn) (d : Nat) (n : Nat → Int) (X : Option Addr) (b : List UInt8) (x q : Nat) (w : World) (S : Nat → Prop) (hS : ∀ g, S g → g < w.heap.size) (h : StAt w S A st k D zs d) (hl : st.length ≤ 1000000) (hzl : zs.length ≤ 1000000) (hq : q < zs.length) (hn : n 3 = (q : Int)) (hnw : ∀ i, -9223372036854775808 ≤ n i ∧ n i ≤ 9223372036854775807) (hb : RdS w S X b) (hbl : b.length ≤ 10000000) (hbx : b.length ≤ x) (hgd : Good c)
    (hz : (0 ≤ zs[q].gen ∧ zs[q].gen ≤ 1099511627776) ∧ -1 ≤ zs[q].slot ∧ zs[q].ps.length ≤ 2) (hk : n 0 = 2) (reb : Bool) (hreb : reb = true ↔ 2 ∈ st) :
    Calls Try.prog 29 #[(.agg #[.int .i64 c.id, .int .i64 c.m, .int .i64 c.u, .int .i64 c.b, .int .i64 c.cp, .int .i64 c.z, .int .i64 c.s, .int .i64 c.mt, .int .i64 c.o, .int .i64 c.a, .int .i64 c.l, .int .i64 ep, .int .i64 sq, .slice A st.length k, .slice D zs.length d]), (.agg #[.int .i64 (n 0), .int .i64 (n 1), .int .i64 (n 2), .int .i64 (n 3), .int .i64 (n 4), .int .i64 (n 5), .int .i64 (n 6), .int .i64 (n 7), .int .i64 (n 8), .slice X b.length x])] w (GotSp w S (nextZ reb zs[q] n b) (FitsR c st zs zs[q] n b)) := by
  obtain ⟨g1, off, hD, hg1, hc⟩ := h.2.1 (by omega)
  obtain ⟨Y0, y0, c0, c1, c2, c3, c4, c5, hp, hpy, hpy2⟩ := hc q hq
  have HZ : Hid (∀ w', Below w.heap.size w w' → w'.cell? ⟨g1, off + q * 6, none⟩ = some (.int .i64 zs[q].gen) ∧ w'.cell? ⟨g1, off + q * 6 + 1, none⟩ = some (.int .i64 zs[q].slot) ∧ w'.cell? ⟨g1, off + q * 6 + 2, none⟩ = some (.bool zs[q].full) ∧ w'.cell? ⟨g1, off + q * 6 + 3, none⟩ = some (.int .i64 zs[q].w) ∧ w'.cell? ⟨g1, off + q * 6 + 4, none⟩ = some (.bool zs[q].whole) ∧ w'.cell? ⟨g1, off + q * 6 + 5, none⟩ = some (.slice Y0 zs[q].ps.length y0)) := fun w' hb =>
    ⟨((Kept.of_below hb hS).cell (p := ⟨g1, off + q * 6, none⟩) hg1).trans c0, ((Kept.of_below hb hS).cell (p := ⟨g1, off + q * 6 + 1, none⟩) hg1).trans c1, ((Kept.of_below hb hS).cell (p := ⟨g1, off + q * 6 + 2, none⟩) hg1).trans c2, ((Kept.of_below hb hS).cell (p := ⟨g1, off + q * 6 + 3, none⟩) hg1).trans c3, ((Kept.of_below hb hS).cell (p := ⟨g1, off + q * 6 + 4, none⟩) hg1).trans c4, ((Kept.of_below hb hS).cell (p := ⟨g1, off + q * 6 + 5, none⟩) hg1).trans c5⟩
  have HPR : Hid (∀ w', Below w.heap.size w w' → PrsAt w' (Ext S w.heap.size w') Y0 zs[q].ps ∧ zs[q].ps.length ≤ y0) := fun w' hb => ⟨(hp.keep (Kept.of_below hb hS)).mono (fun _ h => Or.inl h), hpy⟩
  have HPL0 : Hid (∀ w', Below w.heap.size w w' → PrsAt w' S Y0 zs[q].ps) := fun w' hb => hp.keep (Kept.of_below hb hS)
  obtain ⟨xs, hxn, hxr⟩ := hp.rowIn
  have HROW : Hid ((Y0 = none → zs[q].ps.length = 0) ∧ ∀ w', Below w.heap.size w w' → PsRow w' S zs[q].ps xs ∧ ∀ ad, Y0 = some ad → ∀ j u, xs[j]? = some u → w'.cell? (ad.add j) = some u) := ⟨hxn, fun w' hb => hxr w' (Kept.of_below hb hS)⟩
  clear c0 c1 c2 c3 c4 c5 hc hg1 hp hpy hpy2 hxn hxr
  obtain ⟨cs, hcs⟩ : ∃ cs : Array Value, cs = #[.int .i64 c.id, .int .i64 c.m, .int .i64 c.u, .int .i64 c.b, .int .i64 c.cp, .int .i64 c.z, .int .i64 c.s, .int .i64 c.mt, .int .i64 c.o, .int .i64 c.a, .int .i64 c.l, .int .i64 ep, .int .i64 sq, .slice A st.length k, .slice D zs.length d] := ⟨_, rfl⟩
  have HCS := Lib.hid hcs
  have HCN : Hid (cs.size = 15 ∧ cs.all (·.oneCell') = true) := by rw [hcs]; exact ⟨rfl, by first | kernel_rfl | simp [Value.oneCell']⟩
  have HHAS : Hid (∀ w' (m : Nat), Below w.heap.size w w' → Calls Try.prog 66 #[.agg cs, .int .i64 (m : Int)] w' (SaysP w' (usedB zs m = true))) := fun w' m hb => by rw [hcs]; exact rhas_any c ep sq A st k D zs d m w' ((h.mono hS).later hb) hzl
  have HREB : Hid (∀ w', Below w.heap.size w w' → Calls Try.prog 67 #[.agg cs] w' (SaysP w' (2 ∈ st))) := fun w' hb => by rw [hcs]; exact rRebuilds_any c ep sq A st k D zs d w' ((h.mono hS).later hb) hl
  have HBD : Hid (∀ w', Below w.heap.size w w' → RdS w' S X b) := fun w' hb2 => hb.keep (Kept.of_below hb2 hS)
  have HSS := Lib.hid hS
  have HBL : Hid (b.length ≤ x ∧ b.length ≤ 10000000) := ⟨hbx, hbl⟩
  have HMU : Hid (IntKind.i64.wrap (c.u * c.b) = c.u * c.b ∧ wrap64 (c.u * c.b) = c.u * c.b) := by
    obtain ⟨h1, h2, h3, h4, h5, h6, h7, h8, _⟩ := hgd
    have hm := mul_in (a := c.u) (b := c.b) (A := 64) (B := 4096) (by omega) h6 (by omega) h8
    exact ⟨wrapk_in (by omega) (by omega), wrap_in (by omega) (by omega)⟩
  have HQ := Lib.hid hq
  have HNW := Lib.hid hnw
  have HFR : Hid (FitsR c st zs zs[q] n b ↔ FitsR c st zs zs[q] n b) := Iff.rfl
  generalize zs[q] = z at HZ HPR HPL0 HROW HFR hz ⊢
  obtain ⟨gen, slot, full, zw, whole, ps⟩ := z
  dsimp only at HZ HPR HPL0 HROW hz
  have HZR := Lib.hid hz
  have HPL : Hid (ps.length ≤ 140737488351232) := by have := hz.2.2; show _ ≤ _; omega
  have HN3 := Lib.hid hn
  have HDD := Lib.hid hD
  have HRB := Lib.hid hreb
  rw [← hcs]
  clear hn hnw hD hreb hb hbl hbx hgd hz hcs h HFR hq hS
  have HK0 := Lib.hid hk
  clear hk
  go_enter Try.func29, Try.ntmps29
  go_upto_region 1 with fail
  have HV := Lib.hid (three_boxes w 27 30 51 cs #[.int .i64 (n 0), .int .i64 (n 1), .int .i64 (n 2), .int .i64 (n 3), .int .i64 (n 4), .int .i64 (n 5), .int .i64 (n 6), .int .i64 (n 7), .int .i64 (n 8), .slice X b.length x] #[.int .i64 0, .int .i64 0, .bool false, .int .i64 0, .bool false, .slice none 0 0])
  generalize (((w.alloc (.cells cs 27)).alloc (.cells #[.int .i64 (n 0), .int .i64 (n 1), .int .i64 (n 2), .int .i64 (n 3), .int .i64 (n 4), .int .i64 (n 5), .int .i64 (n 6), .int .i64 (n 7), .int .i64 (n 8), .slice X b.length x] 30)).alloc (.cells #[.int .i64 0, .int .i64 0, .bool false, .int .i64 0, .bool false, .slice none 0 0] 51)) = w0 at HV ⊢
  have HBX : Hid (Box w0 w.heap.size 27 #[.int .i64 c.id, .int .i64 c.m, .int .i64 c.u, .int .i64 c.b, .int .i64 c.cp, .int .i64 c.z, .int .i64 c.s, .int .i64 c.mt, .int .i64 c.o, .int .i64 c.a, .int .i64 c.l, .int .i64 ep, .int .i64 sq, .slice A st.length k, .slice D zs.length d]) := by rw [← HCS.out]; exact HV.out.1
  obtain ⟨s0, s1, s2, s3, s4, s5, s6, s7, s8, s9, s10, s11, s12, s13, s14⟩ := box15 HBX.out
  obtain ⟨r0, r1, r2, r3, r4, r5, r6, r7, r8, r9⟩ := box10 HV.out.2.1
  obtain ⟨z0, z1, z2, z3, z4, z5⟩ := HZ.out w0 HV.out.2.2.2.1
  rw [HN3.out] at r3
  rw [HDD.out] at s14
  have hqn := HQ.out
  have hsz := HV.out.2.2.2.2
  go_upto_region 2 with fail
  have HX : Hid (StpIn cs n X b x #[.int .i64 0, .int .i64 0, .bool false, .int .i64 0, .bool false, .slice none 0 0] #[.int .i64 gen, .int .i64 slot, .bool full, .int .i64 zw, .bool whole, .slice Y0 ps.length y0] w (w0.alloc (.cells #[.int .i64 gen, .int .i64 slot, .bool full, .int .i64 zw, .bool whole, .slice Y0 ps.length y0] 51))) := by
    have hb := below_one w0 (.cells #[.int .i64 gen, .int .i64 slot, .bool full, .int .i64 zw, .bool whole, .slice Y0 ps.length y0] 51)
    have hz := Box.fresh w0 51 #[.int .i64 gen, .int .i64 slot, .bool full, .int .i64 zw, .bool whole, .slice Y0 ps.length y0]
    rw [hsz] at hz
    exact ⟨HV.out.1.later hb, HV.out.2.1.later hb, HV.out.2.2.1.later hb, hz, HV.out.2.2.2.1.trans (hb.mono (by omega)), by simp; omega⟩
  generalize w0.alloc (.cells #[.int .i64 gen, .int .i64 slot, .bool full, .int .i64 zw, .bool whole, .slice Y0 ps.length y0] 51) = w1 at HX ⊢
  clear HV HBX HZ hqn hsz s0 s1 s2 s3 s4 s5 s6 s7 s8 s9 s10 s11 s12 s13 s14 r0 r1 r2 r3 r4 r5 r6 r7 r8 r9 z0 z1 z2 z3 z4 z5
  refine wpB_start (w.heap.size + 4) (by kernel_rfl) ?_
  have HX1 := Lib.hid (HX.out.later (Below.refl _ _).drew)
  generalize w1.drew = w1d at HX1 ⊢
  clear HX
  have HBX : Hid (Box w1d w.heap.size 27 #[.int .i64 c.id, .int .i64 c.m, .int .i64 c.u, .int .i64 c.b, .int .i64 c.cp, .int .i64 c.z, .int .i64 c.s, .int .i64 c.mt, .int .i64 c.o, .int .i64 c.a, .int .i64 c.l, .int .i64 ep, .int .i64 sq, .slice A st.length k, .slice D zs.length d]) := by rw [← HCS.out]; exact HX1.out.1
  have s0 := Box.at_ (B := (w.heap.size + 4)) HBX.out (by omega) (i := 0) rfl
  have s1 := Box.at_ (B := (w.heap.size + 4)) HBX.out (by omega) (i := 1) rfl
  have s2 := Box.at_ (B := (w.heap.size + 4)) HBX.out (by omega) (i := 2) rfl
  have s3 := Box.at_ (B := (w.heap.size + 4)) HBX.out (by omega) (i := 3) rfl
  have s4 := Box.at_ (B := (w.heap.size + 4)) HBX.out (by omega) (i := 4) rfl
  have s5 := Box.at_ (B := (w.heap.size + 4)) HBX.out (by omega) (i := 5) rfl
  have s6 := Box.at_ (B := (w.heap.size + 4)) HBX.out (by omega) (i := 6) rfl
  have s7 := Box.at_ (B := (w.heap.size + 4)) HBX.out (by omega) (i := 7) rfl
  have s8 := Box.at_ (B := (w.heap.size + 4)) HBX.out (by omega) (i := 8) rfl
  have s9 := Box.at_ (B := (w.heap.size + 4)) HBX.out (by omega) (i := 9) rfl
  have s10 := Box.at_ (B := (w.heap.size + 4)) HBX.out (by omega) (i := 10) rfl
  refine wpB_take (i := 0) (d := 19) (v := ?v2x0) rfl rfl (by kernel_rfl) (by kernel_rfl) (by kernel_rfl) (fun _ _ _ h => h) (by rfl) ?y2x0 ?r2x0
  case y2x0 => (intro w' hSw; go_simp; try (with_reducible rfl))
  simp only [Act.put, List.setIfInBounds_toArray, List.set_cons_zero, List.set_cons_succ]
  refine wpB_take (i := 1) (d := 20) (v := ?v2x1) rfl rfl (by kernel_rfl) (by kernel_rfl) (by kernel_rfl) (fun _ _ _ h => h) (by rfl) ?y2x1 ?r2x1
  case y2x1 => (intro w' hSw; go_simp; try (with_reducible rfl))
  simp only [Act.put, List.setIfInBounds_toArray, List.set_cons_zero, List.set_cons_succ]
  refine wpB_take (i := 3) (d := 22) (v := ?v2x3) rfl rfl (by kernel_rfl) (by kernel_rfl) (by kernel_rfl) (fun _ _ _ h => h) (by rfl) ?y2x3 ?r2x3
  case y2x3 => (intro w' hSw; go_simp; try (with_reducible rfl))
  simp only [Act.put, List.setIfInBounds_toArray, List.set_cons_zero, List.set_cons_succ]
  refine wpB_take (i := 4) (d := 23) (v := ?v2x4) rfl rfl (by kernel_rfl) (by kernel_rfl) (by kernel_rfl) (fun _ _ _ h => h) (by rfl) ?y2x4 ?r2x4
  case y2x4 => (intro w' hSw; go_simp; try (with_reducible rfl))
  simp only [Act.put, List.setIfInBounds_toArray, List.set_cons_zero, List.set_cons_succ]
  refine wpB_do (i := 2) (by kernel_rfl) rfl (by rfl) (fun K hK => ?_)
  go_simp
  refine (rsize_any c w1d).mono ?_
  rintro e w2 ⟨rfl, hb⟩
  have HX2 := Lib.hid (HX1.out.later hb)
  have HBX2 : Hid (Box w2 w.heap.size 27 #[.int .i64 c.id, .int .i64 c.m, .int .i64 c.u, .int .i64 c.b, .int .i64 c.cp, .int .i64 c.z, .int .i64 c.s, .int .i64 c.mt, .int .i64 c.o, .int .i64 c.a, .int .i64 c.l, .int .i64 ep, .int .i64 sq, .slice A st.length k, .slice D zs.length d]) := by rw [← HCS.out]; exact HX2.out.1
  have hbk := hb.mono HX1.out.2.2.2.2.2
  go_simp
  refine hK.out (w.heap.size + 4) _ _ (Nat.le_refl _) hbk ?_
  clear hK hb hbk HX1 HBX s0 s1 s2 s3 s4 s5 s6 s7 s8 s9 s10
  have s0 := Box.at_ (B := (w.heap.size + 4)) HBX2.out (by omega) (i := 0) rfl
  have s1 := Box.at_ (B := (w.heap.size + 4)) HBX2.out (by omega) (i := 1) rfl
  have s2 := Box.at_ (B := (w.heap.size + 4)) HBX2.out (by omega) (i := 2) rfl
  have s3 := Box.at_ (B := (w.heap.size + 4)) HBX2.out (by omega) (i := 3) rfl
  have s4 := Box.at_ (B := (w.heap.size + 4)) HBX2.out (by omega) (i := 4) rfl
  have s5 := Box.at_ (B := (w.heap.size + 4)) HBX2.out (by omega) (i := 5) rfl
  have s6 := Box.at_ (B := (w.heap.size + 4)) HBX2.out (by omega) (i := 6) rfl
  have s7 := Box.at_ (B := (w.heap.size + 4)) HBX2.out (by omega) (i := 7) rfl
  have s8 := Box.at_ (B := (w.heap.size + 4)) HBX2.out (by omega) (i := 8) rfl
  have s9 := Box.at_ (B := (w.heap.size + 4)) HBX2.out (by omega) (i := 9) rfl
  have s10 := Box.at_ (B := (w.heap.size + 4)) HBX2.out (by omega) (i := 10) rfl
  refine wpB_do (i := 5) (by kernel_rfl) rfl (by rfl) (fun K hK => ?_)
  go_simp
  refine (nums_any c w2).mono ?_
  rintro e w3 ⟨rfl, hb⟩
  have HX := Lib.hid (HX2.out.later hb)
  have hbk := hb.mono HX2.out.2.2.2.2.2
  have hix := fun w => index4 (.int .i64 (dataC c)) (.int .i64 (dataC c * c.u)) (.int .i64 (stripesC c)) (.int .i64 (stripesC c * (dataC c * c.u))) (.int .i64 (slotsC c)) (.int .i64 (allC c)) (.int .i64 (roomC c)) w
  go_simp
  refine hK.out (w.heap.size + 4) _ _ (Nat.le_refl _) hbk ?_
  clear hK hb hbk HX2 HBX2 s0 s1 s2 s3 s4 s5 s6 s7 s8 s9 s10
  refine wpB_take (i := 6) (d := 25) (v := ?v2x6) rfl rfl (by kernel_rfl) (by kernel_rfl) (by kernel_rfl) (fun _ _ _ h => h) (by rfl) ?y2x6 ?r2x6
  case y2x6 => (intro w' hSw; go_simp; try (with_reducible rfl))
  simp only [Act.put, List.setIfInBounds_toArray, List.set_cons_zero, List.set_cons_succ]
  refine wpB_take (i := 7) (d := 7) (v := ?v2x7) rfl rfl (by kernel_rfl) (by kernel_rfl) (by kernel_rfl) (fun _ _ _ h => h) (by rfl) ?y2x7 ?r2x7
  case y2x7 => (intro w' hSw; go_simp; try (with_reducible rfl))
  simp only [Act.put, List.setIfInBounds_toArray, List.set_cons_zero, List.set_cons_succ]
  refine wpB_take (i := 8) (d := 8) (v := ?v2x8) rfl rfl (by kernel_rfl) (by kernel_rfl) (by kernel_rfl) (fun _ _ _ h => h) (by rfl) ?y2x8 ?r2x8
  case y2x8 => (intro w' hSw; go_simp; try (with_reducible rfl))
  simp only [Act.put, List.setIfInBounds_toArray, List.set_cons_zero, List.set_cons_succ]
  refine wpB_done (by kernel_rfl) ?_
  clear hix
  obtain ⟨r0, r1, r2, r3, r4, r5, r6, r7, r8, r9⟩ := box10 HX.out.2.1
  obtain ⟨z0, z1, z2, z3, z4, z5⟩ := box6 HX.out.2.2.2.1
  obtain ⟨f0, f1, f2, f3, f4, f5⟩ := froz6 HX.out.2.2.2.1
  have k1 : n 0 ≠ 1 := by have := HK0.out; omega
  have kb1 : (n 0 == 1) = false := by simpa using k1
  have k2 : n 0 = 2 := HK0.out
  clear HK0
  · have hfit : FitsR c st zs ⟨gen, slot, full, zw, whole, ps⟩ n b ↔ (n 4 = gen + 1 ∧ 0 ≤ n 4 ∧ n 4 ≤ 1099511627776) := fits2 k2
    have hnx : nextZ reb ⟨gen, slot, full, zw, whole, ps⟩ n b = ⟨n 4, -1, false, 0, false, []⟩ := (if_neg k1).trans ((if_neg (show ¬ n 0 = 5 by omega)).trans (if_pos k2))
    rw [k2] at r0
    have hwp := wrapk_pred (HNW.out 4) HZR.out.1
    have HFIT := Lib.hid hfit
    have HNZ := Lib.hid hnx
    clear hfit hnx k1 kb1 k2
    go_upto_region 9 with fail
    have HPR : Hid (∀ w', Below w.heap.size w w' → PrsAt w' (Ext S w.heap.size w') none ([] : List Pr) ∧ ([] : List Pr).length ≤ 0) := fun w' hb => ⟨PrsAt.nil, Nat.le_refl _⟩
    have HPL : Hid (([] : List Pr).length ≤ 140737488351232) := by show _ ≤ _; simp
    clear r0 r1 r2 r3 r4 r5 r6 r7 r8 r9 z0 z1 z2 z3 z4 z5 f0 f1 f2 f3 f4 f5
    by_cases k4 : n 4 = gen + 1
    case neg =>
      have k4b : (IntKind.i64.wrap (n 4 - 1) == gen) = false := by rw [hwp]; simpa using k4
      have HOK : Hid (false = true ↔ (n 4 = gen + 1 ∧ 0 ≤ n 4 ∧ n 4 ≤ 1099511627776)) := iff_of_false (by simp) (fun h => k4 h.1)
      clear hwp k4
      refine wpG_start [w.heap.size + 2] (by kernel_rfl) ?_
      have HD := Lib.hid (HX.out.later (Below.refl _ _).drew)
      generalize w3.drew = wd at HD ⊢
      clear HX
      have hng : w.heap.size + 1 ∉ [w.heap.size + 2] := by simp
      have hng3 : w.heap.size + 3 ∉ [w.heap.size + 2] := by simp
      have r0 := Box.atG (gs := [w.heap.size + 2]) HD.out.2.1 hng (i := 0) rfl
      have r1 := Box.atG (gs := [w.heap.size + 2]) HD.out.2.1 hng (i := 1) rfl
      have r2 := Box.atG (gs := [w.heap.size + 2]) HD.out.2.1 hng (i := 2) rfl
      have r3 := Box.atG (gs := [w.heap.size + 2]) HD.out.2.1 hng (i := 3) rfl
      have r4 := Box.atG (gs := [w.heap.size + 2]) HD.out.2.1 hng (i := 4) rfl
      have r5 := Box.atG (gs := [w.heap.size + 2]) HD.out.2.1 hng (i := 5) rfl
      have r6 := Box.atG (gs := [w.heap.size + 2]) HD.out.2.1 hng (i := 6) rfl
      have r7 := Box.atG (gs := [w.heap.size + 2]) HD.out.2.1 hng (i := 7) rfl
      have r8 := Box.atG (gs := [w.heap.size + 2]) HD.out.2.1 hng (i := 8) rfl
      have r9 := Box.atG (gs := [w.heap.size + 2]) HD.out.2.1 hng (i := 9) rfl
      have z0 := Box.atG (gs := [w.heap.size + 2]) HD.out.2.2.2.1 hng3 (i := 0) rfl
      have z1 := Box.atG (gs := [w.heap.size + 2]) HD.out.2.2.2.1 hng3 (i := 1) rfl
      have z2 := Box.atG (gs := [w.heap.size + 2]) HD.out.2.2.2.1 hng3 (i := 2) rfl
      have z3 := Box.atG (gs := [w.heap.size + 2]) HD.out.2.2.2.1 hng3 (i := 3) rfl
      have z4 := Box.atG (gs := [w.heap.size + 2]) HD.out.2.2.2.1 hng3 (i := 4) rfl
      have z5 := Box.atG (gs := [w.heap.size + 2]) HD.out.2.2.2.1 hng3 (i := 5) rfl
      refine wpG_take (i := 0) (d := 73) (v := ?v9aaax0) rfl rfl (by kernel_rfl) (by kernel_rfl) (by kernel_rfl) (fun _ _ _ h => h) (by rfl) ?y9aaax0 ?r9aaax0
      case y9aaax0 => (intro w' hSw; go_simp; try (with_reducible rfl))
      simp only [Act.put, List.setIfInBounds_toArray, List.set_cons_zero, List.set_cons_succ]
      refine wpG_take (i := 1) (d := 74) (v := ?v9aaax1) rfl rfl (by kernel_rfl) (by kernel_rfl) (by kernel_rfl) (fun _ _ _ h => h) (by rfl) ?y9aaax1 ?r9aaax1
      case y9aaax1 => (intro w' hSw; go_simp; try (with_reducible rfl))
      simp only [Act.put, List.setIfInBounds_toArray, List.set_cons_zero, List.set_cons_succ]
      refine wpG_take (i := 2) (d := 75) (v := ?v9aaax2) rfl rfl (by kernel_rfl) (by kernel_rfl) (by kernel_rfl) (fun _ _ _ h => h) (by rfl) ?y9aaax2 ?r9aaax2
      case y9aaax2 => (intro w' hSw; go_simp; try (with_reducible rfl))
      simp only [Act.put, List.setIfInBounds_toArray, List.set_cons_zero, List.set_cons_succ]
      refine wpG_take (i := 3) (d := 76) (v := ?v9aaax3) rfl rfl (by kernel_rfl) (by kernel_rfl) (by kernel_rfl) (fun _ _ _ h => h) (by rfl) ?y9aaax3 ?r9aaax3
      case y9aaax3 => (intro w' hSw; go_simp; try (with_reducible rfl))
      simp only [Act.put, List.setIfInBounds_toArray, List.set_cons_zero, List.set_cons_succ]
      refine wpG_take (i := 4) (d := 77) (v := ?v9aaax4) rfl rfl (by kernel_rfl) (by kernel_rfl) (by kernel_rfl) (fun _ _ _ h => h) (by rfl) ?y9aaax4 ?r9aaax4
      case y9aaax4 => (intro w' hSw; go_simp; try (with_reducible rfl))
      simp only [Act.put, List.setIfInBounds_toArray, List.set_cons_zero, List.set_cons_succ]
      refine wpG_take (i := 5) (d := 78) (v := ?v9aaax5) rfl rfl (by kernel_rfl) (by kernel_rfl) (by kernel_rfl) (fun _ _ _ h => h) (by rfl) ?y9aaax5 ?r9aaax5
      case y9aaax5 => (intro w' hSw; go_simp; try (with_reducible rfl))
      simp only [Act.put, List.setIfInBounds_toArray, List.set_cons_zero, List.set_cons_succ]
      refine wpG_take (i := 6) (d := 79) (v := ?v9aaax6) rfl rfl (by kernel_rfl) (by kernel_rfl) (by kernel_rfl) (fun _ _ _ h => h) (by rfl) ?y9aaax6 ?r9aaax6
      case y9aaax6 => (intro w' hSw; go_simp; try (with_reducible rfl))
      simp only [Act.put, List.setIfInBounds_toArray, List.set_cons_zero, List.set_cons_succ]
      refine wpG_take (i := 7) (d := 80) (v := ?v9aaax7) rfl rfl (by kernel_rfl) (by kernel_rfl) (by kernel_rfl) (fun _ _ _ h => h) (by rfl) ?y9aaax7 ?r9aaax7
      case y9aaax7 => (intro w' hSw; go_simp; try (with_reducible rfl))
      simp only [Act.put, List.setIfInBounds_toArray, List.set_cons_zero, List.set_cons_succ]
      refine wpG_take (i := 8) (d := 81) (v := ?v9aaax8) rfl rfl (by kernel_rfl) (by kernel_rfl) (by kernel_rfl) (fun _ _ _ h => h) (by rfl) ?y9aaax8 ?r9aaax8
      case y9aaax8 => (intro w' hSw; go_simp; try (with_reducible rfl))
      simp only [Act.put, List.setIfInBounds_toArray, List.set_cons_zero, List.set_cons_succ]
      refine wpG_take (i := 9) (d := 82) (v := ?v9aaax9) rfl rfl (by kernel_rfl) (by kernel_rfl) (by kernel_rfl) (fun _ _ _ h => h) (by rfl) ?y9aaax9 ?r9aaax9
      case y9aaax9 => (intro w' hSw; go_simp; try (with_reducible rfl))
      simp only [Act.put, List.setIfInBounds_toArray, List.set_cons_zero, List.set_cons_succ]
      refine wpG_skip (i := 10) (d := 83) rfl rfl (by kernel_rfl) (by kernel_rfl) (by kernel_rfl) (fun _ _ _ h => h) (by rfl) ?_
      simp only [Act.put, List.setIfInBounds_toArray, List.set_cons_zero, List.set_cons_succ]
      refine wpG_skip (i := 11) (d := 84) rfl rfl (by kernel_rfl) (by kernel_rfl) (by kernel_rfl) (fun _ _ _ h => h) (by rfl) ?_
      simp only [Act.put, List.setIfInBounds_toArray, List.set_cons_zero, List.set_cons_succ]
      refine wpG_skip (i := 12) (d := 85) rfl rfl (by kernel_rfl) (by kernel_rfl) (by kernel_rfl) (fun _ _ _ h => h) (by rfl) ?_
      simp only [Act.put, List.setIfInBounds_toArray, List.set_cons_zero, List.set_cons_succ]
      refine wpG_take (i := 13) (d := 86) (v := ?v9aaax13) rfl rfl (by kernel_rfl) (by kernel_rfl) (by kernel_rfl) (fun _ _ _ h => h) (by rfl) ?y9aaax13 ?r9aaax13
      case y9aaax13 => (intro w' hSw; go_simp; try (with_reducible rfl))
      simp only [Act.put, List.setIfInBounds_toArray, List.set_cons_zero, List.set_cons_succ]
      refine wpG_do (i := 14) (by kernel_rfl) rfl (by rfl) (fun K hK => ?_)
      go_simp
      obtain ⟨t0, t1, t2, t3, t4, t5⟩ := box6 HD.out.2.2.1
      obtain ⟨e0, e1, e2, e3, e4, e5⟩ := froz6 HD.out.2.2.1
      go_simp
      have HF := Lib.hid (HD.out.fin rfl (.int .i64 (n 4)) (.int .i64 (-1)) (.bool false) (.int .i64 0) (.bool false) (.slice none 0 0))
      refine hK.out _ _ (turn6 (.int .i64 (n 4)) (.int .i64 (-1)) (.bool false) (.int .i64 0) (.bool false) (.slice none 0 0) (by simp)) ?_
      generalize ((((((wd.setCell ⟨w.heap.size + 2, 0, none⟩ (.int .i64 (n 4))).setCell ⟨w.heap.size + 2, 1, none⟩ (.int .i64 (-1))).setCell ⟨w.heap.size + 2, 2, none⟩ (.bool false)).setCell ⟨w.heap.size + 2, 3, none⟩ (.int .i64 0)).setCell ⟨w.heap.size + 2, 4, none⟩ (.bool false)).setCell ⟨w.heap.size + 2, 5, none⟩ (.slice none 0 0)) = w9 at HF ⊢
      clear hK HD t0 t1 t2 t3 t4 t5 e0 e1 e2 e3 e4 e5 r0 r1 r2 r3 r4 r5 r6 r7 r8 r9 z0 z1 z2 z3 z4 z5
      refine wpG_take (i := 15) (d := 5) (v := ?v9aaax15) rfl rfl (by kernel_rfl) (by kernel_rfl) (by kernel_rfl) (fun _ _ _ h => h) (by rfl) ?y9aaax15 ?r9aaax15
      case y9aaax15 => (intro w' hSw; go_simp; try (with_reducible rfl))
      simp only [Act.put, List.setIfInBounds_toArray, List.set_cons_zero, List.set_cons_succ]
      refine wpG_done (by kernel_rfl) ?_
      go_wp2_with fail
      exact bodyPost_ret (v := .tuple #[.agg #[.int .i64 (n 4), .int .i64 (-1), .bool false, .int .i64 0, .bool false, .slice none 0 0], .bool false]) (res29 rfl rfl HF.out.2.2.1 rfl) rfl ⟨false, ⟨n 4, -1, false, 0, false, []⟩, none, 0, rfl, HOK.out.trans HFIT.out.symm, fun _ => HNZ.out.symm, (HPR.out w9 HF.out.2.2.2.2.1).1, (HPR.out w9 HF.out.2.2.2.2.1).2, HPL.out, HF.out.2.2.2.2.1⟩
    have k4b : (IntKind.i64.wrap (n 4 - 1) == gen) = true := by rw [hwp]; simpa using k4
    have HK4 := Lib.hid k4
    clear hwp k4
    by_cases k5 : n 4 ≤ 1099511627776
    case neg =>
      have HOK : Hid (false = true ↔ (n 4 = gen + 1 ∧ 0 ≤ n 4 ∧ n 4 ≤ 1099511627776)) := iff_of_false (by simp) (fun h => k5 h.2.2)
      have k5d : decide (n 4 ≤ 1099511627776) = false := decide_eq_false k5
      refine wpG_start [w.heap.size + 2] (by kernel_rfl) ?_
      have HD := Lib.hid (HX.out.later (Below.refl _ _).drew)
      generalize w3.drew = wd at HD ⊢
      clear HX
      have hng : w.heap.size + 1 ∉ [w.heap.size + 2] := by simp
      have hng3 : w.heap.size + 3 ∉ [w.heap.size + 2] := by simp
      have r0 := Box.atG (gs := [w.heap.size + 2]) HD.out.2.1 hng (i := 0) rfl
      have r1 := Box.atG (gs := [w.heap.size + 2]) HD.out.2.1 hng (i := 1) rfl
      have r2 := Box.atG (gs := [w.heap.size + 2]) HD.out.2.1 hng (i := 2) rfl
      have r3 := Box.atG (gs := [w.heap.size + 2]) HD.out.2.1 hng (i := 3) rfl
      have r4 := Box.atG (gs := [w.heap.size + 2]) HD.out.2.1 hng (i := 4) rfl
      have r5 := Box.atG (gs := [w.heap.size + 2]) HD.out.2.1 hng (i := 5) rfl
      have r6 := Box.atG (gs := [w.heap.size + 2]) HD.out.2.1 hng (i := 6) rfl
      have r7 := Box.atG (gs := [w.heap.size + 2]) HD.out.2.1 hng (i := 7) rfl
      have r8 := Box.atG (gs := [w.heap.size + 2]) HD.out.2.1 hng (i := 8) rfl
      have r9 := Box.atG (gs := [w.heap.size + 2]) HD.out.2.1 hng (i := 9) rfl
      have z0 := Box.atG (gs := [w.heap.size + 2]) HD.out.2.2.2.1 hng3 (i := 0) rfl
      have z1 := Box.atG (gs := [w.heap.size + 2]) HD.out.2.2.2.1 hng3 (i := 1) rfl
      have z2 := Box.atG (gs := [w.heap.size + 2]) HD.out.2.2.2.1 hng3 (i := 2) rfl
      have z3 := Box.atG (gs := [w.heap.size + 2]) HD.out.2.2.2.1 hng3 (i := 3) rfl
      have z4 := Box.atG (gs := [w.heap.size + 2]) HD.out.2.2.2.1 hng3 (i := 4) rfl
      have z5 := Box.atG (gs := [w.heap.size + 2]) HD.out.2.2.2.1 hng3 (i := 5) rfl
      refine wpG_take (i := 0) (d := 73) (v := ?v9aaaax0) rfl rfl (by kernel_rfl) (by kernel_rfl) (by kernel_rfl) (fun _ _ _ h => h) (by rfl) ?y9aaaax0 ?r9aaaax0
      case y9aaaax0 => (intro w' hSw; go_simp; try (with_reducible rfl))
      simp only [Act.put, List.setIfInBounds_toArray, List.set_cons_zero, List.set_cons_succ]
      refine wpG_take (i := 1) (d := 74) (v := ?v9aaaax1) rfl rfl (by kernel_rfl) (by kernel_rfl) (by kernel_rfl) (fun _ _ _ h => h) (by rfl) ?y9aaaax1 ?r9aaaax1
      case y9aaaax1 => (intro w' hSw; go_simp; try (with_reducible rfl))
      simp only [Act.put, List.setIfInBounds_toArray, List.set_cons_zero, List.set_cons_succ]
      refine wpG_take (i := 2) (d := 75) (v := ?v9aaaax2) rfl rfl (by kernel_rfl) (by kernel_rfl) (by kernel_rfl) (fun _ _ _ h => h) (by rfl) ?y9aaaax2 ?r9aaaax2
      case y9aaaax2 => (intro w' hSw; go_simp; try (with_reducible rfl))
      simp only [Act.put, List.setIfInBounds_toArray, List.set_cons_zero, List.set_cons_succ]
      refine wpG_take (i := 3) (d := 76) (v := ?v9aaaax3) rfl rfl (by kernel_rfl) (by kernel_rfl) (by kernel_rfl) (fun _ _ _ h => h) (by rfl) ?y9aaaax3 ?r9aaaax3
      case y9aaaax3 => (intro w' hSw; go_simp; try (with_reducible rfl))
      simp only [Act.put, List.setIfInBounds_toArray, List.set_cons_zero, List.set_cons_succ]
      refine wpG_take (i := 4) (d := 77) (v := ?v9aaaax4) rfl rfl (by kernel_rfl) (by kernel_rfl) (by kernel_rfl) (fun _ _ _ h => h) (by rfl) ?y9aaaax4 ?r9aaaax4
      case y9aaaax4 => (intro w' hSw; go_simp; try (with_reducible rfl))
      simp only [Act.put, List.setIfInBounds_toArray, List.set_cons_zero, List.set_cons_succ]
      refine wpG_take (i := 5) (d := 78) (v := ?v9aaaax5) rfl rfl (by kernel_rfl) (by kernel_rfl) (by kernel_rfl) (fun _ _ _ h => h) (by rfl) ?y9aaaax5 ?r9aaaax5
      case y9aaaax5 => (intro w' hSw; go_simp; try (with_reducible rfl))
      simp only [Act.put, List.setIfInBounds_toArray, List.set_cons_zero, List.set_cons_succ]
      refine wpG_take (i := 6) (d := 79) (v := ?v9aaaax6) rfl rfl (by kernel_rfl) (by kernel_rfl) (by kernel_rfl) (fun _ _ _ h => h) (by rfl) ?y9aaaax6 ?r9aaaax6
      case y9aaaax6 => (intro w' hSw; go_simp; try (with_reducible rfl))
      simp only [Act.put, List.setIfInBounds_toArray, List.set_cons_zero, List.set_cons_succ]
      refine wpG_take (i := 7) (d := 80) (v := ?v9aaaax7) rfl rfl (by kernel_rfl) (by kernel_rfl) (by kernel_rfl) (fun _ _ _ h => h) (by rfl) ?y9aaaax7 ?r9aaaax7
      case y9aaaax7 => (intro w' hSw; go_simp; try (with_reducible rfl))
      simp only [Act.put, List.setIfInBounds_toArray, List.set_cons_zero, List.set_cons_succ]
      refine wpG_take (i := 8) (d := 81) (v := ?v9aaaax8) rfl rfl (by kernel_rfl) (by kernel_rfl) (by kernel_rfl) (fun _ _ _ h => h) (by rfl) ?y9aaaax8 ?r9aaaax8
      case y9aaaax8 => (intro w' hSw; go_simp; try (with_reducible rfl))
      simp only [Act.put, List.setIfInBounds_toArray, List.set_cons_zero, List.set_cons_succ]
      refine wpG_take (i := 9) (d := 82) (v := ?v9aaaax9) rfl rfl (by kernel_rfl) (by kernel_rfl) (by kernel_rfl) (fun _ _ _ h => h) (by rfl) ?y9aaaax9 ?r9aaaax9
      case y9aaaax9 => (intro w' hSw; go_simp; try (with_reducible rfl))
      simp only [Act.put, List.setIfInBounds_toArray, List.set_cons_zero, List.set_cons_succ]
      refine wpG_take (i := 10) (d := 83) (v := ?v9aaaax10) rfl rfl (by kernel_rfl) (by kernel_rfl) (by kernel_rfl) (fun _ _ _ h => h) (by rfl) ?y9aaaax10 ?r9aaaax10
      case y9aaaax10 => (intro w' hSw; go_simp; try (with_reducible rfl))
      simp only [Act.put, List.setIfInBounds_toArray, List.set_cons_zero, List.set_cons_succ]
      refine wpG_take (i := 11) (d := 84) (v := ?v9aaaax11) rfl rfl (by kernel_rfl) (by kernel_rfl) (by kernel_rfl) (fun _ _ _ h => h) (by rfl) ?y9aaaax11 ?r9aaaax11
      case y9aaaax11 => (intro w' hSw; go_simp; try (with_reducible rfl))
      simp only [Act.put, List.setIfInBounds_toArray, List.set_cons_zero, List.set_cons_succ]
      refine wpG_take (i := 12) (d := 85) (v := ?v9aaaax12) rfl rfl (by kernel_rfl) (by kernel_rfl) (by kernel_rfl) (fun _ _ _ h => h) (by rfl) ?y9aaaax12 ?r9aaaax12
      case y9aaaax12 => (intro w' hSw; go_simp; try (with_reducible rfl))
      simp only [Act.put, List.setIfInBounds_toArray, List.set_cons_zero, List.set_cons_succ]
      refine wpG_take (i := 13) (d := 86) (v := ?v9aaaax13) rfl rfl (by kernel_rfl) (by kernel_rfl) (by kernel_rfl) (fun _ _ _ h => h) (by rfl) ?y9aaaax13 ?r9aaaax13
      case y9aaaax13 => (intro w' hSw; go_simp; try (with_reducible rfl))
      simp only [Act.put, List.setIfInBounds_toArray, List.set_cons_zero, List.set_cons_succ]
      refine wpG_do (i := 14) (by kernel_rfl) rfl (by rfl) (fun K hK => ?_)
      go_simp
      obtain ⟨t0, t1, t2, t3, t4, t5⟩ := box6 HD.out.2.2.1
      obtain ⟨e0, e1, e2, e3, e4, e5⟩ := froz6 HD.out.2.2.1
      go_simp
      have HF := Lib.hid (HD.out.fin rfl (.int .i64 (n 4)) (.int .i64 (-1)) (.bool false) (.int .i64 0) (.bool false) (.slice none 0 0))
      refine hK.out _ _ (turn6 (.int .i64 (n 4)) (.int .i64 (-1)) (.bool false) (.int .i64 0) (.bool false) (.slice none 0 0) (by simp)) ?_
      generalize ((((((wd.setCell ⟨w.heap.size + 2, 0, none⟩ (.int .i64 (n 4))).setCell ⟨w.heap.size + 2, 1, none⟩ (.int .i64 (-1))).setCell ⟨w.heap.size + 2, 2, none⟩ (.bool false)).setCell ⟨w.heap.size + 2, 3, none⟩ (.int .i64 0)).setCell ⟨w.heap.size + 2, 4, none⟩ (.bool false)).setCell ⟨w.heap.size + 2, 5, none⟩ (.slice none 0 0)) = w9 at HF ⊢
      clear hK HD t0 t1 t2 t3 t4 t5 e0 e1 e2 e3 e4 e5 r0 r1 r2 r3 r4 r5 r6 r7 r8 r9 z0 z1 z2 z3 z4 z5
      refine wpG_take (i := 15) (d := 5) (v := ?v9aaaax15) rfl rfl (by kernel_rfl) (by kernel_rfl) (by kernel_rfl) (fun _ _ _ h => h) (by rfl) ?y9aaaax15 ?r9aaaax15
      case y9aaaax15 => (intro w' hSw; go_simp; try (with_reducible rfl))
      simp only [Act.put, List.setIfInBounds_toArray, List.set_cons_zero, List.set_cons_succ]
      refine wpG_done (by kernel_rfl) ?_
      go_wp2_with fail
      exact bodyPost_ret (v := .tuple #[.agg #[.int .i64 (n 4), .int .i64 (-1), .bool false, .int .i64 0, .bool false, .slice none 0 0], .bool false]) (res29 rfl rfl HF.out.2.2.1 rfl) rfl ⟨false, ⟨n 4, -1, false, 0, false, []⟩, none, 0, rfl, HOK.out.trans HFIT.out.symm, fun _ => HNZ.out.symm, (HPR.out w9 HF.out.2.2.2.2.1).1, (HPR.out w9 HF.out.2.2.2.2.1).2, HPL.out, HF.out.2.2.2.2.1⟩
    have k5d : decide (n 4 ≤ 1099511627776) = true := decide_eq_true k5
    have HOK : Hid (true = true ↔ (n 4 = gen + 1 ∧ 0 ≤ n 4 ∧ n 4 ≤ 1099511627776)) := iff_of_true rfl ⟨HK4.out, by have := HK4.out; have := HZR.out.1; omega, k5⟩
    refine wpG_start [w.heap.size + 2] (by kernel_rfl) ?_
    have HD := Lib.hid (HX.out.later (Below.refl _ _).drew)
    generalize w3.drew = wd at HD ⊢
    clear HX
    have hng : w.heap.size + 1 ∉ [w.heap.size + 2] := by simp
    have hng3 : w.heap.size + 3 ∉ [w.heap.size + 2] := by simp
    have r0 := Box.atG (gs := [w.heap.size + 2]) HD.out.2.1 hng (i := 0) rfl
    have r1 := Box.atG (gs := [w.heap.size + 2]) HD.out.2.1 hng (i := 1) rfl
    have r2 := Box.atG (gs := [w.heap.size + 2]) HD.out.2.1 hng (i := 2) rfl
    have r3 := Box.atG (gs := [w.heap.size + 2]) HD.out.2.1 hng (i := 3) rfl
    have r4 := Box.atG (gs := [w.heap.size + 2]) HD.out.2.1 hng (i := 4) rfl
    have r5 := Box.atG (gs := [w.heap.size + 2]) HD.out.2.1 hng (i := 5) rfl
    have r6 := Box.atG (gs := [w.heap.size + 2]) HD.out.2.1 hng (i := 6) rfl
    have r7 := Box.atG (gs := [w.heap.size + 2]) HD.out.2.1 hng (i := 7) rfl
    have r8 := Box.atG (gs := [w.heap.size + 2]) HD.out.2.1 hng (i := 8) rfl
    have r9 := Box.atG (gs := [w.heap.size + 2]) HD.out.2.1 hng (i := 9) rfl
    have z0 := Box.atG (gs := [w.heap.size + 2]) HD.out.2.2.2.1 hng3 (i := 0) rfl
    have z1 := Box.atG (gs := [w.heap.size + 2]) HD.out.2.2.2.1 hng3 (i := 1) rfl
    have z2 := Box.atG (gs := [w.heap.size + 2]) HD.out.2.2.2.1 hng3 (i := 2) rfl
    have z3 := Box.atG (gs := [w.heap.size + 2]) HD.out.2.2.2.1 hng3 (i := 3) rfl
    have z4 := Box.atG (gs := [w.heap.size + 2]) HD.out.2.2.2.1 hng3 (i := 4) rfl
    have z5 := Box.atG (gs := [w.heap.size + 2]) HD.out.2.2.2.1 hng3 (i := 5) rfl
    refine wpG_take (i := 0) (d := 73) (v := ?v9aaaaax0) rfl rfl (by kernel_rfl) (by kernel_rfl) (by kernel_rfl) (fun _ _ _ h => h) (by rfl) ?y9aaaaax0 ?r9aaaaax0
    case y9aaaaax0 => (intro w' hSw; go_simp; try (with_reducible rfl))
    simp only [Act.put, List.setIfInBounds_toArray, List.set_cons_zero, List.set_cons_succ]
    refine wpG_take (i := 1) (d := 74) (v := ?v9aaaaax1) rfl rfl (by kernel_rfl) (by kernel_rfl) (by kernel_rfl) (fun _ _ _ h => h) (by rfl) ?y9aaaaax1 ?r9aaaaax1
    case y9aaaaax1 => (intro w' hSw; go_simp; try (with_reducible rfl))
    simp only [Act.put, List.setIfInBounds_toArray, List.set_cons_zero, List.set_cons_succ]
    refine wpG_take (i := 2) (d := 75) (v := ?v9aaaaax2) rfl rfl (by kernel_rfl) (by kernel_rfl) (by kernel_rfl) (fun _ _ _ h => h) (by rfl) ?y9aaaaax2 ?r9aaaaax2
    case y9aaaaax2 => (intro w' hSw; go_simp; try (with_reducible rfl))
    simp only [Act.put, List.setIfInBounds_toArray, List.set_cons_zero, List.set_cons_succ]
    refine wpG_take (i := 3) (d := 76) (v := ?v9aaaaax3) rfl rfl (by kernel_rfl) (by kernel_rfl) (by kernel_rfl) (fun _ _ _ h => h) (by rfl) ?y9aaaaax3 ?r9aaaaax3
    case y9aaaaax3 => (intro w' hSw; go_simp; try (with_reducible rfl))
    simp only [Act.put, List.setIfInBounds_toArray, List.set_cons_zero, List.set_cons_succ]
    refine wpG_take (i := 4) (d := 77) (v := ?v9aaaaax4) rfl rfl (by kernel_rfl) (by kernel_rfl) (by kernel_rfl) (fun _ _ _ h => h) (by rfl) ?y9aaaaax4 ?r9aaaaax4
    case y9aaaaax4 => (intro w' hSw; go_simp; try (with_reducible rfl))
    simp only [Act.put, List.setIfInBounds_toArray, List.set_cons_zero, List.set_cons_succ]
    refine wpG_take (i := 5) (d := 78) (v := ?v9aaaaax5) rfl rfl (by kernel_rfl) (by kernel_rfl) (by kernel_rfl) (fun _ _ _ h => h) (by rfl) ?y9aaaaax5 ?r9aaaaax5
    case y9aaaaax5 => (intro w' hSw; go_simp; try (with_reducible rfl))
    simp only [Act.put, List.setIfInBounds_toArray, List.set_cons_zero, List.set_cons_succ]
    refine wpG_take (i := 6) (d := 79) (v := ?v9aaaaax6) rfl rfl (by kernel_rfl) (by kernel_rfl) (by kernel_rfl) (fun _ _ _ h => h) (by rfl) ?y9aaaaax6 ?r9aaaaax6
    case y9aaaaax6 => (intro w' hSw; go_simp; try (with_reducible rfl))
    simp only [Act.put, List.setIfInBounds_toArray, List.set_cons_zero, List.set_cons_succ]
    refine wpG_take (i := 7) (d := 80) (v := ?v9aaaaax7) rfl rfl (by kernel_rfl) (by kernel_rfl) (by kernel_rfl) (fun _ _ _ h => h) (by rfl) ?y9aaaaax7 ?r9aaaaax7
    case y9aaaaax7 => (intro w' hSw; go_simp; try (with_reducible rfl))
    simp only [Act.put, List.setIfInBounds_toArray, List.set_cons_zero, List.set_cons_succ]
    refine wpG_take (i := 8) (d := 81) (v := ?v9aaaaax8) rfl rfl (by kernel_rfl) (by kernel_rfl) (by kernel_rfl) (fun _ _ _ h => h) (by rfl) ?y9aaaaax8 ?r9aaaaax8
    case y9aaaaax8 => (intro w' hSw; go_simp; try (with_reducible rfl))
    simp only [Act.put, List.setIfInBounds_toArray, List.set_cons_zero, List.set_cons_succ]
    refine wpG_take (i := 9) (d := 82) (v := ?v9aaaaax9) rfl rfl (by kernel_rfl) (by kernel_rfl) (by kernel_rfl) (fun _ _ _ h => h) (by rfl) ?y9aaaaax9 ?r9aaaaax9
    case y9aaaaax9 => (intro w' hSw; go_simp; try (with_reducible rfl))
    simp only [Act.put, List.setIfInBounds_toArray, List.set_cons_zero, List.set_cons_succ]
    refine wpG_take (i := 10) (d := 83) (v := ?v9aaaaax10) rfl rfl (by kernel_rfl) (by kernel_rfl) (by kernel_rfl) (fun _ _ _ h => h) (by rfl) ?y9aaaaax10 ?r9aaaaax10
    case y9aaaaax10 => (intro w' hSw; go_simp; try (with_reducible rfl))
    simp only [Act.put, List.setIfInBounds_toArray, List.set_cons_zero, List.set_cons_succ]
    refine wpG_take (i := 11) (d := 84) (v := ?v9aaaaax11) rfl rfl (by kernel_rfl) (by kernel_rfl) (by kernel_rfl) (fun _ _ _ h => h) (by rfl) ?y9aaaaax11 ?r9aaaaax11
    case y9aaaaax11 => (intro w' hSw; go_simp; try (with_reducible rfl))
    simp only [Act.put, List.setIfInBounds_toArray, List.set_cons_zero, List.set_cons_succ]
    refine wpG_take (i := 12) (d := 85) (v := ?v9aaaaax12) rfl rfl (by kernel_rfl) (by kernel_rfl) (by kernel_rfl) (fun _ _ _ h => h) (by rfl) ?y9aaaaax12 ?r9aaaaax12
    case y9aaaaax12 => (intro w' hSw; go_simp; try (with_reducible rfl))
    simp only [Act.put, List.setIfInBounds_toArray, List.set_cons_zero, List.set_cons_succ]
    refine wpG_take (i := 13) (d := 86) (v := ?v9aaaaax13) rfl rfl (by kernel_rfl) (by kernel_rfl) (by kernel_rfl) (fun _ _ _ h => h) (by rfl) ?y9aaaaax13 ?r9aaaaax13
    case y9aaaaax13 => (intro w' hSw; go_simp; try (with_reducible rfl))
    simp only [Act.put, List.setIfInBounds_toArray, List.set_cons_zero, List.set_cons_succ]
    refine wpG_do (i := 14) (by kernel_rfl) rfl (by rfl) (fun K hK => ?_)
    go_simp
    obtain ⟨t0, t1, t2, t3, t4, t5⟩ := box6 HD.out.2.2.1
    obtain ⟨e0, e1, e2, e3, e4, e5⟩ := froz6 HD.out.2.2.1
    go_simp
    have HF := Lib.hid (HD.out.fin rfl (.int .i64 (n 4)) (.int .i64 (-1)) (.bool false) (.int .i64 0) (.bool false) (.slice none 0 0))
    refine hK.out _ _ (turn6 (.int .i64 (n 4)) (.int .i64 (-1)) (.bool false) (.int .i64 0) (.bool false) (.slice none 0 0) (by simp)) ?_
    generalize ((((((wd.setCell ⟨w.heap.size + 2, 0, none⟩ (.int .i64 (n 4))).setCell ⟨w.heap.size + 2, 1, none⟩ (.int .i64 (-1))).setCell ⟨w.heap.size + 2, 2, none⟩ (.bool false)).setCell ⟨w.heap.size + 2, 3, none⟩ (.int .i64 0)).setCell ⟨w.heap.size + 2, 4, none⟩ (.bool false)).setCell ⟨w.heap.size + 2, 5, none⟩ (.slice none 0 0)) = w9 at HF ⊢
    clear hK HD t0 t1 t2 t3 t4 t5 e0 e1 e2 e3 e4 e5 r0 r1 r2 r3 r4 r5 r6 r7 r8 r9 z0 z1 z2 z3 z4 z5
    refine wpG_take (i := 15) (d := 5) (v := ?v9aaaaax15) rfl rfl (by kernel_rfl) (by kernel_rfl) (by kernel_rfl) (fun _ _ _ h => h) (by rfl) ?y9aaaaax15 ?r9aaaaax15
    case y9aaaaax15 => (intro w' hSw; go_simp; try (with_reducible rfl))
    simp only [Act.put, List.setIfInBounds_toArray, List.set_cons_zero, List.set_cons_succ]
    refine wpG_done (by kernel_rfl) ?_
    go_wp2_with fail
    exact bodyPost_ret (v := .tuple #[.agg #[.int .i64 (n 4), .int .i64 (-1), .bool false, .int .i64 0, .bool false, .slice none 0 0], .bool true]) (res29 rfl rfl HF.out.2.2.1 rfl) rfl ⟨true, ⟨n 4, -1, false, 0, false, []⟩, none, 0, rfl, iff_of_true rfl (HFIT.out.2 (by have h := HOK.out; first | exact h.1 rfl | exact h.1 trivial)), fun _ => HNZ.out.symm, (HPR.out w9 HF.out.2.2.2.2.1).1, (HPR.out w9 HF.out.2.2.2.2.1).2, HPL.out, HF.out.2.2.2.2.1⟩
set_option maxHeartbeats 4000000 in
theorem rstep3_any (c : Cf) (ep sq : Int) (A : Option Addr) (st : List Int) (k : Nat) (D : Option Addr) (zs : List Zn) (d : Nat) (n : Nat → Int) (X : Option Addr) (b : List UInt8) (x q : Nat) (w : World) (S : Nat → Prop) (hS : ∀ g, S g → g < w.heap.size) (h : StAt w S A st k D zs d) (hl : st.length ≤ 1000000) (hzl : zs.length ≤ 1000000) (hq : q < zs.length) (hn : n 3 = (q : Int)) (hnw : ∀ i, -9223372036854775808 ≤ n i ∧ n i ≤ 9223372036854775807) (hb : RdS w S X b) (hbl : b.length ≤ 10000000) (hbx : b.length ≤ x) (hgd : Good c)
    (hz : (0 ≤ zs[q].gen ∧ zs[q].gen ≤ 1099511627776) ∧ -1 ≤ zs[q].slot ∧ zs[q].ps.length ≤ 2) (hk : n 0 = 3) (reb : Bool) (hreb : reb = true ↔ 2 ∈ st) :
    Calls Try.prog 29 #[(.agg #[.int .i64 c.id, .int .i64 c.m, .int .i64 c.u, .int .i64 c.b, .int .i64 c.cp, .int .i64 c.z, .int .i64 c.s, .int .i64 c.mt, .int .i64 c.o, .int .i64 c.a, .int .i64 c.l, .int .i64 ep, .int .i64 sq, .slice A st.length k, .slice D zs.length d]), (.agg #[.int .i64 (n 0), .int .i64 (n 1), .int .i64 (n 2), .int .i64 (n 3), .int .i64 (n 4), .int .i64 (n 5), .int .i64 (n 6), .int .i64 (n 7), .int .i64 (n 8), .slice X b.length x])] w (GotSp w S (nextZ reb zs[q] n b) (FitsR c st zs zs[q] n b)) := by
  obtain ⟨g1, off, hD, hg1, hc⟩ := h.2.1 (by omega)
  obtain ⟨Y0, y0, c0, c1, c2, c3, c4, c5, hp, hpy, hpy2⟩ := hc q hq
  have HZ : Hid (∀ w', Below w.heap.size w w' → w'.cell? ⟨g1, off + q * 6, none⟩ = some (.int .i64 zs[q].gen) ∧ w'.cell? ⟨g1, off + q * 6 + 1, none⟩ = some (.int .i64 zs[q].slot) ∧ w'.cell? ⟨g1, off + q * 6 + 2, none⟩ = some (.bool zs[q].full) ∧ w'.cell? ⟨g1, off + q * 6 + 3, none⟩ = some (.int .i64 zs[q].w) ∧ w'.cell? ⟨g1, off + q * 6 + 4, none⟩ = some (.bool zs[q].whole) ∧ w'.cell? ⟨g1, off + q * 6 + 5, none⟩ = some (.slice Y0 zs[q].ps.length y0)) := fun w' hb =>
    ⟨((Kept.of_below hb hS).cell (p := ⟨g1, off + q * 6, none⟩) hg1).trans c0, ((Kept.of_below hb hS).cell (p := ⟨g1, off + q * 6 + 1, none⟩) hg1).trans c1, ((Kept.of_below hb hS).cell (p := ⟨g1, off + q * 6 + 2, none⟩) hg1).trans c2, ((Kept.of_below hb hS).cell (p := ⟨g1, off + q * 6 + 3, none⟩) hg1).trans c3, ((Kept.of_below hb hS).cell (p := ⟨g1, off + q * 6 + 4, none⟩) hg1).trans c4, ((Kept.of_below hb hS).cell (p := ⟨g1, off + q * 6 + 5, none⟩) hg1).trans c5⟩
  have HPR : Hid (∀ w', Below w.heap.size w w' → PrsAt w' (Ext S w.heap.size w') Y0 zs[q].ps ∧ zs[q].ps.length ≤ y0) := fun w' hb => ⟨(hp.keep (Kept.of_below hb hS)).mono (fun _ h => Or.inl h), hpy⟩
  have HPL0 : Hid (∀ w', Below w.heap.size w w' → PrsAt w' S Y0 zs[q].ps) := fun w' hb => hp.keep (Kept.of_below hb hS)
  obtain ⟨xs, hxn, hxr⟩ := hp.rowIn
  have HROW : Hid ((Y0 = none → zs[q].ps.length = 0) ∧ ∀ w', Below w.heap.size w w' → PsRow w' S zs[q].ps xs ∧ ∀ ad, Y0 = some ad → ∀ j u, xs[j]? = some u → w'.cell? (ad.add j) = some u) := ⟨hxn, fun w' hb => hxr w' (Kept.of_below hb hS)⟩
  clear c0 c1 c2 c3 c4 c5 hc hg1 hp hpy hpy2 hxn hxr
  obtain ⟨cs, hcs⟩ : ∃ cs : Array Value, cs = #[.int .i64 c.id, .int .i64 c.m, .int .i64 c.u, .int .i64 c.b, .int .i64 c.cp, .int .i64 c.z, .int .i64 c.s, .int .i64 c.mt, .int .i64 c.o, .int .i64 c.a, .int .i64 c.l, .int .i64 ep, .int .i64 sq, .slice A st.length k, .slice D zs.length d] := ⟨_, rfl⟩
  have HCS := Lib.hid hcs
  have HCN : Hid (cs.size = 15 ∧ cs.all (·.oneCell') = true) := by rw [hcs]; exact ⟨rfl, by first | kernel_rfl | simp [Value.oneCell']⟩
  have HHAS : Hid (∀ w' (m : Nat), Below w.heap.size w w' → Calls Try.prog 66 #[.agg cs, .int .i64 (m : Int)] w' (SaysP w' (usedB zs m = true))) := fun w' m hb => by rw [hcs]; exact rhas_any c ep sq A st k D zs d m w' ((h.mono hS).later hb) hzl
  have HREB : Hid (∀ w', Below w.heap.size w w' → Calls Try.prog 67 #[.agg cs] w' (SaysP w' (2 ∈ st))) := fun w' hb => by rw [hcs]; exact rRebuilds_any c ep sq A st k D zs d w' ((h.mono hS).later hb) hl
  have HBD : Hid (∀ w', Below w.heap.size w w' → RdS w' S X b) := fun w' hb2 => hb.keep (Kept.of_below hb2 hS)
  have HSS := Lib.hid hS
  have HBL : Hid (b.length ≤ x ∧ b.length ≤ 10000000) := ⟨hbx, hbl⟩
  have HMU : Hid (IntKind.i64.wrap (c.u * c.b) = c.u * c.b ∧ wrap64 (c.u * c.b) = c.u * c.b) := by
    obtain ⟨h1, h2, h3, h4, h5, h6, h7, h8, _⟩ := hgd
    have hm := mul_in (a := c.u) (b := c.b) (A := 64) (B := 4096) (by omega) h6 (by omega) h8
    exact ⟨wrapk_in (by omega) (by omega), wrap_in (by omega) (by omega)⟩
  have HQ := Lib.hid hq
  have HNW := Lib.hid hnw
  have HFR : Hid (FitsR c st zs zs[q] n b ↔ FitsR c st zs zs[q] n b) := Iff.rfl
  generalize zs[q] = z at HZ HPR HPL0 HROW HFR hz ⊢
  obtain ⟨gen, slot, full, zw, whole, ps⟩ := z
  dsimp only at HZ HPR HPL0 HROW hz
  have HZR := Lib.hid hz
  have HPL : Hid (ps.length ≤ 140737488351232) := by have := hz.2.2; show _ ≤ _; omega
  have HN3 := Lib.hid hn
  have HDD := Lib.hid hD
  have HRB := Lib.hid hreb
  rw [← hcs]
  clear hn hnw hD hreb hb hbl hbx hgd hz hcs h HFR hq hS
  have HK0 := Lib.hid hk
  clear hk
  go_enter Try.func29, Try.ntmps29
  go_upto_region 1 with fail
  have HV := Lib.hid (three_boxes w 27 30 51 cs #[.int .i64 (n 0), .int .i64 (n 1), .int .i64 (n 2), .int .i64 (n 3), .int .i64 (n 4), .int .i64 (n 5), .int .i64 (n 6), .int .i64 (n 7), .int .i64 (n 8), .slice X b.length x] #[.int .i64 0, .int .i64 0, .bool false, .int .i64 0, .bool false, .slice none 0 0])
  generalize (((w.alloc (.cells cs 27)).alloc (.cells #[.int .i64 (n 0), .int .i64 (n 1), .int .i64 (n 2), .int .i64 (n 3), .int .i64 (n 4), .int .i64 (n 5), .int .i64 (n 6), .int .i64 (n 7), .int .i64 (n 8), .slice X b.length x] 30)).alloc (.cells #[.int .i64 0, .int .i64 0, .bool false, .int .i64 0, .bool false, .slice none 0 0] 51)) = w0 at HV ⊢
  have HBX : Hid (Box w0 w.heap.size 27 #[.int .i64 c.id, .int .i64 c.m, .int .i64 c.u, .int .i64 c.b, .int .i64 c.cp, .int .i64 c.z, .int .i64 c.s, .int .i64 c.mt, .int .i64 c.o, .int .i64 c.a, .int .i64 c.l, .int .i64 ep, .int .i64 sq, .slice A st.length k, .slice D zs.length d]) := by rw [← HCS.out]; exact HV.out.1
  obtain ⟨s0, s1, s2, s3, s4, s5, s6, s7, s8, s9, s10, s11, s12, s13, s14⟩ := box15 HBX.out
  obtain ⟨r0, r1, r2, r3, r4, r5, r6, r7, r8, r9⟩ := box10 HV.out.2.1
  obtain ⟨z0, z1, z2, z3, z4, z5⟩ := HZ.out w0 HV.out.2.2.2.1
  rw [HN3.out] at r3
  rw [HDD.out] at s14
  have hqn := HQ.out
  have hsz := HV.out.2.2.2.2
  go_upto_region 2 with fail
  have HX : Hid (StpIn cs n X b x #[.int .i64 0, .int .i64 0, .bool false, .int .i64 0, .bool false, .slice none 0 0] #[.int .i64 gen, .int .i64 slot, .bool full, .int .i64 zw, .bool whole, .slice Y0 ps.length y0] w (w0.alloc (.cells #[.int .i64 gen, .int .i64 slot, .bool full, .int .i64 zw, .bool whole, .slice Y0 ps.length y0] 51))) := by
    have hb := below_one w0 (.cells #[.int .i64 gen, .int .i64 slot, .bool full, .int .i64 zw, .bool whole, .slice Y0 ps.length y0] 51)
    have hz := Box.fresh w0 51 #[.int .i64 gen, .int .i64 slot, .bool full, .int .i64 zw, .bool whole, .slice Y0 ps.length y0]
    rw [hsz] at hz
    exact ⟨HV.out.1.later hb, HV.out.2.1.later hb, HV.out.2.2.1.later hb, hz, HV.out.2.2.2.1.trans (hb.mono (by omega)), by simp; omega⟩
  generalize w0.alloc (.cells #[.int .i64 gen, .int .i64 slot, .bool full, .int .i64 zw, .bool whole, .slice Y0 ps.length y0] 51) = w1 at HX ⊢
  clear HV HBX HZ hqn hsz s0 s1 s2 s3 s4 s5 s6 s7 s8 s9 s10 s11 s12 s13 s14 r0 r1 r2 r3 r4 r5 r6 r7 r8 r9 z0 z1 z2 z3 z4 z5
  refine wpB_start (w.heap.size + 4) (by kernel_rfl) ?_
  have HX1 := Lib.hid (HX.out.later (Below.refl _ _).drew)
  generalize w1.drew = w1d at HX1 ⊢
  clear HX
  have HBX : Hid (Box w1d w.heap.size 27 #[.int .i64 c.id, .int .i64 c.m, .int .i64 c.u, .int .i64 c.b, .int .i64 c.cp, .int .i64 c.z, .int .i64 c.s, .int .i64 c.mt, .int .i64 c.o, .int .i64 c.a, .int .i64 c.l, .int .i64 ep, .int .i64 sq, .slice A st.length k, .slice D zs.length d]) := by rw [← HCS.out]; exact HX1.out.1
  have s0 := Box.at_ (B := (w.heap.size + 4)) HBX.out (by omega) (i := 0) rfl
  have s1 := Box.at_ (B := (w.heap.size + 4)) HBX.out (by omega) (i := 1) rfl
  have s2 := Box.at_ (B := (w.heap.size + 4)) HBX.out (by omega) (i := 2) rfl
  have s3 := Box.at_ (B := (w.heap.size + 4)) HBX.out (by omega) (i := 3) rfl
  have s4 := Box.at_ (B := (w.heap.size + 4)) HBX.out (by omega) (i := 4) rfl
  have s5 := Box.at_ (B := (w.heap.size + 4)) HBX.out (by omega) (i := 5) rfl
  have s6 := Box.at_ (B := (w.heap.size + 4)) HBX.out (by omega) (i := 6) rfl
  have s7 := Box.at_ (B := (w.heap.size + 4)) HBX.out (by omega) (i := 7) rfl
  have s8 := Box.at_ (B := (w.heap.size + 4)) HBX.out (by omega) (i := 8) rfl
  have s9 := Box.at_ (B := (w.heap.size + 4)) HBX.out (by omega) (i := 9) rfl
  have s10 := Box.at_ (B := (w.heap.size + 4)) HBX.out (by omega) (i := 10) rfl
  refine wpB_take (i := 0) (d := 19) (v := ?v2x0) rfl rfl (by kernel_rfl) (by kernel_rfl) (by kernel_rfl) (fun _ _ _ h => h) (by rfl) ?y2x0 ?r2x0
  case y2x0 => (intro w' hSw; go_simp; try (with_reducible rfl))
  simp only [Act.put, List.setIfInBounds_toArray, List.set_cons_zero, List.set_cons_succ]
  refine wpB_take (i := 1) (d := 20) (v := ?v2x1) rfl rfl (by kernel_rfl) (by kernel_rfl) (by kernel_rfl) (fun _ _ _ h => h) (by rfl) ?y2x1 ?r2x1
  case y2x1 => (intro w' hSw; go_simp; try (with_reducible rfl))
  simp only [Act.put, List.setIfInBounds_toArray, List.set_cons_zero, List.set_cons_succ]
  refine wpB_take (i := 3) (d := 22) (v := ?v2x3) rfl rfl (by kernel_rfl) (by kernel_rfl) (by kernel_rfl) (fun _ _ _ h => h) (by rfl) ?y2x3 ?r2x3
  case y2x3 => (intro w' hSw; go_simp; try (with_reducible rfl))
  simp only [Act.put, List.setIfInBounds_toArray, List.set_cons_zero, List.set_cons_succ]
  refine wpB_take (i := 4) (d := 23) (v := ?v2x4) rfl rfl (by kernel_rfl) (by kernel_rfl) (by kernel_rfl) (fun _ _ _ h => h) (by rfl) ?y2x4 ?r2x4
  case y2x4 => (intro w' hSw; go_simp; try (with_reducible rfl))
  simp only [Act.put, List.setIfInBounds_toArray, List.set_cons_zero, List.set_cons_succ]
  refine wpB_do (i := 2) (by kernel_rfl) rfl (by rfl) (fun K hK => ?_)
  go_simp
  refine (rsize_any c w1d).mono ?_
  rintro e w2 ⟨rfl, hb⟩
  have HX2 := Lib.hid (HX1.out.later hb)
  have HBX2 : Hid (Box w2 w.heap.size 27 #[.int .i64 c.id, .int .i64 c.m, .int .i64 c.u, .int .i64 c.b, .int .i64 c.cp, .int .i64 c.z, .int .i64 c.s, .int .i64 c.mt, .int .i64 c.o, .int .i64 c.a, .int .i64 c.l, .int .i64 ep, .int .i64 sq, .slice A st.length k, .slice D zs.length d]) := by rw [← HCS.out]; exact HX2.out.1
  have hbk := hb.mono HX1.out.2.2.2.2.2
  go_simp
  refine hK.out (w.heap.size + 4) _ _ (Nat.le_refl _) hbk ?_
  clear hK hb hbk HX1 HBX s0 s1 s2 s3 s4 s5 s6 s7 s8 s9 s10
  have s0 := Box.at_ (B := (w.heap.size + 4)) HBX2.out (by omega) (i := 0) rfl
  have s1 := Box.at_ (B := (w.heap.size + 4)) HBX2.out (by omega) (i := 1) rfl
  have s2 := Box.at_ (B := (w.heap.size + 4)) HBX2.out (by omega) (i := 2) rfl
  have s3 := Box.at_ (B := (w.heap.size + 4)) HBX2.out (by omega) (i := 3) rfl
  have s4 := Box.at_ (B := (w.heap.size + 4)) HBX2.out (by omega) (i := 4) rfl
  have s5 := Box.at_ (B := (w.heap.size + 4)) HBX2.out (by omega) (i := 5) rfl
  have s6 := Box.at_ (B := (w.heap.size + 4)) HBX2.out (by omega) (i := 6) rfl
  have s7 := Box.at_ (B := (w.heap.size + 4)) HBX2.out (by omega) (i := 7) rfl
  have s8 := Box.at_ (B := (w.heap.size + 4)) HBX2.out (by omega) (i := 8) rfl
  have s9 := Box.at_ (B := (w.heap.size + 4)) HBX2.out (by omega) (i := 9) rfl
  have s10 := Box.at_ (B := (w.heap.size + 4)) HBX2.out (by omega) (i := 10) rfl
  refine wpB_do (i := 5) (by kernel_rfl) rfl (by rfl) (fun K hK => ?_)
  go_simp
  refine (nums_any c w2).mono ?_
  rintro e w3 ⟨rfl, hb⟩
  have HX := Lib.hid (HX2.out.later hb)
  have hbk := hb.mono HX2.out.2.2.2.2.2
  have hix := fun w => index4 (.int .i64 (dataC c)) (.int .i64 (dataC c * c.u)) (.int .i64 (stripesC c)) (.int .i64 (stripesC c * (dataC c * c.u))) (.int .i64 (slotsC c)) (.int .i64 (allC c)) (.int .i64 (roomC c)) w
  go_simp
  refine hK.out (w.heap.size + 4) _ _ (Nat.le_refl _) hbk ?_
  clear hK hb hbk HX2 HBX2 s0 s1 s2 s3 s4 s5 s6 s7 s8 s9 s10
  refine wpB_take (i := 6) (d := 25) (v := ?v2x6) rfl rfl (by kernel_rfl) (by kernel_rfl) (by kernel_rfl) (fun _ _ _ h => h) (by rfl) ?y2x6 ?r2x6
  case y2x6 => (intro w' hSw; go_simp; try (with_reducible rfl))
  simp only [Act.put, List.setIfInBounds_toArray, List.set_cons_zero, List.set_cons_succ]
  refine wpB_take (i := 7) (d := 7) (v := ?v2x7) rfl rfl (by kernel_rfl) (by kernel_rfl) (by kernel_rfl) (fun _ _ _ h => h) (by rfl) ?y2x7 ?r2x7
  case y2x7 => (intro w' hSw; go_simp; try (with_reducible rfl))
  simp only [Act.put, List.setIfInBounds_toArray, List.set_cons_zero, List.set_cons_succ]
  refine wpB_take (i := 8) (d := 8) (v := ?v2x8) rfl rfl (by kernel_rfl) (by kernel_rfl) (by kernel_rfl) (fun _ _ _ h => h) (by rfl) ?y2x8 ?r2x8
  case y2x8 => (intro w' hSw; go_simp; try (with_reducible rfl))
  simp only [Act.put, List.setIfInBounds_toArray, List.set_cons_zero, List.set_cons_succ]
  refine wpB_done (by kernel_rfl) ?_
  clear hix
  obtain ⟨r0, r1, r2, r3, r4, r5, r6, r7, r8, r9⟩ := box10 HX.out.2.1
  obtain ⟨z0, z1, z2, z3, z4, z5⟩ := box6 HX.out.2.2.2.1
  obtain ⟨f0, f1, f2, f3, f4, f5⟩ := froz6 HX.out.2.2.2.1
  have k1 : n 0 ≠ 1 := by have := HK0.out; omega
  have kb1 : (n 0 == 1) = false := by simpa using k1
  have k2 : n 0 ≠ 2 := by have := HK0.out; omega
  have kb2 : (n 0 == 2) = false := by simpa using k2
  have k3 : n 0 = 3 := HK0.out
  clear HK0
  · have hfit : FitsR c st zs ⟨gen, slot, full, zw, whole, ps⟩ n b ↔ (full = false ∧ EndR c (n 6) (slot ≠ -1)) := fits3 k3
    have k5 : n 0 ≠ 5 := by omega
    have hnx : nextZ reb ⟨gen, slot, full, zw, whole, ps⟩ n b = ⟨gen, slot, true, n 6, whole, ps⟩ := (if_neg k1).trans ((if_neg k5).trans ((if_neg k2).trans (if_pos k3)))
    rw [k3] at r0
    have HFIT := Lib.hid hfit
    have HNZ := Lib.hid hnx
    clear hfit hnx k1 kb1 k2 kb2 k3 k5
    go_upto_region 11 with fail
    go_cut [10] from 89 to 112 (fun s wx => ∃ okb : Bool, s = .bool okb ∧ (okb = true ↔ (full = false ∧ EndR c (n 6) (slot ≠ -1))) ∧ StpIn cs n X b x #[.int .i64 0, .int .i64 0, .bool false, .int .i64 0, .bool false, .slice none 0 0] #[.int .i64 gen, .int .i64 slot, .bool full, .int .i64 zw, .bool whole, .slice Y0 ps.length y0] w wx)
    case first =>
      cases full
      case true =>
        go_wp2_with fail
        go_meet
        exact ⟨false, rfl, iff_of_false (by simp) (fun h => by simp at h), HX.out⟩
      by_cases k6 : 0 ≤ n 6
      case neg =>
        have HNO := Lib.hid k6
        go_wp2_with fail
        go_meet
        exact ⟨false, rfl, iff_of_false (by simp) (fun h => by have h1 := h.2.1.1; have h2 := HNO.out; omega), HX.out⟩
      by_cases k7 : n 6 ≤ sizeC c
      case neg =>
        have HNO := Lib.hid k7
        go_wp2_with fail
        go_meet
        exact ⟨false, rfl, iff_of_false (by simp) (fun h => by have h1 := h.2.1.2; have h2 := HNO.out; omega), HX.out⟩
      by_cases k8 : 0 ≤ slot
      · have HYES : Hid (true = true ↔ (false = false ∧ EndR c (n 6) (slot ≠ -1))) := iff_of_true rfl ⟨rfl, ⟨k6, k7⟩, Or.inr (by omega)⟩
        go_wp2_with fail
        go_meet
        exact ⟨true, rfl, by simpa using HYES.out, HX.out⟩
      by_cases k9 : n 6 = 0
      · have k9b : (n 6 == 0) = true := by simpa using k9
        have HYES : Hid (true = true ↔ (false = false ∧ EndR c (n 6) (slot ≠ -1))) := iff_of_true rfl ⟨rfl, ⟨k6, k7⟩, Or.inl k9⟩
        clear k9
        go_wp2_with fail
        go_meet
        exact ⟨true, rfl, by simpa using HYES.out, HX.out⟩
      have k9b : (n 6 == 0) = false := by simpa using k9
      have HNO : Hid (¬ (false = false ∧ EndR c (n 6) (slot ≠ -1))) := fun h => by
        have h1 := h.2.2
        have h2 := HZR.out.2.1
        omega
      clear k9
      go_wp2_with fail
      go_meet
      exact ⟨false, rfl, iff_of_false (by simp) HNO.out, HX.out⟩
    case rest =>
      obtain ⟨okb, rfl, hok, hx⟩ := hcut
      have HOK := Lib.hid (hok.trans HFIT.out.symm)
      have HX5 := Lib.hid hx
      clear hok hx HX r0 r1 r2 r3 r4 r5 r6 r7 r8 r9 z0 z1 z2 z3 z4 z5 f0 f1 f2 f3 f4 f5
      obtain ⟨r0, r1, r2, r3, r4, r5, r6, r7, r8, r9⟩ := box10 HX5.out.2.1
      obtain ⟨z0, z1, z2, z3, z4, z5⟩ := box6 HX5.out.2.2.2.1
      obtain ⟨f0, f1, f2, f3, f4, f5⟩ := froz6 HX5.out.2.2.2.1
      go_upto_region 12 with fail
      go_region
      have HD6 : Hid (StpIn cs n X b x #[.int .i64 0, .int .i64 0, .bool false, .int .i64 0, .bool false, .slice none 0 0] #[.int .i64 gen, .int .i64 slot, .bool true, .int .i64 (n 6), .bool whole, .slice Y0 ps.length y0] w ((wc.setCell ⟨w.heap.size + 3, 2, none⟩ (.bool true)).setCell ⟨w.heap.size + 3, 3, none⟩ (.int .i64 (n 6))).drew) := ((HX5.out.setZ 2 (.bool true)).setZ 3 (.int .i64 (n 6))).later (Below.refl _ _).drew
      generalize ((wc.setCell ⟨w.heap.size + 3, 2, none⟩ (.bool true)).setCell ⟨w.heap.size + 3, 3, none⟩ (.int .i64 (n 6))).drew = w6 at HD6 ⊢
      clear HX5 r0 r1 r2 r3 r4 r5 r6 r7 r8 r9 z0 z1 z2 z3 z4 z5 f0 f1 f2 f3 f4 f5
      have HNX : Hid (okb = true → (⟨gen, slot, true, n 6, whole, ps⟩ : Zn) = nextZ reb ⟨gen, slot, full, zw, whole, ps⟩ n b) := fun _ => HNZ.out.symm
      obtain ⟨z0, z1, z2, z3, z4, z5⟩ := box6 HD6.out.2.2.2.1
      obtain ⟨t0, t1, t2, t3, t4, t5⟩ := box6 HD6.out.2.2.1
      obtain ⟨f0, f1, f2, f3, f4, f5⟩ := froz6 HD6.out.2.2.1
      go_wp2_with fail
      have HF := Lib.hid (HD6.out.fin rfl (.int .i64 gen) (.int .i64 slot) (.bool true) (.int .i64 (n 6)) (.bool whole) (.slice Y0 ps.length y0))
      generalize ((((((w6.setCell ⟨w.heap.size + 2, 0, none⟩ (.int .i64 gen)).setCell ⟨w.heap.size + 2, 1, none⟩ (.int .i64 slot)).setCell ⟨w.heap.size + 2, 2, none⟩ (.bool true)).setCell ⟨w.heap.size + 2, 3, none⟩ (.int .i64 (n 6))).setCell ⟨w.heap.size + 2, 4, none⟩ (.bool whole)).setCell ⟨w.heap.size + 2, 5, none⟩ (.slice Y0 ps.length y0)) = w9 at HF ⊢
      clear HD6 z0 z1 z2 z3 z4 z5 t0 t1 t2 t3 t4 t5 f0 f1 f2 f3 f4 f5
      exact bodyPost_ret (v := .tuple #[.agg #[.int .i64 gen, .int .i64 slot, .bool true, .int .i64 (n 6), .bool whole, .slice Y0 ps.length y0], .bool okb]) (res29 rfl rfl HF.out.2.2.1 rfl) rfl ⟨okb, ⟨gen, slot, true, n 6, whole, ps⟩, Y0, y0, rfl, HOK.out, HNX.out, (HPR.out w9 HF.out.2.2.2.2.1).1, (HPR.out w9 HF.out.2.2.2.2.1).2, HPL.out, HF.out.2.2.2.2.1⟩
end Go.Proofs.Ytaceaemombnhkaa
namespace Go.Proofs.Ytaceaemombnhkaa
set_option linter.unusedVariables false
set_option maxRecDepth 100000
set_option linter.unusedSimpArgs false
open Go.RowKit
open Go.RowKit (wrap64)

set_option maxHeartbeats 4000000 in
theorem rstep4_any (c : Cf) (ep sq : Int) (A : Option Addr) (st : List Int) (k : Nat) (D : Option Addr) (zs : List Zn) (d : Nat) (n : Nat → Int) (X : Option Addr) (b : List UInt8) (x q : Nat) (w : World) (S : Nat → Prop) (hS : ∀ g, S g → g < w.heap.size) (h : StAt w S A st k D zs d) (hl : st.length ≤ 1000000) (hzl : zs.length ≤ 1000000) (hq : q < zs.length) (hn : n 3 = (q : Int)) (hnw : ∀ i, -9223372036854775808 ≤ n i ∧ n i ≤ 9223372036854775807) (hb : RdS w S X b) (hbl : b.length ≤ 10000000) (hbx : b.length ≤ x) (hgd : Good c)
    (hz : (0 ≤ zs[q].gen ∧ zs[q].gen ≤ 1099511627776) ∧ -1 ≤ zs[q].slot ∧ zs[q].ps.length ≤ 2) (hk : n 0 = 4) (reb : Bool) (hreb : reb = true ↔ 2 ∈ st) :
    Calls Try.prog 29 #[(.agg #[.int .i64 c.id, .int .i64 c.m, .int .i64 c.u, .int .i64 c.b, .int .i64 c.cp, .int .i64 c.z, .int .i64 c.s, .int .i64 c.mt, .int .i64 c.o, .int .i64 c.a, .int .i64 c.l, .int .i64 ep, .int .i64 sq, .slice A st.length k, .slice D zs.length d]), (.agg #[.int .i64 (n 0), .int .i64 (n 1), .int .i64 (n 2), .int .i64 (n 3), .int .i64 (n 4), .int .i64 (n 5), .int .i64 (n 6), .int .i64 (n 7), .int .i64 (n 8), .slice X b.length x])] w (GotSp w S (nextZ reb zs[q] n b) (FitsR c st zs zs[q] n b)) := by
  obtain ⟨g1, off, hD, hg1, hc⟩ := h.2.1 (by omega)
  obtain ⟨Y0, y0, c0, c1, c2, c3, c4, c5, hp, hpy, hpy2⟩ := hc q hq
  have HZ : Hid (∀ w', Below w.heap.size w w' → w'.cell? ⟨g1, off + q * 6, none⟩ = some (.int .i64 zs[q].gen) ∧ w'.cell? ⟨g1, off + q * 6 + 1, none⟩ = some (.int .i64 zs[q].slot) ∧ w'.cell? ⟨g1, off + q * 6 + 2, none⟩ = some (.bool zs[q].full) ∧ w'.cell? ⟨g1, off + q * 6 + 3, none⟩ = some (.int .i64 zs[q].w) ∧ w'.cell? ⟨g1, off + q * 6 + 4, none⟩ = some (.bool zs[q].whole) ∧ w'.cell? ⟨g1, off + q * 6 + 5, none⟩ = some (.slice Y0 zs[q].ps.length y0)) := fun w' hb =>
    ⟨((Kept.of_below hb hS).cell (p := ⟨g1, off + q * 6, none⟩) hg1).trans c0, ((Kept.of_below hb hS).cell (p := ⟨g1, off + q * 6 + 1, none⟩) hg1).trans c1, ((Kept.of_below hb hS).cell (p := ⟨g1, off + q * 6 + 2, none⟩) hg1).trans c2, ((Kept.of_below hb hS).cell (p := ⟨g1, off + q * 6 + 3, none⟩) hg1).trans c3, ((Kept.of_below hb hS).cell (p := ⟨g1, off + q * 6 + 4, none⟩) hg1).trans c4, ((Kept.of_below hb hS).cell (p := ⟨g1, off + q * 6 + 5, none⟩) hg1).trans c5⟩
  have HPR : Hid (∀ w', Below w.heap.size w w' → PrsAt w' (Ext S w.heap.size w') Y0 zs[q].ps ∧ zs[q].ps.length ≤ y0) := fun w' hb => ⟨(hp.keep (Kept.of_below hb hS)).mono (fun _ h => Or.inl h), hpy⟩
  have HPL0 : Hid (∀ w', Below w.heap.size w w' → PrsAt w' S Y0 zs[q].ps) := fun w' hb => hp.keep (Kept.of_below hb hS)
  obtain ⟨xs, hxn, hxr⟩ := hp.rowIn
  have HROW : Hid ((Y0 = none → zs[q].ps.length = 0) ∧ ∀ w', Below w.heap.size w w' → PsRow w' S zs[q].ps xs ∧ ∀ ad, Y0 = some ad → ∀ j u, xs[j]? = some u → w'.cell? (ad.add j) = some u) := ⟨hxn, fun w' hb => hxr w' (Kept.of_below hb hS)⟩
  clear c0 c1 c2 c3 c4 c5 hc hg1 hp hpy hpy2 hxn hxr
  obtain ⟨cs, hcs⟩ : ∃ cs : Array Value, cs = #[.int .i64 c.id, .int .i64 c.m, .int .i64 c.u, .int .i64 c.b, .int .i64 c.cp, .int .i64 c.z, .int .i64 c.s, .int .i64 c.mt, .int .i64 c.o, .int .i64 c.a, .int .i64 c.l, .int .i64 ep, .int .i64 sq, .slice A st.length k, .slice D zs.length d] := ⟨_, rfl⟩
  have HCS := Lib.hid hcs
  have HCN : Hid (cs.size = 15 ∧ cs.all (·.oneCell') = true) := by rw [hcs]; exact ⟨rfl, by first | kernel_rfl | simp [Value.oneCell']⟩
  have HHAS : Hid (∀ w' (m : Nat), Below w.heap.size w w' → Calls Try.prog 66 #[.agg cs, .int .i64 (m : Int)] w' (SaysP w' (usedB zs m = true))) := fun w' m hb => by rw [hcs]; exact rhas_any c ep sq A st k D zs d m w' ((h.mono hS).later hb) hzl
  have HREB : Hid (∀ w', Below w.heap.size w w' → Calls Try.prog 67 #[.agg cs] w' (SaysP w' (2 ∈ st))) := fun w' hb => by rw [hcs]; exact rRebuilds_any c ep sq A st k D zs d w' ((h.mono hS).later hb) hl
  have HBD : Hid (∀ w', Below w.heap.size w w' → RdS w' S X b) := fun w' hb2 => hb.keep (Kept.of_below hb2 hS)
  have HSS := Lib.hid hS
  have HBL : Hid (b.length ≤ x ∧ b.length ≤ 10000000) := ⟨hbx, hbl⟩
  have HMU : Hid (IntKind.i64.wrap (c.u * c.b) = c.u * c.b ∧ wrap64 (c.u * c.b) = c.u * c.b) := by
    obtain ⟨h1, h2, h3, h4, h5, h6, h7, h8, _⟩ := hgd
    have hm := mul_in (a := c.u) (b := c.b) (A := 64) (B := 4096) (by omega) h6 (by omega) h8
    exact ⟨wrapk_in (by omega) (by omega), wrap_in (by omega) (by omega)⟩
  have HQ := Lib.hid hq
  have HNW := Lib.hid hnw
  have HFR : Hid (FitsR c st zs zs[q] n b ↔ FitsR c st zs zs[q] n b) := Iff.rfl
  generalize zs[q] = z at HZ HPR HPL0 HROW HFR hz ⊢
  obtain ⟨gen, slot, full, zw, whole, ps⟩ := z
  dsimp only at HZ HPR HPL0 HROW hz
  have HZR := Lib.hid hz
  have HPL : Hid (ps.length ≤ 140737488351232) := by have := hz.2.2; show _ ≤ _; omega
  have HN3 := Lib.hid hn
  have HDD := Lib.hid hD
  have HRB := Lib.hid hreb
  rw [← hcs]
  clear hn hnw hD hreb hb hbl hbx hgd hz hcs h HFR hq hS
  have HK0 := Lib.hid hk
  clear hk
  go_enter Try.func29, Try.ntmps29
  go_upto_region 1 with fail
  have HV := Lib.hid (three_boxes w 27 30 51 cs #[.int .i64 (n 0), .int .i64 (n 1), .int .i64 (n 2), .int .i64 (n 3), .int .i64 (n 4), .int .i64 (n 5), .int .i64 (n 6), .int .i64 (n 7), .int .i64 (n 8), .slice X b.length x] #[.int .i64 0, .int .i64 0, .bool false, .int .i64 0, .bool false, .slice none 0 0])
  generalize (((w.alloc (.cells cs 27)).alloc (.cells #[.int .i64 (n 0), .int .i64 (n 1), .int .i64 (n 2), .int .i64 (n 3), .int .i64 (n 4), .int .i64 (n 5), .int .i64 (n 6), .int .i64 (n 7), .int .i64 (n 8), .slice X b.length x] 30)).alloc (.cells #[.int .i64 0, .int .i64 0, .bool false, .int .i64 0, .bool false, .slice none 0 0] 51)) = w0 at HV ⊢
  have HBX : Hid (Box w0 w.heap.size 27 #[.int .i64 c.id, .int .i64 c.m, .int .i64 c.u, .int .i64 c.b, .int .i64 c.cp, .int .i64 c.z, .int .i64 c.s, .int .i64 c.mt, .int .i64 c.o, .int .i64 c.a, .int .i64 c.l, .int .i64 ep, .int .i64 sq, .slice A st.length k, .slice D zs.length d]) := by rw [← HCS.out]; exact HV.out.1
  obtain ⟨s0, s1, s2, s3, s4, s5, s6, s7, s8, s9, s10, s11, s12, s13, s14⟩ := box15 HBX.out
  obtain ⟨r0, r1, r2, r3, r4, r5, r6, r7, r8, r9⟩ := box10 HV.out.2.1
  obtain ⟨z0, z1, z2, z3, z4, z5⟩ := HZ.out w0 HV.out.2.2.2.1
  rw [HN3.out] at r3
  rw [HDD.out] at s14
  have hqn := HQ.out
  have hsz := HV.out.2.2.2.2
  go_upto_region 2 with fail
  have HX : Hid (StpIn cs n X b x #[.int .i64 0, .int .i64 0, .bool false, .int .i64 0, .bool false, .slice none 0 0] #[.int .i64 gen, .int .i64 slot, .bool full, .int .i64 zw, .bool whole, .slice Y0 ps.length y0] w (w0.alloc (.cells #[.int .i64 gen, .int .i64 slot, .bool full, .int .i64 zw, .bool whole, .slice Y0 ps.length y0] 51))) := by
    have hb := below_one w0 (.cells #[.int .i64 gen, .int .i64 slot, .bool full, .int .i64 zw, .bool whole, .slice Y0 ps.length y0] 51)
    have hz := Box.fresh w0 51 #[.int .i64 gen, .int .i64 slot, .bool full, .int .i64 zw, .bool whole, .slice Y0 ps.length y0]
    rw [hsz] at hz
    exact ⟨HV.out.1.later hb, HV.out.2.1.later hb, HV.out.2.2.1.later hb, hz, HV.out.2.2.2.1.trans (hb.mono (by omega)), by simp; omega⟩
  generalize w0.alloc (.cells #[.int .i64 gen, .int .i64 slot, .bool full, .int .i64 zw, .bool whole, .slice Y0 ps.length y0] 51) = w1 at HX ⊢
  clear HV HBX HZ hqn hsz s0 s1 s2 s3 s4 s5 s6 s7 s8 s9 s10 s11 s12 s13 s14 r0 r1 r2 r3 r4 r5 r6 r7 r8 r9 z0 z1 z2 z3 z4 z5
  refine wpB_start (w.heap.size + 4) (by kernel_rfl) ?_
  have HX1 := Lib.hid (HX.out.later (Below.refl _ _).drew)
  generalize w1.drew = w1d at HX1 ⊢
  clear HX
  have HBX : Hid (Box w1d w.heap.size 27 #[.int .i64 c.id, .int .i64 c.m, .int .i64 c.u, .int .i64 c.b, .int .i64 c.cp, .int .i64 c.z, .int .i64 c.s, .int .i64 c.mt, .int .i64 c.o, .int .i64 c.a, .int .i64 c.l, .int .i64 ep, .int .i64 sq, .slice A st.length k, .slice D zs.length d]) := by rw [← HCS.out]; exact HX1.out.1
  have s0 := Box.at_ (B := (w.heap.size + 4)) HBX.out (by omega) (i := 0) rfl
  have s1 := Box.at_ (B := (w.heap.size + 4)) HBX.out (by omega) (i := 1) rfl
  have s2 := Box.at_ (B := (w.heap.size + 4)) HBX.out (by omega) (i := 2) rfl
  have s3 := Box.at_ (B := (w.heap.size + 4)) HBX.out (by omega) (i := 3) rfl
  have s4 := Box.at_ (B := (w.heap.size + 4)) HBX.out (by omega) (i := 4) rfl
  have s5 := Box.at_ (B := (w.heap.size + 4)) HBX.out (by omega) (i := 5) rfl
  have s6 := Box.at_ (B := (w.heap.size + 4)) HBX.out (by omega) (i := 6) rfl
  have s7 := Box.at_ (B := (w.heap.size + 4)) HBX.out (by omega) (i := 7) rfl
  have s8 := Box.at_ (B := (w.heap.size + 4)) HBX.out (by omega) (i := 8) rfl
  have s9 := Box.at_ (B := (w.heap.size + 4)) HBX.out (by omega) (i := 9) rfl
  have s10 := Box.at_ (B := (w.heap.size + 4)) HBX.out (by omega) (i := 10) rfl
  refine wpB_take (i := 0) (d := 19) (v := ?v2x0) rfl rfl (by kernel_rfl) (by kernel_rfl) (by kernel_rfl) (fun _ _ _ h => h) (by rfl) ?y2x0 ?r2x0
  case y2x0 => (intro w' hSw; go_simp; try (with_reducible rfl))
  simp only [Act.put, List.setIfInBounds_toArray, List.set_cons_zero, List.set_cons_succ]
  refine wpB_take (i := 1) (d := 20) (v := ?v2x1) rfl rfl (by kernel_rfl) (by kernel_rfl) (by kernel_rfl) (fun _ _ _ h => h) (by rfl) ?y2x1 ?r2x1
  case y2x1 => (intro w' hSw; go_simp; try (with_reducible rfl))
  simp only [Act.put, List.setIfInBounds_toArray, List.set_cons_zero, List.set_cons_succ]
  refine wpB_take (i := 3) (d := 22) (v := ?v2x3) rfl rfl (by kernel_rfl) (by kernel_rfl) (by kernel_rfl) (fun _ _ _ h => h) (by rfl) ?y2x3 ?r2x3
  case y2x3 => (intro w' hSw; go_simp; try (with_reducible rfl))
  simp only [Act.put, List.setIfInBounds_toArray, List.set_cons_zero, List.set_cons_succ]
  refine wpB_take (i := 4) (d := 23) (v := ?v2x4) rfl rfl (by kernel_rfl) (by kernel_rfl) (by kernel_rfl) (fun _ _ _ h => h) (by rfl) ?y2x4 ?r2x4
  case y2x4 => (intro w' hSw; go_simp; try (with_reducible rfl))
  simp only [Act.put, List.setIfInBounds_toArray, List.set_cons_zero, List.set_cons_succ]
  refine wpB_do (i := 2) (by kernel_rfl) rfl (by rfl) (fun K hK => ?_)
  go_simp
  refine (rsize_any c w1d).mono ?_
  rintro e w2 ⟨rfl, hb⟩
  have HX2 := Lib.hid (HX1.out.later hb)
  have HBX2 : Hid (Box w2 w.heap.size 27 #[.int .i64 c.id, .int .i64 c.m, .int .i64 c.u, .int .i64 c.b, .int .i64 c.cp, .int .i64 c.z, .int .i64 c.s, .int .i64 c.mt, .int .i64 c.o, .int .i64 c.a, .int .i64 c.l, .int .i64 ep, .int .i64 sq, .slice A st.length k, .slice D zs.length d]) := by rw [← HCS.out]; exact HX2.out.1
  have hbk := hb.mono HX1.out.2.2.2.2.2
  go_simp
  refine hK.out (w.heap.size + 4) _ _ (Nat.le_refl _) hbk ?_
  clear hK hb hbk HX1 HBX s0 s1 s2 s3 s4 s5 s6 s7 s8 s9 s10
  have s0 := Box.at_ (B := (w.heap.size + 4)) HBX2.out (by omega) (i := 0) rfl
  have s1 := Box.at_ (B := (w.heap.size + 4)) HBX2.out (by omega) (i := 1) rfl
  have s2 := Box.at_ (B := (w.heap.size + 4)) HBX2.out (by omega) (i := 2) rfl
  have s3 := Box.at_ (B := (w.heap.size + 4)) HBX2.out (by omega) (i := 3) rfl
  have s4 := Box.at_ (B := (w.heap.size + 4)) HBX2.out (by omega) (i := 4) rfl
  have s5 := Box.at_ (B := (w.heap.size + 4)) HBX2.out (by omega) (i := 5) rfl
  have s6 := Box.at_ (B := (w.heap.size + 4)) HBX2.out (by omega) (i := 6) rfl
  have s7 := Box.at_ (B := (w.heap.size + 4)) HBX2.out (by omega) (i := 7) rfl
  have s8 := Box.at_ (B := (w.heap.size + 4)) HBX2.out (by omega) (i := 8) rfl
  have s9 := Box.at_ (B := (w.heap.size + 4)) HBX2.out (by omega) (i := 9) rfl
  have s10 := Box.at_ (B := (w.heap.size + 4)) HBX2.out (by omega) (i := 10) rfl
  refine wpB_do (i := 5) (by kernel_rfl) rfl (by rfl) (fun K hK => ?_)
  go_simp
  refine (nums_any c w2).mono ?_
  rintro e w3 ⟨rfl, hb⟩
  have HX := Lib.hid (HX2.out.later hb)
  have hbk := hb.mono HX2.out.2.2.2.2.2
  have hix := fun w => index4 (.int .i64 (dataC c)) (.int .i64 (dataC c * c.u)) (.int .i64 (stripesC c)) (.int .i64 (stripesC c * (dataC c * c.u))) (.int .i64 (slotsC c)) (.int .i64 (allC c)) (.int .i64 (roomC c)) w
  go_simp
  refine hK.out (w.heap.size + 4) _ _ (Nat.le_refl _) hbk ?_
  clear hK hb hbk HX2 HBX2 s0 s1 s2 s3 s4 s5 s6 s7 s8 s9 s10
  refine wpB_take (i := 6) (d := 25) (v := ?v2x6) rfl rfl (by kernel_rfl) (by kernel_rfl) (by kernel_rfl) (fun _ _ _ h => h) (by rfl) ?y2x6 ?r2x6
  case y2x6 => (intro w' hSw; go_simp; try (with_reducible rfl))
  simp only [Act.put, List.setIfInBounds_toArray, List.set_cons_zero, List.set_cons_succ]
  refine wpB_take (i := 7) (d := 7) (v := ?v2x7) rfl rfl (by kernel_rfl) (by kernel_rfl) (by kernel_rfl) (fun _ _ _ h => h) (by rfl) ?y2x7 ?r2x7
  case y2x7 => (intro w' hSw; go_simp; try (with_reducible rfl))
  simp only [Act.put, List.setIfInBounds_toArray, List.set_cons_zero, List.set_cons_succ]
  refine wpB_take (i := 8) (d := 8) (v := ?v2x8) rfl rfl (by kernel_rfl) (by kernel_rfl) (by kernel_rfl) (fun _ _ _ h => h) (by rfl) ?y2x8 ?r2x8
  case y2x8 => (intro w' hSw; go_simp; try (with_reducible rfl))
  simp only [Act.put, List.setIfInBounds_toArray, List.set_cons_zero, List.set_cons_succ]
  refine wpB_done (by kernel_rfl) ?_
  clear hix
  obtain ⟨r0, r1, r2, r3, r4, r5, r6, r7, r8, r9⟩ := box10 HX.out.2.1
  obtain ⟨z0, z1, z2, z3, z4, z5⟩ := box6 HX.out.2.2.2.1
  obtain ⟨f0, f1, f2, f3, f4, f5⟩ := froz6 HX.out.2.2.2.1
  have k1 : n 0 ≠ 1 := by have := HK0.out; omega
  have kb1 : (n 0 == 1) = false := by simpa using k1
  have k2 : n 0 ≠ 2 := by have := HK0.out; omega
  have kb2 : (n 0 == 2) = false := by simpa using k2
  have k3 : n 0 ≠ 3 := by have := HK0.out; omega
  have kb3 : (n 0 == 3) = false := by simpa using k3
  have k4 : n 0 = 4 := HK0.out
  clear HK0
  · have hfit : FitsR c st zs ⟨gen, slot, full, zw, whole, ps⟩ n b ↔ (n 4 = gen ∧ n 6 ≠ 0 ∧ (b.length : Int) = c.u * c.b ∧ full = false ∧ EndR c (n 6) (slot ≠ -1)) := fits4 k4
    have hnx : nextZ reb ⟨gen, slot, full, zw, whole, ps⟩ n b = ⟨gen, slot, full, zw, whole, nextPs ps ⟨n 6, b⟩⟩ := (if_neg k1).trans ((if_neg (show ¬ n 0 = 5 by omega)).trans ((if_neg k2).trans (if_neg k3)))
    rw [k4] at r0
    have HFIT := Lib.hid hfit
    have HNZ := Lib.hid hnx
    clear hfit hnx k1 kb1 k2 kb2 k3 kb3 k4
    go_upto_region 15 with fail
    have HBX : Hid (Box w3 w.heap.size 27 #[.int .i64 c.id, .int .i64 c.m, .int .i64 c.u, .int .i64 c.b, .int .i64 c.cp, .int .i64 c.z, .int .i64 c.s, .int .i64 c.mt, .int .i64 c.o, .int .i64 c.a, .int .i64 c.l, .int .i64 ep, .int .i64 sq, .slice A st.length k, .slice D zs.length d]) := by rw [← HCS.out]; exact HX.out.1
    obtain ⟨s0, s1, s2, s3, s4, s5, s6, s7, s8, s9, s10, s11, s12, s13, s14⟩ := box15 HBX.out
    have hmu := HMU.out.1
    have hmu2 := HMU.out.2
    go_cut [11] from 121 to 159 (fun s wx => ∃ okb : Bool, s = .bool okb ∧ (okb = true ↔ FitsR c st zs ⟨gen, slot, full, zw, whole, ps⟩ n b) ∧ StpIn cs n X b x #[.int .i64 0, .int .i64 0, .bool false, .int .i64 0, .bool false, .slice none 0 0] #[.int .i64 gen, .int .i64 slot, .bool full, .int .i64 zw, .bool whole, .slice Y0 ps.length y0] w wx)
    case first =>
      by_cases k8 : 0 ≤ slot
      case neg =>
        have HNO : Hid (¬ FitsR c st zs ⟨gen, slot, full, zw, whole, ps⟩ n b) := fun h => by
          have h1 := HFIT.out.1 h
          have h2 := h1.2.2.2.2.2
          have h3 := h1.2.1
          have h4 := HZR.out.2.1
          omega
        go_wp2_with fail
        go_meet
        exact ⟨false, rfl, iff_of_false (by simp) HNO.out, HX.out⟩
      cases full
      case true =>
        have HNO : Hid (¬ FitsR c st zs ⟨gen, slot, true, zw, whole, ps⟩ n b) := fun h => by
          have h1 := HFIT.out.1 h
          simp at h1
        go_wp2_with fail
        go_meet
        exact ⟨false, rfl, iff_of_false (by simp) HNO.out, HX.out⟩
      by_cases k2 : gen = n 4
      case neg =>
        have k2b : (gen == n 4) = false := by simpa using k2
        have HNO : Hid (¬ FitsR c st zs ⟨gen, slot, false, zw, whole, ps⟩ n b) := fun h => k2 (HFIT.out.1 h).1.symm
        clear k2
        go_wp2_with fail
        go_meet
        exact ⟨false, rfl, iff_of_false (by simp) HNO.out, HX.out⟩
      have k2b : (gen == n 4) = true := by simpa using k2
      have HK2 := Lib.hid k2
      clear k2
      by_cases k6 : 1 ≤ n 6
      case neg =>
        have HNO : Hid (¬ FitsR c st zs ⟨gen, slot, false, zw, whole, ps⟩ n b) := fun h => by
          have h1 := HFIT.out.1 h
          have h2 := h1.2.2.2.2.1.1
          have h3 := h1.2.1
          omega
        go_wp2_with fail
        go_meet
        exact ⟨false, rfl, iff_of_false (by simp) HNO.out, HX.out⟩
      by_cases k7 : n 6 ≤ sizeC c
      case neg =>
        have HNO : Hid (¬ FitsR c st zs ⟨gen, slot, false, zw, whole, ps⟩ n b) := fun h => by
          have h1 := HFIT.out.1 h
          have h2 := h1.2.2.2.2.1.2
          omega
        go_wp2_with fail
        go_meet
        exact ⟨false, rfl, iff_of_false (by simp) HNO.out, HX.out⟩
      by_cases k9 : (b.length : Int) = c.u * c.b
      case neg =>
        have k9b : ((b.length : Int) == c.u * c.b) = false := by simpa using k9
        have HNO : Hid (¬ FitsR c st zs ⟨gen, slot, false, zw, whole, ps⟩ n b) := fun h => k9 (HFIT.out.1 h).2.2.1
        clear k9
        go_wp2_with fail
        go_meet
        exact ⟨false, rfl, iff_of_false (by simp) HNO.out, HX.out⟩
      have k9b : ((b.length : Int) == c.u * c.b) = true := by simpa using k9
      have HYES : Hid (FitsR c st zs ⟨gen, slot, false, zw, whole, ps⟩ n b) := HFIT.out.2 ⟨HK2.out.symm, by omega, k9, rfl, ⟨by omega, k7⟩, Or.inr (by omega)⟩
      clear k9
      go_wp2_with fail
      go_meet
      exact ⟨true, rfl, iff_of_true rfl HYES.out, HX.out⟩
    case rest =>
      obtain ⟨okb, rfl, hok, hx⟩ := hcut
      have HOK := Lib.hid hok
      have HX5 := Lib.hid hx
      clear hok hx HX HBX hmu hmu2 r0 r1 r2 r3 r4 r5 r6 r7 r8 r9 z0 z1 z2 z3 z4 z5 f0 f1 f2 f3 f4 f5 s0 s1 s2 s3 s4 s5 s6 s7 s8 s9 s10 s11 s12 s13 s14
      generalize wc = w4 at HX5 ⊢
      go_upto_region 16 with fail
      go_cut [12] from 160 to 170 (fun s wx => ∃ g l, s = .slice (some ⟨g, 0, none⟩) (ps.length + 1) l ∧ StpIn cs n X b x #[.int .i64 0, .int .i64 0, .bool false, .int .i64 0, .bool false, .slice none 0 0] #[.int .i64 gen, .int .i64 slot, .bool full, .int .i64 zw, .bool whole, .slice Y0 ps.length y0] w wx ∧ PrsAt wx (Ext S (w.heap.size + 4) wx) (some ⟨g, 0, none⟩) (ps ++ [⟨n 6, b⟩]) ∧ ps.length + 1 ≤ l)
      case first =>
        obtain ⟨B, hB⟩ : ∃ B, w4.heap.size = B := ⟨_, rfl⟩
        refine wpB_start B (by kernel_rfl) ?_
        have HD := Lib.hid (HX5.out.later (Below.refl _ _).drew)
        have HB : Hid (B ≤ w4.drew.heap.size ∧ w.heap.size + 4 ≤ B) := ⟨Nat.le_of_eq hB.symm, by have := HX5.out.2.2.2.2.2; omega⟩
        generalize w4.drew = wd at HD HB ⊢
        clear hB HX5
        have hB1 : w.heap.size + 1 < B := by have := HB.out.2; omega
        have hB3 : w.heap.size + 3 < B := by have := HB.out.2; omega
        have r0 := Box.at_ (B := B) HD.out.2.1 hB1 (i := 0) rfl
        have r1 := Box.at_ (B := B) HD.out.2.1 hB1 (i := 1) rfl
        have r2 := Box.at_ (B := B) HD.out.2.1 hB1 (i := 2) rfl
        have r3 := Box.at_ (B := B) HD.out.2.1 hB1 (i := 3) rfl
        have r4 := Box.at_ (B := B) HD.out.2.1 hB1 (i := 4) rfl
        have r5 := Box.at_ (B := B) HD.out.2.1 hB1 (i := 5) rfl
        have r6 := Box.at_ (B := B) HD.out.2.1 hB1 (i := 6) rfl
        have r7 := Box.at_ (B := B) HD.out.2.1 hB1 (i := 7) rfl
        have r8 := Box.at_ (B := B) HD.out.2.1 hB1 (i := 8) rfl
        have r9 := Box.at_ (B := B) HD.out.2.1 hB1 (i := 9) rfl
        have z0 := Box.at_ (B := B) HD.out.2.2.2.1 hB3 (i := 0) rfl
        have z1 := Box.at_ (B := B) HD.out.2.2.2.1 hB3 (i := 1) rfl
        have z2 := Box.at_ (B := B) HD.out.2.2.2.1 hB3 (i := 2) rfl
        have z3 := Box.at_ (B := B) HD.out.2.2.2.1 hB3 (i := 3) rfl
        have z4 := Box.at_ (B := B) HD.out.2.2.2.1 hB3 (i := 4) rfl
        have z5 := Box.at_ (B := B) HD.out.2.2.2.1 hB3 (i := 5) rfl
        refine wpB_take (i := 1) (d := 161) (v := ?v16x1) rfl rfl (by kernel_rfl) (by kernel_rfl) (by kernel_rfl) (fun _ _ _ h => h) (by rfl) ?y16x1 ?r16x1
        case y16x1 => (intro w' hSw; go_simp; try (with_reducible rfl))
        simp only [Act.put, List.setIfInBounds_toArray, List.set_cons_zero, List.set_cons_succ]
        refine wpB_take (i := 2) (d := 162) (v := ?v16x2) rfl rfl (by kernel_rfl) (by kernel_rfl) (by kernel_rfl) (fun _ _ _ h => h) (by rfl) ?y16x2 ?r16x2
        case y16x2 => (intro w' hSw; go_simp; try (with_reducible rfl))
        simp only [Act.put, List.setIfInBounds_toArray, List.set_cons_zero, List.set_cons_succ]
        refine wpB_take (i := 4) (d := 164) (v := ?v16x4) rfl rfl (by kernel_rfl) (by kernel_rfl) (by kernel_rfl) (fun _ _ _ h => h) (by rfl) ?y16x4 ?r16x4
        case y16x4 => (intro w' hSw; go_simp; try (with_reducible rfl))
        simp only [Act.put, List.setIfInBounds_toArray, List.set_cons_zero, List.set_cons_succ]
        refine wpB_take (i := 5) (d := 165) (v := ?v16x5) rfl rfl (by kernel_rfl) (by kernel_rfl) (by kernel_rfl) (fun _ _ _ h => h) (by rfl) ?y16x5 ?r16x5
        case y16x5 => (intro w' hSw; go_simp; try (with_reducible rfl))
        simp only [Act.put, List.setIfInBounds_toArray, List.set_cons_zero, List.set_cons_succ]
        refine wpB_take (i := 6) (d := 166) (v := ?v16x6) rfl rfl (by kernel_rfl) (by kernel_rfl) (by kernel_rfl) (fun _ _ _ h => h) (by rfl) ?y16x6 ?r16x6
        case y16x6 => (intro w' hSw; go_simp; try (with_reducible rfl))
        simp only [Act.put, List.setIfInBounds_toArray, List.set_cons_zero, List.set_cons_succ]
        refine wpB_take (i := 7) (d := 167) (v := ?v16x7) rfl rfl (by kernel_rfl) (by kernel_rfl) (by kernel_rfl) (fun _ _ _ h => h) (by rfl) ?y16x7 ?r16x7
        case y16x7 => (intro w' hSw; go_simp; try (with_reducible rfl))
        simp only [Act.put, List.setIfInBounds_toArray, List.set_cons_zero, List.set_cons_succ]
        refine wpB_take (i := 8) (d := 168) (v := ?v16x8) rfl rfl (by kernel_rfl) (by kernel_rfl) (by kernel_rfl) (fun _ _ _ h => h) (by rfl) ?y16x8 ?r16x8
        case y16x8 => (intro w' hSw; go_simp; try (with_reducible rfl))
        simp only [Act.put, List.setIfInBounds_toArray, List.set_cons_zero, List.set_cons_succ]
        clear r0 r1 r2 r3 r4 r5 r6 r7 r8 r9 z0 z1 z2 z3 z4 z5
        have Hwd : Hid (StpIn cs n X b x #[.int .i64 0, .int .i64 0, .bool false, .int .i64 0, .bool false, .slice none 0 0] #[.int .i64 gen, .int .i64 slot, .bool full, .int .i64 zw, .bool whole, .slice Y0 ps.length y0] w wd ∧ B ≤ wd.heap.size ∧ True ∧ True ∧ True) := ⟨HD.out, HB.out.1, trivial, trivial, trivial⟩
        clear HD
        refine wpB_two (i := 0) (j := 9) (by kernel_rfl) rfl rfl (by rfl) (by rfl) (fun K hK => ?_) (fun K hK => ?_)
        · skip
          go_simp
          refine hK.out B _ _ (Nat.le_refl _) ((Below.refl _ _).alloc Hwd.out.2.1 _) ?_
          try simp only [Act.put, List.getElem_toArray, List.getElem_cons_succ, List.getElem_cons_zero, List.setIfInBounds_toArray, List.set_cons_zero, List.set_cons_succ]
          have hbl := below_one wd (.cells #[] 55)
          have Hw21 : Hid (StpIn cs n X b x #[.int .i64 0, .int .i64 0, .bool false, .int .i64 0, .bool false, .slice none 0 0] #[.int .i64 gen, .int .i64 slot, .bool full, .int .i64 zw, .bool whole, .slice Y0 ps.length y0] w (wd.alloc (.cells #[] 55)) ∧ B ≤ (wd.alloc (.cells #[] 55)).heap.size ∧ (wd.alloc (.cells #[] 55)).ownsRow B 55 2 (.slice (some ⟨wd.heap.size, 0, none⟩) 0 0) 0 [] ∧ True ∧ True) := ⟨Hwd.out.1.later hbl, Nat.le_trans Hwd.out.2.1 hbl.size, World.ownsRow_lit wd #[] 0 Hwd.out.2.1 (by simp [maxLen]) rfl, trivial, trivial⟩
          generalize wd.alloc (.cells #[] 55) = w21 at Hw21 ⊢
          generalize (Value.slice (some ⟨wd.heap.size, 0, none⟩) 0 0) = V at Hw21 ⊢
          clear hK hbl Hwd
          refine wpB_two (i := 3) (j := 9) (by kernel_rfl) rfl rfl (by rfl) (by rfl) (fun K hK => ?_) (fun K hK => ?_)
          · skip
            refine oper_rowO w21 49 55 (.agg #[.int .i64 0, .slice none 0 0]) 2 32 (.tmp 160) (.tmp 162) rfl Try.underlying49 Try.info55 rfl (by omega) B V 0 [] Y0 ps.length y0 xs rfl rfl Hw21.out.2.2.1 ((HROW.out.2 w (Below.refl _ _)).1.length) HROW.out.1 (HROW.out.2 w21 Hw21.out.1.2.2.2.2.1).2 ((HROW.out.2 w (Below.refl _ _)).1.one) (by have := HZR.out.2.2; omega) (by omega) Hw21.out.2.1 ?_
            intro V2 w22 ho hg hat
            rw [Nat.zero_add] at ho
            simp only [List.nil_append] at ho
            have hbl := own_below Hw21.out.2.2.1 hg Hw21.out.2.1
            refine hK.out B _ _ (Nat.le_refl _) hbl ?_
            try simp only [Act.put, List.getElem_toArray, List.getElem_cons_succ, List.getElem_cons_zero, List.setIfInBounds_toArray, List.set_cons_zero, List.set_cons_succ]
            have Hw22 : Hid (StpIn cs n X b x #[.int .i64 0, .int .i64 0, .bool false, .int .i64 0, .bool false, .slice none 0 0] #[.int .i64 gen, .int .i64 slot, .bool full, .int .i64 zw, .bool whole, .slice Y0 ps.length y0] w (w22) ∧ B ≤ (w22).heap.size ∧ (w22).ownsRow B 55 2 V2 ps.length xs ∧ True ∧ True) := ⟨Hw21.out.1.under hbl HB.out.2, Nat.le_trans Hw21.out.2.1 hbl.size, ho, trivial, trivial⟩
            clear hK hbl ho hg hat Hw21
            generalize V = V0
            generalize V2 = V at Hw22 ⊢
            refine wpB_do (i := 9) (by kernel_rfl) rfl (by rfl) (fun K hK => ?_)
            go_simp
            refine hK.out B _ _ (Nat.le_refl _) ((Below.refl _ _).alloc Hw22.out.2.1 _) ?_
            try simp only [Act.put, List.getElem_toArray, List.getElem_cons_succ, List.getElem_cons_zero, List.setIfInBounds_toArray, List.set_cons_zero, List.set_cons_succ]
            have hbl := below_one w22 (.cells #[.int .i64 (n 6), .slice X b.length x] 55)
            have Hw23 : Hid (StpIn cs n X b x #[.int .i64 0, .int .i64 0, .bool false, .int .i64 0, .bool false, .slice none 0 0] #[.int .i64 gen, .int .i64 slot, .bool full, .int .i64 zw, .bool whole, .slice Y0 ps.length y0] w (w22.alloc (.cells #[.int .i64 (n 6), .slice X b.length x] 55)) ∧ B ≤ (w22.alloc (.cells #[.int .i64 (n 6), .slice X b.length x] 55)).heap.size ∧ (w22.alloc (.cells #[.int .i64 (n 6), .slice X b.length x] 55)).ownsRow B 55 2 V ps.length xs ∧ Box (w22.alloc (.cells #[.int .i64 (n 6), .slice X b.length x] 55)) (w22.heap.size) 55 #[.int .i64 (n 6), .slice X b.length x] ∧ (∀ k, Value.ownBlock (V) = some k → k ≠ w22.heap.size)) := ⟨Hw22.out.1.later hbl, Nat.le_trans Hw22.out.2.1 hbl.size, Hw22.out.2.2.1.kept (turned_of_below hbl none) (by cases Value.ownBlock V <;> simp), Box.fresh w22 55 _, (fun k hk e => by have h1 := (World.ownsRow.lt Hw22.out.2.2.1 k hk).2; omega)⟩
            generalize w22.alloc (.cells #[.int .i64 (n 6), .slice X b.length x] 55) = w23 at Hw23 ⊢
            generalize w22.heap.size = r at Hw23 ⊢
            clear hK hbl Hw22
            refine wpB_do (i := 10) (by kernel_rfl) rfl (by rfl) (fun K hK => ?_)
            refine oper_rowO w23 49 55 (.agg #[.int .i64 0, .slice none 0 0]) 2 32 (.tmp 163) (.tmp 169) rfl Try.underlying49 Try.info55 rfl (by omega) B V ps.length xs (some ⟨r, 0, none⟩) 1 1 [.int .i64 (n 6), .slice X b.length x] rfl rfl Hw23.out.2.2.1 rfl (fun e => by cases e) (fun ad e => by (obtain rfl := Option.some.inj e; exact row_cell Hw23.out.2.2.2.1)) (by simp [Value.oneCell']) (by have := HZR.out.2.2; omega) (by omega) Hw23.out.2.1 ?_
            intro V2 w24 ho hg hat
            have hbl := own_below Hw23.out.2.2.1 hg Hw23.out.2.1
            refine hK.out B _ _ (Nat.le_refl _) hbl ?_
            try simp only [Act.put, List.getElem_toArray, List.getElem_cons_succ, List.getElem_cons_zero, List.setIfInBounds_toArray, List.set_cons_zero, List.set_cons_succ]
            have Hw24 : Hid (∃ g l, V2 = .slice (some ⟨g, 0, none⟩) (ps.length + 1) l ∧ StpIn cs n X b x #[.int .i64 0, .int .i64 0, .bool false, .int .i64 0, .bool false, .slice none 0 0] #[.int .i64 gen, .int .i64 slot, .bool full, .int .i64 zw, .bool whole, .slice Y0 ps.length y0] w w24 ∧ PrsAt w24 (Ext S (w.heap.size + 4) w24) (some ⟨g, 0, none⟩) (ps ++ [⟨n 6, b⟩]) ∧ ps.length + 1 ≤ l) := by
              obtain ⟨A2, l, hv⟩ := own_form ho
              subst hv
              obtain ⟨g, hA2⟩ := (ownT_form ho).2 (by omega)
              subst hA2
              have hst : StpIn cs n X b x #[.int .i64 0, .int .i64 0, .bool false, .int .i64 0, .bool false, .slice none 0 0] #[.int .i64 gen, .int .i64 slot, .bool full, .int .i64 zw, .bool whole, .slice Y0 ps.length y0] w w24 := Hw23.out.1.under hbl HB.out.2
              have hpr := ((HROW.out.2 w24 hst.2.2.2.2.1).1.snoc (p := ⟨n 6, b⟩) (HBD.out w24 hst.2.2.2.2.1) HBL.out.1 (by show b.length ≤ _; have := HBL.out.2; omega)).rowOf (S' := Ext S (w.heap.size + 4) w24) (by simp) ho (fun _ h => Or.inl h) (fun g h1 h2 => Or.inr ⟨Nat.le_trans HB.out.2 h1, h2⟩)
              exact ⟨g, l, rfl, hst, hpr.1, by simpa using hpr.2⟩
            clear hK hbl ho hg hat Hw23
            refine wpB_take (i := 11) (d := 12) (v := ?v16t5x11) rfl rfl (by kernel_rfl) (by kernel_rfl) (by kernel_rfl) (fun _ _ _ h => h) (by rfl) ?y16t5x11 ?r16t5x11
            case y16t5x11 => (intro w' hSw; go_simp; try (with_reducible rfl))
            simp only [Act.put, List.setIfInBounds_toArray, List.set_cons_zero, List.set_cons_succ]
            refine wpB_done (by kernel_rfl) ?_
            go_wp2_with fail
            go_meet
            exact Hw24.out
          · skip
            go_simp
            refine hK.out B _ _ (Nat.le_refl _) ((Below.refl _ _).alloc Hw21.out.2.1 _) ?_
            try simp only [Act.put, List.getElem_toArray, List.getElem_cons_succ, List.getElem_cons_zero, List.setIfInBounds_toArray, List.set_cons_zero, List.set_cons_succ]
            have hbl := below_one w21 (.cells #[.int .i64 (n 6), .slice X b.length x] 55)
            have Hw26 : Hid (StpIn cs n X b x #[.int .i64 0, .int .i64 0, .bool false, .int .i64 0, .bool false, .slice none 0 0] #[.int .i64 gen, .int .i64 slot, .bool full, .int .i64 zw, .bool whole, .slice Y0 ps.length y0] w (w21.alloc (.cells #[.int .i64 (n 6), .slice X b.length x] 55)) ∧ B ≤ (w21.alloc (.cells #[.int .i64 (n 6), .slice X b.length x] 55)).heap.size ∧ (w21.alloc (.cells #[.int .i64 (n 6), .slice X b.length x] 55)).ownsRow B 55 2 V 0 [] ∧ Box (w21.alloc (.cells #[.int .i64 (n 6), .slice X b.length x] 55)) (w21.heap.size) 55 #[.int .i64 (n 6), .slice X b.length x] ∧ (∀ k, Value.ownBlock (V) = some k → k ≠ w21.heap.size)) := ⟨Hw21.out.1.later hbl, Nat.le_trans Hw21.out.2.1 hbl.size, Hw21.out.2.2.1.kept (turned_of_below hbl none) (by cases Value.ownBlock V <;> simp), Box.fresh w21 55 _, (fun k hk e => by have h1 := (World.ownsRow.lt Hw21.out.2.2.1 k hk).2; omega)⟩
            generalize w21.alloc (.cells #[.int .i64 (n 6), .slice X b.length x] 55) = w26 at Hw26 ⊢
            generalize w21.heap.size = r at Hw26 ⊢
            clear hK hbl Hw21
            refine wpB_do (i := 3) (by kernel_rfl) rfl (by rfl) (fun K hK => ?_)
            refine oper_rowO w26 49 55 (.agg #[.int .i64 0, .slice none 0 0]) 2 32 (.tmp 160) (.tmp 162) rfl Try.underlying49 Try.info55 rfl (by omega) B V 0 [] Y0 ps.length y0 xs rfl rfl Hw26.out.2.2.1 ((HROW.out.2 w (Below.refl _ _)).1.length) HROW.out.1 (HROW.out.2 w26 Hw26.out.1.2.2.2.2.1).2 ((HROW.out.2 w (Below.refl _ _)).1.one) (by have := HZR.out.2.2; omega) (by omega) Hw26.out.2.1 ?_
            intro V2 w27 ho hg hat
            rw [Nat.zero_add] at ho
            simp only [List.nil_append] at ho
            have hbl := own_below Hw26.out.2.2.1 hg Hw26.out.2.1
            refine hK.out B _ _ (Nat.le_refl _) hbl ?_
            try simp only [Act.put, List.getElem_toArray, List.getElem_cons_succ, List.getElem_cons_zero, List.setIfInBounds_toArray, List.set_cons_zero, List.set_cons_succ]
            have Hw27 : Hid (StpIn cs n X b x #[.int .i64 0, .int .i64 0, .bool false, .int .i64 0, .bool false, .slice none 0 0] #[.int .i64 gen, .int .i64 slot, .bool full, .int .i64 zw, .bool whole, .slice Y0 ps.length y0] w (w27) ∧ B ≤ (w27).heap.size ∧ (w27).ownsRow B 55 2 V2 ps.length xs ∧ Box (w27) (r) 55 #[.int .i64 (n 6), .slice X b.length x] ∧ (∀ k, Value.ownBlock (V2) = some k → k ≠ r)) := ⟨Hw26.out.1.under hbl HB.out.2, Nat.le_trans Hw26.out.2.1 hbl.size, ho, (hg.block r Hw26.out.2.2.2.1.lt (fun e => Hw26.out.2.2.2.2 r e.symm rfl)).trans Hw26.out.2.2.2.1, (fun k hk e => by (rcases hat with h1 | h1; exact Hw26.out.2.2.2.2 k (h1 ▸ hk) e; rw [h1] at hk; have h2 := Hw26.out.2.2.2.1.lt; simp at hk; omega))⟩
            clear hK hbl ho hg hat Hw26
            generalize V = V0
            generalize V2 = V at Hw27 ⊢
            refine wpB_do (i := 10) (by kernel_rfl) rfl (by rfl) (fun K hK => ?_)
            refine oper_rowO w27 49 55 (.agg #[.int .i64 0, .slice none 0 0]) 2 32 (.tmp 163) (.tmp 169) rfl Try.underlying49 Try.info55 rfl (by omega) B V ps.length xs (some ⟨r, 0, none⟩) 1 1 [.int .i64 (n 6), .slice X b.length x] rfl rfl Hw27.out.2.2.1 rfl (fun e => by cases e) (fun ad e => by (obtain rfl := Option.some.inj e; exact row_cell Hw27.out.2.2.2.1)) (by simp [Value.oneCell']) (by have := HZR.out.2.2; omega) (by omega) Hw27.out.2.1 ?_
            intro V2 w28 ho hg hat
            have hbl := own_below Hw27.out.2.2.1 hg Hw27.out.2.1
            refine hK.out B _ _ (Nat.le_refl _) hbl ?_
            try simp only [Act.put, List.getElem_toArray, List.getElem_cons_succ, List.getElem_cons_zero, List.setIfInBounds_toArray, List.set_cons_zero, List.set_cons_succ]
            have Hw28 : Hid (∃ g l, V2 = .slice (some ⟨g, 0, none⟩) (ps.length + 1) l ∧ StpIn cs n X b x #[.int .i64 0, .int .i64 0, .bool false, .int .i64 0, .bool false, .slice none 0 0] #[.int .i64 gen, .int .i64 slot, .bool full, .int .i64 zw, .bool whole, .slice Y0 ps.length y0] w w28 ∧ PrsAt w28 (Ext S (w.heap.size + 4) w28) (some ⟨g, 0, none⟩) (ps ++ [⟨n 6, b⟩]) ∧ ps.length + 1 ≤ l) := by
              obtain ⟨A2, l, hv⟩ := own_form ho
              subst hv
              obtain ⟨g, hA2⟩ := (ownT_form ho).2 (by omega)
              subst hA2
              have hst : StpIn cs n X b x #[.int .i64 0, .int .i64 0, .bool false, .int .i64 0, .bool false, .slice none 0 0] #[.int .i64 gen, .int .i64 slot, .bool full, .int .i64 zw, .bool whole, .slice Y0 ps.length y0] w w28 := Hw27.out.1.under hbl HB.out.2
              have hpr := ((HROW.out.2 w28 hst.2.2.2.2.1).1.snoc (p := ⟨n 6, b⟩) (HBD.out w28 hst.2.2.2.2.1) HBL.out.1 (by show b.length ≤ _; have := HBL.out.2; omega)).rowOf (S' := Ext S (w.heap.size + 4) w28) (by simp) ho (fun _ h => Or.inl h) (fun g h1 h2 => Or.inr ⟨Nat.le_trans HB.out.2 h1, h2⟩)
              exact ⟨g, l, rfl, hst, hpr.1, by simpa using hpr.2⟩
            clear hK hbl ho hg hat Hw27
            refine wpB_take (i := 11) (d := 12) (v := ?v16t9x11) rfl rfl (by kernel_rfl) (by kernel_rfl) (by kernel_rfl) (fun _ _ _ h => h) (by rfl) ?y16t9x11 ?r16t9x11
            case y16t9x11 => (intro w' hSw; go_simp; try (with_reducible rfl))
            simp only [Act.put, List.setIfInBounds_toArray, List.set_cons_zero, List.set_cons_succ]
            refine wpB_done (by kernel_rfl) ?_
            go_wp2_with fail
            go_meet
            exact Hw28.out
        · skip
          go_simp
          refine hK.out B _ _ (Nat.le_refl _) ((Below.refl _ _).alloc Hwd.out.2.1 _) ?_
          try simp only [Act.put, List.getElem_toArray, List.getElem_cons_succ, List.getElem_cons_zero, List.setIfInBounds_toArray, List.set_cons_zero, List.set_cons_succ]
          have hbl := below_one wd (.cells #[.int .i64 (n 6), .slice X b.length x] 55)
          have Hw30 : Hid (StpIn cs n X b x #[.int .i64 0, .int .i64 0, .bool false, .int .i64 0, .bool false, .slice none 0 0] #[.int .i64 gen, .int .i64 slot, .bool full, .int .i64 zw, .bool whole, .slice Y0 ps.length y0] w (wd.alloc (.cells #[.int .i64 (n 6), .slice X b.length x] 55)) ∧ B ≤ (wd.alloc (.cells #[.int .i64 (n 6), .slice X b.length x] 55)).heap.size ∧ True ∧ Box (wd.alloc (.cells #[.int .i64 (n 6), .slice X b.length x] 55)) (wd.heap.size) 55 #[.int .i64 (n 6), .slice X b.length x] ∧ True) := ⟨Hwd.out.1.later hbl, Nat.le_trans Hwd.out.2.1 hbl.size, trivial, Box.fresh wd 55 _, trivial⟩
          generalize wd.alloc (.cells #[.int .i64 (n 6), .slice X b.length x] 55) = w30 at Hw30 ⊢
          generalize wd.heap.size = r at Hw30 ⊢
          clear hK hbl Hwd
          refine wpB_do (i := 0) (by kernel_rfl) rfl (by rfl) (fun K hK => ?_)
          go_simp
          refine hK.out B _ _ (Nat.le_refl _) ((Below.refl _ _).alloc Hw30.out.2.1 _) ?_
          try simp only [Act.put, List.getElem_toArray, List.getElem_cons_succ, List.getElem_cons_zero, List.setIfInBounds_toArray, List.set_cons_zero, List.set_cons_succ]
          have hbl := below_one w30 (.cells #[] 55)
          have Hw31 : Hid (StpIn cs n X b x #[.int .i64 0, .int .i64 0, .bool false, .int .i64 0, .bool false, .slice none 0 0] #[.int .i64 gen, .int .i64 slot, .bool full, .int .i64 zw, .bool whole, .slice Y0 ps.length y0] w (w30.alloc (.cells #[] 55)) ∧ B ≤ (w30.alloc (.cells #[] 55)).heap.size ∧ (w30.alloc (.cells #[] 55)).ownsRow B 55 2 (.slice (some ⟨w30.heap.size, 0, none⟩) 0 0) 0 [] ∧ Box (w30.alloc (.cells #[] 55)) (r) 55 #[.int .i64 (n 6), .slice X b.length x] ∧ (∀ k, Value.ownBlock (.slice (some ⟨w30.heap.size, 0, none⟩) 0 0) = some k → k ≠ r)) := ⟨Hw30.out.1.later hbl, Nat.le_trans Hw30.out.2.1 hbl.size, World.ownsRow_lit w30 #[] 0 Hw30.out.2.1 (by simp [maxLen]) rfl, Hw30.out.2.2.2.1.later hbl, (fun k hk e => by have h1 := Hw30.out.2.2.2.1.lt; simp [Value.ownBlock] at hk; omega)⟩
          generalize w30.alloc (.cells #[] 55) = w31 at Hw31 ⊢
          generalize (Value.slice (some ⟨w30.heap.size, 0, none⟩) 0 0) = V at Hw31 ⊢
          clear hK hbl Hw30
          refine wpB_do (i := 3) (by kernel_rfl) rfl (by rfl) (fun K hK => ?_)
          refine oper_rowO w31 49 55 (.agg #[.int .i64 0, .slice none 0 0]) 2 32 (.tmp 160) (.tmp 162) rfl Try.underlying49 Try.info55 rfl (by omega) B V 0 [] Y0 ps.length y0 xs rfl rfl Hw31.out.2.2.1 ((HROW.out.2 w (Below.refl _ _)).1.length) HROW.out.1 (HROW.out.2 w31 Hw31.out.1.2.2.2.2.1).2 ((HROW.out.2 w (Below.refl _ _)).1.one) (by have := HZR.out.2.2; omega) (by omega) Hw31.out.2.1 ?_
          intro V2 w32 ho hg hat
          rw [Nat.zero_add] at ho
          simp only [List.nil_append] at ho
          have hbl := own_below Hw31.out.2.2.1 hg Hw31.out.2.1
          refine hK.out B _ _ (Nat.le_refl _) hbl ?_
          try simp only [Act.put, List.getElem_toArray, List.getElem_cons_succ, List.getElem_cons_zero, List.setIfInBounds_toArray, List.set_cons_zero, List.set_cons_succ]
          have Hw32 : Hid (StpIn cs n X b x #[.int .i64 0, .int .i64 0, .bool false, .int .i64 0, .bool false, .slice none 0 0] #[.int .i64 gen, .int .i64 slot, .bool full, .int .i64 zw, .bool whole, .slice Y0 ps.length y0] w (w32) ∧ B ≤ (w32).heap.size ∧ (w32).ownsRow B 55 2 V2 ps.length xs ∧ Box (w32) (r) 55 #[.int .i64 (n 6), .slice X b.length x] ∧ (∀ k, Value.ownBlock (V2) = some k → k ≠ r)) := ⟨Hw31.out.1.under hbl HB.out.2, Nat.le_trans Hw31.out.2.1 hbl.size, ho, (hg.block r Hw31.out.2.2.2.1.lt (fun e => Hw31.out.2.2.2.2 r e.symm rfl)).trans Hw31.out.2.2.2.1, (fun k hk e => by (rcases hat with h1 | h1; exact Hw31.out.2.2.2.2 k (h1 ▸ hk) e; rw [h1] at hk; have h2 := Hw31.out.2.2.2.1.lt; simp at hk; omega))⟩
          clear hK hbl ho hg hat Hw31
          generalize V = V0
          generalize V2 = V at Hw32 ⊢
          refine wpB_do (i := 10) (by kernel_rfl) rfl (by rfl) (fun K hK => ?_)
          refine oper_rowO w32 49 55 (.agg #[.int .i64 0, .slice none 0 0]) 2 32 (.tmp 163) (.tmp 169) rfl Try.underlying49 Try.info55 rfl (by omega) B V ps.length xs (some ⟨r, 0, none⟩) 1 1 [.int .i64 (n 6), .slice X b.length x] rfl rfl Hw32.out.2.2.1 rfl (fun e => by cases e) (fun ad e => by (obtain rfl := Option.some.inj e; exact row_cell Hw32.out.2.2.2.1)) (by simp [Value.oneCell']) (by have := HZR.out.2.2; omega) (by omega) Hw32.out.2.1 ?_
          intro V2 w33 ho hg hat
          have hbl := own_below Hw32.out.2.2.1 hg Hw32.out.2.1
          refine hK.out B _ _ (Nat.le_refl _) hbl ?_
          try simp only [Act.put, List.getElem_toArray, List.getElem_cons_succ, List.getElem_cons_zero, List.setIfInBounds_toArray, List.set_cons_zero, List.set_cons_succ]
          have Hw33 : Hid (∃ g l, V2 = .slice (some ⟨g, 0, none⟩) (ps.length + 1) l ∧ StpIn cs n X b x #[.int .i64 0, .int .i64 0, .bool false, .int .i64 0, .bool false, .slice none 0 0] #[.int .i64 gen, .int .i64 slot, .bool full, .int .i64 zw, .bool whole, .slice Y0 ps.length y0] w w33 ∧ PrsAt w33 (Ext S (w.heap.size + 4) w33) (some ⟨g, 0, none⟩) (ps ++ [⟨n 6, b⟩]) ∧ ps.length + 1 ≤ l) := by
            obtain ⟨A2, l, hv⟩ := own_form ho
            subst hv
            obtain ⟨g, hA2⟩ := (ownT_form ho).2 (by omega)
            subst hA2
            have hst : StpIn cs n X b x #[.int .i64 0, .int .i64 0, .bool false, .int .i64 0, .bool false, .slice none 0 0] #[.int .i64 gen, .int .i64 slot, .bool full, .int .i64 zw, .bool whole, .slice Y0 ps.length y0] w w33 := Hw32.out.1.under hbl HB.out.2
            have hpr := ((HROW.out.2 w33 hst.2.2.2.2.1).1.snoc (p := ⟨n 6, b⟩) (HBD.out w33 hst.2.2.2.2.1) HBL.out.1 (by show b.length ≤ _; have := HBL.out.2; omega)).rowOf (S' := Ext S (w.heap.size + 4) w33) (by simp) ho (fun _ h => Or.inl h) (fun g h1 h2 => Or.inr ⟨Nat.le_trans HB.out.2 h1, h2⟩)
            exact ⟨g, l, rfl, hst, hpr.1, by simpa using hpr.2⟩
          clear hK hbl ho hg hat Hw32
          refine wpB_take (i := 11) (d := 12) (v := ?v16t14x11) rfl rfl (by kernel_rfl) (by kernel_rfl) (by kernel_rfl) (fun _ _ _ h => h) (by rfl) ?y16t14x11 ?r16t14x11
          case y16t14x11 => (intro w' hSw; go_simp; try (with_reducible rfl))
          simp only [Act.put, List.setIfInBounds_toArray, List.set_cons_zero, List.set_cons_succ]
          refine wpB_done (by kernel_rfl) ?_
          go_wp2_with fail
          go_meet
          exact Hw33.out
      case rest =>
        obtain ⟨g, l, rfl, hx, hps, hl⟩ := hcut
        have HX6 := Lib.hid hx
        have HPS := Lib.hid (And.intro hps hl)
        clear hx hps hl HX5
        generalize wc = w5 at HX6 HPS ⊢
        obtain ⟨z0, z1, z2, z3, z4, z5⟩ := box6 HX6.out.2.2.2.1
        obtain ⟨f0, f1, f2, f3, f4, f5⟩ := froz6 HX6.out.2.2.2.1
        have hlx := HPS.out.2
        have HPL2 := Lib.hid HZR.out.2.2
        by_cases hp2 : ps.length = 2
        · have hm : ps.length + 1 = 3 := by omega
          have HNL : Hid ((nextPs ps ⟨n 6, b⟩).length = 2) := by
            show _ = _
            unfold nextPs
            rw [hp2]
            simp [hp2]
          have HPN : Hid (PrsAt w5 (Ext S (w.heap.size + 4) w5) (some ⟨g, 2, none⟩) (nextPs ps ⟨n 6, b⟩)) := by
            have h := HPS.out.1
            unfold nextPs
            rw [hp2]
            match ps, hp2, h with
            | [p0, p1], _, h => exact h.rest
          rw [hm] at hlx ⊢
          clear hm hp2 HPS
          go_upto_region 19 with fail
          go_upto_region 20 with fail
          have HX7 : Hid (StpIn cs n X b x #[.int .i64 0, .int .i64 0, .bool false, .int .i64 0, .bool false, .slice none 0 0] #[.int .i64 gen, .int .i64 slot, .bool full, .int .i64 zw, .bool whole, .slice (some ⟨g, 2, none⟩) 2 (l - 1)] w (w5.setCell ⟨w.heap.size + 3, 5, none⟩ (.slice (some ⟨g, 2, none⟩) 2 (l - 1))) ∧ PrsAt (w5.setCell ⟨w.heap.size + 3, 5, none⟩ (.slice (some ⟨g, 2, none⟩) 2 (l - 1))) (Ext S (w.heap.size + 4) (w5.setCell ⟨w.heap.size + 3, 5, none⟩ (.slice (some ⟨g, 2, none⟩) 2 (l - 1)))) (some ⟨g, 2, none⟩) (nextPs ps ⟨n 6, b⟩)) := ⟨HX6.out.setZ 5 (.slice (some ⟨g, 2, none⟩) 2 (l - 1)), HPN.out.ext (B := w.heap.size) (gs := [w.heap.size + 3]) HSS.out HX6.out.2.2.2.2.1.size ((Turn.refl _ _).put (Or.inl (by simp)) _) (by simp)⟩
          generalize w5.setCell ⟨w.heap.size + 3, 5, none⟩ (.slice (some ⟨g, 2, none⟩) 2 (l - 1)) = w7 at HX7 ⊢
          clear HX6 HPN z0 z1 z2 z3 z4 z5 f0 f1 f2 f3 f4 f5
          obtain ⟨z0, z1, z2, z3, z4, z5⟩ := box6 HX7.out.1.2.2.2.1
          obtain ⟨t0, t1, t2, t3, t4, t5⟩ := box6 HX7.out.1.2.2.1
          obtain ⟨f0, f1, f2, f3, f4, f5⟩ := froz6 HX7.out.1.2.2.1
          go_wp2_with fail
          have HF : Hid (StpIn cs n X b x #[.int .i64 gen, .int .i64 slot, .bool full, .int .i64 zw, .bool whole, .slice (some ⟨g, 2, none⟩) 2 (l - 1)] #[.int .i64 gen, .int .i64 slot, .bool full, .int .i64 zw, .bool whole, .slice (some ⟨g, 2, none⟩) 2 (l - 1)] w (((((((w7.setCell ⟨w.heap.size + 2, 0, none⟩ (.int .i64 gen)).setCell ⟨w.heap.size + 2, 1, none⟩ (.int .i64 slot)).setCell ⟨w.heap.size + 2, 2, none⟩ (.bool full)).setCell ⟨w.heap.size + 2, 3, none⟩ (.int .i64 zw)).setCell ⟨w.heap.size + 2, 4, none⟩ (.bool whole)).setCell ⟨w.heap.size + 2, 5, none⟩ (.slice (some ⟨g, 2, none⟩) 2 (l - 1)))) ∧ PrsAt (((((((w7.setCell ⟨w.heap.size + 2, 0, none⟩ (.int .i64 gen)).setCell ⟨w.heap.size + 2, 1, none⟩ (.int .i64 slot)).setCell ⟨w.heap.size + 2, 2, none⟩ (.bool full)).setCell ⟨w.heap.size + 2, 3, none⟩ (.int .i64 zw)).setCell ⟨w.heap.size + 2, 4, none⟩ (.bool whole)).setCell ⟨w.heap.size + 2, 5, none⟩ (.slice (some ⟨g, 2, none⟩) 2 (l - 1)))) (Ext S (w.heap.size + 4) (((((((w7.setCell ⟨w.heap.size + 2, 0, none⟩ (.int .i64 gen)).setCell ⟨w.heap.size + 2, 1, none⟩ (.int .i64 slot)).setCell ⟨w.heap.size + 2, 2, none⟩ (.bool full)).setCell ⟨w.heap.size + 2, 3, none⟩ (.int .i64 zw)).setCell ⟨w.heap.size + 2, 4, none⟩ (.bool whole)).setCell ⟨w.heap.size + 2, 5, none⟩ (.slice (some ⟨g, 2, none⟩) 2 (l - 1))))) (some ⟨g, 2, none⟩) (nextPs ps ⟨n 6, b⟩)) := ⟨HX7.out.1.fin rfl (.int .i64 gen) (.int .i64 slot) (.bool full) (.int .i64 zw) (.bool whole) (.slice (some ⟨g, 2, none⟩) 2 (l - 1)), HX7.out.2.ext (B := w.heap.size) (gs := [w.heap.size + 2]) HSS.out HX7.out.1.2.2.2.2.1.size (turn6 (.int .i64 gen) (.int .i64 slot) (.bool full) (.int .i64 zw) (.bool whole) (.slice (some ⟨g, 2, none⟩) 2 (l - 1)) (by simp)) (by simp)⟩
          generalize ((((((w7.setCell ⟨w.heap.size + 2, 0, none⟩ (.int .i64 gen)).setCell ⟨w.heap.size + 2, 1, none⟩ (.int .i64 slot)).setCell ⟨w.heap.size + 2, 2, none⟩ (.bool full)).setCell ⟨w.heap.size + 2, 3, none⟩ (.int .i64 zw)).setCell ⟨w.heap.size + 2, 4, none⟩ (.bool whole)).setCell ⟨w.heap.size + 2, 5, none⟩ (.slice (some ⟨g, 2, none⟩) 2 (l - 1))) = w9 at HF ⊢
          clear HX7 z0 z1 z2 z3 z4 z5 t0 t1 t2 t3 t4 t5 f0 f1 f2 f3 f4 f5
          exact bodyPost_ret (v := .tuple #[.agg #[.int .i64 gen, .int .i64 slot, .bool full, .int .i64 zw, .bool whole, .slice (some ⟨g, 2, none⟩) 2 (l - 1)], .bool okb]) (res29 rfl rfl HF.out.1.2.2.1 rfl) rfl ⟨okb, ⟨gen, slot, full, zw, whole, nextPs ps ⟨n 6, b⟩⟩, some ⟨g, 2, none⟩, (l - 1), by rw [HNL.out], HOK.out, fun _ => HNZ.out.symm, HF.out.2.mono (Ext.low (by omega)), by show (nextPs ps ⟨n 6, b⟩).length ≤ _; rw [HNL.out]; omega, by show (nextPs ps ⟨n 6, b⟩).length ≤ _; rw [HNL.out]; omega, HF.out.1.2.2.2.2.1⟩
        · have hlt : ps.length + 1 ≤ 2 := by have := HZR.out.2.2; omega
          have HNL : Hid ((nextPs ps ⟨n 6, b⟩).length = ps.length + 1) := by
            show _ = _
            unfold nextPs
            rw [show ps.length + 1 - 2 = 0 by omega]
            simp
          have HPN : Hid (PrsAt w5 (Ext S (w.heap.size + 4) w5) (some ⟨g, 0, none⟩) (nextPs ps ⟨n 6, b⟩)) := by
            have h := HPS.out.1
            unfold nextPs
            rw [show ps.length + 1 - 2 = 0 by omega]
            exact h
          clear HPS hp2
          generalize ps.length + 1 = m1 at hlx hlt HNL ⊢
          go_upto_region 19 with fail
          go_upto_region 20 with fail
          have HX7 : Hid (StpIn cs n X b x #[.int .i64 0, .int .i64 0, .bool false, .int .i64 0, .bool false, .slice none 0 0] #[.int .i64 gen, .int .i64 slot, .bool full, .int .i64 zw, .bool whole, .slice (some ⟨g, 0, none⟩) m1 l] w (w5.setCell ⟨w.heap.size + 3, 5, none⟩ (.slice (some ⟨g, 0, none⟩) m1 l)) ∧ PrsAt (w5.setCell ⟨w.heap.size + 3, 5, none⟩ (.slice (some ⟨g, 0, none⟩) m1 l)) (Ext S (w.heap.size + 4) (w5.setCell ⟨w.heap.size + 3, 5, none⟩ (.slice (some ⟨g, 0, none⟩) m1 l))) (some ⟨g, 0, none⟩) (nextPs ps ⟨n 6, b⟩)) := ⟨HX6.out.setZ 5 (.slice (some ⟨g, 0, none⟩) m1 l), HPN.out.ext (B := w.heap.size) (gs := [w.heap.size + 3]) HSS.out HX6.out.2.2.2.2.1.size ((Turn.refl _ _).put (Or.inl (by simp)) _) (by simp)⟩
          generalize w5.setCell ⟨w.heap.size + 3, 5, none⟩ (.slice (some ⟨g, 0, none⟩) m1 l) = w7 at HX7 ⊢
          clear HX6 HPN z0 z1 z2 z3 z4 z5 f0 f1 f2 f3 f4 f5
          obtain ⟨z0, z1, z2, z3, z4, z5⟩ := box6 HX7.out.1.2.2.2.1
          obtain ⟨t0, t1, t2, t3, t4, t5⟩ := box6 HX7.out.1.2.2.1
          obtain ⟨f0, f1, f2, f3, f4, f5⟩ := froz6 HX7.out.1.2.2.1
          go_wp2_with fail
          have HF : Hid (StpIn cs n X b x #[.int .i64 gen, .int .i64 slot, .bool full, .int .i64 zw, .bool whole, .slice (some ⟨g, 0, none⟩) m1 l] #[.int .i64 gen, .int .i64 slot, .bool full, .int .i64 zw, .bool whole, .slice (some ⟨g, 0, none⟩) m1 l] w (((((((w7.setCell ⟨w.heap.size + 2, 0, none⟩ (.int .i64 gen)).setCell ⟨w.heap.size + 2, 1, none⟩ (.int .i64 slot)).setCell ⟨w.heap.size + 2, 2, none⟩ (.bool full)).setCell ⟨w.heap.size + 2, 3, none⟩ (.int .i64 zw)).setCell ⟨w.heap.size + 2, 4, none⟩ (.bool whole)).setCell ⟨w.heap.size + 2, 5, none⟩ (.slice (some ⟨g, 0, none⟩) m1 l))) ∧ PrsAt (((((((w7.setCell ⟨w.heap.size + 2, 0, none⟩ (.int .i64 gen)).setCell ⟨w.heap.size + 2, 1, none⟩ (.int .i64 slot)).setCell ⟨w.heap.size + 2, 2, none⟩ (.bool full)).setCell ⟨w.heap.size + 2, 3, none⟩ (.int .i64 zw)).setCell ⟨w.heap.size + 2, 4, none⟩ (.bool whole)).setCell ⟨w.heap.size + 2, 5, none⟩ (.slice (some ⟨g, 0, none⟩) m1 l))) (Ext S (w.heap.size + 4) (((((((w7.setCell ⟨w.heap.size + 2, 0, none⟩ (.int .i64 gen)).setCell ⟨w.heap.size + 2, 1, none⟩ (.int .i64 slot)).setCell ⟨w.heap.size + 2, 2, none⟩ (.bool full)).setCell ⟨w.heap.size + 2, 3, none⟩ (.int .i64 zw)).setCell ⟨w.heap.size + 2, 4, none⟩ (.bool whole)).setCell ⟨w.heap.size + 2, 5, none⟩ (.slice (some ⟨g, 0, none⟩) m1 l)))) (some ⟨g, 0, none⟩) (nextPs ps ⟨n 6, b⟩)) := ⟨HX7.out.1.fin rfl (.int .i64 gen) (.int .i64 slot) (.bool full) (.int .i64 zw) (.bool whole) (.slice (some ⟨g, 0, none⟩) m1 l), HX7.out.2.ext (B := w.heap.size) (gs := [w.heap.size + 2]) HSS.out HX7.out.1.2.2.2.2.1.size (turn6 (.int .i64 gen) (.int .i64 slot) (.bool full) (.int .i64 zw) (.bool whole) (.slice (some ⟨g, 0, none⟩) m1 l) (by simp)) (by simp)⟩
          generalize ((((((w7.setCell ⟨w.heap.size + 2, 0, none⟩ (.int .i64 gen)).setCell ⟨w.heap.size + 2, 1, none⟩ (.int .i64 slot)).setCell ⟨w.heap.size + 2, 2, none⟩ (.bool full)).setCell ⟨w.heap.size + 2, 3, none⟩ (.int .i64 zw)).setCell ⟨w.heap.size + 2, 4, none⟩ (.bool whole)).setCell ⟨w.heap.size + 2, 5, none⟩ (.slice (some ⟨g, 0, none⟩) m1 l)) = w9 at HF ⊢
          clear HX7 z0 z1 z2 z3 z4 z5 t0 t1 t2 t3 t4 t5 f0 f1 f2 f3 f4 f5
          exact bodyPost_ret (v := .tuple #[.agg #[.int .i64 gen, .int .i64 slot, .bool full, .int .i64 zw, .bool whole, .slice (some ⟨g, 0, none⟩) m1 l], .bool okb]) (res29 rfl rfl HF.out.1.2.2.1 rfl) rfl ⟨okb, ⟨gen, slot, full, zw, whole, nextPs ps ⟨n 6, b⟩⟩, some ⟨g, 0, none⟩, l, by rw [HNL.out], HOK.out, fun _ => HNZ.out.symm, HF.out.2.mono (Ext.low (by omega)), by show (nextPs ps ⟨n 6, b⟩).length ≤ _; rw [HNL.out]; omega, by show (nextPs ps ⟨n 6, b⟩).length ≤ _; rw [HNL.out]; omega, HF.out.1.2.2.2.2.1⟩
end Go.Proofs.Ytaceaemombnhkaa
namespace Go.Proofs.Ytaceaemombnhkaa
set_option linter.unusedVariables false
set_option maxRecDepth 100000
set_option linter.unusedSimpArgs false
open Go.RowKit
open Go.RowKit (wrap64)

set_option maxHeartbeats 4000000 in
theorem rstep5_any (c : Cf) (ep sq : Int) (A : Option Addr) (st : List Int) (k : Nat) (D : Option Addr) (zs : List Zn) (d : Nat) (n : Nat → Int) (X : Option Addr) (b : List UInt8) (x q : Nat) (w : World) (S : Nat → Prop) (hS : ∀ g, S g → g < w.heap.size) (h : StAt w S A st k D zs d) (hl : st.length ≤ 1000000) (hzl : zs.length ≤ 1000000) (hq : q < zs.length) (hn : n 3 = (q : Int)) (hnw : ∀ i, -9223372036854775808 ≤ n i ∧ n i ≤ 9223372036854775807) (hb : RdS w S X b) (hbl : b.length ≤ 10000000) (hbx : b.length ≤ x) (hgd : Good c)
    (hz : (0 ≤ zs[q].gen ∧ zs[q].gen ≤ 1099511627776) ∧ -1 ≤ zs[q].slot ∧ zs[q].ps.length ≤ 2) (hk : n 0 = 5) (reb : Bool) (hreb : reb = true ↔ 2 ∈ st) :
    Calls Try.prog 29 #[(.agg #[.int .i64 c.id, .int .i64 c.m, .int .i64 c.u, .int .i64 c.b, .int .i64 c.cp, .int .i64 c.z, .int .i64 c.s, .int .i64 c.mt, .int .i64 c.o, .int .i64 c.a, .int .i64 c.l, .int .i64 ep, .int .i64 sq, .slice A st.length k, .slice D zs.length d]), (.agg #[.int .i64 (n 0), .int .i64 (n 1), .int .i64 (n 2), .int .i64 (n 3), .int .i64 (n 4), .int .i64 (n 5), .int .i64 (n 6), .int .i64 (n 7), .int .i64 (n 8), .slice X b.length x])] w (GotSp w S (nextZ reb zs[q] n b) (FitsR c st zs zs[q] n b)) := by
  obtain ⟨g1, off, hD, hg1, hc⟩ := h.2.1 (by omega)
  obtain ⟨Y0, y0, c0, c1, c2, c3, c4, c5, hp, hpy, hpy2⟩ := hc q hq
  have HZ : Hid (∀ w', Below w.heap.size w w' → w'.cell? ⟨g1, off + q * 6, none⟩ = some (.int .i64 zs[q].gen) ∧ w'.cell? ⟨g1, off + q * 6 + 1, none⟩ = some (.int .i64 zs[q].slot) ∧ w'.cell? ⟨g1, off + q * 6 + 2, none⟩ = some (.bool zs[q].full) ∧ w'.cell? ⟨g1, off + q * 6 + 3, none⟩ = some (.int .i64 zs[q].w) ∧ w'.cell? ⟨g1, off + q * 6 + 4, none⟩ = some (.bool zs[q].whole) ∧ w'.cell? ⟨g1, off + q * 6 + 5, none⟩ = some (.slice Y0 zs[q].ps.length y0)) := fun w' hb =>
    ⟨((Kept.of_below hb hS).cell (p := ⟨g1, off + q * 6, none⟩) hg1).trans c0, ((Kept.of_below hb hS).cell (p := ⟨g1, off + q * 6 + 1, none⟩) hg1).trans c1, ((Kept.of_below hb hS).cell (p := ⟨g1, off + q * 6 + 2, none⟩) hg1).trans c2, ((Kept.of_below hb hS).cell (p := ⟨g1, off + q * 6 + 3, none⟩) hg1).trans c3, ((Kept.of_below hb hS).cell (p := ⟨g1, off + q * 6 + 4, none⟩) hg1).trans c4, ((Kept.of_below hb hS).cell (p := ⟨g1, off + q * 6 + 5, none⟩) hg1).trans c5⟩
  have HPR : Hid (∀ w', Below w.heap.size w w' → PrsAt w' (Ext S w.heap.size w') Y0 zs[q].ps ∧ zs[q].ps.length ≤ y0) := fun w' hb => ⟨(hp.keep (Kept.of_below hb hS)).mono (fun _ h => Or.inl h), hpy⟩
  have HPL0 : Hid (∀ w', Below w.heap.size w w' → PrsAt w' S Y0 zs[q].ps) := fun w' hb => hp.keep (Kept.of_below hb hS)
  obtain ⟨xs, hxn, hxr⟩ := hp.rowIn
  have HROW : Hid ((Y0 = none → zs[q].ps.length = 0) ∧ ∀ w', Below w.heap.size w w' → PsRow w' S zs[q].ps xs ∧ ∀ ad, Y0 = some ad → ∀ j u, xs[j]? = some u → w'.cell? (ad.add j) = some u) := ⟨hxn, fun w' hb => hxr w' (Kept.of_below hb hS)⟩
  clear c0 c1 c2 c3 c4 c5 hc hg1 hp hpy hpy2 hxn hxr
  obtain ⟨cs, hcs⟩ : ∃ cs : Array Value, cs = #[.int .i64 c.id, .int .i64 c.m, .int .i64 c.u, .int .i64 c.b, .int .i64 c.cp, .int .i64 c.z, .int .i64 c.s, .int .i64 c.mt, .int .i64 c.o, .int .i64 c.a, .int .i64 c.l, .int .i64 ep, .int .i64 sq, .slice A st.length k, .slice D zs.length d] := ⟨_, rfl⟩
  have HCS := Lib.hid hcs
  have HCN : Hid (cs.size = 15 ∧ cs.all (·.oneCell') = true) := by rw [hcs]; exact ⟨rfl, by first | kernel_rfl | simp [Value.oneCell']⟩
  have HHAS : Hid (∀ w' (m : Nat), Below w.heap.size w w' → Calls Try.prog 66 #[.agg cs, .int .i64 (m : Int)] w' (SaysP w' (usedB zs m = true))) := fun w' m hb => by rw [hcs]; exact rhas_any c ep sq A st k D zs d m w' ((h.mono hS).later hb) hzl
  have HREB : Hid (∀ w', Below w.heap.size w w' → Calls Try.prog 67 #[.agg cs] w' (SaysP w' (2 ∈ st))) := fun w' hb => by rw [hcs]; exact rRebuilds_any c ep sq A st k D zs d w' ((h.mono hS).later hb) hl
  have HBD : Hid (∀ w', Below w.heap.size w w' → RdS w' S X b) := fun w' hb2 => hb.keep (Kept.of_below hb2 hS)
  have HSS := Lib.hid hS
  have HBL : Hid (b.length ≤ x ∧ b.length ≤ 10000000) := ⟨hbx, hbl⟩
  have HMU : Hid (IntKind.i64.wrap (c.u * c.b) = c.u * c.b ∧ wrap64 (c.u * c.b) = c.u * c.b) := by
    obtain ⟨h1, h2, h3, h4, h5, h6, h7, h8, _⟩ := hgd
    have hm := mul_in (a := c.u) (b := c.b) (A := 64) (B := 4096) (by omega) h6 (by omega) h8
    exact ⟨wrapk_in (by omega) (by omega), wrap_in (by omega) (by omega)⟩
  have HQ := Lib.hid hq
  have HNW := Lib.hid hnw
  have HFR : Hid (FitsR c st zs zs[q] n b ↔ FitsR c st zs zs[q] n b) := Iff.rfl
  generalize zs[q] = z at HZ HPR HPL0 HROW HFR hz ⊢
  obtain ⟨gen, slot, full, zw, whole, ps⟩ := z
  dsimp only at HZ HPR HPL0 HROW hz
  have HZR := Lib.hid hz
  have HPL : Hid (ps.length ≤ 140737488351232) := by have := hz.2.2; show _ ≤ _; omega
  have HN3 := Lib.hid hn
  have HDD := Lib.hid hD
  have HRB := Lib.hid hreb
  rw [← hcs]
  clear hn hnw hD hreb hb hbl hbx hgd hz hcs h HFR hq hS
  have HK0 := Lib.hid hk
  clear hk
  go_enter Try.func29, Try.ntmps29
  go_upto_region 1 with fail
  have HV := Lib.hid (three_boxes w 27 30 51 cs #[.int .i64 (n 0), .int .i64 (n 1), .int .i64 (n 2), .int .i64 (n 3), .int .i64 (n 4), .int .i64 (n 5), .int .i64 (n 6), .int .i64 (n 7), .int .i64 (n 8), .slice X b.length x] #[.int .i64 0, .int .i64 0, .bool false, .int .i64 0, .bool false, .slice none 0 0])
  generalize (((w.alloc (.cells cs 27)).alloc (.cells #[.int .i64 (n 0), .int .i64 (n 1), .int .i64 (n 2), .int .i64 (n 3), .int .i64 (n 4), .int .i64 (n 5), .int .i64 (n 6), .int .i64 (n 7), .int .i64 (n 8), .slice X b.length x] 30)).alloc (.cells #[.int .i64 0, .int .i64 0, .bool false, .int .i64 0, .bool false, .slice none 0 0] 51)) = w0 at HV ⊢
  have HBX : Hid (Box w0 w.heap.size 27 #[.int .i64 c.id, .int .i64 c.m, .int .i64 c.u, .int .i64 c.b, .int .i64 c.cp, .int .i64 c.z, .int .i64 c.s, .int .i64 c.mt, .int .i64 c.o, .int .i64 c.a, .int .i64 c.l, .int .i64 ep, .int .i64 sq, .slice A st.length k, .slice D zs.length d]) := by rw [← HCS.out]; exact HV.out.1
  obtain ⟨s0, s1, s2, s3, s4, s5, s6, s7, s8, s9, s10, s11, s12, s13, s14⟩ := box15 HBX.out
  obtain ⟨r0, r1, r2, r3, r4, r5, r6, r7, r8, r9⟩ := box10 HV.out.2.1
  obtain ⟨z0, z1, z2, z3, z4, z5⟩ := HZ.out w0 HV.out.2.2.2.1
  rw [HN3.out] at r3
  rw [HDD.out] at s14
  have hqn := HQ.out
  have hsz := HV.out.2.2.2.2
  go_upto_region 2 with fail
  have HX : Hid (StpIn cs n X b x #[.int .i64 0, .int .i64 0, .bool false, .int .i64 0, .bool false, .slice none 0 0] #[.int .i64 gen, .int .i64 slot, .bool full, .int .i64 zw, .bool whole, .slice Y0 ps.length y0] w (w0.alloc (.cells #[.int .i64 gen, .int .i64 slot, .bool full, .int .i64 zw, .bool whole, .slice Y0 ps.length y0] 51))) := by
    have hb := below_one w0 (.cells #[.int .i64 gen, .int .i64 slot, .bool full, .int .i64 zw, .bool whole, .slice Y0 ps.length y0] 51)
    have hz := Box.fresh w0 51 #[.int .i64 gen, .int .i64 slot, .bool full, .int .i64 zw, .bool whole, .slice Y0 ps.length y0]
    rw [hsz] at hz
    exact ⟨HV.out.1.later hb, HV.out.2.1.later hb, HV.out.2.2.1.later hb, hz, HV.out.2.2.2.1.trans (hb.mono (by omega)), by simp; omega⟩
  generalize w0.alloc (.cells #[.int .i64 gen, .int .i64 slot, .bool full, .int .i64 zw, .bool whole, .slice Y0 ps.length y0] 51) = w1 at HX ⊢
  clear HV HBX HZ hqn hsz s0 s1 s2 s3 s4 s5 s6 s7 s8 s9 s10 s11 s12 s13 s14 r0 r1 r2 r3 r4 r5 r6 r7 r8 r9 z0 z1 z2 z3 z4 z5
  refine wpB_start (w.heap.size + 4) (by kernel_rfl) ?_
  have HX1 := Lib.hid (HX.out.later (Below.refl _ _).drew)
  generalize w1.drew = w1d at HX1 ⊢
  clear HX
  have HBX : Hid (Box w1d w.heap.size 27 #[.int .i64 c.id, .int .i64 c.m, .int .i64 c.u, .int .i64 c.b, .int .i64 c.cp, .int .i64 c.z, .int .i64 c.s, .int .i64 c.mt, .int .i64 c.o, .int .i64 c.a, .int .i64 c.l, .int .i64 ep, .int .i64 sq, .slice A st.length k, .slice D zs.length d]) := by rw [← HCS.out]; exact HX1.out.1
  have s0 := Box.at_ (B := (w.heap.size + 4)) HBX.out (by omega) (i := 0) rfl
  have s1 := Box.at_ (B := (w.heap.size + 4)) HBX.out (by omega) (i := 1) rfl
  have s2 := Box.at_ (B := (w.heap.size + 4)) HBX.out (by omega) (i := 2) rfl
  have s3 := Box.at_ (B := (w.heap.size + 4)) HBX.out (by omega) (i := 3) rfl
  have s4 := Box.at_ (B := (w.heap.size + 4)) HBX.out (by omega) (i := 4) rfl
  have s5 := Box.at_ (B := (w.heap.size + 4)) HBX.out (by omega) (i := 5) rfl
  have s6 := Box.at_ (B := (w.heap.size + 4)) HBX.out (by omega) (i := 6) rfl
  have s7 := Box.at_ (B := (w.heap.size + 4)) HBX.out (by omega) (i := 7) rfl
  have s8 := Box.at_ (B := (w.heap.size + 4)) HBX.out (by omega) (i := 8) rfl
  have s9 := Box.at_ (B := (w.heap.size + 4)) HBX.out (by omega) (i := 9) rfl
  have s10 := Box.at_ (B := (w.heap.size + 4)) HBX.out (by omega) (i := 10) rfl
  refine wpB_take (i := 0) (d := 19) (v := ?v2x0) rfl rfl (by kernel_rfl) (by kernel_rfl) (by kernel_rfl) (fun _ _ _ h => h) (by rfl) ?y2x0 ?r2x0
  case y2x0 => (intro w' hSw; go_simp; try (with_reducible rfl))
  simp only [Act.put, List.setIfInBounds_toArray, List.set_cons_zero, List.set_cons_succ]
  refine wpB_take (i := 1) (d := 20) (v := ?v2x1) rfl rfl (by kernel_rfl) (by kernel_rfl) (by kernel_rfl) (fun _ _ _ h => h) (by rfl) ?y2x1 ?r2x1
  case y2x1 => (intro w' hSw; go_simp; try (with_reducible rfl))
  simp only [Act.put, List.setIfInBounds_toArray, List.set_cons_zero, List.set_cons_succ]
  refine wpB_take (i := 3) (d := 22) (v := ?v2x3) rfl rfl (by kernel_rfl) (by kernel_rfl) (by kernel_rfl) (fun _ _ _ h => h) (by rfl) ?y2x3 ?r2x3
  case y2x3 => (intro w' hSw; go_simp; try (with_reducible rfl))
  simp only [Act.put, List.setIfInBounds_toArray, List.set_cons_zero, List.set_cons_succ]
  refine wpB_take (i := 4) (d := 23) (v := ?v2x4) rfl rfl (by kernel_rfl) (by kernel_rfl) (by kernel_rfl) (fun _ _ _ h => h) (by rfl) ?y2x4 ?r2x4
  case y2x4 => (intro w' hSw; go_simp; try (with_reducible rfl))
  simp only [Act.put, List.setIfInBounds_toArray, List.set_cons_zero, List.set_cons_succ]
  refine wpB_do (i := 2) (by kernel_rfl) rfl (by rfl) (fun K hK => ?_)
  go_simp
  refine (rsize_any c w1d).mono ?_
  rintro e w2 ⟨rfl, hb⟩
  have HX2 := Lib.hid (HX1.out.later hb)
  have HBX2 : Hid (Box w2 w.heap.size 27 #[.int .i64 c.id, .int .i64 c.m, .int .i64 c.u, .int .i64 c.b, .int .i64 c.cp, .int .i64 c.z, .int .i64 c.s, .int .i64 c.mt, .int .i64 c.o, .int .i64 c.a, .int .i64 c.l, .int .i64 ep, .int .i64 sq, .slice A st.length k, .slice D zs.length d]) := by rw [← HCS.out]; exact HX2.out.1
  have hbk := hb.mono HX1.out.2.2.2.2.2
  go_simp
  refine hK.out (w.heap.size + 4) _ _ (Nat.le_refl _) hbk ?_
  clear hK hb hbk HX1 HBX s0 s1 s2 s3 s4 s5 s6 s7 s8 s9 s10
  have s0 := Box.at_ (B := (w.heap.size + 4)) HBX2.out (by omega) (i := 0) rfl
  have s1 := Box.at_ (B := (w.heap.size + 4)) HBX2.out (by omega) (i := 1) rfl
  have s2 := Box.at_ (B := (w.heap.size + 4)) HBX2.out (by omega) (i := 2) rfl
  have s3 := Box.at_ (B := (w.heap.size + 4)) HBX2.out (by omega) (i := 3) rfl
  have s4 := Box.at_ (B := (w.heap.size + 4)) HBX2.out (by omega) (i := 4) rfl
  have s5 := Box.at_ (B := (w.heap.size + 4)) HBX2.out (by omega) (i := 5) rfl
  have s6 := Box.at_ (B := (w.heap.size + 4)) HBX2.out (by omega) (i := 6) rfl
  have s7 := Box.at_ (B := (w.heap.size + 4)) HBX2.out (by omega) (i := 7) rfl
  have s8 := Box.at_ (B := (w.heap.size + 4)) HBX2.out (by omega) (i := 8) rfl
  have s9 := Box.at_ (B := (w.heap.size + 4)) HBX2.out (by omega) (i := 9) rfl
  have s10 := Box.at_ (B := (w.heap.size + 4)) HBX2.out (by omega) (i := 10) rfl
  refine wpB_do (i := 5) (by kernel_rfl) rfl (by rfl) (fun K hK => ?_)
  go_simp
  refine (nums_any c w2).mono ?_
  rintro e w3 ⟨rfl, hb⟩
  have HX := Lib.hid (HX2.out.later hb)
  have hbk := hb.mono HX2.out.2.2.2.2.2
  have hix := fun w => index4 (.int .i64 (dataC c)) (.int .i64 (dataC c * c.u)) (.int .i64 (stripesC c)) (.int .i64 (stripesC c * (dataC c * c.u))) (.int .i64 (slotsC c)) (.int .i64 (allC c)) (.int .i64 (roomC c)) w
  go_simp
  refine hK.out (w.heap.size + 4) _ _ (Nat.le_refl _) hbk ?_
  clear hK hb hbk HX2 HBX2 s0 s1 s2 s3 s4 s5 s6 s7 s8 s9 s10
  refine wpB_take (i := 6) (d := 25) (v := ?v2x6) rfl rfl (by kernel_rfl) (by kernel_rfl) (by kernel_rfl) (fun _ _ _ h => h) (by rfl) ?y2x6 ?r2x6
  case y2x6 => (intro w' hSw; go_simp; try (with_reducible rfl))
  simp only [Act.put, List.setIfInBounds_toArray, List.set_cons_zero, List.set_cons_succ]
  refine wpB_take (i := 7) (d := 7) (v := ?v2x7) rfl rfl (by kernel_rfl) (by kernel_rfl) (by kernel_rfl) (fun _ _ _ h => h) (by rfl) ?y2x7 ?r2x7
  case y2x7 => (intro w' hSw; go_simp; try (with_reducible rfl))
  simp only [Act.put, List.setIfInBounds_toArray, List.set_cons_zero, List.set_cons_succ]
  refine wpB_take (i := 8) (d := 8) (v := ?v2x8) rfl rfl (by kernel_rfl) (by kernel_rfl) (by kernel_rfl) (fun _ _ _ h => h) (by rfl) ?y2x8 ?r2x8
  case y2x8 => (intro w' hSw; go_simp; try (with_reducible rfl))
  simp only [Act.put, List.setIfInBounds_toArray, List.set_cons_zero, List.set_cons_succ]
  refine wpB_done (by kernel_rfl) ?_
  clear hix
  obtain ⟨r0, r1, r2, r3, r4, r5, r6, r7, r8, r9⟩ := box10 HX.out.2.1
  obtain ⟨z0, z1, z2, z3, z4, z5⟩ := box6 HX.out.2.2.2.1
  obtain ⟨f0, f1, f2, f3, f4, f5⟩ := froz6 HX.out.2.2.2.1
  have k1 : n 0 ≠ 1 := by have := HK0.out; omega
  have kb1 : (n 0 == 1) = false := by simpa using k1
  have k2 : n 0 ≠ 2 := by have := HK0.out; omega
  have kb2 : (n 0 == 2) = false := by simpa using k2
  have k3 : n 0 ≠ 3 := by have := HK0.out; omega
  have kb3 : (n 0 == 3) = false := by simpa using k3
  have k4 : n 0 ≠ 4 := by have := HK0.out; omega
  have kb4 : (n 0 == 4) = false := by simpa using k4
  have k5 : n 0 = 5 := HK0.out
  clear HK0
  · have hfit : FitsR c st zs ⟨gen, slot, full, zw, whole, ps⟩ n b ↔ (slot ≠ -1 ∧ 2 ∈ st) := fits5 k5
    have hnx : nextZ reb ⟨gen, slot, full, zw, whole, ps⟩ n b = ⟨gen, slot, full, zw, reb, ps⟩ := (if_neg k1).trans (if_pos k5)
    rw [k5] at r0
    have HFIT := Lib.hid hfit
    have HNZ := Lib.hid hnx
    clear hfit hnx k1 kb1 k2 kb2 k3 kb3 k4 kb4 k5
    go_upto_region 23 with fail
    have HX5 : Hid (StpIn cs n X b x #[.int .i64 0, .int .i64 0, .bool false, .int .i64 0, .bool false, .slice none 0 0] #[.int .i64 gen, .int .i64 slot, .bool full, .int .i64 zw, .bool true, .slice Y0 ps.length y0] w (w3.setCell ⟨w.heap.size + 3, 4, none⟩ (.bool true))) := HX.out.setZ 4 (.bool true)
    generalize w3.setCell ⟨w.heap.size + 3, 4, none⟩ (.bool true) = w4 at HX5 ⊢
    clear HX r0 r1 r2 r3 r4 r5 r6 r7 r8 r9 z0 z1 z2 z3 z4 z5 f0 f1 f2 f3 f4 f5
    by_cases k8 : 0 ≤ slot
    · have HOK : Hid (reb = true ↔ FitsR c st zs ⟨gen, slot, full, zw, whole, ps⟩ n b) := by
        show _ ↔ _
        rw [HFIT.out, HRB.out]
        exact ⟨fun h => ⟨by omega, h⟩, fun h => h.2⟩
      have k8d : decide (0 ≤ slot) = true := decide_eq_true k8
      refine wpG_start [w.heap.size + 2] (by kernel_rfl) ?_
      have HD := Lib.hid (HX5.out.later (Below.refl _ _).drew)
      generalize w4.drew = wd at HD ⊢
      clear HX5
      have hng0 : w.heap.size ∉ [w.heap.size + 2] := by simp
      have hng3 : w.heap.size + 3 ∉ [w.heap.size + 2] := by simp
      have z0 := Box.atG (gs := [w.heap.size + 2]) HD.out.2.2.2.1 hng3 (i := 0) rfl
      have z1 := Box.atG (gs := [w.heap.size + 2]) HD.out.2.2.2.1 hng3 (i := 1) rfl
      have z2 := Box.atG (gs := [w.heap.size + 2]) HD.out.2.2.2.1 hng3 (i := 2) rfl
      have z3 := Box.atG (gs := [w.heap.size + 2]) HD.out.2.2.2.1 hng3 (i := 3) rfl
      have z4 := Box.atG (gs := [w.heap.size + 2]) HD.out.2.2.2.1 hng3 (i := 4) rfl
      have z5 := Box.atG (gs := [w.heap.size + 2]) HD.out.2.2.2.1 hng3 (i := 5) rfl
      refine wpG_take (i := 0) (d := 183) (v := ?v23kax0) rfl rfl (by kernel_rfl) (by kernel_rfl) (by kernel_rfl) (fun _ _ _ h => h) (by rfl) ?y23kax0 ?r23kax0
      case y23kax0 => (intro w' hSw; go_simp; try (with_reducible rfl))
      simp only [Act.put, List.setIfInBounds_toArray, List.set_cons_zero, List.set_cons_succ]
      refine wpG_take (i := 1) (d := 184) (v := ?v23kax1) rfl rfl (by kernel_rfl) (by kernel_rfl) (by kernel_rfl) (fun _ _ _ h => h) (by rfl) ?y23kax1 ?r23kax1
      case y23kax1 => (intro w' hSw; go_simp; try (with_reducible rfl))
      simp only [Act.put, List.setIfInBounds_toArray, List.set_cons_zero, List.set_cons_succ]
      refine wpG_take (i := 2) (d := 185) (v := ?v23kax2) rfl rfl (by kernel_rfl) (by kernel_rfl) (by kernel_rfl) (fun _ _ _ h => h) (by rfl) ?y23kax2 ?r23kax2
      case y23kax2 => (intro w' hSw; go_simp; try (with_reducible rfl))
      simp only [Act.put, List.setIfInBounds_toArray, List.set_cons_zero, List.set_cons_succ]
      refine wpG_take (i := 3) (d := 186) (v := ?v23kax3) rfl rfl (by kernel_rfl) (by kernel_rfl) (by kernel_rfl) (fun _ _ _ h => h) (by rfl) ?y23kax3 ?r23kax3
      case y23kax3 => (intro w' hSw; go_simp; try (with_reducible rfl))
      simp only [Act.put, List.setIfInBounds_toArray, List.set_cons_zero, List.set_cons_succ]
      refine wpG_take (i := 4) (d := 187) (v := ?v23kax4) rfl rfl (by kernel_rfl) (by kernel_rfl) (by kernel_rfl) (fun _ _ _ h => h) (by rfl) ?y23kax4 ?r23kax4
      case y23kax4 => (intro w' hSw; go_simp; try (with_reducible rfl))
      simp only [Act.put, List.setIfInBounds_toArray, List.set_cons_zero, List.set_cons_succ]
      refine wpG_take (i := 5) (d := 188) (v := ?v23kax5) rfl rfl (by kernel_rfl) (by kernel_rfl) (by kernel_rfl) (fun _ _ _ h => h) (by rfl) ?y23kax5 ?r23kax5
      case y23kax5 => (intro w' hSw; refine exec_load27 (.tmp 2) ?_ w.heap.size cs (HD.out.1.turn hSw hng0) HCN.out.1 ?_ <;> rfl)
      simp only [Act.put, List.setIfInBounds_toArray, List.set_cons_zero, List.set_cons_succ]
      refine wpG_do (i := 6) (by kernel_rfl) rfl (by rfl) (fun K hK => ?_)
      go_simp
      go_simp
      refine (HREB.out wd HD.out.2.2.2.2.1).mono ?_
      rintro e w5 ⟨b4, rfl, hr4, hb4⟩
      have hbb : b4 = reb := by
        have h1 := hr4.trans HRB.out.symm
        cases b4 <;> cases reb <;> simp_all
      subst hbb
      have HD4 := Lib.hid (HD.out.later hb4)
      refine hK.out _ _ (Turn.of_below hb4 (Nat.le_refl _)) ?_
      generalize wd = wd0 at HD
      clear hK hb4 hr4 HD z0 z1 z2 z3 z4 z5
      generalize w5 = wd at HD4 ⊢
      have HD := Lib.hid HD4.out
      clear HD4
      refine wpG_take (i := 7) (d := 190) (v := ?v23kax7) rfl rfl (by kernel_rfl) (by kernel_rfl) (by kernel_rfl) (fun _ _ _ h => h) (by rfl) ?y23kax7 ?r23kax7
      case y23kax7 => (intro w' hSw; go_simp; try (with_reducible rfl))
      simp only [Act.put, List.setIfInBounds_toArray, List.set_cons_zero, List.set_cons_succ]
      refine wpG_do (i := 8) (by kernel_rfl) rfl (by rfl) (fun K hK => ?_)
      go_simp
      obtain ⟨t0, t1, t2, t3, t4, t5⟩ := box6 HD.out.2.2.1
      obtain ⟨e0, e1, e2, e3, e4, e5⟩ := froz6 HD.out.2.2.1
      go_simp
      have HF := Lib.hid (HD.out.fin rfl (.int .i64 gen) (.int .i64 slot) (.bool full) (.int .i64 zw) (.bool true) (.slice Y0 ps.length y0))
      refine hK.out _ _ (turn6 (.int .i64 gen) (.int .i64 slot) (.bool full) (.int .i64 zw) (.bool true) (.slice Y0 ps.length y0) (by simp)) ?_
      generalize ((((((wd.setCell ⟨w.heap.size + 2, 0, none⟩ (.int .i64 gen)).setCell ⟨w.heap.size + 2, 1, none⟩ (.int .i64 slot)).setCell ⟨w.heap.size + 2, 2, none⟩ (.bool full)).setCell ⟨w.heap.size + 2, 3, none⟩ (.int .i64 zw)).setCell ⟨w.heap.size + 2, 4, none⟩ (.bool true)).setCell ⟨w.heap.size + 2, 5, none⟩ (.slice Y0 ps.length y0)) = w9 at HF ⊢
      clear hK HD t0 t1 t2 t3 t4 t5 e0 e1 e2 e3 e4 e5
      refine wpG_take (i := 9) (d := 5) (v := ?v23kax9) rfl rfl (by kernel_rfl) (by kernel_rfl) (by kernel_rfl) (fun _ _ _ h => h) (by rfl) ?y23kax9 ?r23kax9
      case y23kax9 => (intro w' hSw; go_simp; try (with_reducible rfl))
      simp only [Act.put, List.setIfInBounds_toArray, List.set_cons_zero, List.set_cons_succ]
      refine wpG_done (by kernel_rfl) ?_
      go_wp2_with fail
      exact bodyPost_ret (v := .tuple #[.agg #[.int .i64 gen, .int .i64 slot, .bool full, .int .i64 zw, .bool true, .slice Y0 ps.length y0], .bool b4]) (res29 rfl rfl HF.out.2.2.1 rfl) rfl ⟨b4, ⟨gen, slot, full, zw, true, ps⟩, Y0, y0, rfl, HOK.out, fun h => by rw [HNZ.out, h], (HPR.out w9 HF.out.2.2.2.2.1).1, (HPR.out w9 HF.out.2.2.2.2.1).2, HPL.out, HF.out.2.2.2.2.1⟩
    have HOK : Hid (false = true ↔ FitsR c st zs ⟨gen, slot, full, zw, whole, ps⟩ n b) := by
      show _ ↔ _
      rw [HFIT.out]
      exact iff_of_false (by simp) (fun h => by have h1 := h.1; have h2 := HZR.out.2.1; omega)
    have k8d : decide (0 ≤ slot) = false := decide_eq_false k8
    refine wpG_start [w.heap.size + 2] (by kernel_rfl) ?_
    have HD := Lib.hid (HX5.out.later (Below.refl _ _).drew)
    generalize w4.drew = wd at HD ⊢
    clear HX5
    have hng0 : w.heap.size ∉ [w.heap.size + 2] := by simp
    have hng3 : w.heap.size + 3 ∉ [w.heap.size + 2] := by simp
    have z0 := Box.atG (gs := [w.heap.size + 2]) HD.out.2.2.2.1 hng3 (i := 0) rfl
    have z1 := Box.atG (gs := [w.heap.size + 2]) HD.out.2.2.2.1 hng3 (i := 1) rfl
    have z2 := Box.atG (gs := [w.heap.size + 2]) HD.out.2.2.2.1 hng3 (i := 2) rfl
    have z3 := Box.atG (gs := [w.heap.size + 2]) HD.out.2.2.2.1 hng3 (i := 3) rfl
    have z4 := Box.atG (gs := [w.heap.size + 2]) HD.out.2.2.2.1 hng3 (i := 4) rfl
    have z5 := Box.atG (gs := [w.heap.size + 2]) HD.out.2.2.2.1 hng3 (i := 5) rfl
    refine wpG_take (i := 0) (d := 183) (v := ?v23kbx0) rfl rfl (by kernel_rfl) (by kernel_rfl) (by kernel_rfl) (fun _ _ _ h => h) (by rfl) ?y23kbx0 ?r23kbx0
    case y23kbx0 => (intro w' hSw; go_simp; try (with_reducible rfl))
    simp only [Act.put, List.setIfInBounds_toArray, List.set_cons_zero, List.set_cons_succ]
    refine wpG_take (i := 1) (d := 184) (v := ?v23kbx1) rfl rfl (by kernel_rfl) (by kernel_rfl) (by kernel_rfl) (fun _ _ _ h => h) (by rfl) ?y23kbx1 ?r23kbx1
    case y23kbx1 => (intro w' hSw; go_simp; try (with_reducible rfl))
    simp only [Act.put, List.setIfInBounds_toArray, List.set_cons_zero, List.set_cons_succ]
    refine wpG_take (i := 2) (d := 185) (v := ?v23kbx2) rfl rfl (by kernel_rfl) (by kernel_rfl) (by kernel_rfl) (fun _ _ _ h => h) (by rfl) ?y23kbx2 ?r23kbx2
    case y23kbx2 => (intro w' hSw; go_simp; try (with_reducible rfl))
    simp only [Act.put, List.setIfInBounds_toArray, List.set_cons_zero, List.set_cons_succ]
    refine wpG_take (i := 3) (d := 186) (v := ?v23kbx3) rfl rfl (by kernel_rfl) (by kernel_rfl) (by kernel_rfl) (fun _ _ _ h => h) (by rfl) ?y23kbx3 ?r23kbx3
    case y23kbx3 => (intro w' hSw; go_simp; try (with_reducible rfl))
    simp only [Act.put, List.setIfInBounds_toArray, List.set_cons_zero, List.set_cons_succ]
    refine wpG_take (i := 4) (d := 187) (v := ?v23kbx4) rfl rfl (by kernel_rfl) (by kernel_rfl) (by kernel_rfl) (fun _ _ _ h => h) (by rfl) ?y23kbx4 ?r23kbx4
    case y23kbx4 => (intro w' hSw; go_simp; try (with_reducible rfl))
    simp only [Act.put, List.setIfInBounds_toArray, List.set_cons_zero, List.set_cons_succ]
    refine wpG_skip (i := 5) (d := 188) rfl rfl (by kernel_rfl) (by kernel_rfl) (by kernel_rfl) (fun _ _ _ h => h) (by rfl) ?_
    simp only [Act.put, List.setIfInBounds_toArray, List.set_cons_zero, List.set_cons_succ]
    refine wpG_skip (i := 6) (d := 189) rfl rfl (by kernel_rfl) (by kernel_rfl) (by kernel_rfl) (fun _ _ _ h => h) (by rfl) ?_
    simp only [Act.put, List.setIfInBounds_toArray, List.set_cons_zero, List.set_cons_succ]
    refine wpG_take (i := 7) (d := 190) (v := ?v23kbx7) rfl rfl (by kernel_rfl) (by kernel_rfl) (by kernel_rfl) (fun _ _ _ h => h) (by rfl) ?y23kbx7 ?r23kbx7
    case y23kbx7 => (intro w' hSw; go_simp; try (with_reducible rfl))
    simp only [Act.put, List.setIfInBounds_toArray, List.set_cons_zero, List.set_cons_succ]
    refine wpG_do (i := 8) (by kernel_rfl) rfl (by rfl) (fun K hK => ?_)
    go_simp
    obtain ⟨t0, t1, t2, t3, t4, t5⟩ := box6 HD.out.2.2.1
    obtain ⟨e0, e1, e2, e3, e4, e5⟩ := froz6 HD.out.2.2.1
    go_simp
    have HF := Lib.hid (HD.out.fin rfl (.int .i64 gen) (.int .i64 slot) (.bool full) (.int .i64 zw) (.bool true) (.slice Y0 ps.length y0))
    refine hK.out _ _ (turn6 (.int .i64 gen) (.int .i64 slot) (.bool full) (.int .i64 zw) (.bool true) (.slice Y0 ps.length y0) (by simp)) ?_
    generalize ((((((wd.setCell ⟨w.heap.size + 2, 0, none⟩ (.int .i64 gen)).setCell ⟨w.heap.size + 2, 1, none⟩ (.int .i64 slot)).setCell ⟨w.heap.size + 2, 2, none⟩ (.bool full)).setCell ⟨w.heap.size + 2, 3, none⟩ (.int .i64 zw)).setCell ⟨w.heap.size + 2, 4, none⟩ (.bool true)).setCell ⟨w.heap.size + 2, 5, none⟩ (.slice Y0 ps.length y0)) = w9 at HF ⊢
    clear hK HD t0 t1 t2 t3 t4 t5 e0 e1 e2 e3 e4 e5
    refine wpG_take (i := 9) (d := 5) (v := ?v23kbx9) rfl rfl (by kernel_rfl) (by kernel_rfl) (by kernel_rfl) (fun _ _ _ h => h) (by rfl) ?y23kbx9 ?r23kbx9
    case y23kbx9 => (intro w' hSw; go_simp; try (with_reducible rfl))
    simp only [Act.put, List.setIfInBounds_toArray, List.set_cons_zero, List.set_cons_succ]
    refine wpG_done (by kernel_rfl) ?_
    go_wp2_with fail
    exact bodyPost_ret (v := .tuple #[.agg #[.int .i64 gen, .int .i64 slot, .bool full, .int .i64 zw, .bool true, .slice Y0 ps.length y0], .bool false]) (res29 rfl rfl HF.out.2.2.1 rfl) rfl ⟨false, ⟨gen, slot, full, zw, true, ps⟩, Y0, y0, rfl, HOK.out, (fun h => by simp at h), (HPR.out w9 HF.out.2.2.2.2.1).1, (HPR.out w9 HF.out.2.2.2.2.1).2, HPL.out, HF.out.2.2.2.2.1⟩
set_option maxHeartbeats 4000000 in
theorem rstep0_any (c : Cf) (ep sq : Int) (A : Option Addr) (st : List Int) (k : Nat) (D : Option Addr) (zs : List Zn) (d : Nat) (n : Nat → Int) (X : Option Addr) (b : List UInt8) (x q : Nat) (w : World) (S : Nat → Prop) (hS : ∀ g, S g → g < w.heap.size) (h : StAt w S A st k D zs d) (hl : st.length ≤ 1000000) (hzl : zs.length ≤ 1000000) (hq : q < zs.length) (hn : n 3 = (q : Int)) (hnw : ∀ i, -9223372036854775808 ≤ n i ∧ n i ≤ 9223372036854775807) (hb : RdS w S X b) (hbl : b.length ≤ 10000000) (hbx : b.length ≤ x) (hgd : Good c)
    (hz : (0 ≤ zs[q].gen ∧ zs[q].gen ≤ 1099511627776) ∧ -1 ≤ zs[q].slot ∧ zs[q].ps.length ≤ 2) (hk : n 0 ≠ 1 ∧ n 0 ≠ 2 ∧ n 0 ≠ 3 ∧ n 0 ≠ 4 ∧ n 0 ≠ 5) (reb : Bool) (hreb : reb = true ↔ 2 ∈ st) :
    Calls Try.prog 29 #[(.agg #[.int .i64 c.id, .int .i64 c.m, .int .i64 c.u, .int .i64 c.b, .int .i64 c.cp, .int .i64 c.z, .int .i64 c.s, .int .i64 c.mt, .int .i64 c.o, .int .i64 c.a, .int .i64 c.l, .int .i64 ep, .int .i64 sq, .slice A st.length k, .slice D zs.length d]), (.agg #[.int .i64 (n 0), .int .i64 (n 1), .int .i64 (n 2), .int .i64 (n 3), .int .i64 (n 4), .int .i64 (n 5), .int .i64 (n 6), .int .i64 (n 7), .int .i64 (n 8), .slice X b.length x])] w (GotSp w S (nextZ reb zs[q] n b) (FitsR c st zs zs[q] n b)) := by
  obtain ⟨g1, off, hD, hg1, hc⟩ := h.2.1 (by omega)
  obtain ⟨Y0, y0, c0, c1, c2, c3, c4, c5, hp, hpy, hpy2⟩ := hc q hq
  have HZ : Hid (∀ w', Below w.heap.size w w' → w'.cell? ⟨g1, off + q * 6, none⟩ = some (.int .i64 zs[q].gen) ∧ w'.cell? ⟨g1, off + q * 6 + 1, none⟩ = some (.int .i64 zs[q].slot) ∧ w'.cell? ⟨g1, off + q * 6 + 2, none⟩ = some (.bool zs[q].full) ∧ w'.cell? ⟨g1, off + q * 6 + 3, none⟩ = some (.int .i64 zs[q].w) ∧ w'.cell? ⟨g1, off + q * 6 + 4, none⟩ = some (.bool zs[q].whole) ∧ w'.cell? ⟨g1, off + q * 6 + 5, none⟩ = some (.slice Y0 zs[q].ps.length y0)) := fun w' hb =>
    ⟨((Kept.of_below hb hS).cell (p := ⟨g1, off + q * 6, none⟩) hg1).trans c0, ((Kept.of_below hb hS).cell (p := ⟨g1, off + q * 6 + 1, none⟩) hg1).trans c1, ((Kept.of_below hb hS).cell (p := ⟨g1, off + q * 6 + 2, none⟩) hg1).trans c2, ((Kept.of_below hb hS).cell (p := ⟨g1, off + q * 6 + 3, none⟩) hg1).trans c3, ((Kept.of_below hb hS).cell (p := ⟨g1, off + q * 6 + 4, none⟩) hg1).trans c4, ((Kept.of_below hb hS).cell (p := ⟨g1, off + q * 6 + 5, none⟩) hg1).trans c5⟩
  have HPR : Hid (∀ w', Below w.heap.size w w' → PrsAt w' (Ext S w.heap.size w') Y0 zs[q].ps ∧ zs[q].ps.length ≤ y0) := fun w' hb => ⟨(hp.keep (Kept.of_below hb hS)).mono (fun _ h => Or.inl h), hpy⟩
  have HPL0 : Hid (∀ w', Below w.heap.size w w' → PrsAt w' S Y0 zs[q].ps) := fun w' hb => hp.keep (Kept.of_below hb hS)
  obtain ⟨xs, hxn, hxr⟩ := hp.rowIn
  have HROW : Hid ((Y0 = none → zs[q].ps.length = 0) ∧ ∀ w', Below w.heap.size w w' → PsRow w' S zs[q].ps xs ∧ ∀ ad, Y0 = some ad → ∀ j u, xs[j]? = some u → w'.cell? (ad.add j) = some u) := ⟨hxn, fun w' hb => hxr w' (Kept.of_below hb hS)⟩
  clear c0 c1 c2 c3 c4 c5 hc hg1 hp hpy hpy2 hxn hxr
  obtain ⟨cs, hcs⟩ : ∃ cs : Array Value, cs = #[.int .i64 c.id, .int .i64 c.m, .int .i64 c.u, .int .i64 c.b, .int .i64 c.cp, .int .i64 c.z, .int .i64 c.s, .int .i64 c.mt, .int .i64 c.o, .int .i64 c.a, .int .i64 c.l, .int .i64 ep, .int .i64 sq, .slice A st.length k, .slice D zs.length d] := ⟨_, rfl⟩
  have HCS := Lib.hid hcs
  have HCN : Hid (cs.size = 15 ∧ cs.all (·.oneCell') = true) := by rw [hcs]; exact ⟨rfl, by first | kernel_rfl | simp [Value.oneCell']⟩
  have HHAS : Hid (∀ w' (m : Nat), Below w.heap.size w w' → Calls Try.prog 66 #[.agg cs, .int .i64 (m : Int)] w' (SaysP w' (usedB zs m = true))) := fun w' m hb => by rw [hcs]; exact rhas_any c ep sq A st k D zs d m w' ((h.mono hS).later hb) hzl
  have HREB : Hid (∀ w', Below w.heap.size w w' → Calls Try.prog 67 #[.agg cs] w' (SaysP w' (2 ∈ st))) := fun w' hb => by rw [hcs]; exact rRebuilds_any c ep sq A st k D zs d w' ((h.mono hS).later hb) hl
  have HBD : Hid (∀ w', Below w.heap.size w w' → RdS w' S X b) := fun w' hb2 => hb.keep (Kept.of_below hb2 hS)
  have HSS := Lib.hid hS
  have HBL : Hid (b.length ≤ x ∧ b.length ≤ 10000000) := ⟨hbx, hbl⟩
  have HMU : Hid (IntKind.i64.wrap (c.u * c.b) = c.u * c.b ∧ wrap64 (c.u * c.b) = c.u * c.b) := by
    obtain ⟨h1, h2, h3, h4, h5, h6, h7, h8, _⟩ := hgd
    have hm := mul_in (a := c.u) (b := c.b) (A := 64) (B := 4096) (by omega) h6 (by omega) h8
    exact ⟨wrapk_in (by omega) (by omega), wrap_in (by omega) (by omega)⟩
  have HQ := Lib.hid hq
  have HNW := Lib.hid hnw
  have HFR : Hid (FitsR c st zs zs[q] n b ↔ FitsR c st zs zs[q] n b) := Iff.rfl
  generalize zs[q] = z at HZ HPR HPL0 HROW HFR hz ⊢
  obtain ⟨gen, slot, full, zw, whole, ps⟩ := z
  dsimp only at HZ HPR HPL0 HROW hz
  have HZR := Lib.hid hz
  have HPL : Hid (ps.length ≤ 140737488351232) := by have := hz.2.2; show _ ≤ _; omega
  have HN3 := Lib.hid hn
  have HDD := Lib.hid hD
  have HRB := Lib.hid hreb
  rw [← hcs]
  clear hn hnw hD hreb hb hbl hbx hgd hz hcs h HFR hq hS
  have HK0 := Lib.hid hk
  clear hk
  go_enter Try.func29, Try.ntmps29
  go_upto_region 1 with fail
  have HV := Lib.hid (three_boxes w 27 30 51 cs #[.int .i64 (n 0), .int .i64 (n 1), .int .i64 (n 2), .int .i64 (n 3), .int .i64 (n 4), .int .i64 (n 5), .int .i64 (n 6), .int .i64 (n 7), .int .i64 (n 8), .slice X b.length x] #[.int .i64 0, .int .i64 0, .bool false, .int .i64 0, .bool false, .slice none 0 0])
  generalize (((w.alloc (.cells cs 27)).alloc (.cells #[.int .i64 (n 0), .int .i64 (n 1), .int .i64 (n 2), .int .i64 (n 3), .int .i64 (n 4), .int .i64 (n 5), .int .i64 (n 6), .int .i64 (n 7), .int .i64 (n 8), .slice X b.length x] 30)).alloc (.cells #[.int .i64 0, .int .i64 0, .bool false, .int .i64 0, .bool false, .slice none 0 0] 51)) = w0 at HV ⊢
  have HBX : Hid (Box w0 w.heap.size 27 #[.int .i64 c.id, .int .i64 c.m, .int .i64 c.u, .int .i64 c.b, .int .i64 c.cp, .int .i64 c.z, .int .i64 c.s, .int .i64 c.mt, .int .i64 c.o, .int .i64 c.a, .int .i64 c.l, .int .i64 ep, .int .i64 sq, .slice A st.length k, .slice D zs.length d]) := by rw [← HCS.out]; exact HV.out.1
  obtain ⟨s0, s1, s2, s3, s4, s5, s6, s7, s8, s9, s10, s11, s12, s13, s14⟩ := box15 HBX.out
  obtain ⟨r0, r1, r2, r3, r4, r5, r6, r7, r8, r9⟩ := box10 HV.out.2.1
  obtain ⟨z0, z1, z2, z3, z4, z5⟩ := HZ.out w0 HV.out.2.2.2.1
  rw [HN3.out] at r3
  rw [HDD.out] at s14
  have hqn := HQ.out
  have hsz := HV.out.2.2.2.2
  go_upto_region 2 with fail
  have HX : Hid (StpIn cs n X b x #[.int .i64 0, .int .i64 0, .bool false, .int .i64 0, .bool false, .slice none 0 0] #[.int .i64 gen, .int .i64 slot, .bool full, .int .i64 zw, .bool whole, .slice Y0 ps.length y0] w (w0.alloc (.cells #[.int .i64 gen, .int .i64 slot, .bool full, .int .i64 zw, .bool whole, .slice Y0 ps.length y0] 51))) := by
    have hb := below_one w0 (.cells #[.int .i64 gen, .int .i64 slot, .bool full, .int .i64 zw, .bool whole, .slice Y0 ps.length y0] 51)
    have hz := Box.fresh w0 51 #[.int .i64 gen, .int .i64 slot, .bool full, .int .i64 zw, .bool whole, .slice Y0 ps.length y0]
    rw [hsz] at hz
    exact ⟨HV.out.1.later hb, HV.out.2.1.later hb, HV.out.2.2.1.later hb, hz, HV.out.2.2.2.1.trans (hb.mono (by omega)), by simp; omega⟩
  generalize w0.alloc (.cells #[.int .i64 gen, .int .i64 slot, .bool full, .int .i64 zw, .bool whole, .slice Y0 ps.length y0] 51) = w1 at HX ⊢
  clear HV HBX HZ hqn hsz s0 s1 s2 s3 s4 s5 s6 s7 s8 s9 s10 s11 s12 s13 s14 r0 r1 r2 r3 r4 r5 r6 r7 r8 r9 z0 z1 z2 z3 z4 z5
  refine wpB_start (w.heap.size + 4) (by kernel_rfl) ?_
  have HX1 := Lib.hid (HX.out.later (Below.refl _ _).drew)
  generalize w1.drew = w1d at HX1 ⊢
  clear HX
  have HBX : Hid (Box w1d w.heap.size 27 #[.int .i64 c.id, .int .i64 c.m, .int .i64 c.u, .int .i64 c.b, .int .i64 c.cp, .int .i64 c.z, .int .i64 c.s, .int .i64 c.mt, .int .i64 c.o, .int .i64 c.a, .int .i64 c.l, .int .i64 ep, .int .i64 sq, .slice A st.length k, .slice D zs.length d]) := by rw [← HCS.out]; exact HX1.out.1
  have s0 := Box.at_ (B := (w.heap.size + 4)) HBX.out (by omega) (i := 0) rfl
  have s1 := Box.at_ (B := (w.heap.size + 4)) HBX.out (by omega) (i := 1) rfl
  have s2 := Box.at_ (B := (w.heap.size + 4)) HBX.out (by omega) (i := 2) rfl
  have s3 := Box.at_ (B := (w.heap.size + 4)) HBX.out (by omega) (i := 3) rfl
  have s4 := Box.at_ (B := (w.heap.size + 4)) HBX.out (by omega) (i := 4) rfl
  have s5 := Box.at_ (B := (w.heap.size + 4)) HBX.out (by omega) (i := 5) rfl
  have s6 := Box.at_ (B := (w.heap.size + 4)) HBX.out (by omega) (i := 6) rfl
  have s7 := Box.at_ (B := (w.heap.size + 4)) HBX.out (by omega) (i := 7) rfl
  have s8 := Box.at_ (B := (w.heap.size + 4)) HBX.out (by omega) (i := 8) rfl
  have s9 := Box.at_ (B := (w.heap.size + 4)) HBX.out (by omega) (i := 9) rfl
  have s10 := Box.at_ (B := (w.heap.size + 4)) HBX.out (by omega) (i := 10) rfl
  refine wpB_take (i := 0) (d := 19) (v := ?v2x0) rfl rfl (by kernel_rfl) (by kernel_rfl) (by kernel_rfl) (fun _ _ _ h => h) (by rfl) ?y2x0 ?r2x0
  case y2x0 => (intro w' hSw; go_simp; try (with_reducible rfl))
  simp only [Act.put, List.setIfInBounds_toArray, List.set_cons_zero, List.set_cons_succ]
  refine wpB_take (i := 1) (d := 20) (v := ?v2x1) rfl rfl (by kernel_rfl) (by kernel_rfl) (by kernel_rfl) (fun _ _ _ h => h) (by rfl) ?y2x1 ?r2x1
  case y2x1 => (intro w' hSw; go_simp; try (with_reducible rfl))
  simp only [Act.put, List.setIfInBounds_toArray, List.set_cons_zero, List.set_cons_succ]
  refine wpB_take (i := 3) (d := 22) (v := ?v2x3) rfl rfl (by kernel_rfl) (by kernel_rfl) (by kernel_rfl) (fun _ _ _ h => h) (by rfl) ?y2x3 ?r2x3
  case y2x3 => (intro w' hSw; go_simp; try (with_reducible rfl))
  simp only [Act.put, List.setIfInBounds_toArray, List.set_cons_zero, List.set_cons_succ]
  refine wpB_take (i := 4) (d := 23) (v := ?v2x4) rfl rfl (by kernel_rfl) (by kernel_rfl) (by kernel_rfl) (fun _ _ _ h => h) (by rfl) ?y2x4 ?r2x4
  case y2x4 => (intro w' hSw; go_simp; try (with_reducible rfl))
  simp only [Act.put, List.setIfInBounds_toArray, List.set_cons_zero, List.set_cons_succ]
  refine wpB_do (i := 2) (by kernel_rfl) rfl (by rfl) (fun K hK => ?_)
  go_simp
  refine (rsize_any c w1d).mono ?_
  rintro e w2 ⟨rfl, hb⟩
  have HX2 := Lib.hid (HX1.out.later hb)
  have HBX2 : Hid (Box w2 w.heap.size 27 #[.int .i64 c.id, .int .i64 c.m, .int .i64 c.u, .int .i64 c.b, .int .i64 c.cp, .int .i64 c.z, .int .i64 c.s, .int .i64 c.mt, .int .i64 c.o, .int .i64 c.a, .int .i64 c.l, .int .i64 ep, .int .i64 sq, .slice A st.length k, .slice D zs.length d]) := by rw [← HCS.out]; exact HX2.out.1
  have hbk := hb.mono HX1.out.2.2.2.2.2
  go_simp
  refine hK.out (w.heap.size + 4) _ _ (Nat.le_refl _) hbk ?_
  clear hK hb hbk HX1 HBX s0 s1 s2 s3 s4 s5 s6 s7 s8 s9 s10
  have s0 := Box.at_ (B := (w.heap.size + 4)) HBX2.out (by omega) (i := 0) rfl
  have s1 := Box.at_ (B := (w.heap.size + 4)) HBX2.out (by omega) (i := 1) rfl
  have s2 := Box.at_ (B := (w.heap.size + 4)) HBX2.out (by omega) (i := 2) rfl
  have s3 := Box.at_ (B := (w.heap.size + 4)) HBX2.out (by omega) (i := 3) rfl
  have s4 := Box.at_ (B := (w.heap.size + 4)) HBX2.out (by omega) (i := 4) rfl
  have s5 := Box.at_ (B := (w.heap.size + 4)) HBX2.out (by omega) (i := 5) rfl
  have s6 := Box.at_ (B := (w.heap.size + 4)) HBX2.out (by omega) (i := 6) rfl
  have s7 := Box.at_ (B := (w.heap.size + 4)) HBX2.out (by omega) (i := 7) rfl
  have s8 := Box.at_ (B := (w.heap.size + 4)) HBX2.out (by omega) (i := 8) rfl
  have s9 := Box.at_ (B := (w.heap.size + 4)) HBX2.out (by omega) (i := 9) rfl
  have s10 := Box.at_ (B := (w.heap.size + 4)) HBX2.out (by omega) (i := 10) rfl
  refine wpB_do (i := 5) (by kernel_rfl) rfl (by rfl) (fun K hK => ?_)
  go_simp
  refine (nums_any c w2).mono ?_
  rintro e w3 ⟨rfl, hb⟩
  have HX := Lib.hid (HX2.out.later hb)
  have hbk := hb.mono HX2.out.2.2.2.2.2
  have hix := fun w => index4 (.int .i64 (dataC c)) (.int .i64 (dataC c * c.u)) (.int .i64 (stripesC c)) (.int .i64 (stripesC c * (dataC c * c.u))) (.int .i64 (slotsC c)) (.int .i64 (allC c)) (.int .i64 (roomC c)) w
  go_simp
  refine hK.out (w.heap.size + 4) _ _ (Nat.le_refl _) hbk ?_
  clear hK hb hbk HX2 HBX2 s0 s1 s2 s3 s4 s5 s6 s7 s8 s9 s10
  refine wpB_take (i := 6) (d := 25) (v := ?v2x6) rfl rfl (by kernel_rfl) (by kernel_rfl) (by kernel_rfl) (fun _ _ _ h => h) (by rfl) ?y2x6 ?r2x6
  case y2x6 => (intro w' hSw; go_simp; try (with_reducible rfl))
  simp only [Act.put, List.setIfInBounds_toArray, List.set_cons_zero, List.set_cons_succ]
  refine wpB_take (i := 7) (d := 7) (v := ?v2x7) rfl rfl (by kernel_rfl) (by kernel_rfl) (by kernel_rfl) (fun _ _ _ h => h) (by rfl) ?y2x7 ?r2x7
  case y2x7 => (intro w' hSw; go_simp; try (with_reducible rfl))
  simp only [Act.put, List.setIfInBounds_toArray, List.set_cons_zero, List.set_cons_succ]
  refine wpB_take (i := 8) (d := 8) (v := ?v2x8) rfl rfl (by kernel_rfl) (by kernel_rfl) (by kernel_rfl) (fun _ _ _ h => h) (by rfl) ?y2x8 ?r2x8
  case y2x8 => (intro w' hSw; go_simp; try (with_reducible rfl))
  simp only [Act.put, List.setIfInBounds_toArray, List.set_cons_zero, List.set_cons_succ]
  refine wpB_done (by kernel_rfl) ?_
  clear hix
  obtain ⟨r0, r1, r2, r3, r4, r5, r6, r7, r8, r9⟩ := box10 HX.out.2.1
  obtain ⟨z0, z1, z2, z3, z4, z5⟩ := box6 HX.out.2.2.2.1
  obtain ⟨f0, f1, f2, f3, f4, f5⟩ := froz6 HX.out.2.2.2.1
  have k1 : n 0 ≠ 1 := by have := HK0.out; omega
  have kb1 : (n 0 == 1) = false := by simpa using k1
  have k2 : n 0 ≠ 2 := by have := HK0.out; omega
  have kb2 : (n 0 == 2) = false := by simpa using k2
  have k3 : n 0 ≠ 3 := by have := HK0.out; omega
  have kb3 : (n 0 == 3) = false := by simpa using k3
  have k4 : n 0 ≠ 4 := by have := HK0.out; omega
  have kb4 : (n 0 == 4) = false := by simpa using k4
  have k5 : n 0 ≠ 5 := by have := HK0.out; omega
  have kb5 : (n 0 == 5) = false := by simpa using k5
  clear HK0
  · have hfit : ¬ FitsR c st zs ⟨gen, slot, full, zw, whole, ps⟩ n b := fits0 k1 k2 k5 k4 k3
    have HOK : Hid (false = true ↔ FitsR c st zs ⟨gen, slot, full, zw, whole, ps⟩ n b) := iff_of_false (by simp) hfit
    have HNX : Hid (false = true → (⟨gen, slot, full, zw, whole, ps⟩ : Zn) = nextZ reb ⟨gen, slot, full, zw, whole, ps⟩ n b) := fun h => by simp at h
    clear hfit k1 k2 k3 k4 k5
    clear f0 f1 f2 f3 f4 f5
    obtain ⟨z0, z1, z2, z3, z4, z5⟩ := box6 HX.out.2.2.2.1
    obtain ⟨t0, t1, t2, t3, t4, t5⟩ := box6 HX.out.2.2.1
    obtain ⟨f0, f1, f2, f3, f4, f5⟩ := froz6 HX.out.2.2.1
    go_wp2_with fail
    have HF := Lib.hid (HX.out.fin rfl (.int .i64 gen) (.int .i64 slot) (.bool full) (.int .i64 zw) (.bool whole) (.slice Y0 ps.length y0))
    generalize ((((((w3.setCell ⟨w.heap.size + 2, 0, none⟩ (.int .i64 gen)).setCell ⟨w.heap.size + 2, 1, none⟩ (.int .i64 slot)).setCell ⟨w.heap.size + 2, 2, none⟩ (.bool full)).setCell ⟨w.heap.size + 2, 3, none⟩ (.int .i64 zw)).setCell ⟨w.heap.size + 2, 4, none⟩ (.bool whole)).setCell ⟨w.heap.size + 2, 5, none⟩ (.slice Y0 ps.length y0)) = w9 at HF ⊢
    clear HX z0 z1 z2 z3 z4 z5 t0 t1 t2 t3 t4 t5 f0 f1 f2 f3 f4 f5
    exact bodyPost_ret (v := .tuple #[.agg #[.int .i64 gen, .int .i64 slot, .bool full, .int .i64 zw, .bool whole, .slice Y0 ps.length y0], .bool false]) (res29 rfl rfl HF.out.2.2.1 rfl) rfl ⟨false, ⟨gen, slot, full, zw, whole, ps⟩, Y0, y0, rfl, HOK.out, HNX.out, (HPR.out w9 HF.out.2.2.2.2.1).1, (HPR.out w9 HF.out.2.2.2.2.1).2, HPL.out, HF.out.2.2.2.2.1⟩
end Go.Proofs.Ytaceaemombnhkaa
namespace Go.Proofs.Ytaceaemombnhkaa
set_option linter.unusedVariables false
set_option maxRecDepth 100000
set_option linter.unusedSimpArgs false
open Go.RowKit
open Go.RowKit (wrap64)

theorem rstep_any (c : Cf) (ep sq : Int) (A : Option Addr) (st : List Int) (k : Nat) (D : Option Addr) (zs : List Zn) (d : Nat) (n : Nat → Int) (X : Option Addr) (b : List UInt8) (x q : Nat) (w : World) (S : Nat → Prop) (hS : ∀ g, S g → g < w.heap.size) (h : StAt w S A st k D zs d) (hl : st.length ≤ 1000000) (hzl : zs.length ≤ 1000000) (hq : q < zs.length) (hn : n 3 = (q : Int)) (hnw : ∀ i, -9223372036854775808 ≤ n i ∧ n i ≤ 9223372036854775807) (hb : RdS w S X b) (hbl : b.length ≤ 10000000) (hbx : b.length ≤ x) (hgd : Good c)
    (hz : (0 ≤ zs[q].gen ∧ zs[q].gen ≤ 1099511627776) ∧ -1 ≤ zs[q].slot ∧ zs[q].ps.length ≤ 2) (reb : Bool) (hreb : reb = true ↔ 2 ∈ st) :
    Calls Try.prog 29 #[(.agg #[.int .i64 c.id, .int .i64 c.m, .int .i64 c.u, .int .i64 c.b, .int .i64 c.cp, .int .i64 c.z, .int .i64 c.s, .int .i64 c.mt, .int .i64 c.o, .int .i64 c.a, .int .i64 c.l, .int .i64 ep, .int .i64 sq, .slice A st.length k, .slice D zs.length d]), (.agg #[.int .i64 (n 0), .int .i64 (n 1), .int .i64 (n 2), .int .i64 (n 3), .int .i64 (n 4), .int .i64 (n 5), .int .i64 (n 6), .int .i64 (n 7), .int .i64 (n 8), .slice X b.length x])] w (GotSp w S (nextZ reb zs[q] n b) (FitsR c st zs zs[q] n b)) := by
  by_cases k1 : n 0 = 1
  · exact rstep1_any c ep sq A st k D zs d n X b x q w S hS h hl hzl hq hn hnw hb hbl hbx hgd hz k1 reb hreb
  by_cases k2 : n 0 = 2
  · exact rstep2_any c ep sq A st k D zs d n X b x q w S hS h hl hzl hq hn hnw hb hbl hbx hgd hz k2 reb hreb
  by_cases k3 : n 0 = 3
  · exact rstep3_any c ep sq A st k D zs d n X b x q w S hS h hl hzl hq hn hnw hb hbl hbx hgd hz k3 reb hreb
  by_cases k4 : n 0 = 4
  · exact rstep4_any c ep sq A st k D zs d n X b x q w S hS h hl hzl hq hn hnw hb hbl hbx hgd hz k4 reb hreb
  by_cases k5 : n 0 = 5
  · exact rstep5_any c ep sq A st k D zs d n X b x q w S hS h hl hzl hq hn hnw hb hbl hbx hgd hz k5 reb hreb
  exact rstep0_any c ep sq A st k D zs d n X b x q w S hS h hl hzl hq hn hnw hb hbl hbx hgd hz ⟨k1, k2, k3, k4, k5⟩ reb hreb
end Go.Proofs.Ytaceaemombnhkaa
