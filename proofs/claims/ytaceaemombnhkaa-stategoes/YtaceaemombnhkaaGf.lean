/- The contract of getZone. -/
import Derived.Test.YtaceaemombnhkaaGt
namespace Go.Proofs.Ytaceaemombnhkaa
set_option linter.unusedVariables false
set_option maxRecDepth 100000
set_option linter.unusedSimpArgs false
open Go.RowKit
open Go.RowKit (wrap64)

theorem Turn.ofGrown {w w' : World} {p : Nat} (h : w.grownBy w' (some p)) : Turn [p] w w' := ⟨h.os, h.tape, h.output, h.size, fun k hk hn => h.block k hk (fun e => hn (by simp at e; simp [e]))⟩
theorem Turn.grown {w w' : World} {p : Nat} (h : Turn [p] w w') : w.grownBy w' (some p) := ⟨h.os, h.tape, h.output, h.size, fun k hk hn => h.block k hk (fun e => hn (by simp at e; simp [e]))⟩
theorem rI_nonneg0 (l : List UInt8) (er hi : Int) : 0 ≤ (rI l er 0 hi).1 := by
  unfold rI
  generalize wrap64 (numLE (l.take 8) : Nat) = n
  split
  · split
    · exact Int.le_refl _
    · split
      · exact Int.le_refl _
      · show 0 ≤ n
        omega
  · exact Int.le_refl _
theorem rI_le (l : List UInt8) (er hi : Int) (h : 0 ≤ hi) : (rI l er 0 hi).1 ≤ hi := by
  unfold rI
  generalize wrap64 (numLE (l.take 8) : Nat) = n
  split
  · split
    · exact h
    · split
      · exact h
      · show n ≤ hi
        omega
  · exact h
/-- What getZone answers. -/
def ReadZ (w : World) (p : Nat) (q : Zn × (List UInt8 × Int)) (e : Ending) (w' : World) : Prop :=
  ∃ Y y, e = .returned (.agg #[.int .i64 q.1.gen, .int .i64 q.1.slot, .bool q.1.full, .int .i64 q.1.w, .bool q.1.whole, .slice Y q.1.ps.length y]) ∧ PrsAt w' (TB w.heap.size w') Y q.1.ps ∧ q.1.ps.length ≤ y ∧ q.1.ps.length ≤ 2 ∧ Rdr w' p q.2.1 q.2.2 ∧ w.grownBy w' (some p)
/-- What region 1 holds: the reader, the bounds. -/
def ZIn (c : Cf) (p : Nat) (w : World) (x : List UInt8 × Int) (w1 : World) : Prop := Rdr w1 p x.1 x.2 ∧ Box w1 w.heap.size 81 #[.int .i64 1, .int .i64 1099511627776, .int .i64 0, .int .i64 1099511627776, .int .i64 0, .int .i64 2, .int .i64 0, .int .i64 1099511627776, .int .i64 (-1), .int .i64 (slotsC c - 1), .int .i64 0, .int .i64 (sizeC c), .int .i64 0, .int .i64 2, .int .i64 1, .int .i64 (sizeC c), .int .i64 (c.u * c.b)] ∧ Box w1 (w.heap.size + 1) 51 #[.int .i64 0, .int .i64 0, .bool false, .int .i64 0, .bool false, .slice none 0 0] ∧ Turn [p] w w1 ∧ w.heap.size + 2 ≤ w1.heap.size
theorem ZIn.call {c : Cf} {p : Nat} {w w1 w2 : World} {x y : List UInt8 × Int} (hp : p < w.heap.size) (h : ZIn c p w x w1) (hr : Rdr w2 p y.1 y.2) (hg : w1.grownBy w2 (some p)) : ZIn c p w y w2 :=
  ⟨hr, h.2.1.turn (Turn.ofGrown hg) (by simp; omega), h.2.2.1.turn (Turn.ofGrown hg) (by simp; omega), h.2.2.2.1.trans (Turn.ofGrown hg), Nat.le_trans h.2.2.2.2 hg.size⟩
theorem ZIn.alloc {c : Cf} {p : Nat} {w w1 : World} {x : List UInt8 × Int} (hp : p < w.heap.size) (h : ZIn c p w x w1) (o : Obj) : ZIn c p w x (w1.alloc o) := by
  have hb : Below w1.heap.size w1 (w1.alloc o) := (Below.refl _ _).alloc (Nat.le_refl _) _
  exact ⟨h.1.below hb (by have := h.2.2.2.2; omega), h.2.1.later hb, h.2.2.1.later hb, h.2.2.2.1.alloc _, by simp; have := h.2.2.2.2; omega⟩
/-- What the loop holds: the reader, the bounds, the answer's block, the zone in its block, its parities in a row of the call's own. -/
structure ZL (c : Cf) (p : Nat) (w : World) (x : List UInt8 × Int) (g : Nat) (gen slot : Int) (full : Bool) (zw : Int) (whole : Bool) (v : Value) (ps : List Pr) (xs : List Value) (wr : World) : Prop where
  rdr : Rdr wr p x.1 x.2
  bnd : Box wr w.heap.size 81 #[.int .i64 1, .int .i64 1099511627776, .int .i64 0, .int .i64 1099511627776, .int .i64 0, .int .i64 2, .int .i64 0, .int .i64 1099511627776, .int .i64 (-1), .int .i64 (slotsC c - 1), .int .i64 0, .int .i64 (sizeC c), .int .i64 0, .int .i64 2, .int .i64 1, .int .i64 (sizeC c), .int .i64 (c.u * c.b)]
  ret : Box wr (w.heap.size + 1) 51 #[.int .i64 0, .int .i64 0, .bool false, .int .i64 0, .bool false, .slice none 0 0]
  var : Box wr g 51 #[.int .i64 gen, .int .i64 slot, .bool full, .int .i64 zw, .bool whole, v]
  own : wr.ownsRow w.heap.size 55 2 v ps.length xs
  row : PsRow wr (NB w.heap.size wr) ps xs
  turn : Turn [p] w wr
  hg : w.heap.size + 2 ≤ g
theorem put6 {w w0 : World} {g n : Nat} {t : TypeId} {cs : Array Value} (a0 a1 a2 a3 a4 a5 : Value) (h : Box w g t cs) (hn : cs.size = 6) (hb : Below n w0 w) (hg : n ≤ g) : Box ((((((w.setCell ⟨g, 0, none⟩ (a0)).setCell ⟨g, 1, none⟩ (a1)).setCell ⟨g, 2, none⟩ (a2)).setCell ⟨g, 3, none⟩ (a3)).setCell ⟨g, 4, none⟩ (a4)).setCell ⟨g, 5, none⟩ (a5)) g t #[a0, a1, a2, a3, a4, a5] ∧ Below n w0 ((((((w.setCell ⟨g, 0, none⟩ (a0)).setCell ⟨g, 1, none⟩ (a1)).setCell ⟨g, 2, none⟩ (a2)).setCell ⟨g, 3, none⟩ (a3)).setCell ⟨g, 4, none⟩ (a4)).setCell ⟨g, 5, none⟩ (a5)) := by
  have h1 := sets_box0 [a0, a1, a2, a3, a4, a5] h hn
  have h2 := sets_below (g := g) [a0, a1, a2, a3, a4, a5] 0 w hb hg
  simp only [sets, Nat.zero_add, Nat.reduceAdd] at h1 h2
  exact ⟨h1, h2⟩
theorem turn6 {w : World} {g : Nat} {gs : List Nat} (a0 a1 a2 a3 a4 a5 : Value) (hg : g ∈ gs) : Turn gs w ((((((w.setCell ⟨g, 0, none⟩ (a0)).setCell ⟨g, 1, none⟩ (a1)).setCell ⟨g, 2, none⟩ (a2)).setCell ⟨g, 3, none⟩ (a3)).setCell ⟨g, 4, none⟩ (a4)).setCell ⟨g, 5, none⟩ (a5)) :=
  ((((((Turn.refl gs w).put (Or.inl hg) _).put (Or.inl hg) _).put (Or.inl hg) _).put (Or.inl hg) _).put (Or.inl hg) _).put (Or.inl hg) _
theorem Turn.to {gs gs' : List Nat} {a w w' : World} (h : Turn gs a w) (k : Turn gs' w w') (hs : ∀ g ∈ gs', g ∈ gs ∨ a.heap.size ≤ g) : Turn gs a w' :=
  ⟨k.os.trans h.os, k.tape.trans h.tape, k.output.trans h.output, Nat.le_trans h.size k.size, fun i hi hn => (k.block i (Nat.lt_of_lt_of_le hi h.size) (fun hm => (hs i hm).elim hn (fun h => by omega))).trans (h.block i hi hn)⟩
theorem ZIn.store {c : Cf} {p : Nat} {w w2 : World} {x : List UInt8 × Int} {g : Nat} {gen slot : Int} {full : Bool} {zw : Int} {whole : Bool} (h : ZIn c p w x w2) (hb : Box w2 g 51 #[.int .i64 0, .int .i64 0, .bool false, .int .i64 0, .bool false, .slice none 0 0]) (hg : w.heap.size + 2 ≤ g) (hp : p < w.heap.size) :
    ZL c p w x g gen slot full zw whole (.slice none 0 0) [] [] ((((((w2.setCell ⟨g, 0, none⟩ (.int .i64 gen)).setCell ⟨g, 1, none⟩ (.int .i64 slot)).setCell ⟨g, 2, none⟩ (.bool full)).setCell ⟨g, 3, none⟩ (.int .i64 zw)).setCell ⟨g, 4, none⟩ (.bool whole)).setCell ⟨g, 5, none⟩ (.slice none 0 0)) ∧ Turn [p, g] w2 ((((((w2.setCell ⟨g, 0, none⟩ (.int .i64 gen)).setCell ⟨g, 1, none⟩ (.int .i64 slot)).setCell ⟨g, 2, none⟩ (.bool full)).setCell ⟨g, 3, none⟩ (.int .i64 zw)).setCell ⟨g, 4, none⟩ (.bool whole)).setCell ⟨g, 5, none⟩ (.slice none 0 0)) := by
  obtain ⟨h1, h2⟩ := put6 (.int .i64 gen) (.int .i64 slot) (.bool full) (.int .i64 zw) (.bool whole) (.slice none 0 0) hb rfl (Below.refl (w.heap.size + 2) w2) hg
  have ht : Turn [g] w2 ((((((w2.setCell ⟨g, 0, none⟩ (.int .i64 gen)).setCell ⟨g, 1, none⟩ (.int .i64 slot)).setCell ⟨g, 2, none⟩ (.bool full)).setCell ⟨g, 3, none⟩ (.int .i64 zw)).setCell ⟨g, 4, none⟩ (.bool whole)).setCell ⟨g, 5, none⟩ (.slice none 0 0)) := turn6 _ _ _ _ _ _ (by simp)
  have hs := h.2.2.2.2
  refine ⟨⟨h.1.below h2 (by omega), h.2.1.under h2 (by omega), h.2.2.1.under h2 (by omega), h1, World.ownsRow_nil _ _ _ _, rfl, h.2.2.2.1.to ht (fun k hk => ?_), hg⟩, turn6 _ _ _ _ _ _ (by simp)⟩
  have : k = g := by simpa using hk
  exact Or.inr (by omega)
section
variable {c : Cf} {p : Nat} {w w1 w2 : World} {x y : List UInt8 × Int} {g : Nat} {gen slot : Int} {full : Bool} {zw : Int} {whole : Bool} {v : Value} {ps : List Pr} {xs : List Value}
theorem ZL.call (hp : p < w.heap.size) (h : ZL c p w x g gen slot full zw whole v ps xs w1) (hr : Rdr w2 p y.1 y.2) (hg : w1.grownBy w2 (some p)) : ZL c p w y g gen slot full zw whole v ps xs w2 :=
  ⟨hr, h.bnd.turn (Turn.ofGrown hg) (by simp; omega), h.ret.turn (Turn.ofGrown hg) (by simp; omega), h.var.turn (Turn.ofGrown hg) (by have := h.hg; simp; omega), h.own.kept hg (by
    rcases hv : v.ownBlock with _ | k
    · exact Or.inl rfl
    · right
      have := (World.ownsRow.lt h.own k hv).1
      simp
      omega), h.row.keepB (fun k hk hb => hg.block k hb.lt (by simp; omega)), h.turn.trans (Turn.ofGrown hg), h.hg⟩
theorem ZL.alloc (hp : p < w.heap.size) (h : ZL c p w x g gen slot full zw whole v ps xs w1) (o : Obj) : ZL c p w x g gen slot full zw whole v ps xs (w1.alloc o) := by
  have hb : Below w1.heap.size w1 (w1.alloc o) := (Below.refl _ _).alloc (Nat.le_refl _) _
  have hs := h.turn.size
  exact ⟨h.rdr.below hb (by omega), h.bnd.later hb, h.ret.later hb, h.var.later hb, h.own.kept (turned_of_below hb none) (by
    rcases hv : v.ownBlock with _ | k
    · exact Or.inl rfl
    · exact Or.inr (by simp)), h.row.keepB (fun k hk hk2 => hb.block k hk2.lt), h.turn.alloc _, h.hg⟩
theorem ZL.below {gs : List Nat} (hp : p < w.heap.size) (h : ZL c p w x g gen slot full zw whole v ps xs w1) (hgs : gs = p :: g :: v.ownBlock.toList) : ∀ k ∈ gs, k < w1.heap.size := fun k hk => by
  subst hgs
  have hs := h.turn.size
  rcases List.mem_cons.1 hk with rfl | hk
  · omega
  · rcases List.mem_cons.1 hk with rfl | hk
    · exact h.var.lt
    · rcases hv : v.ownBlock with _ | k'
      · rw [hv] at hk
        simp at hk
      · rw [hv] at hk
        have : k = k' := by simpa using hk
        subst this
        exact (World.ownsRow.lt h.own k hv).2
theorem ZL.nobnd {gs : List Nat} (hp : p < w.heap.size) (h : ZL c p w x g gen slot full zw whole v ps xs w1) (hgs : gs = p :: g :: v.ownBlock.toList) : w.heap.size ∉ gs := fun hk => by
  subst hgs
  have hs := h.hg
  rcases List.mem_cons.1 hk with hk | hk
  · omega
  · rcases List.mem_cons.1 hk with hk | hk
    · omega
    · rcases h.own.2 with ⟨hv, _⟩ | ⟨g', cap, cur, hv, _, hh, _⟩
      · rw [hv] at hk
        simp [Value.ownBlock] at hk
      · rw [hv] at hk
        have e : w.heap.size = g' := by simpa [Value.ownBlock] using hk
        have hb : w1.heap[w.heap.size]? = some (.cells #[.int .i64 1, .int .i64 1099511627776, .int .i64 0, .int .i64 1099511627776, .int .i64 0, .int .i64 2, .int .i64 0, .int .i64 1099511627776, .int .i64 (-1), .int .i64 (slotsC c - 1), .int .i64 0, .int .i64 (sizeC c), .int .i64 0, .int .i64 2, .int .i64 1, .int .i64 (sizeC c), .int .i64 (c.u * c.b)] 81 (0, 0)) := h.bnd
        rw [e, hh] at hb
        simp at hb
theorem ZL.drew (h : ZL c p w x g gen slot full zw whole v ps xs w1) : ZL c p w x g gen slot full zw whole v ps xs w1.drew :=
  ⟨h.rdr.below (Below.refl _ _).drew (by obtain ⟨A, k, hb, _⟩ := h.rdr; exact hb.lt), h.bnd, h.ret, h.var, h.own, h.row.keepB (fun k hk hk2 => rfl), h.turn.drew, h.hg⟩
end
theorem Turn.wide {w w' : World} {p : Nat} {gs : List Nat} (h : Turn [p] w w') (hp : p ∈ gs) : Turn gs w w' := ⟨h.os, h.tape, h.output, h.size, fun k hk hn => h.block k hk (fun hm => hn (by
    obtain rfl : k = p := by simpa using hm
    exact hp))⟩
/-- New blocks of bytes, without those that turn. -/
def NG (lo : Nat) (gs : List Nat) (w : World) : Nat → Prop := fun k => NB lo w k ∧ k ∉ gs
theorem RdS.turnG {w w' : World} {lo : Nat} {gs : List Nat} {A : Option Addr} {l : List UInt8} (h : RdS w (NG lo gs w) A l) (ht : Turn gs w w') : RdS w' (NG lo gs w') A l := fun hn => by
  obtain ⟨ad, e, hb, hc⟩ := h hn
  have hk := ht.block _ hb.1.2.lt hb.2
  exact ⟨ad, e, ⟨⟨hb.1.1, hb.1.2.to hk⟩, hb.2⟩, fun j u hu => (World.cell?_of_block (by rw [step_block]; exact hk)).trans (hc j u hu)⟩
theorem RdS.ng {w1 w2 : World} {lo : Nat} {gs : List Nat} {A : Option Addr} {l : List UInt8} (h : RdS w2 (NB w1.heap.size w2) A l) (hl : lo ≤ w1.heap.size) (hg : ∀ k ∈ gs, k < w1.heap.size) : RdS w2 (NG lo gs w2) A l :=
  h.mono fun k hk => ⟨⟨Nat.le_trans hl hk.1, hk.2⟩, fun hm => absurd (hg k hm) (by have := hk.1; omega)⟩
theorem rB_most (l : List UInt8) (er most : Int) (h : 0 ≤ most) : ((rB l er most).1.length : Int) ≤ most := by
  have h1 := rI_le l er most h
  have h0 := rI_nonneg0 l er most
  unfold rB
  split
  · split
    · simpa using h
    · dsimp only
      rw [List.length_take]
      omega
  · simpa using h
theorem oper_row (W : World) {o : Oper} {a : Act} {K : Act → World → Prop} {Q : Exit → Act → World → Prop} (t e : TypeId) (z : Value) (size bytes : Nat) (s y : Operand)
    (ho : o.op = .call { callee := .builtin .append, args := #[s, y], argTypes := #[t, t] }) (ht : Try.prog.underlying t = some (.slice e)) (hinfo : (Try.prog.info? e).map (fun i => (i.zero, i.size, i.bytes)) = some (some z, size, bytes)) (hz : z.cells.size = size) (hsz : 0 < size)
    (base : Nat) (v : Value) (k : Nat) (xs : List Value) (ad : Addr) (m cy : Nat) (news : List Value) (hs : a.eval s = v) (hy : a.eval y = .slice (some ad) m cy) (hrow : W.ownsRow base e size v k xs)
    (hl : news.length = m * size) (hc : ∀ j u, news[j]? = some u → W.cell? (ad.add j) = some u) (h1 : ∀ u ∈ news, u.oneCell' = true) (hn : k + m ≤ 1000000000) (hby : bytes ≤ 1000) (hb : base ≤ W.heap.size)
    (hK : ∀ v' w', w'.ownsRow base e size v' (k + m) (xs ++ news) → W.grownBy w' v.ownBlock → K (a.put o.dst v') w') : Oper.wp Try.prog o a W K Q := by
  obtain ⟨i0, hi, hz0, hz1, hz2⟩ := info_parts hinfo
  have hm : (k + m) * bytes ≤ 1000000000 * 1000 := Nat.mul_le_mul hn hby
  obtain ⟨v', w', hrun, h2, h3, _⟩ := run_append_own (P := Try.prog) W base t o.type e i0 z size bytes ht hi hz0 hz1 hz2 hz hsz v k xs hrow ad m cy news hl hc h1 (by unfold maxLen; omega) (by omega) hb
  exact oper_app s y t ho _ _ _ _ hs hy hrun (hK _ _ h2 h3)
theorem Try.info55 : (Try.prog.info? 55).map (fun i => (i.zero, i.size, i.bytes)) = some (some (.agg #[.int .i64 0, .slice none 0 0]), 2, 32) := by kernel_rfl
theorem row_cell {w : World} {r : Nat} {t : TypeId} {l : List Value} (h : Box w r t l.toArray) : ∀ j u, l[j]? = some u → w.cell? ((⟨r, 0, none⟩ : Addr).add j) = some u := fun j u hu => by
  have h1 := h.cell j
  have hadd : (⟨r, 0, none⟩ : Addr).add j = ⟨r, j, none⟩ := by
    unfold Addr.add
    split <;> simp_all
  rw [hadd, h1, List.getElem?_toArray]
  exact hu
theorem PrsAt.tb {w w' : World} {lo : Nat} {A : Option Addr} {l : List Pr} (h : PrsAt w (TB lo w) A l) (hk : ∀ k, TB lo w k → w'.heap[k]? = w.heap[k]?) : PrsAt w' (TB lo w') A l :=
  (h.keep (S := TB lo w) (w' := w') hk).mono fun k hT => by
    obtain ⟨h1, cs, t, mk, h2, h3⟩ := id hT
    exact ⟨h1, cs, t, mk, (hk k hT).trans h2, h3⟩
section
variable {c : Cf} {p : Nat} {w w2 w3 : World} {y : List UInt8 × Int} {g : Nat} {gen slot : Int} {full : Bool} {zw : Int} {whole : Bool} {V V' : Value} {ps : List Pr} {xs : List Value}
theorem ZL.app {gs : List Nat} {A : Option Addr} {cx : Nat} {pw : Int} {b : List UInt8} (hp : p < w.heap.size) (h : ZL c p w y g gen slot full zw whole V ps xs w2) (ho : w3.ownsRow w.heap.size 55 2 V' (ps.length + 1) (xs ++ [.int .i64 pw, .slice A b.length cx])) (hg : w2.grownBy w3 V.ownBlock)
    (hA : RdS w2 (NB w.heap.size w2) A b) (hc : b.length ≤ cx) (hl : b.length ≤ 10000000) (hgs : gs = p :: g :: V.ownBlock.toList) :
    ZL c p w y g gen slot full zw whole V' (ps ++ [⟨pw, b⟩]) (xs ++ [.int .i64 pw, .slice A b.length cx]) (w3.setCell ⟨g, 5, none⟩ V') ∧ Box w3 g 51 #[.int .i64 gen, .int .i64 slot, .bool full, .int .i64 zw, .bool whole, V] ∧ Turn gs w2 w3 ∧ Turn gs w3 (w3.setCell ⟨g, 5, none⟩ V') := by
  have hs := h.turn.size
  have hgg := h.hg
  have hbel : Below w.heap.size w2 w3 := (Below.refl _ _).grown hg (by omega) (fun k hk => (World.ownsRow.lt h.own k hk).1)
  have hvar := h.var.ownRow h.own hg (by decide)
  have hbel2 : Below w.heap.size w3 (w3.setCell ⟨g, 5, none⟩ V') := (Below.refl _ _).setCell (by show w.heap.size ≤ g; omega) _
  have ht : Turn [g] w3 (w3.setCell ⟨g, 5, none⟩ V') := (Turn.refl _ _).put (Or.inl (by simp)) _
  have hkb : KeepB w.heap.size w2 w3 := fun k hk hb => hg.block k hb.lt (hb.own h.own (by decide))
  have hkb2 : KeepB w.heap.size w3 (w3.setCell ⟨g, 5, none⟩ V') := fun k hk hb => ht.block k hb.lt (by have := hb.box hvar (by decide); simpa using this)
  have ht2 : Turn V.ownBlock.toList w2 w3 := ⟨hg.os, hg.tape, hg.output, hg.size, fun k hk hn => hg.block k hk (fun e => hn (by rw [← e]; simp))⟩
  refine ⟨⟨(h.rdr.below hbel hp).below hbel2 hp, (h.bnd.ownRow h.own hg (by decide)).turn ht (by simp; omega), (h.ret.ownRow h.own hg (by decide)).turn ht (by simp; omega), by simpa using hvar.store 5 V', ?_, ?_, ?_, hgg⟩, hvar, ?_, ?_⟩
  · have := own_set (k := 5) (u := V') ho hvar (by decide)
    simpa using this
  · exact ((h.row.keepB hkb).snoc (p := ⟨pw, b⟩) (hA.keepB hkb) hc (by show b.length ≤ _; omega)).keepB hkb2
  · refine (h.turn.to ht2 (fun k hk => ?_)).to ht (fun k hk => ?_)
    · right
      rcases hv : V.ownBlock with _ | k'
      · rw [hv] at hk
        simp at hk
      · rw [hv] at hk
        have : k = k' := by simpa using hk
        subst this
        exact (World.ownsRow.lt h.own k hv).1
    · right
      have : k = g := by simpa using hk
      omega
  · subst hgs
    exact ⟨hg.os, hg.tape, hg.output, hg.size, fun k hk hn => ht2.block k hk (fun hm => hn (List.mem_cons_of_mem _ (List.mem_cons_of_mem _ hm)))⟩
  · subst hgs
    exact (Turn.refl _ _).put (Or.inl (by simp)) _
end
theorem ZL.fin {c : Cf} {p : Nat} {w w1 : World} {x : List UInt8 × Int} {g : Nat} {gen slot : Int} {full : Bool} {zw : Int} {whole : Bool} {Y : Option Addr} {yc : Nat} {ps : List Pr} {xs : List Value} (hp : p < w.heap.size) (h : ZL c p w x g gen slot full zw whole (.slice Y ps.length yc) ps xs w1) (hY : PrsAt w1 (TB w.heap.size w1) Y ps) :
    Box ((((((w1.setCell ⟨w.heap.size + 1, 0, none⟩ (.int .i64 gen)).setCell ⟨w.heap.size + 1, 1, none⟩ (.int .i64 slot)).setCell ⟨w.heap.size + 1, 2, none⟩ (.bool full)).setCell ⟨w.heap.size + 1, 3, none⟩ (.int .i64 zw)).setCell ⟨w.heap.size + 1, 4, none⟩ (.bool whole)).setCell ⟨w.heap.size + 1, 5, none⟩ (.slice Y ps.length yc)) (w.heap.size + 1) 51 #[.int .i64 gen, .int .i64 slot, .bool full, .int .i64 zw, .bool whole, .slice Y ps.length yc] ∧ PrsAt ((((((w1.setCell ⟨w.heap.size + 1, 0, none⟩ (.int .i64 gen)).setCell ⟨w.heap.size + 1, 1, none⟩ (.int .i64 slot)).setCell ⟨w.heap.size + 1, 2, none⟩ (.bool full)).setCell ⟨w.heap.size + 1, 3, none⟩ (.int .i64 zw)).setCell ⟨w.heap.size + 1, 4, none⟩ (.bool whole)).setCell ⟨w.heap.size + 1, 5, none⟩ (.slice Y ps.length yc)) (TB w.heap.size ((((((w1.setCell ⟨w.heap.size + 1, 0, none⟩ (.int .i64 gen)).setCell ⟨w.heap.size + 1, 1, none⟩ (.int .i64 slot)).setCell ⟨w.heap.size + 1, 2, none⟩ (.bool full)).setCell ⟨w.heap.size + 1, 3, none⟩ (.int .i64 zw)).setCell ⟨w.heap.size + 1, 4, none⟩ (.bool whole)).setCell ⟨w.heap.size + 1, 5, none⟩ (.slice Y ps.length yc))) Y ps ∧ Rdr ((((((w1.setCell ⟨w.heap.size + 1, 0, none⟩ (.int .i64 gen)).setCell ⟨w.heap.size + 1, 1, none⟩ (.int .i64 slot)).setCell ⟨w.heap.size + 1, 2, none⟩ (.bool full)).setCell ⟨w.heap.size + 1, 3, none⟩ (.int .i64 zw)).setCell ⟨w.heap.size + 1, 4, none⟩ (.bool whole)).setCell ⟨w.heap.size + 1, 5, none⟩ (.slice Y ps.length yc)) p x.1 x.2 ∧ Turn [p] w ((((((w1.setCell ⟨w.heap.size + 1, 0, none⟩ (.int .i64 gen)).setCell ⟨w.heap.size + 1, 1, none⟩ (.int .i64 slot)).setCell ⟨w.heap.size + 1, 2, none⟩ (.bool full)).setCell ⟨w.heap.size + 1, 3, none⟩ (.int .i64 zw)).setCell ⟨w.heap.size + 1, 4, none⟩ (.bool whole)).setCell ⟨w.heap.size + 1, 5, none⟩ (.slice Y ps.length yc)) := by
  obtain ⟨h1, h2⟩ := put6 (.int .i64 gen) (.int .i64 slot) (.bool full) (.int .i64 zw) (.bool whole) (.slice Y ps.length yc) h.ret rfl (Below.refl (w.heap.size + 1) w1) (Nat.le_refl _)
  have ht := turn6 (w := w1) (g := w.heap.size + 1) (gs := [w.heap.size + 1]) (.int .i64 gen) (.int .i64 slot) (.bool full) (.int .i64 zw) (.bool whole) (.slice Y ps.length yc) (by simp)
  refine ⟨h1, hY.tb (fun k hk => ht.block k hk.lt ?_), h.rdr.below h2 (by omega), h.turn.to ht (fun k hk => ?_)⟩
  · have := hk.box h.ret (by decide) (by decide)
    simpa using this
  · right
    have : k = w.heap.size + 1 := by simpa using hk
    omega
set_option maxHeartbeats 2000000 in
theorem zone_any (c : Cf) (l : List UInt8) (er : Int) (p : Nat) (w : World) (h : Rdr w p l er) (hs : c.u * c.b ≤ 10000000) :
    Calls Try.prog 80 #[(.agg #[.int .i64 1, .int .i64 1099511627776, .int .i64 0, .int .i64 1099511627776, .int .i64 0, .int .i64 2, .int .i64 0, .int .i64 1099511627776, .int .i64 (-1), .int .i64 (slotsC c - 1), .int .i64 0, .int .i64 (sizeC c), .int .i64 0, .int .i64 2, .int .i64 1, .int .i64 (sizeC c), .int .i64 (c.u * c.b)]), .pointer (some ⟨p, 0, none⟩)] w (ReadZ w p (getZ (slotsC c - 1) (sizeC c) (c.u * c.b) (l, er))) := by
  have hp : p < w.heap.size := by
    obtain ⟨A, k, hb, _⟩ := h
    exact hb.lt
  obtain ⟨q, hq⟩ : ∃ q, getZ (slotsC c - 1) (sizeC c) (c.u * c.b) (l, er) = q := ⟨_, rfl⟩
  rw [hq]
  obtain ⟨v0, x1, e0⟩ : ∃ v x, rI l er 0 1099511627776 = (v, x) := ⟨_, _, rfl⟩
  have HC0 : Hid (∀ w, Rdr w p l er → Calls Try.prog 79 #[.agg #[.int .i64 0, .int .i64 1099511627776], .pointer (some ⟨p, 0, none⟩)] w fun e w' => e = .returned (.int .i64 v0) ∧ Rdr w' p x1.1 x1.2 ∧ w.grownBy w' (some p)) := fun w h => by
    have h2 := read_any l er 0 1099511627776 p w h
    rw [e0] at h2
    exact h2
  obtain ⟨v1, x2, e1⟩ : ∃ v x, rI x1.1 x1.2 (-1) (slotsC c - 1) = (v, x) := ⟨_, _, rfl⟩
  have HC1 : Hid (∀ w, Rdr w p x1.1 x1.2 → Calls Try.prog 79 #[.agg #[.int .i64 (-1), .int .i64 (slotsC c - 1)], .pointer (some ⟨p, 0, none⟩)] w fun e w' => e = .returned (.int .i64 v1) ∧ Rdr w' p x2.1 x2.2 ∧ w.grownBy w' (some p)) := fun w h => by
    have h2 := read_any x1.1 x1.2 (-1) (slotsC c - 1) p w h
    rw [e1] at h2
    exact h2
  obtain ⟨v2, x3, e2⟩ : ∃ v x, rF x2.1 x2.2 = (v, x) := ⟨_, _, rfl⟩
  have HC2 : Hid (∀ w, Rdr w p x2.1 x2.2 → Calls Try.prog 94 #[.pointer (some ⟨p, 0, none⟩)] w fun e w' => e = .returned (.bool v2) ∧ Rdr w' p x3.1 x3.2 ∧ w.grownBy w' (some p)) := fun w h => by
    have h2 := rFlag_any x2.1 x2.2 p w h
    rw [e2] at h2
    exact h2
  obtain ⟨v3, x4, e3⟩ : ∃ v x, rI x3.1 x3.2 0 (sizeC c) = (v, x) := ⟨_, _, rfl⟩
  have HC3 : Hid (∀ w, Rdr w p x3.1 x3.2 → Calls Try.prog 79 #[.agg #[.int .i64 0, .int .i64 (sizeC c)], .pointer (some ⟨p, 0, none⟩)] w fun e w' => e = .returned (.int .i64 v3) ∧ Rdr w' p x4.1 x4.2 ∧ w.grownBy w' (some p)) := fun w h => by
    have h2 := read_any x3.1 x3.2 0 (sizeC c) p w h
    rw [e3] at h2
    exact h2
  obtain ⟨v4, x5, e4⟩ : ∃ v x, rF x4.1 x4.2 = (v, x) := ⟨_, _, rfl⟩
  have HC4 : Hid (∀ w, Rdr w p x4.1 x4.2 → Calls Try.prog 94 #[.pointer (some ⟨p, 0, none⟩)] w fun e w' => e = .returned (.bool v4) ∧ Rdr w' p x5.1 x5.2 ∧ w.grownBy w' (some p)) := fun w h => by
    have h2 := rFlag_any x4.1 x4.2 p w h
    rw [e4] at h2
    exact h2
  obtain ⟨v5, x6, e5⟩ : ∃ v x, rI x5.1 x5.2 0 2 = (v, x) := ⟨_, _, rfl⟩
  have HC5 : Hid (∀ w, Rdr w p x5.1 x5.2 → Calls Try.prog 79 #[.agg #[.int .i64 0, .int .i64 2], .pointer (some ⟨p, 0, none⟩)] w fun e w' => e = .returned (.int .i64 v5) ∧ Rdr w' p x6.1 x6.2 ∧ w.grownBy w' (some p)) := fun w h => by
    have h2 := read_any x5.1 x5.2 0 2 p w h
    rw [e5] at h2
    exact h2
  obtain ⟨n, hn⟩ : ∃ n : Nat, v5 = (n : Int) := ⟨v5.toNat, by have := rI_nonneg0 x5.1 x5.2 2; rw [e5] at this; simp at this; omega⟩
  have HZ : Hid (q = (⟨v0, v1, v2, v3, v4, (getPs (sizeC c) (c.u * c.b) n x6).1⟩, (getPs (sizeC c) (c.u * c.b) n x6).2)) := by
    refine hq.symm.trans ?_
    unfold getZ getH
    dsimp only
    rw [e0]
    dsimp only
    rw [e1]
    dsimp only
    rw [e2]
    dsimp only
    rw [e3]
    dsimp only
    rw [e4]
    dsimp only
    rw [e5]
    dsimp only
    rw [hn, Int.toNat_natCast]
  have HNL : Hid (n ≤ 2) := by
    show _ ≤ _
    have := rI_le x5.1 x5.2 2 (by omega)
    rw [e5] at this
    simp only at this
    omega
  subst hn
  clear hq e0 e1 e2 e3 e4 e5
  go_enter Try.func80, Try.ntmps80
  go_upto_region 1 with fail
  have HV : Hid (ZIn c p w (l, er) ((w.alloc (.cells #[.int .i64 1, .int .i64 1099511627776, .int .i64 0, .int .i64 1099511627776, .int .i64 0, .int .i64 2, .int .i64 0, .int .i64 1099511627776, .int .i64 (-1), .int .i64 (slotsC c - 1), .int .i64 0, .int .i64 (sizeC c), .int .i64 0, .int .i64 2, .int .i64 1, .int .i64 (sizeC c), .int .i64 (c.u * c.b)] 81)).alloc (.cells #[.int .i64 0, .int .i64 0, .bool false, .int .i64 0, .bool false, .slice none 0 0] 51)).drew) := by
    obtain ⟨h1, h2, h3, h4⟩ := two_boxes' w 81 51 #[.int .i64 1, .int .i64 1099511627776, .int .i64 0, .int .i64 1099511627776, .int .i64 0, .int .i64 2, .int .i64 0, .int .i64 1099511627776, .int .i64 (-1), .int .i64 (slotsC c - 1), .int .i64 0, .int .i64 (sizeC c), .int .i64 0, .int .i64 2, .int .i64 1, .int .i64 (sizeC c), .int .i64 (c.u * c.b)] #[.int .i64 0, .int .i64 0, .bool false, .int .i64 0, .bool false, .slice none 0 0]
    exact ⟨h.below h3.drew hp, h1.later (Below.refl _ _).drew, h2.later (Below.refl _ _).drew, (Turn.of_below h3 (Nat.le_refl _)).drew, Nat.le_of_eq h4.symm⟩
  have HW : Hid (((w.alloc (.cells #[.int .i64 1, .int .i64 1099511627776, .int .i64 0, .int .i64 1099511627776, .int .i64 0, .int .i64 2, .int .i64 0, .int .i64 1099511627776, .int .i64 (-1), .int .i64 (slotsC c - 1), .int .i64 0, .int .i64 (sizeC c), .int .i64 0, .int .i64 2, .int .i64 1, .int .i64 (sizeC c), .int .i64 (c.u * c.b)] 81)).alloc (.cells #[.int .i64 0, .int .i64 0, .bool false, .int .i64 0, .bool false, .slice none 0 0] 51)).drew.heap.size = w.heap.size + 2) := (two_boxes' w 81 51 #[.int .i64 1, .int .i64 1099511627776, .int .i64 0, .int .i64 1099511627776, .int .i64 0, .int .i64 2, .int .i64 0, .int .i64 1099511627776, .int .i64 (-1), .int .i64 (slotsC c - 1), .int .i64 0, .int .i64 (sizeC c), .int .i64 0, .int .i64 2, .int .i64 1, .int .i64 (sizeC c), .int .i64 (c.u * c.b)] #[.int .i64 0, .int .i64 0, .bool false, .int .i64 0, .bool false, .slice none 0 0]).2.2.2
  refine wpG_start [p] (by kernel_rfl) ?_
  generalize ((w.alloc (.cells #[.int .i64 1, .int .i64 1099511627776, .int .i64 0, .int .i64 1099511627776, .int .i64 0, .int .i64 2, .int .i64 0, .int .i64 1099511627776, .int .i64 (-1), .int .i64 (slotsC c - 1), .int .i64 0, .int .i64 (sizeC c), .int .i64 0, .int .i64 2, .int .i64 1, .int .i64 (sizeC c), .int .i64 (c.u * c.b)] 81)).alloc (.cells #[.int .i64 0, .int .i64 0, .bool false, .int .i64 0, .bool false, .slice none 0 0] 51)).drew = w1 at HV HW ⊢
  have hp1 : p ≠ w.heap.size := by omega
  refine wpG_take (i := 0) (d := 6) (v := ?v1x0) rfl rfl (by kernel_rfl) (by kernel_rfl) (by kernel_rfl) (fun _ _ _ h => h) (by rfl) ?y1x0 ?r1x0
  case y1x0 => (intro w' hSw; obtain ⟨y0, y1, y2, y3, y4, y5, y6, y7, y8, y9, y10, y11, y12, y13, y14, y15, y16⟩ := box17 (HV.out.2.1.turn hSw (by simpa using Ne.symm hp1)); go_simp; try (with_reducible rfl))
  simp only [Act.put, List.setIfInBounds_toArray, List.set_cons_zero, List.set_cons_succ]
  refine wpG_take (i := 1) (d := 7) (v := ?v1x1) rfl rfl (by kernel_rfl) (by kernel_rfl) (by kernel_rfl) (fun _ _ _ h => h) (by rfl) ?y1x1 ?r1x1
  case y1x1 => (intro w' hSw; obtain ⟨y0, y1, y2, y3, y4, y5, y6, y7, y8, y9, y10, y11, y12, y13, y14, y15, y16⟩ := box17 (HV.out.2.1.turn hSw (by simpa using Ne.symm hp1)); go_simp; try (with_reducible rfl))
  simp only [Act.put, List.setIfInBounds_toArray, List.set_cons_zero, List.set_cons_succ]
  refine wpG_take (i := 2) (d := 8) (v := ?v1x2) rfl rfl (by kernel_rfl) (by kernel_rfl) (by kernel_rfl) (fun _ _ _ h => h) (by rfl) ?y1x2 ?r1x2
  case y1x2 => (intro w' hSw; obtain ⟨y0, y1, y2, y3, y4, y5, y6, y7, y8, y9, y10, y11, y12, y13, y14, y15, y16⟩ := box17 (HV.out.2.1.turn hSw (by simpa using Ne.symm hp1)); go_simp; try (with_reducible rfl))
  simp only [Act.put, List.setIfInBounds_toArray, List.set_cons_zero, List.set_cons_succ]
  refine wpG_take (i := 4) (d := 10) (v := ?v1x4) rfl rfl (by kernel_rfl) (by kernel_rfl) (by kernel_rfl) (fun _ _ _ h => h) (by rfl) ?y1x4 ?r1x4
  case y1x4 => (intro w' hSw; obtain ⟨y0, y1, y2, y3, y4, y5, y6, y7, y8, y9, y10, y11, y12, y13, y14, y15, y16⟩ := box17 (HV.out.2.1.turn hSw (by simpa using Ne.symm hp1)); go_simp; try (with_reducible rfl))
  simp only [Act.put, List.setIfInBounds_toArray, List.set_cons_zero, List.set_cons_succ]
  refine wpG_take (i := 5) (d := 11) (v := ?v1x5) rfl rfl (by kernel_rfl) (by kernel_rfl) (by kernel_rfl) (fun _ _ _ h => h) (by rfl) ?y1x5 ?r1x5
  case y1x5 => (intro w' hSw; obtain ⟨y0, y1, y2, y3, y4, y5, y6, y7, y8, y9, y10, y11, y12, y13, y14, y15, y16⟩ := box17 (HV.out.2.1.turn hSw (by simpa using Ne.symm hp1)); go_simp; try (with_reducible rfl))
  simp only [Act.put, List.setIfInBounds_toArray, List.set_cons_zero, List.set_cons_succ]
  refine wpG_take (i := 6) (d := 12) (v := ?v1x6) rfl rfl (by kernel_rfl) (by kernel_rfl) (by kernel_rfl) (fun _ _ _ h => h) (by rfl) ?y1x6 ?r1x6
  case y1x6 => (intro w' hSw; obtain ⟨y0, y1, y2, y3, y4, y5, y6, y7, y8, y9, y10, y11, y12, y13, y14, y15, y16⟩ := box17 (HV.out.2.1.turn hSw (by simpa using Ne.symm hp1)); go_simp; try (with_reducible rfl))
  simp only [Act.put, List.setIfInBounds_toArray, List.set_cons_zero, List.set_cons_succ]
  refine wpG_take (i := 8) (d := 14) (v := ?v1x8) rfl rfl (by kernel_rfl) (by kernel_rfl) (by kernel_rfl) (fun _ _ _ h => h) (by rfl) ?y1x8 ?r1x8
  case y1x8 => (intro w' hSw; obtain ⟨y0, y1, y2, y3, y4, y5, y6, y7, y8, y9, y10, y11, y12, y13, y14, y15, y16⟩ := box17 (HV.out.2.1.turn hSw (by simpa using Ne.symm hp1)); go_simp; try (with_reducible rfl))
  simp only [Act.put, List.setIfInBounds_toArray, List.set_cons_zero, List.set_cons_succ]
  refine wpG_take (i := 10) (d := 16) (v := ?v1x10) rfl rfl (by kernel_rfl) (by kernel_rfl) (by kernel_rfl) (fun _ _ _ h => h) (by rfl) ?y1x10 ?r1x10
  case y1x10 => (intro w' hSw; obtain ⟨y0, y1, y2, y3, y4, y5, y6, y7, y8, y9, y10, y11, y12, y13, y14, y15, y16⟩ := box17 (HV.out.2.1.turn hSw (by simpa using Ne.symm hp1)); go_simp; try (with_reducible rfl))
  simp only [Act.put, List.setIfInBounds_toArray, List.set_cons_zero, List.set_cons_succ]
  refine wpG_take (i := 11) (d := 17) (v := ?v1x11) rfl rfl (by kernel_rfl) (by kernel_rfl) (by kernel_rfl) (fun _ _ _ h => h) (by rfl) ?y1x11 ?r1x11
  case y1x11 => (intro w' hSw; obtain ⟨y0, y1, y2, y3, y4, y5, y6, y7, y8, y9, y10, y11, y12, y13, y14, y15, y16⟩ := box17 (HV.out.2.1.turn hSw (by simpa using Ne.symm hp1)); go_simp; try (with_reducible rfl))
  simp only [Act.put, List.setIfInBounds_toArray, List.set_cons_zero, List.set_cons_succ]
  refine wpG_take (i := 12) (d := 18) (v := ?v1x12) rfl rfl (by kernel_rfl) (by kernel_rfl) (by kernel_rfl) (fun _ _ _ h => h) (by rfl) ?y1x12 ?r1x12
  case y1x12 => (intro w' hSw; obtain ⟨y0, y1, y2, y3, y4, y5, y6, y7, y8, y9, y10, y11, y12, y13, y14, y15, y16⟩ := box17 (HV.out.2.1.turn hSw (by simpa using Ne.symm hp1)); go_simp; try (with_reducible rfl))
  simp only [Act.put, List.setIfInBounds_toArray, List.set_cons_zero, List.set_cons_succ]
  refine wpG_take (i := 14) (d := 20) (v := ?v1x14) rfl rfl (by kernel_rfl) (by kernel_rfl) (by kernel_rfl) (fun _ _ _ h => h) (by rfl) ?y1x14 ?r1x14
  case y1x14 => (intro w' hSw; obtain ⟨y0, y1, y2, y3, y4, y5, y6, y7, y8, y9, y10, y11, y12, y13, y14, y15, y16⟩ := box17 (HV.out.2.1.turn hSw (by simpa using Ne.symm hp1)); go_simp; try (with_reducible rfl))
  simp only [Act.put, List.setIfInBounds_toArray, List.set_cons_zero, List.set_cons_succ]
  refine wpG_island (fuel := 1) [(3, 9), (7, 13), (9, 15), (13, 19), (15, 21), (16, 22)] [(17, 5)] #[true, true, true, true, true, true, true, true, true, true, true, true, true, true, true, true, true, true, false] 7 (fun j w' => ZIn c p w (match j with | 0 => (l, er) | 1 => x1 | 2 => x2 | 3 => x3 | 4 => x4 | _ => x5) w') (fun i v w' => match i with | 3 => v = .int .i64 v0 | 7 => v = .int .i64 v1 | 9 => v = .bool v2 | 13 => v = .int .i64 v3 | 15 => v = .bool v4 | 16 => v = .agg #[.int .i64 v0, .int .i64 v1, .bool v2, .int .i64 v3, .bool v4, .slice none 0 0] | 17 => ∃ a, v = .pointer (some ⟨a, 0, none⟩) ∧ Box w' a 51 #[.int .i64 0, .int .i64 0, .bool false, .int .i64 0, .bool false, .slice none 0 0] ∧ w.heap.size + 2 ≤ a | _ => True) (by kernel_rfl) (by kernel_rfl) (by decide) (by decide) (by kernel_rfl) (by kernel_rfl) ?_ (HV.out) ⟨?_, ?_, ?_, ?_, ?_, ?_, trivial⟩ ⟨?_, trivial⟩ ?_
  · intro i v w1 w2 hT h
    revert h
    split
    case h_7 => exact fun ⟨a, e, hb, hg⟩ => ⟨a, e, hb.turn hT (by simp; omega), hg⟩
    all_goals exact id
  · intro u w1 hT hX hW a ha K hK
    simp only [List.cons_append, List.nil_append, puts, Act.put, List.setIfInBounds_toArray, List.set_cons_zero, List.set_cons_succ] at ha
    subst ha
    have HX := Lib.hid hX
    clear hX hW HV
    refine wpOp_run rfl (by rfl) ?_
    go_simp
    refine (HC0.out w1 HX.out.1).mono ?_
    rintro e w2 ⟨rfl, hr, hg⟩
    exact hK.out _ w2 (Turn.ofGrown hg) (HX.out.call hp hr hg) rfl
  · intro u w1 hT hX hW a ha K hK
    simp only [List.cons_append, List.nil_append, puts, Act.put, List.setIfInBounds_toArray, List.set_cons_zero, List.set_cons_succ] at ha
    subst ha
    have HX := Lib.hid hX
    clear hX hW HV
    refine wpOp_run rfl (by rfl) ?_
    go_simp
    refine (HC1.out w1 HX.out.1).mono ?_
    rintro e w2 ⟨rfl, hr, hg⟩
    exact hK.out _ w2 (Turn.ofGrown hg) (HX.out.call hp hr hg) rfl
  · intro u w1 hT hX hW a ha K hK
    simp only [List.cons_append, List.nil_append, puts, Act.put, List.setIfInBounds_toArray, List.set_cons_zero, List.set_cons_succ] at ha
    subst ha
    have HX := Lib.hid hX
    clear hX hW HV
    refine wpOp_run rfl (by rfl) ?_
    go_simp
    refine (HC2.out w1 HX.out.1).mono ?_
    rintro e w2 ⟨rfl, hr, hg⟩
    exact hK.out _ w2 (Turn.ofGrown hg) (HX.out.call hp hr hg) rfl
  · intro u w1 hT hX hW a ha K hK
    simp only [List.cons_append, List.nil_append, puts, Act.put, List.setIfInBounds_toArray, List.set_cons_zero, List.set_cons_succ] at ha
    subst ha
    have HX := Lib.hid hX
    clear hX hW HV
    refine wpOp_run rfl (by rfl) ?_
    go_simp
    refine (HC3.out w1 HX.out.1).mono ?_
    rintro e w2 ⟨rfl, hr, hg⟩
    exact hK.out _ w2 (Turn.ofGrown hg) (HX.out.call hp hr hg) rfl
  · intro u w1 hT hX hW a ha K hK
    simp only [List.cons_append, List.nil_append, puts, Act.put, List.setIfInBounds_toArray, List.set_cons_zero, List.set_cons_succ] at ha
    subst ha
    have HX := Lib.hid hX
    clear hX hW HV
    refine wpOp_run rfl (by rfl) ?_
    go_simp
    refine (HC4.out w1 HX.out.1).mono ?_
    rintro e w2 ⟨rfl, hr, hg⟩
    exact hK.out _ w2 (Turn.ofGrown hg) (HX.out.call hp hr hg) rfl
  · intro u w1 hT hX hW a ha K hK
    simp only [List.cons_append, List.nil_append, puts, Act.put, List.setIfInBounds_toArray, List.set_cons_zero, List.set_cons_succ] at ha
    subst ha
    have HX := Lib.hid hX
    have f3 : u 3 = .int .i64 v0 := hW 3 (by decide) (by kernel_rfl)
    have f7 : u 7 = .int .i64 v1 := hW 7 (by decide) (by kernel_rfl)
    have f9 : u 9 = .bool v2 := hW 9 (by decide) (by kernel_rfl)
    have f13 : u 13 = .int .i64 v3 := hW 13 (by decide) (by kernel_rfl)
    have f15 : u 15 = .bool v4 := hW 15 (by decide) (by kernel_rfl)
    rw [f3, f7, f9, f13, f15] at hK ⊢
    clear f3 f7 f9 f13 f15
    clear hX hW HV
    refine wpOp_run rfl (by rfl) ?_
    go_simp
    exact hK.out _ w1 (Turn.refl _ _) HX.out rfl
  · intro u w1 j hT hX hW a ha K hK
    simp only [List.cons_append, List.nil_append, puts, Act.put, List.setIfInBounds_toArray, List.set_cons_zero, List.set_cons_succ] at ha
    subst ha
    have HX := Lib.hid hX
    clear hX hW HV
    refine wpOp_run rfl (by rfl) ?_
    go_simp
    exact hK.out _ _ ((Turn.refl _ _).alloc _) (HX.out.alloc hp _) ⟨_, rfl, Box.fresh w1 51 #[.int .i64 0, .int .i64 0, .bool false, .int .i64 0, .bool false, .slice none 0 0], HX.out.2.2.2.2⟩
  · intro u w2 hT hX hF a ha
    simp only [List.cons_append, List.nil_append, puts, Act.put, List.setIfInBounds_toArray, List.set_cons_zero, List.set_cons_succ] at ha
    obtain ⟨g3, g7, g9, g13, g15, g16, g17, -⟩ := hF
    obtain ⟨g, hg, hb, hgw⟩ := g17
    rw [g16, hg] at ha
    subst ha
    have HX : Hid (ZIn c p w x5 w2 ∧ Box w2 g 51 #[.int .i64 0, .int .i64 0, .bool false, .int .i64 0, .bool false, .slice none 0 0] ∧ w.heap.size + 2 ≤ g) := ⟨hX, hb, hgw⟩
    have hgw1 : w1.heap.size ≤ g := by rw [HW.out]; exact hgw
    clear g3 g7 g9 g13 g15 g16 hg hb hgw hT hX HV HW
    refine ⟨[p, g], fun k hk => ?_, ?_⟩
    · rcases List.mem_cons.1 hk with rfl | hk
      · exact Or.inl (by simp)
      · have : k = g := by simpa using hk
        exact Or.inr (by omega)
    clear hgw1
    generalize u 3 = u3, u 7 = u7, u 9 = u9, u 13 = u13, u 15 = u15
    refine wpG_do (i := 18) (by kernel_rfl) rfl (by rfl) (fun K hK => ?_)
    obtain ⟨y0, y1, y2, y3, y4, y5⟩ := box6 HX.out.2.1
    obtain ⟨f0, f1, f2, f3, f4, f5⟩ := froz6 HX.out.2.1
    go_simp
    have HL : Hid (ZL c p w x5 g v0 v1 v2 v3 v4 (.slice none 0 0) [] [] ((((((w2.setCell ⟨g, 0, none⟩ (.int .i64 v0)).setCell ⟨g, 1, none⟩ (.int .i64 v1)).setCell ⟨g, 2, none⟩ (.bool v2)).setCell ⟨g, 3, none⟩ (.int .i64 v3)).setCell ⟨g, 4, none⟩ (.bool v4)).setCell ⟨g, 5, none⟩ (.slice none 0 0)) ∧ Turn [p, g] w2 ((((((w2.setCell ⟨g, 0, none⟩ (.int .i64 v0)).setCell ⟨g, 1, none⟩ (.int .i64 v1)).setCell ⟨g, 2, none⟩ (.bool v2)).setCell ⟨g, 3, none⟩ (.int .i64 v3)).setCell ⟨g, 4, none⟩ (.bool v4)).setCell ⟨g, 5, none⟩ (.slice none 0 0))) := HX.out.1.store HX.out.2.1 HX.out.2.2 hp
    refine hK.out _ _ HL.out.2 ?_
    replace HL := Lib.hid HL.out.1
    generalize ((((((w2.setCell ⟨g, 0, none⟩ (.int .i64 v0)).setCell ⟨g, 1, none⟩ (.int .i64 v1)).setCell ⟨g, 2, none⟩ (.bool v2)).setCell ⟨g, 3, none⟩ (.int .i64 v3)).setCell ⟨g, 4, none⟩ (.bool v4)).setCell ⟨g, 5, none⟩ (.slice none 0 0)) = w3 at HL ⊢
    clear hK HX y0 y1 y2 y3 y4 y5 f0 f1 f2 f3 f4 f5
    refine wpG_done (by kernel_rfl) ?_
    obtain ⟨y0, y1, y2, y3, y4, y5, y6, y7, y8, y9, y10, y11, y12, y13, y14, y15, y16⟩ := box17 HL.out.bnd
    go_wp2_with fail
    refine (HC5.out w3 HL.out.rdr).mono ?_
    rintro e w4 ⟨rfl, hr, hg⟩
    have HL2 := Lib.hid (HL.out.call hp hr hg)
    clear hr hg HL y0 y1 y2 y3 y4 y5 y6 y7 y8 y9 y10 y11 y12 y13 y14 y15 y16 HC0 HC1 HC2 HC3 HC4 HC5
    go_wp2
    go_loopw [27] (fun i wr => ∃ m V xs, m ≤ n ∧ i = .int .i64 (m : Nat) ∧ ZL c p w (getPs (sizeC c) (c.u * c.b) m x6).2 g v0 v1 v2 v3 v4 V (getPs (sizeC c) (c.u * c.b) m x6).1 xs wr) (fun i _ => n - (intOf i).toNat)
    case atStart => exact ⟨0, _, _, Nat.zero_le _, rfl, HL2.out⟩
    case round =>
    clear HL2
    obtain ⟨m, V, xs, hm, rfl, hst⟩ := hrel
    have HS := Lib.hid hst
    clear hst
    by_cases hlt : m < n
    case neg =>
      obtain rfl : m = n := by omega
      have HPL : Hid ((getPs (sizeC c) (c.u * c.b) m x6).1.length = m) := getPs_len _ _
      generalize getPs (sizeC c) (c.u * c.b) m x6 = pq at HZ HS HPL
      obtain ⟨ps, X⟩ := pq
      obtain ⟨Y, yc, hV, hY, hyc⟩ := HS.out.row.row HS.out.own
      subst hV
      have HY := Lib.hid (And.intro hY hyc)
      clear hY hyc
      obtain ⟨y0, y1, y2, y3, y4, y5⟩ := box6 HS.out.var
      obtain ⟨r0, r1, r2, r3, r4, r5⟩ := box6 HS.out.ret
      obtain ⟨f0, f1, f2, f3, f4, f5⟩ := froz6 HS.out.ret
      go_wp2_with fail
      have HF := Lib.hid (HS.out.fin hp HY.out.1)
      generalize ((((((wr.setCell ⟨w.heap.size + 1, 0, none⟩ (.int .i64 v0)).setCell ⟨w.heap.size + 1, 1, none⟩ (.int .i64 v1)).setCell ⟨w.heap.size + 1, 2, none⟩ (.bool v2)).setCell ⟨w.heap.size + 1, 3, none⟩ (.int .i64 v3)).setCell ⟨w.heap.size + 1, 4, none⟩ (.bool v4)).setCell ⟨w.heap.size + 1, 5, none⟩ (.slice Y ps.length yc)) = w5 at HF ⊢
      clear HS y0 y1 y2 y3 y4 y5 r0 r1 r2 r3 r4 r5 f0 f1 f2 f3 f4 f5
      obtain ⟨y0, y1, y2, y3, y4, y5⟩ := box6 HF.out.1
      have hq := HZ.out
      subst hq
      refine bodyPost_ret (v := .agg #[.int .i64 v0, .int .i64 v1, .bool v2, .int .i64 v3, .bool v4, .slice Y ps.length yc]) (by simp [results, Try.results80, go_sem, *]) rfl ⟨Y, yc, rfl, HF.out.2.1, HY.out.2, ?_, HF.out.2.2.1, HF.out.2.2.2.grown⟩
      rw [HPL.out]
      exact HNL.out
    obtain ⟨ps, X, hX⟩ : ∃ ps X, getPs (sizeC c) (c.u * c.b) m x6 = (ps, X) := ⟨_, _, rfl⟩
    obtain ⟨pw, y1, hy1⟩ : ∃ v x, rI X.1 X.2 1 (sizeC c) = (v, x) := ⟨_, _, rfl⟩
    obtain ⟨b, y2, hy2⟩ : ∃ v x, rB y1.1 y1.2 (c.u * c.b) = (v, x) := ⟨_, _, rfl⟩
    have HCa : Hid (∀ w, Rdr w p X.1 X.2 → Calls Try.prog 79 #[.agg #[.int .i64 1, .int .i64 (sizeC c)], .pointer (some ⟨p, 0, none⟩)] w fun e w' => e = .returned (.int .i64 pw) ∧ Rdr w' p y1.1 y1.2 ∧ w.grownBy w' (some p)) := fun w h => by
      have h2 := read_any X.1 X.2 1 (sizeC c) p w h
      rw [hy1] at h2
      exact h2
    have HCb : Hid (∀ w, Rdr w p y1.1 y1.2 → Calls Try.prog 95 #[.pointer (some ⟨p, 0, none⟩), .int .i64 (c.u * c.b)] w (GotB w p (b, y2))) := fun w h => by
      have h2 := rBytesT_any y1.1 y1.2 (c.u * c.b) p w h
      rw [hy2] at h2
      exact h2
    have HN : Hid (getPs (sizeC c) (c.u * c.b) (m + 1) x6 = (ps ++ [⟨pw, b⟩], y2)) := by
      show ((getPs (sizeC c) (c.u * c.b) m x6).1 ++ [(getP (sizeC c) (c.u * c.b) (getPs (sizeC c) (c.u * c.b) m x6).2).1], (getP (sizeC c) (c.u * c.b) (getPs (sizeC c) (c.u * c.b) m x6).2).2) = _
      rw [hX]
      unfold getP
      dsimp only
      rw [hy1]
      dsimp only
      rw [hy2]
    have HPL : Hid (ps.length = m) := by
      show _ = _
      rw [← getPs_len (sz := sizeC c) (pb := c.u * c.b) m x6, hX]
    rw [hX] at HS
    clear hX hy1 hy2
    obtain ⟨y0, y1, y2, y3, y4, y5, y6, y7, y8, y9, y10, y11, y12, y13, y14, y15, y16⟩ := box17 HS.out.bnd
    go_upto_region 4 with fail
    clear y0 y1 y2 y3 y4 y5 y6 y7 y8 y9 y10 y11 y12 y13 y14 y15 y16
    obtain ⟨gs, hgs⟩ : ∃ gs, gs = p :: g :: V.ownBlock.toList := ⟨_, rfl⟩
    refine wpG_start gs (by kernel_rfl) ?_
    have HD := Lib.hid HS.out.drew
    generalize wr.drew = wd at HD ⊢
    have HG : Hid (w.heap.size ∉ gs ∧ p ∈ gs ∧ gs = p :: g :: V.ownBlock.toList) := ⟨HD.out.nobnd hp hgs, by rw [hgs]; simp, hgs⟩
    clear hgs HS
    refine wpG_take (i := 0) (d := 29) (v := ?v4x0) rfl rfl (by kernel_rfl) (by kernel_rfl) (by kernel_rfl) (fun _ _ _ h => h) (by rfl) ?y4x0 ?r4x0
    case y4x0 => (intro w' hSw; obtain ⟨y0, y1, y2, y3, y4, y5, y6, y7, y8, y9, y10, y11, y12, y13, y14, y15, y16⟩ := box17 (HD.out.bnd.turn hSw HG.out.1); go_simp; try (with_reducible rfl))
    simp only [Act.put, List.setIfInBounds_toArray, List.set_cons_zero, List.set_cons_succ]
    refine wpG_take (i := 2) (d := 31) (v := ?v4x2) rfl rfl (by kernel_rfl) (by kernel_rfl) (by kernel_rfl) (fun _ _ _ h => h) (by rfl) ?y4x2 ?r4x2
    case y4x2 => (intro w' hSw; obtain ⟨y0, y1, y2, y3, y4, y5, y6, y7, y8, y9, y10, y11, y12, y13, y14, y15, y16⟩ := box17 (HD.out.bnd.turn hSw HG.out.1); go_simp; try (with_reducible rfl))
    simp only [Act.put, List.setIfInBounds_toArray, List.set_cons_zero, List.set_cons_succ]
    refine wpG_take (i := 3) (d := 32) (v := ?v4x3) rfl rfl (by kernel_rfl) (by kernel_rfl) (by kernel_rfl) (fun _ _ _ h => h) (by rfl) ?y4x3 ?r4x3
    case y4x3 => (intro w' hSw; obtain ⟨y0, y1, y2, y3, y4, y5, y6, y7, y8, y9, y10, y11, y12, y13, y14, y15, y16⟩ := box17 (HD.out.bnd.turn hSw HG.out.1); go_simp; try (with_reducible rfl))
    simp only [Act.put, List.setIfInBounds_toArray, List.set_cons_zero, List.set_cons_succ]
    refine wpG_take (i := 4) (d := 33) (v := ?v4x4) rfl rfl (by kernel_rfl) (by kernel_rfl) (by kernel_rfl) (fun _ _ _ h => h) (by rfl) ?y4x4 ?r4x4
    case y4x4 => (intro w' hSw; obtain ⟨y0, y1, y2, y3, y4, y5, y6, y7, y8, y9, y10, y11, y12, y13, y14, y15, y16⟩ := box17 (HD.out.bnd.turn hSw HG.out.1); go_simp; try (with_reducible rfl))
    simp only [Act.put, List.setIfInBounds_toArray, List.set_cons_zero, List.set_cons_succ]
    refine wpG_take (i := 6) (d := 35) (v := ?v4x6) rfl rfl (by kernel_rfl) (by kernel_rfl) (by kernel_rfl) (fun _ _ _ h => h) (by rfl) ?y4x6 ?r4x6
    case y4x6 => (intro w' hSw; obtain ⟨y0, y1, y2, y3, y4, y5, y6, y7, y8, y9, y10, y11, y12, y13, y14, y15, y16⟩ := box17 (HD.out.bnd.turn hSw HG.out.1); go_simp; try (with_reducible rfl))
    simp only [Act.put, List.setIfInBounds_toArray, List.set_cons_zero, List.set_cons_succ]
    refine wpG_take (i := 7) (d := 36) (v := ?v4x7) rfl rfl (by kernel_rfl) (by kernel_rfl) (by kernel_rfl) (fun _ _ _ h => h) (by rfl) ?y4x7 ?r4x7
    case y4x7 => (intro w' hSw; obtain ⟨y0, y1, y2, y3, y4, y5, y6, y7, y8, y9, y10, y11, y12, y13, y14, y15, y16⟩ := box17 (HD.out.bnd.turn hSw HG.out.1); go_simp; try (with_reducible rfl))
    simp only [Act.put, List.setIfInBounds_toArray, List.set_cons_zero, List.set_cons_succ]
    refine wpG_take (i := 8) (d := 37) (v := ?v4x8) rfl rfl (by kernel_rfl) (by kernel_rfl) (by kernel_rfl) (fun _ _ _ h => h) (by rfl) ?y4x8 ?r4x8
    case y4x8 => (intro w' hSw; obtain ⟨y0, y1, y2, y3, y4, y5, y6, y7, y8, y9, y10, y11, y12, y13, y14, y15, y16⟩ := box17 (HD.out.bnd.turn hSw HG.out.1); go_simp; try (with_reducible rfl))
    simp only [Act.put, List.setIfInBounds_toArray, List.set_cons_zero, List.set_cons_succ]
    refine wpG_island (fuel := 3) [(5, 34), (9, 38), (10, 39), (11, 40)] [(1, 30)] #[true, true, true, true, true, true, true, true, true, true, true, true, false, false, false] 5 (fun j w' => ZL c p w (match j with | 0 => X | 1 => y1 | _ => y2) g v0 v1 v2 v3 v4 V ps xs w') (fun i v w' => match i with | 5 => v = .int .i64 pw | 9 => ∃ A cx, v = .slice A b.length cx ∧ RdS w' (NG w.heap.size gs w') A b ∧ b.length ≤ cx ∧ b.length ≤ 10000000 | 10 => ∃ A cx, v = .agg #[.int .i64 pw, .slice A b.length cx] ∧ RdS w' (NG w.heap.size gs w') A b ∧ b.length ≤ cx ∧ b.length ≤ 10000000 | 11 => ∃ A cx r, v = .slice (some ⟨r, 0, none⟩) 1 1 ∧ Box w' r 55 #[.int .i64 pw, .slice A b.length cx] ∧ r ∉ gs ∧ RdS w' (NG w.heap.size gs w') A b ∧ b.length ≤ cx ∧ b.length ≤ 10000000 | 1 => v = V | _ => True) (by kernel_rfl) (by kernel_rfl) (by decide) (by decide) (by kernel_rfl) (by kernel_rfl) ?_ (HD.out) ⟨?_, ?_, ?_, ?_, trivial⟩ ⟨?_, trivial⟩ ?_
    · intro i v w1 w2 hT h
      revert h
      split
      case h_2 => exact fun ⟨A, cx, e, hA, hc⟩ => ⟨A, cx, e, hA.turnG hT, hc⟩
      case h_3 => exact fun ⟨A, cx, e, hA, hc⟩ => ⟨A, cx, e, hA.turnG hT, hc⟩
      case h_4 => exact fun ⟨A, cx, r, e, hb, hr, hA, hc⟩ => ⟨A, cx, r, e, hb.turn hT hr, hr, hA.turnG hT, hc⟩
      all_goals exact id
    · intro u w1 hT hX hW a ha K hK
      simp only [List.cons_append, List.nil_append, puts, Act.put, List.setIfInBounds_toArray, List.set_cons_zero, List.set_cons_succ] at ha
      subst ha
      have HX := Lib.hid hX
      clear hX hW HD
      refine wpOp_run rfl (by rfl) ?_
      go_simp
      refine (HCa.out w1 HX.out.rdr).mono ?_
      rintro e w2 ⟨rfl, hr, hg⟩
      exact hK.out _ w2 ((Turn.ofGrown hg).wide HG.out.2.1) (HX.out.call hp hr hg) rfl
    · intro u w1 hT hX hW a ha K hK
      simp only [List.cons_append, List.nil_append, puts, Act.put, List.setIfInBounds_toArray, List.set_cons_zero, List.set_cons_succ] at ha
      subst ha
      have HX := Lib.hid hX
      clear hX hW HD
      refine wpOp_run rfl (by rfl) ?_
      go_simp
      refine (HCb.out w1 HX.out.rdr).mono ?_
      rintro e w2 ⟨A, cx, rfl, hA, hc, hl, hr, hg⟩
      exact hK.out _ w2 ((Turn.ofGrown hg).wide HG.out.2.1) (HX.out.call hp hr hg) ⟨A, cx, rfl, hA.ng HX.out.turn.size (HX.out.below hp HG.out.2.2), hc, hl⟩
    · intro u w1 hT hX hW a ha K hK
      simp only [List.cons_append, List.nil_append, puts, Act.put, List.setIfInBounds_toArray, List.set_cons_zero, List.set_cons_succ] at ha
      subst ha
      have HX := Lib.hid hX
      have f5 : u 5 = .int .i64 pw := hW 5 (by decide) (by kernel_rfl)
      obtain ⟨A, cx, f9, hA, hc, hl⟩ : ∃ A cx, u 9 = .slice A b.length cx ∧ RdS w1 (NG w.heap.size gs w1) A b ∧ b.length ≤ cx ∧ b.length ≤ 10000000 := hW 9 (by decide) (by kernel_rfl)
      have HA := Lib.hid (And.intro hA (And.intro hc hl))
      rw [f5, f9] at hK ⊢
      clear f5 f9 hA hc hl
      clear hX hW HD
      refine wpOp_run rfl (by rfl) ?_
      go_simp
      exact hK.out _ w1 (Turn.refl _ _) HX.out ⟨A, cx, rfl, HA.out⟩
    · intro u w1 hT hX hW a ha K hK
      simp only [List.cons_append, List.nil_append, puts, Act.put, List.setIfInBounds_toArray, List.set_cons_zero, List.set_cons_succ] at ha
      subst ha
      have HX := Lib.hid hX
      obtain ⟨A, cx, f10, hA, hc, hl⟩ : ∃ A cx, u 10 = .agg #[.int .i64 pw, .slice A b.length cx] ∧ RdS w1 (NG w.heap.size gs w1) A b ∧ b.length ≤ cx ∧ b.length ≤ 10000000 := hW 10 (by decide) (by kernel_rfl)
      have HA := Lib.hid (And.intro hA (And.intro hc hl))
      rw [f10] at hK ⊢
      clear f10 hA hc hl
      clear hX hW HD
      refine wpOp_run rfl (by rfl) ?_
      go_simp
      exact hK.out _ _ ((Turn.refl _ _).alloc _) (HX.out.alloc hp _) ⟨A, cx, _, rfl, Box.fresh w1 55 _, (fun hm => absurd (HX.out.below hp HG.out.2.2 _ hm) (Nat.lt_irrefl _)), HA.out.1.turnG ((Turn.refl _ _).alloc _), HA.out.2⟩
    · intro u w1 j hT hX hW a ha K hK
      simp only [List.cons_append, List.nil_append, puts, Act.put, List.setIfInBounds_toArray, List.set_cons_zero, List.set_cons_succ] at ha
      subst ha
      have HX := Lib.hid hX
      obtain ⟨y0, y1, y2, y3, y4, y5⟩ := box6 HX.out.var
      clear hX hW HD
      refine wpOp_run rfl (by rfl) ?_
      go_simp
      exact hK.out _ w1 (Turn.refl _ _) HX.out rfl
    · intro u w2 hT hX hF a ha
      simp only [List.cons_append, List.nil_append, puts, Act.put, List.setIfInBounds_toArray, List.set_cons_zero, List.set_cons_succ] at ha
      obtain ⟨g5, g9, g10, g11, g1, -⟩ := hF
      obtain ⟨A, cx, r, hr, hbx, hrg, hA, hc, hl⟩ := g11
      rw [g1, hr] at ha
      subst ha
      have HX : Hid (ZL c p w y2 g v0 v1 v2 v3 v4 V ps xs w2 ∧ Box w2 r 55 #[.int .i64 pw, .slice A b.length cx] ∧ RdS w2 (NB w.heap.size w2) A b ∧ b.length ≤ cx ∧ b.length ≤ 10000000) := ⟨hX, hbx, hA.mono (fun _ h => h.1), hc, hl⟩
      clear g1 g5 g9 g10 hr hbx hrg hA hc hl hT hX HD
      refine ⟨gs, fun k hk => Or.inl hk, ?_⟩
      generalize u 5 = u5, u 9 = u9, u 10 = u10
      refine wpG_do (i := 12) (by kernel_rfl) rfl (by rfl) (fun K hK => ?_)
      refine oper_row w2 49 55 (.agg #[.int .i64 0, .slice none 0 0]) 2 32 (.tmp 30) (.tmp 40) rfl Try.underlying49 Try.info55 rfl (by omega) w.heap.size V ps.length xs ⟨r, 0, none⟩ 1 1 [.int .i64 pw, .slice A b.length cx] rfl rfl HX.out.1.own rfl (row_cell HX.out.2.1) (by simp [Value.oneCell']) (by have := HPL.out; have := HNL.out; omega) (by omega) (by have := HX.out.1.turn.size; omega) ?_
      intro V' w3 ho hg
      obtain ⟨A2, a2, hv2⟩ := own_form ho
      subst hv2
      have HR := Lib.hid (HX.out.1.app hp ho hg HX.out.2.2.1 HX.out.2.2.2.1 HX.out.2.2.2.2 HG.out.2.2)
      refine hK.out _ _ HR.out.2.2.1 ?_
      clear hK ho hg HX
      simp only [Act.put, List.setIfInBounds_toArray, List.set_cons_zero, List.set_cons_succ]
      refine wpG_take (i := 13) (d := 42) (v := ?v4x13) rfl rfl (by kernel_rfl) (by kernel_rfl) (by kernel_rfl) (fun _ _ _ h => h) (by rfl) ?y4x13 ?r4x13
      case y4x13 => (intro w' hSw; go_simp; try (with_reducible rfl))
      simp only [Act.put, List.setIfInBounds_toArray, List.set_cons_zero, List.set_cons_succ]
      refine wpG_do (i := 14) (by kernel_rfl) rfl (by rfl) (fun K hK => ?_)
      obtain ⟨y0, y1, y2, y3, y4, y5⟩ := box6 HR.out.2.1
      obtain ⟨f0, f1, f2, f3, f4, f5⟩ := froz6 HR.out.2.1
      go_simp
      refine hK.out _ _ HR.out.2.2.2 ?_
      have HQ := Lib.hid HR.out.1
      generalize w3.setCell ⟨g, 5, none⟩ (.slice A2 (ps.length + 1) a2) = w4 at HQ ⊢
      clear hK HR y0 y1 y2 y3 y4 y5 f0 f1 f2 f3 f4 f5
      refine wpG_done (by kernel_rfl) ?_
      have hn2 := HNL.out
      go_wp2
      go_roundw
      case rel => exact ⟨m + 1, _, _, hlt, by go_num, by rw [HN.out]; exact HQ.out⟩
      case measure => simp [intOf]; omega
end Go.Proofs.Ytaceaemombnhkaa
