/- A row of zones beside the reader: what getState's loops hold. -/
import Derived.Test.YtaceaemombnhkaaGf
import Derived.Test.YtaceaemombnhkaaSj
namespace Go.Proofs.Ytaceaemombnhkaa
set_option linter.unusedVariables false
set_option maxRecDepth 100000
set_option linter.unusedSimpArgs false
open Go.RowKit
open Go.RowKit (wrap64)

theorem setsAt {g : Nat} {t : TypeId} : ∀ (vs xs r : List Value) (w : World), Box w g t (xs ++ r).toArray → vs.length ≤ r.length → Box (sets g xs.length vs w) g t (xs ++ vs ++ r.drop vs.length).toArray
  | [], xs, r, w, h, _ => by simpa [sets] using h
  | v :: vs, xs, [], w, h, hn => absurd hn (by simp)
  | v :: vs, xs, y :: r, w, h, hn => by
    have h1 : Box (w.setCell ⟨g, xs.length, none⟩ v) g t ((xs ++ [v]) ++ r).toArray := by
      have h2 := h.store xs.length v
      simpa using h2
    have h3 := setsAt vs (xs ++ [v]) r _ h1 (by simpa using hn)
    have e : (xs ++ [v]).length = xs.length + 1 := by simp
    rw [e] at h3
    simpa [sets] using h3
theorem setsTurn {g : Nat} {gs : List Nat} (hg : g ∈ gs) : ∀ (vs : List Value) (i : Nat) (w0 w : World), Turn gs w0 w → Turn gs w0 (sets g i vs w)
  | [], _, _, _, h => h
  | v :: vs, i, w0, w, h => setsTurn hg vs (i + 1) w0 _ (h.put (Or.inl hg) v)
/-- A row of zones' cells. -/
def ZsRow (w : World) (S : Nat → Prop) : List Zn → List Value → Prop
  | [], xs => xs = []
  | z :: zs, xs => ∃ Y y xs', xs = .int .i64 z.gen :: .int .i64 z.slot :: .bool z.full :: .int .i64 z.w :: .bool z.whole :: .slice Y z.ps.length y :: xs' ∧ PrsAt w S Y z.ps ∧ z.ps.length ≤ y ∧ z.ps.length ≤ 140737488351232 ∧ ZsRow w S zs xs'
theorem ZsRow.snoc {w : World} {S : Nat → Prop} : ∀ {zs : List Zn} {xs : List Value} {z : Zn} {Y : Option Addr} {y : Nat}, ZsRow w S zs xs → PrsAt w S Y z.ps → z.ps.length ≤ y → z.ps.length ≤ 140737488351232 → ZsRow w S (zs ++ [z]) (xs ++ [.int .i64 z.gen, .int .i64 z.slot, .bool z.full, .int .i64 z.w, .bool z.whole, .slice Y z.ps.length y])
  | [], _, _, X, x, rfl, h1, h2, h3 => ⟨X, x, [], rfl, h1, h2, h3, rfl⟩
  | q :: ps, _, p, X, x, ⟨Y, y, xs', rfl, g1, g2, g3, g4⟩, h1, h2, h3 => ⟨Y, y, _, rfl, g1, g2, g3, g4.snoc h1 h2 h3⟩
theorem ZsRow.length {w : World} {S : Nat → Prop} : ∀ {zs : List Zn} {xs : List Value}, ZsRow w S zs xs → xs.length = zs.length * 6
  | [], _, rfl => rfl
  | _ :: _, _, ⟨_, _, _, rfl, _, _, _, g4⟩ => by simp [g4.length]; omega
theorem ZsRow.map {w w' : World} {S S' : Nat → Prop} (hr : ∀ A l, PrsAt w S A l → PrsAt w' S' A l) : ∀ {zs : List Zn} {xs : List Value}, ZsRow w S zs xs → ZsRow w' S' zs xs
  | [], _, h => h
  | _ :: _, _, ⟨Y, y, xs', e, g1, g2, g3, g4⟩ => ⟨Y, y, xs', e, hr _ _ g1, g2, g3, g4.map hr⟩
theorem ZsRow.at_ {w : World} {S : Nat → Prop} {g off : Nat} : ∀ {zs : List Zn} {xs : List Value} {m : Nat}, ZsRow w S zs xs → (∀ j, j < xs.length → w.cell? ⟨g, off + (m * 6 + j), none⟩ = xs[j]?) → ∀ j (hj : j < zs.length), ZnAt w S g (off + (m + j) * 6) zs[j]
  | z :: zs, _, m, ⟨X, x, xs', rfl, g1, g2, g3, g4⟩, hc, 0, _ => by
    have hh := fun (i : Nat) (hi : i < 6) => hc i (by simp; omega)
    refine ⟨X, x, ?_, ?_, ?_, ?_, ?_, ?_, g1, g2, g3⟩
    · simpa [Nat.add_mul, Nat.add_assoc] using hh 0 (by omega)
    · simpa [Nat.add_mul, Nat.add_assoc] using hh 1 (by omega)
    · simpa [Nat.add_mul, Nat.add_assoc] using hh 2 (by omega)
    · simpa [Nat.add_mul, Nat.add_assoc] using hh 3 (by omega)
    · simpa [Nat.add_mul, Nat.add_assoc] using hh 4 (by omega)
    · simpa [Nat.add_mul, Nat.add_assoc] using hh 5 (by omega)
  | z :: zs, _, m, ⟨X, x, xs', rfl, g1, g2, g3, g4⟩, hc, j + 1, hj => by
    have := ZsRow.at_ (m := m + 1) g4 (fun i hi => by
      have := hc (i + 6) (by simp; omega)
      rw [show m * 6 + (i + 6) = (m + 1) * 6 + i by omega] at this
      simpa using this) j (by simpa using hj)
    rw [show m + 1 + j = m + (j + 1) by omega] at this
    exact this
/-- Region 1 of getState: the reader, the bounds, the settings, the answer's block. -/
def SIn (c : Cf) (p : Nat) (w : World) (x : List UInt8 × Int) (w1 : World) : Prop := Rdr w1 p x.1 x.2 ∧ Box w1 w.heap.size 81 #[.int .i64 1, .int .i64 1099511627776, .int .i64 0, .int .i64 1099511627776, .int .i64 0, .int .i64 2, .int .i64 0, .int .i64 1099511627776, .int .i64 (-1), .int .i64 (slotsC c - 1), .int .i64 0, .int .i64 (sizeC c), .int .i64 0, .int .i64 2, .int .i64 1, .int .i64 (sizeC c), .int .i64 (c.u * c.b)] ∧ Box w1 (w.heap.size + 1) 23 #[.int .i64 c.id, .int .i64 c.m, .int .i64 c.u, .int .i64 c.b, .int .i64 c.cp, .int .i64 c.z, .int .i64 c.s, .int .i64 c.mt, .int .i64 c.o, .int .i64 c.a, .int .i64 c.l] ∧ Box w1 (w.heap.size + 2) 27 #[.int .i64 0, .int .i64 0, .int .i64 0, .int .i64 0, .int .i64 0, .int .i64 0, .int .i64 0, .int .i64 0, .int .i64 0, .int .i64 0, .int .i64 0, .int .i64 0, .int .i64 0, .slice none 0 0, .slice none 0 0] ∧ Turn [p] w w1 ∧ w.heap.size + 3 ≤ w1.heap.size
section
variable {c : Cf} {p : Nat} {w w1 w2 : World} {x y : List UInt8 × Int}
theorem SIn.call (hp : p < w.heap.size) (h : SIn c p w x w1) (hr : Rdr w2 p y.1 y.2) (hg : w1.grownBy w2 (some p)) : SIn c p w y w2 :=
  ⟨hr, h.2.1.turn (Turn.ofGrown hg) (by simp; omega), h.2.2.1.turn (Turn.ofGrown hg) (by simp; omega), h.2.2.2.1.turn (Turn.ofGrown hg) (by simp; omega), h.2.2.2.2.1.trans (Turn.ofGrown hg), Nat.le_trans h.2.2.2.2.2 hg.size⟩
theorem SIn.alloc (hp : p < w.heap.size) (h : SIn c p w x w1) (o : Obj) : SIn c p w x (w1.alloc o) := by
  have hb : Below w1.heap.size w1 (w1.alloc o) := (Below.refl _ _).alloc (Nat.le_refl _) _
  have := h.2.2.2.2.2
  exact ⟨h.1.below hb (by omega), h.2.1.later hb, h.2.2.1.later hb, h.2.2.2.1.later hb, h.2.2.2.2.1.alloc _, by simp; omega⟩
end
/-- What the loops hold. -/
structure SL (c : Cf) (p : Nat) (w : World) (x : List UInt8 × Int) (g b1 b2 : Nat) (ep sq : Int) (m n : Nat) (I : List Int) (zs : List Zn) (xs r : List Value) (wr : World) : Prop where
  rdr : Rdr wr p x.1 x.2
  bnd : Box wr w.heap.size 81 #[.int .i64 1, .int .i64 1099511627776, .int .i64 0, .int .i64 1099511627776, .int .i64 0, .int .i64 2, .int .i64 0, .int .i64 1099511627776, .int .i64 (-1), .int .i64 (slotsC c - 1), .int .i64 0, .int .i64 (sizeC c), .int .i64 0, .int .i64 2, .int .i64 1, .int .i64 (sizeC c), .int .i64 (c.u * c.b)]
  ret : Box wr (w.heap.size + 2) 27 #[.int .i64 0, .int .i64 0, .int .i64 0, .int .i64 0, .int .i64 0, .int .i64 0, .int .i64 0, .int .i64 0, .int .i64 0, .int .i64 0, .int .i64 0, .int .i64 0, .int .i64 0, .slice none 0 0, .slice none 0 0]
  var : Box wr g 27 #[.int .i64 c.id, .int .i64 c.m, .int .i64 c.u, .int .i64 c.b, .int .i64 c.cp, .int .i64 c.z, .int .i64 c.s, .int .i64 c.mt, .int .i64 c.o, .int .i64 c.a, .int .i64 c.l, .int .i64 ep, .int .i64 sq, .slice (some ⟨b1, 0, none⟩) m m, .slice (some ⟨b2, 0, none⟩) n n]
  ints : Box wr b1 3 (I.map (Value.int .i64)).toArray
  zons : Box wr b2 51 (xs ++ r).toArray
  row : ZsRow wr (TB w.heap.size wr) zs xs
  turn : Turn [p] w wr
  lo : w.heap.size + 3 ≤ g ∧ w.heap.size + 3 ≤ b1 ∧ w.heap.size + 3 ≤ b2
theorem put15 {w w0 : World} {g n : Nat} {t : TypeId} {cs : Array Value} (a0 a1 a2 a3 a4 a5 a6 a7 a8 a9 a10 a11 a12 a13 a14 : Value) (h : Box w g t cs) (hn : cs.size = 15) (hb : Below n w0 w) (hg : n ≤ g) : Box (((((((((((((((w.setCell ⟨g, 0, none⟩ (a0)).setCell ⟨g, 1, none⟩ (a1)).setCell ⟨g, 2, none⟩ (a2)).setCell ⟨g, 3, none⟩ (a3)).setCell ⟨g, 4, none⟩ (a4)).setCell ⟨g, 5, none⟩ (a5)).setCell ⟨g, 6, none⟩ (a6)).setCell ⟨g, 7, none⟩ (a7)).setCell ⟨g, 8, none⟩ (a8)).setCell ⟨g, 9, none⟩ (a9)).setCell ⟨g, 10, none⟩ (a10)).setCell ⟨g, 11, none⟩ (a11)).setCell ⟨g, 12, none⟩ (a12)).setCell ⟨g, 13, none⟩ (a13)).setCell ⟨g, 14, none⟩ (a14)) g t #[a0, a1, a2, a3, a4, a5, a6, a7, a8, a9, a10, a11, a12, a13, a14] ∧ Below n w0 (((((((((((((((w.setCell ⟨g, 0, none⟩ (a0)).setCell ⟨g, 1, none⟩ (a1)).setCell ⟨g, 2, none⟩ (a2)).setCell ⟨g, 3, none⟩ (a3)).setCell ⟨g, 4, none⟩ (a4)).setCell ⟨g, 5, none⟩ (a5)).setCell ⟨g, 6, none⟩ (a6)).setCell ⟨g, 7, none⟩ (a7)).setCell ⟨g, 8, none⟩ (a8)).setCell ⟨g, 9, none⟩ (a9)).setCell ⟨g, 10, none⟩ (a10)).setCell ⟨g, 11, none⟩ (a11)).setCell ⟨g, 12, none⟩ (a12)).setCell ⟨g, 13, none⟩ (a13)).setCell ⟨g, 14, none⟩ (a14)) := by
  have h1 := sets_box0 [a0, a1, a2, a3, a4, a5, a6, a7, a8, a9, a10, a11, a12, a13, a14] h hn
  have h2 := sets_below (g := g) [a0, a1, a2, a3, a4, a5, a6, a7, a8, a9, a10, a11, a12, a13, a14] 0 w hb hg
  simp only [sets, Nat.zero_add, Nat.reduceAdd] at h1 h2
  exact ⟨h1, h2⟩
theorem turn15 {w : World} {g : Nat} {gs : List Nat} (a0 a1 a2 a3 a4 a5 a6 a7 a8 a9 a10 a11 a12 a13 a14 : Value) (hg : g ∈ gs) : Turn gs w (((((((((((((((w.setCell ⟨g, 0, none⟩ (a0)).setCell ⟨g, 1, none⟩ (a1)).setCell ⟨g, 2, none⟩ (a2)).setCell ⟨g, 3, none⟩ (a3)).setCell ⟨g, 4, none⟩ (a4)).setCell ⟨g, 5, none⟩ (a5)).setCell ⟨g, 6, none⟩ (a6)).setCell ⟨g, 7, none⟩ (a7)).setCell ⟨g, 8, none⟩ (a8)).setCell ⟨g, 9, none⟩ (a9)).setCell ⟨g, 10, none⟩ (a10)).setCell ⟨g, 11, none⟩ (a11)).setCell ⟨g, 12, none⟩ (a12)).setCell ⟨g, 13, none⟩ (a13)).setCell ⟨g, 14, none⟩ (a14)) := by
  have h2 := setsTurn hg [a0, a1, a2, a3, a4, a5, a6, a7, a8, a9, a10, a11, a12, a13, a14] 0 w w (Turn.refl _ _)
  simp only [sets, Nat.zero_add, Nat.reduceAdd] at h2
  exact h2
section
variable {c : Cf} {p : Nat} {w w1 w2 : World} {x y : List UInt8 × Int} {g b1 b2 : Nat} {ep sq : Int} {m n : Nat} {I : List Int} {zs : List Zn} {xs r : List Value}
theorem ZsRow.tb {lo : Nat} (h : ZsRow w1 (TB lo w1) zs xs) (hk : ∀ k, TB lo w1 k → w2.heap[k]? = w1.heap[k]?) : ZsRow w2 (TB lo w2) zs xs := h.map fun _ _ h => h.tb hk
theorem SIn.store {w3 : World} (hp : p < w.heap.size) (h : SIn c p w x w2) (hb : Box w2 g 27 #[.int .i64 0, .int .i64 0, .int .i64 0, .int .i64 0, .int .i64 0, .int .i64 0, .int .i64 0, .int .i64 0, .int .i64 0, .int .i64 0, .int .i64 0, .int .i64 0, .int .i64 0, .slice none 0 0, .slice none 0 0]) (h1 : Box w2 b1 3 (zintRow m).toArray) (h2 : Box w2 b2 51 (nzRow n 0).toArray) (lo : w.heap.size + 3 ≤ g ∧ w.heap.size + 3 ≤ b1 ∧ w.heap.size + 3 ≤ b2)
    (q1 : Box w3 g 27 #[.int .i64 c.id, .int .i64 c.m, .int .i64 c.u, .int .i64 c.b, .int .i64 c.cp, .int .i64 c.z, .int .i64 c.s, .int .i64 c.mt, .int .i64 c.o, .int .i64 c.a, .int .i64 c.l, .int .i64 ep, .int .i64 sq, .slice (some ⟨b1, 0, none⟩) m m, .slice (some ⟨b2, 0, none⟩) n n]) (ht : Turn [g] w2 w3) : SL c p w x g b1 b2 ep sq m n (List.replicate m 0) [] [] (nzRow n 0) w3 := by
  have q2 : Below (w.heap.size + 3) w2 w3 := ht.below (fun k hk => by have : k = g := by { simpa using hk }; omega) (by have := h.2.2.2.2.2; omega)
  refine ⟨h.1.below q2 (by omega), h.2.1.under q2 (by omega), h.2.2.2.1.under q2 (by omega), q1, h1.turn ht (by simpa using h1.apart hb (by decide)), ?_, rfl, h.2.2.2.2.1.to ht (fun k hk => ?_), lo⟩
  · exact h2.turn ht (by simpa using h2.apart hb (by decide))
  · right
    have : k = g := by simpa using hk
    omega
theorem SL.call (hp : p < w.heap.size) (h : SL c p w x g b1 b2 ep sq m n I zs xs r w1) (hr : Rdr w2 p y.1 y.2) (hg : w1.grownBy w2 (some p)) : SL c p w y g b1 b2 ep sq m n I zs xs r w2 := by
  have lo := h.lo
  have ht := Turn.ofGrown hg
  exact ⟨hr, h.bnd.turn ht (by simp; omega), h.ret.turn ht (by simp; omega), h.var.turn ht (by simp; omega), h.ints.turn ht (by simp; omega), h.zons.turn ht (by simp; omega), h.row.tb (fun k hk => hg.block k hk.lt (by have := hk.1; simp; omega)), h.turn.trans ht, lo⟩
theorem SL.drew (h : SL c p w x g b1 b2 ep sq m n I zs xs r w1) : SL c p w x g b1 b2 ep sq m n I zs xs r w1.drew :=
  ⟨h.rdr.below (Below.refl _ _).drew (by obtain ⟨A, k, hb, _⟩ := h.rdr; exact hb.lt), h.bnd, h.ret, h.var, h.ints, h.zons, h.row.tb (fun k hk => rfl), h.turn.drew, h.lo⟩
theorem SL.setI (hp : p < w.heap.size) (h : SL c p w x g b1 b2 ep sq m n I zs xs r w1) (q : Nat) (v : Int) : SL c p w x g b1 b2 ep sq m n (I.set q v) zs xs r (w1.setCell ⟨b1, q, none⟩ (.int .i64 v)) ∧ Turn [p, b1] w1 (w1.setCell ⟨b1, q, none⟩ (.int .i64 v)) := by
  have lo := h.lo
  have hs := h.turn.size
  have ht : Turn [b1] w1 (w1.setCell ⟨b1, q, none⟩ (.int .i64 v)) := (Turn.refl _ _).put (Or.inl (by simp)) _
  have hb : Below (w.heap.size + 3) w1 (w1.setCell ⟨b1, q, none⟩ (.int .i64 v)) := (Below.refl _ _).setCell (by exact lo.2.1) _
  refine ⟨⟨h.rdr.below hb (by omega), h.bnd.turn ht (by simp; omega), h.ret.turn ht (by simp; omega), h.var.turn ht (by simpa using h.var.apart h.ints (by decide)), ?_, h.zons.turn ht (by simpa using h.zons.apart h.ints (by decide)), h.row.tb (fun k hk => ht.block k hk.lt (by simpa using hk.box h.ints (by decide) (by decide))), h.turn.to ht (fun k hk => ?_), lo⟩, (Turn.refl _ _).put (Or.inl (by simp)) _⟩
  · have := h.ints.store q (.int .i64 v)
    rw [List.map_set]
    simpa using this
  · right
    have : k = b1 := by simpa using hk
    omega
theorem SL.setZ {z : Zn} {Y : Option Addr} {yc q : Nat} (hp : p < w.heap.size) (h : SL c p w x g b1 b2 ep sq m n I zs xs r w1) (hq : zs.length = q) (hY : PrsAt w1 (TB w.heap.size w1) Y z.ps) (hy : z.ps.length ≤ yc) (hy2 : z.ps.length ≤ 2) (hr : 6 ≤ r.length) :
    SL c p w x g b1 b2 ep sq m n I (zs ++ [z]) (xs ++ [.int .i64 z.gen, .int .i64 z.slot, .bool z.full, .int .i64 z.w, .bool z.whole, .slice Y z.ps.length yc]) (r.drop 6) (sets b2 (q * 6) [.int .i64 z.gen, .int .i64 z.slot, .bool z.full, .int .i64 z.w, .bool z.whole, .slice Y z.ps.length yc] w1) ∧ Turn [p, b2] w1 (sets b2 (q * 6) [.int .i64 z.gen, .int .i64 z.slot, .bool z.full, .int .i64 z.w, .bool z.whole, .slice Y z.ps.length yc] w1) := by
  have lo := h.lo
  have hs := h.turn.size
  have hx := h.row.length
  rw [hq] at hx
  have ht := setsTurn (g := b2) (gs := [b2]) (by simp) [.int .i64 z.gen, .int .i64 z.slot, .bool z.full, .int .i64 z.w, .bool z.whole, .slice Y z.ps.length yc] (q * 6) w1 w1 (Turn.refl _ _)
  have hb := sets_below (g := b2) [.int .i64 z.gen, .int .i64 z.slot, .bool z.full, .int .i64 z.w, .bool z.whole, .slice Y z.ps.length yc] (q * 6) w1 (Below.refl (w.heap.size + 3) w1) lo.2.2
  have hz := setsAt [.int .i64 z.gen, .int .i64 z.slot, .bool z.full, .int .i64 z.w, .bool z.whole, .slice Y z.ps.length yc] xs r w1 h.zons hr
  rw [hx] at hz
  have hk : ∀ k, TB w.heap.size w1 k → (sets b2 (q * 6) [.int .i64 z.gen, .int .i64 z.slot, .bool z.full, .int .i64 z.w, .bool z.whole, .slice Y z.ps.length yc] w1).heap[k]? = w1.heap[k]? := fun k hk => ht.block k hk.lt (by simpa using hk.box h.zons (by decide) (by decide))
  refine ⟨⟨h.rdr.below hb (by omega), h.bnd.turn ht (by simp; omega), h.ret.turn ht (by simp; omega), h.var.turn ht (by simpa using h.var.apart h.zons (by decide)), h.ints.turn ht (by simpa using h.ints.apart h.zons (by decide)), hz, (h.row.tb hk).snoc (hY.tb hk) hy (by omega), h.turn.to ht (fun k hk => ?_), lo⟩, setsTurn (by simp) _ _ _ _ (Turn.refl _ _)⟩
  right
  have : k = b2 := by simpa using hk
  omega
end
/-- The blocks that are new, and hold no state and no reader. -/
def NW (lo : Nat) (w : World) : Nat → Prop := fun k => lo ≤ k ∧ ∃ cs t mk, w.heap[k]? = some (.cells cs t mk) ∧ t ≠ 27 ∧ t ≠ 115
theorem NW.lt {lo k : Nat} {w : World} (h : NW lo w k) : k < w.heap.size := by
  obtain ⟨_, _, _, _, h, _⟩ := h
  exact (Array.getElem?_eq_some_iff.1 h).1
theorem NW.box {w : World} {lo k g : Nat} {t : TypeId} {cs : Array Value} (h : NW lo w k) (hb : Box w g t cs) (ht : t = 27 ∨ t = 115) : k ≠ g := by
  rintro rfl
  obtain ⟨_, cs', t', mk, h, h1, h2⟩ := h
  have hh : w.heap[k]? = some (.cells cs t (0, 0)) := hb
  rw [hh] at h
  simp at h
  obtain ⟨_, rfl, _⟩ := h
  exact ht.elim h1 h2
theorem NW.keep {lo : Nat} {w w' : World} (hk : ∀ k, NW lo w k → w'.heap[k]? = w.heap[k]?) {A : Option Addr} {st : List Int} {k : Nat} {D : Option Addr} {zs : List Zn} {d : Nat} (hs : StAt w (NW lo w) A st k D zs d) : StAt w' (NW lo w') A st k D zs d :=
  (hs.keep (S := NW lo w) (w' := w') hk).mono (fun k hN => by
    obtain ⟨h1, cs, t, mk, h2, h3⟩ := id hN
    exact ⟨h1, cs, t, mk, (hk k hN).trans h2, h3⟩)
theorem TB.nw {lo k : Nat} {w : World} (h : TB lo w k) : NW lo w k := by
  obtain ⟨h1, cs, t, mk, h2, h3⟩ := h
  exact ⟨h1, cs, t, mk, h2, by rcases h3 with rfl | rfl <;> decide, by rcases h3 with rfl | rfl <;> decide⟩
theorem SL.fin {c : Cf} {p : Nat} {w w1 w2 : World} {x : List UInt8 × Int} {g b1 b2 : Nat} {ep sq : Int} {m n : Nat} {I : List Int} {zs : List Zn} {xs r : List Value} (hp : p < w.heap.size) (h : SL c p w x g b1 b2 ep sq m n I zs xs r w1) (hI : I.length = m) (hZ : zs.length = n) (ht : Turn [w.heap.size + 2] w1 w2) :
    StAt w2 (NW w.heap.size w2) (some ⟨b1, 0, none⟩) I m (some ⟨b2, 0, none⟩) zs n ∧ Rdr w2 p x.1 x.2 ∧ Turn [p] w w2 := by
  have lo := h.lo
  have hs := h.turn.size
  have q2 : Below (w.heap.size + 2) w1 w2 := ht.below (fun k hk => by have : k = w.heap.size + 2 := by { simpa using hk }; omega) (by have := h.ret.lt; omega)
  have hi := h.ints.turn ht (by simp; omega)
  have hz := h.zons.turn ht (by simp; omega)
  have hrow := h.row.tb (w2 := w2) (fun k hk => ht.block k hk.lt (by simpa using hk.box h.ret (by decide) (by decide)))
  refine ⟨⟨fun _ => ⟨b1, 0, rfl, ⟨by omega, _, 3, _, hi, by decide, by decide⟩, fun j hj => ?_⟩, fun _ => ⟨b2, 0, rfl, ⟨by omega, _, 51, _, hz, by decide, by decide⟩, fun j hj => ?_⟩, by omega, by omega⟩, h.rdr.below q2 (by omega), h.turn.to ht (fun k hk => ?_)⟩
  · rw [Nat.zero_add, hi.cell j, List.getElem?_toArray, List.getElem?_map, List.getElem?_eq_getElem hj]
    rfl
  · have h1 := ZsRow.at_ (g := b2) (off := 0) (m := 0) hrow (fun i hi => by
      rw [Nat.zero_mul, Nat.zero_add, Nat.zero_add, hz.cell i, List.getElem?_toArray, List.getElem?_append_left hi]) j hj
    simp only [Nat.zero_add] at h1 ⊢
    exact h1.mono (S' := NW w.heap.size w2) (fun k hk => hk.nw)
  · right
    have : k = w.heap.size + 2 := by simpa using hk
    omega
/-- A whole row stored. -/
theorem row_store {w : World} {g : Nat} {t : TypeId} {old : Array Value} (cs : Array Value) (h : Box w g t old) : Box (w.setRow g cs) g t cs ∧ (∀ gs, g ∈ gs → Turn gs w (w.setRow g cs)) := by
  refine ⟨setRow_heap w g old cs t _ h, fun gs hg => ⟨rfl, rfl, rfl, by simp, fun k hk hn => setRow_other w g k cs (fun e => hn (by subst e; exact hg))⟩⟩
theorem Try.size27 : (Try.prog.info? 27).map (·.size) = some 15 := by kernel_rfl
theorem Try.size51 : (Try.prog.info? 51).map (·.size) = some 6 := by kernel_rfl
/-- A state loaded whole, and stored whole. -/
theorem oper_load27 {o : Oper} {a : Act} {w : World} {K : Act → World → Prop} {Q : Exit → Act → World → Prop} (x : Operand) (ho : o.op = .load 27 x) (g : Nat) (cs : Array Value) (hg : Box w g 27 cs) (hn : cs.size = 15) (hx : a.eval x = .pointer (some ⟨g, 0, none⟩))
    (h : K (a.put o.dst (.agg cs)) w) : o.wp Try.prog a w K Q := by
  exact wp_load_row 27 x ho g hx 27 cs (0, 0) _ hg rfl rfl (by rw [hn]; exact Try.size27) h
theorem list_load27 {ops : Array Oper} {rest : List Oper} {o : Oper} {a : Act} {w : World} {Q : Exit → Act → World → Prop} (hgd : o.guard = none) (x : Operand) (ho : o.op = .load 27 x) (g : Nat) (cs : Array Value) (hg : Box w g 27 cs) (hn : cs.size = 15) (hx : a.eval x = .pointer (some ⟨g, 0, none⟩))
    (h : wpList Try.prog ops Q rest (a.put o.dst (.agg cs)) w) : wpList Try.prog ops Q (o :: rest) a w :=
  wpList_plain hgd fun _ hK => oper_load27 x ho g cs hg hn hx (hK _ _ h)
theorem oper_store27 {o : Oper} {a : Act} {w : World} {K : Act → World → Prop} {Q : Exit → Act → World → Prop} (x y : Operand) (ho : o.op = .store 27 x y) (g : Nat) (cs old : Array Value) (hg : Box w g 27 old) (ho2 : old.size = 15) (hn : cs.size = 15) (h1 : cs.all (·.oneCell') = true) (hx : a.eval x = .pointer (some ⟨g, 0, none⟩)) (hy : a.eval y = .agg cs)
    (h : ∀ w', Box w' g 27 cs → (∀ gs, g ∈ gs → Turn gs w w') → K (a.put o.dst undef) w') : o.wp Try.prog a w K Q :=
  wp_store_row 27 x y ho g cs hx hy 27 old hg (by rw [hn]; exact Try.size27) (by omega) h1 (h _ (row_store cs hg).1 (row_store cs hg).2)
theorem list_store27 {ops : Array Oper} {rest : List Oper} {o : Oper} {a : Act} {w : World} {Q : Exit → Act → World → Prop} (hgd : o.guard = none) (x y : Operand) (ho : o.op = .store 27 x y) (g : Nat) (cs old : Array Value) (hg : Box w g 27 old) (ho2 : old.size = 15) (hn : cs.size = 15) (h1 : cs.all (·.oneCell') = true) (hx : a.eval x = .pointer (some ⟨g, 0, none⟩)) (hy : a.eval y = .agg cs)
    (h : ∀ w', Box w' g 27 cs → (∀ gs, g ∈ gs → Turn gs w w') → wpList Try.prog ops Q rest (a.put o.dst undef) w') : wpList Try.prog ops Q (o :: rest) a w :=
  wpList_plain hgd fun _ hK => oper_store27 x y ho g cs old hg ho2 hn h1 hx hy (fun w' q1 q2 => hK _ _ (h w' q1 q2))
theorem results27 {fn : Func} {p : Tmp} (hf : fn.results = #[.cell p 27]) (tmps : Array Value) (w : World) (g : Nat) (cs : Array Value) (hp : tmps.getD p undef = .pointer (some ⟨g, 0, none⟩)) (hg : Box w g 27 cs) (hn : cs.size = 15) : (results fn tmps).run Try.prog w = .ok (.agg cs) w := by
  exact results_cell_row hf tmps w g 27 cs (0, 0) _ hp hg rfl rfl (by rw [hn]; exact Try.size27)
theorem getIs_step (m : Nat) (x : List UInt8 × Int) {v : Int} {y : List UInt8 × Int} {I : List Int} {X : List UInt8 × Int} (h : getIs m x = (I, X)) (h2 : rI X.1 X.2 0 2 = (v, y)) : getIs (m + 1) x = (I ++ [v], y) := by
  show ((getIs m x).1 ++ [(rI (getIs m x).2.1 (getIs m x).2.2 0 2).1], (rI (getIs m x).2.1 (getIs m x).2.2 0 2).2) = _
  rw [h]
  dsimp only
  rw [h2]
theorem getZs_step {sl sz pb : Int} (m : Nat) (x : List UInt8 × Int) {z : Zn} {y : List UInt8 × Int} {zs : List Zn} {X : List UInt8 × Int} (h : getZs sl sz pb m x = (zs, X)) (h2 : getZ sl sz pb X = (z, y)) : getZs sl sz pb (m + 1) x = (zs ++ [z], y) := by
  show ((getZs sl sz pb m x).1 ++ [(getZ sl sz pb (getZs sl sz pb m x).2).1], (getZ sl sz pb (getZs sl sz pb m x).2).2) = _
  rw [h]
  dsimp only
  rw [h2]
theorem set_zeros {I : List Int} {q k : Nat} (hI : I.length = q) (hk : 0 < k) (v : Int) : (I ++ List.replicate k 0).set q v = (I ++ [v]) ++ List.replicate (k - 1) 0 := by
  obtain ⟨k, rfl⟩ : ∃ k', k = k' + 1 := ⟨k - 1, by omega⟩
  subst hI
  simp [List.replicate_succ]
end Go.Proofs.Ytaceaemombnhkaa
