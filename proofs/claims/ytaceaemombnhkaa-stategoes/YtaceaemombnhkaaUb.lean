/- The contract of fits. -/
import Derived.Test.YtaceaemombnhkaaUa
import Derived.BigQuiet
namespace Go.Proofs.Ytaceaemombnhkaa
set_option linter.unusedVariables false
set_option maxRecDepth 100000
set_option linter.unusedSimpArgs false
open Go.RowKit
open Go.RowKit (wrap64)

/-- May a record n with body b come behind zone z? -/
def FitsR (c : Cf) (st : List Int) (zs : List Zn) (z : Zn) (n : Nat → Int) (b : List UInt8) : Prop :=
  (n 0 = 1 ∧ z.slot = -1 ∧ z.full = false ∧ n 4 = z.gen ∧ n 5 ∈ freeL c zs) ∨
  (n 0 = 2 ∧ n 4 = z.gen + 1 ∧ 0 ≤ n 4 ∧ n 4 ≤ 1099511627776) ∨
  (n 0 = 5 ∧ z.slot ≠ -1 ∧ 2 ∈ st) ∨
  (n 0 = 4 ∧ n 4 = z.gen ∧ n 6 ≠ 0 ∧ (b.length : Int) = c.u * c.b ∧ z.full = false ∧ EndR c (n 6) (z.slot ≠ -1)) ∨
  (n 0 = 3 ∧ z.full = false ∧ EndR c (n 6) (z.slot ≠ -1))
/-- The three values boxed, and the zone. -/
def FitIn (c : Cf) (ep sq : Int) (A : Option Addr) (st : List Int) (k : Nat) (D : Option Addr) (zs : List Zn) (d : Nat) (n : Nat → Int) (X : Option Addr) (b : List UInt8) (x : Nat) (gen slot : Int) (full : Bool) (zw : Int) (whole : Bool) (ps : List Pr) (Y : Option Addr) (y : Nat) (w w0 : World) : Prop :=
  Box w0 w.heap.size 81 #[.int .i64 1, .int .i64 1099511627776, .int .i64 0, .int .i64 1099511627776, .int .i64 0, .int .i64 2, .int .i64 0, .int .i64 1099511627776, .int .i64 (-1), .int .i64 (slotsC c - 1), .int .i64 0, .int .i64 (sizeC c), .int .i64 0, .int .i64 2, .int .i64 1, .int .i64 (sizeC c), .int .i64 (c.u * c.b)] ∧ Box w0 (w.heap.size + 1) 27 #[.int .i64 c.id, .int .i64 c.m, .int .i64 c.u, .int .i64 c.b, .int .i64 c.cp, .int .i64 c.z, .int .i64 c.s, .int .i64 c.mt, .int .i64 c.o, .int .i64 c.a, .int .i64 c.l, .int .i64 ep, .int .i64 sq, .slice A st.length k, .slice D zs.length d] ∧ Box w0 (w.heap.size + 2) 30 #[.int .i64 (n 0), .int .i64 (n 1), .int .i64 (n 2), .int .i64 (n 3), .int .i64 (n 4), .int .i64 (n 5), .int .i64 (n 6), .int .i64 (n 7), .int .i64 (n 8), .slice X b.length x] ∧ Box w0 (w.heap.size + 3) 51 #[.int .i64 gen, .int .i64 slot, .bool full, .int .i64 zw, .bool whole, .slice Y ps.length y] ∧ StAt w0 (LT w0.heap.size) A st k D zs d ∧ Below w.heap.size w w0 ∧ w.heap.size + 4 ≤ w0.heap.size
section
variable {c : Cf} {ep sq : Int} {A : Option Addr} {st : List Int} {k : Nat} {D : Option Addr} {zs : List Zn} {d : Nat} {n : Nat → Int} {X : Option Addr} {b : List UInt8} {x : Nat} {gen slot : Int} {full : Bool} {zw : Int} {whole : Bool} {ps : List Pr} {Y : Option Addr} {y : Nat} {w w0 w1 : World}
theorem FitIn.later (h : FitIn c ep sq A st k D zs d n X b x gen slot full zw whole ps Y y w w0) (hb : Below w0.heap.size w0 w1) : FitIn c ep sq A st k D zs d n X b x gen slot full zw whole ps Y y w w1 :=
  ⟨h.1.later hb, h.2.1.later hb, h.2.2.1.later hb, h.2.2.2.1.later hb, h.2.2.2.2.1.later hb, h.2.2.2.2.2.1.trans (hb.mono (by have := h.2.2.2.2.2.2; omega)), Nat.le_trans h.2.2.2.2.2.2 hb.size⟩
end
theorem three_boxes (w : World) (t u v : TypeId) (a b d : Array Value) : Box (((w.alloc (.cells a t)).alloc (.cells b u)).alloc (.cells d v)) w.heap.size t a ∧ Box (((w.alloc (.cells a t)).alloc (.cells b u)).alloc (.cells d v)) (w.heap.size + 1) u b ∧ Box (((w.alloc (.cells a t)).alloc (.cells b u)).alloc (.cells d v)) (w.heap.size + 2) v d ∧ Below w.heap.size w (((w.alloc (.cells a t)).alloc (.cells b u)).alloc (.cells d v)) ∧ (((w.alloc (.cells a t)).alloc (.cells b u)).alloc (.cells d v)).heap.size = w.heap.size + 3 := by
  obtain ⟨h1, h2, h3, h4⟩ := two_boxes' w t u a b
  have hb := (Below.refl ((w.alloc (.cells a t)).alloc (.cells b u)).heap.size _).alloc (Nat.le_refl _) (.cells d v)
  refine ⟨h1.later hb, h2.later hb, ?_, h3.alloc (by omega) _, by simp⟩
  have h := Box.fresh ((w.alloc (.cells a t)).alloc (.cells b u)) v d
  rw [h4] at h
  exact h
theorem box10 {w : World} {g : Nat} {t : TypeId} {a0 a1 a2 a3 a4 a5 a6 a7 a8 a9 : Value} (h : Box w g t #[a0, a1, a2, a3, a4, a5, a6, a7, a8, a9]) :
    (w.cell? ⟨g, 0, none⟩ = some a0 ∧ w.cell? ⟨g, 1, none⟩ = some a1 ∧ w.cell? ⟨g, 2, none⟩ = some a2 ∧ w.cell? ⟨g, 3, none⟩ = some a3 ∧ w.cell? ⟨g, 4, none⟩ = some a4 ∧ w.cell? ⟨g, 5, none⟩ = some a5 ∧ w.cell? ⟨g, 6, none⟩ = some a6 ∧ w.cell? ⟨g, 7, none⟩ = some a7 ∧ w.cell? ⟨g, 8, none⟩ = some a8 ∧ w.cell? ⟨g, 9, none⟩ = some a9) := by
  refine ⟨?_, ?_, ?_, ?_, ?_, ?_, ?_, ?_, ?_, ?_⟩ <;> (rw [h.cell]; rfl)
section
variable {c : Cf} {st : List Int} {zs : List Zn} {n : Nat → Int} {b : List UInt8} {z : Zn}
theorem fits1 (k : n 0 = 1) : FitsR c st zs z n b ↔ (z.slot = -1 ∧ z.full = false ∧ n 4 = z.gen ∧ n 5 ∈ freeL c zs) := by unfold FitsR; rw [k]; simp
theorem fits2 (k : n 0 = 2) : FitsR c st zs z n b ↔ (n 4 = z.gen + 1 ∧ 0 ≤ n 4 ∧ n 4 ≤ 1099511627776) := by unfold FitsR; rw [k]; simp
theorem fits5 (k : n 0 = 5) : FitsR c st zs z n b ↔ (z.slot ≠ -1 ∧ 2 ∈ st) := by unfold FitsR; rw [k]; simp
theorem fits4 (k : n 0 = 4) : FitsR c st zs z n b ↔ (n 4 = z.gen ∧ n 6 ≠ 0 ∧ (b.length : Int) = c.u * c.b ∧ z.full = false ∧ EndR c (n 6) (z.slot ≠ -1)) := by unfold FitsR; rw [k]; simp
theorem fits3 (k : n 0 = 3) : FitsR c st zs z n b ↔ (z.full = false ∧ EndR c (n 6) (z.slot ≠ -1)) := by unfold FitsR; rw [k]; simp
theorem fits0 (k1 : n 0 ≠ 1) (k2 : n 0 ≠ 2) (k5 : n 0 ≠ 5) (k4 : n 0 ≠ 4) (k3 : n 0 ≠ 3) : ¬ FitsR c st zs z n b := by unfold FitsR; simp [k1, k2, k3, k4, k5]
end
set_option maxHeartbeats 2000000 in
theorem fits_any (c : Cf) (ep sq : Int) (A : Option Addr) (st : List Int) (k : Nat) (D : Option Addr) (zs : List Zn) (d : Nat) (n : Nat → Int) (X : Option Addr) (b : List UInt8) (x q : Nat) (w : World) (h : StAt w (LT w.heap.size) A st k D zs d) (hl : st.length ≤ 1000000) (hzl : zs.length ≤ 1000000) (hq : q < zs.length) (hn : n 3 = (q : Int)) (hg : 0 ≤ zs[q].gen ∧ zs[q].gen ≤ 1099511627776) (hgd : Good c) :
    Calls Try.prog 58 #[(.agg #[.int .i64 1, .int .i64 1099511627776, .int .i64 0, .int .i64 1099511627776, .int .i64 0, .int .i64 2, .int .i64 0, .int .i64 1099511627776, .int .i64 (-1), .int .i64 (slotsC c - 1), .int .i64 0, .int .i64 (sizeC c), .int .i64 0, .int .i64 2, .int .i64 1, .int .i64 (sizeC c), .int .i64 (c.u * c.b)]), (.agg #[.int .i64 c.id, .int .i64 c.m, .int .i64 c.u, .int .i64 c.b, .int .i64 c.cp, .int .i64 c.z, .int .i64 c.s, .int .i64 c.mt, .int .i64 c.o, .int .i64 c.a, .int .i64 c.l, .int .i64 ep, .int .i64 sq, .slice A st.length k, .slice D zs.length d]), (.agg #[.int .i64 (n 0), .int .i64 (n 1), .int .i64 (n 2), .int .i64 (n 3), .int .i64 (n 4), .int .i64 (n 5), .int .i64 (n 6), .int .i64 (n 7), .int .i64 (n 8), .slice X b.length x])] w (SaysP w (FitsR c st zs zs[q] n b)) := by
  obtain ⟨g1, off, hD, hg1, hc⟩ := h.2.1 (by omega)
  obtain ⟨Y, y, c0, c1, c2, c3, c4, c5, _⟩ := hc q hq
  have HZ : Hid (∀ w', Below w.heap.size w w' → w'.cell? ⟨g1, off + q * 6, none⟩ = some (.int .i64 zs[q].gen) ∧ w'.cell? ⟨g1, off + q * 6 + 1, none⟩ = some (.int .i64 zs[q].slot) ∧ w'.cell? ⟨g1, off + q * 6 + 2, none⟩ = some (.bool zs[q].full) ∧ w'.cell? ⟨g1, off + q * 6 + 3, none⟩ = some (.int .i64 zs[q].w) ∧ w'.cell? ⟨g1, off + q * 6 + 4, none⟩ = some (.bool zs[q].whole) ∧ w'.cell? ⟨g1, off + q * 6 + 5, none⟩ = some (.slice Y zs[q].ps.length y)) := fun w' hb =>
    ⟨((Kept.below hb).cell (p := ⟨g1, off + q * 6, none⟩) hg1).trans c0, ((Kept.below hb).cell (p := ⟨g1, off + q * 6 + 1, none⟩) hg1).trans c1, ((Kept.below hb).cell (p := ⟨g1, off + q * 6 + 2, none⟩) hg1).trans c2, ((Kept.below hb).cell (p := ⟨g1, off + q * 6 + 3, none⟩) hg1).trans c3, ((Kept.below hb).cell (p := ⟨g1, off + q * 6 + 4, none⟩) hg1).trans c4, ((Kept.below hb).cell (p := ⟨g1, off + q * 6 + 5, none⟩) hg1).trans c5⟩
  clear c0 c1 c2 c3 c4 c5 hc hg1
  have HQ : Hid (q < zs.length ∧ zs.length ≤ 1000000 ∧ st.length ≤ 1000000) := ⟨hq, hzl, hl⟩
  generalize zs[q] = z at hg HZ ⊢
  obtain ⟨gen, slot, full, zw, whole, ps⟩ := z
  dsimp only at hg HZ
  have HG := Lib.hid hg
  have HFL : Hid ((freeL c zs).length ≤ 1000000) := by
    show _ ≤ _
    have h1 := freeN_len zs (slotsC c).toNat
    have h2 := slots_good hgd
    unfold Good at hgd
    unfold freeL
    rw [List.length_map]
    omega
  have HN3 := Lib.hid hn
  have HDD := Lib.hid hD
  clear hg hn hD hgd
  go_enter Try.func58, Try.ntmps58
  go_upto_region 1 with fail
  have HV : Hid (Box (((w.alloc (.cells #[.int .i64 1, .int .i64 1099511627776, .int .i64 0, .int .i64 1099511627776, .int .i64 0, .int .i64 2, .int .i64 0, .int .i64 1099511627776, .int .i64 (-1), .int .i64 (slotsC c - 1), .int .i64 0, .int .i64 (sizeC c), .int .i64 0, .int .i64 2, .int .i64 1, .int .i64 (sizeC c), .int .i64 (c.u * c.b)] 81)).alloc (.cells #[.int .i64 c.id, .int .i64 c.m, .int .i64 c.u, .int .i64 c.b, .int .i64 c.cp, .int .i64 c.z, .int .i64 c.s, .int .i64 c.mt, .int .i64 c.o, .int .i64 c.a, .int .i64 c.l, .int .i64 ep, .int .i64 sq, .slice A st.length k, .slice D zs.length d] 27)).alloc (.cells #[.int .i64 (n 0), .int .i64 (n 1), .int .i64 (n 2), .int .i64 (n 3), .int .i64 (n 4), .int .i64 (n 5), .int .i64 (n 6), .int .i64 (n 7), .int .i64 (n 8), .slice X b.length x] 30)) w.heap.size 81 #[.int .i64 1, .int .i64 1099511627776, .int .i64 0, .int .i64 1099511627776, .int .i64 0, .int .i64 2, .int .i64 0, .int .i64 1099511627776, .int .i64 (-1), .int .i64 (slotsC c - 1), .int .i64 0, .int .i64 (sizeC c), .int .i64 0, .int .i64 2, .int .i64 1, .int .i64 (sizeC c), .int .i64 (c.u * c.b)] ∧ Box (((w.alloc (.cells #[.int .i64 1, .int .i64 1099511627776, .int .i64 0, .int .i64 1099511627776, .int .i64 0, .int .i64 2, .int .i64 0, .int .i64 1099511627776, .int .i64 (-1), .int .i64 (slotsC c - 1), .int .i64 0, .int .i64 (sizeC c), .int .i64 0, .int .i64 2, .int .i64 1, .int .i64 (sizeC c), .int .i64 (c.u * c.b)] 81)).alloc (.cells #[.int .i64 c.id, .int .i64 c.m, .int .i64 c.u, .int .i64 c.b, .int .i64 c.cp, .int .i64 c.z, .int .i64 c.s, .int .i64 c.mt, .int .i64 c.o, .int .i64 c.a, .int .i64 c.l, .int .i64 ep, .int .i64 sq, .slice A st.length k, .slice D zs.length d] 27)).alloc (.cells #[.int .i64 (n 0), .int .i64 (n 1), .int .i64 (n 2), .int .i64 (n 3), .int .i64 (n 4), .int .i64 (n 5), .int .i64 (n 6), .int .i64 (n 7), .int .i64 (n 8), .slice X b.length x] 30)) (w.heap.size + 1) 27 #[.int .i64 c.id, .int .i64 c.m, .int .i64 c.u, .int .i64 c.b, .int .i64 c.cp, .int .i64 c.z, .int .i64 c.s, .int .i64 c.mt, .int .i64 c.o, .int .i64 c.a, .int .i64 c.l, .int .i64 ep, .int .i64 sq, .slice A st.length k, .slice D zs.length d] ∧ Box (((w.alloc (.cells #[.int .i64 1, .int .i64 1099511627776, .int .i64 0, .int .i64 1099511627776, .int .i64 0, .int .i64 2, .int .i64 0, .int .i64 1099511627776, .int .i64 (-1), .int .i64 (slotsC c - 1), .int .i64 0, .int .i64 (sizeC c), .int .i64 0, .int .i64 2, .int .i64 1, .int .i64 (sizeC c), .int .i64 (c.u * c.b)] 81)).alloc (.cells #[.int .i64 c.id, .int .i64 c.m, .int .i64 c.u, .int .i64 c.b, .int .i64 c.cp, .int .i64 c.z, .int .i64 c.s, .int .i64 c.mt, .int .i64 c.o, .int .i64 c.a, .int .i64 c.l, .int .i64 ep, .int .i64 sq, .slice A st.length k, .slice D zs.length d] 27)).alloc (.cells #[.int .i64 (n 0), .int .i64 (n 1), .int .i64 (n 2), .int .i64 (n 3), .int .i64 (n 4), .int .i64 (n 5), .int .i64 (n 6), .int .i64 (n 7), .int .i64 (n 8), .slice X b.length x] 30)) (w.heap.size + 2) 30 #[.int .i64 (n 0), .int .i64 (n 1), .int .i64 (n 2), .int .i64 (n 3), .int .i64 (n 4), .int .i64 (n 5), .int .i64 (n 6), .int .i64 (n 7), .int .i64 (n 8), .slice X b.length x] ∧ Below w.heap.size w (((w.alloc (.cells #[.int .i64 1, .int .i64 1099511627776, .int .i64 0, .int .i64 1099511627776, .int .i64 0, .int .i64 2, .int .i64 0, .int .i64 1099511627776, .int .i64 (-1), .int .i64 (slotsC c - 1), .int .i64 0, .int .i64 (sizeC c), .int .i64 0, .int .i64 2, .int .i64 1, .int .i64 (sizeC c), .int .i64 (c.u * c.b)] 81)).alloc (.cells #[.int .i64 c.id, .int .i64 c.m, .int .i64 c.u, .int .i64 c.b, .int .i64 c.cp, .int .i64 c.z, .int .i64 c.s, .int .i64 c.mt, .int .i64 c.o, .int .i64 c.a, .int .i64 c.l, .int .i64 ep, .int .i64 sq, .slice A st.length k, .slice D zs.length d] 27)).alloc (.cells #[.int .i64 (n 0), .int .i64 (n 1), .int .i64 (n 2), .int .i64 (n 3), .int .i64 (n 4), .int .i64 (n 5), .int .i64 (n 6), .int .i64 (n 7), .int .i64 (n 8), .slice X b.length x] 30)) ∧ (((w.alloc (.cells #[.int .i64 1, .int .i64 1099511627776, .int .i64 0, .int .i64 1099511627776, .int .i64 0, .int .i64 2, .int .i64 0, .int .i64 1099511627776, .int .i64 (-1), .int .i64 (slotsC c - 1), .int .i64 0, .int .i64 (sizeC c), .int .i64 0, .int .i64 2, .int .i64 1, .int .i64 (sizeC c), .int .i64 (c.u * c.b)] 81)).alloc (.cells #[.int .i64 c.id, .int .i64 c.m, .int .i64 c.u, .int .i64 c.b, .int .i64 c.cp, .int .i64 c.z, .int .i64 c.s, .int .i64 c.mt, .int .i64 c.o, .int .i64 c.a, .int .i64 c.l, .int .i64 ep, .int .i64 sq, .slice A st.length k, .slice D zs.length d] 27)).alloc (.cells #[.int .i64 (n 0), .int .i64 (n 1), .int .i64 (n 2), .int .i64 (n 3), .int .i64 (n 4), .int .i64 (n 5), .int .i64 (n 6), .int .i64 (n 7), .int .i64 (n 8), .slice X b.length x] 30)).heap.size = w.heap.size + 3) := three_boxes w 81 27 30 #[.int .i64 1, .int .i64 1099511627776, .int .i64 0, .int .i64 1099511627776, .int .i64 0, .int .i64 2, .int .i64 0, .int .i64 1099511627776, .int .i64 (-1), .int .i64 (slotsC c - 1), .int .i64 0, .int .i64 (sizeC c), .int .i64 0, .int .i64 2, .int .i64 1, .int .i64 (sizeC c), .int .i64 (c.u * c.b)] #[.int .i64 c.id, .int .i64 c.m, .int .i64 c.u, .int .i64 c.b, .int .i64 c.cp, .int .i64 c.z, .int .i64 c.s, .int .i64 c.mt, .int .i64 c.o, .int .i64 c.a, .int .i64 c.l, .int .i64 ep, .int .i64 sq, .slice A st.length k, .slice D zs.length d] #[.int .i64 (n 0), .int .i64 (n 1), .int .i64 (n 2), .int .i64 (n 3), .int .i64 (n 4), .int .i64 (n 5), .int .i64 (n 6), .int .i64 (n 7), .int .i64 (n 8), .slice X b.length x]
  generalize (((w.alloc (.cells #[.int .i64 1, .int .i64 1099511627776, .int .i64 0, .int .i64 1099511627776, .int .i64 0, .int .i64 2, .int .i64 0, .int .i64 1099511627776, .int .i64 (-1), .int .i64 (slotsC c - 1), .int .i64 0, .int .i64 (sizeC c), .int .i64 0, .int .i64 2, .int .i64 1, .int .i64 (sizeC c), .int .i64 (c.u * c.b)] 81)).alloc (.cells #[.int .i64 c.id, .int .i64 c.m, .int .i64 c.u, .int .i64 c.b, .int .i64 c.cp, .int .i64 c.z, .int .i64 c.s, .int .i64 c.mt, .int .i64 c.o, .int .i64 c.a, .int .i64 c.l, .int .i64 ep, .int .i64 sq, .slice A st.length k, .slice D zs.length d] 27)).alloc (.cells #[.int .i64 (n 0), .int .i64 (n 1), .int .i64 (n 2), .int .i64 (n 3), .int .i64 (n 4), .int .i64 (n 5), .int .i64 (n 6), .int .i64 (n 7), .int .i64 (n 8), .slice X b.length x] 30)) = w0 at HV ⊢
  obtain ⟨s0, s1, s2, s3, s4, s5, s6, s7, s8, s9, s10, s11, s12, s13, s14⟩ := box15 HV.out.2.1
  obtain ⟨r0, r1, r2, r3, r4, r5, r6, r7, r8, r9⟩ := box10 HV.out.2.2.1
  obtain ⟨z0, z1, z2, z3, z4, z5⟩ := HZ.out w0 HV.out.2.2.2.1
  rw [HN3.out] at r3
  rw [HDD.out] at s14
  have hsz := HV.out.2.2.2.2
  go_upto_region 2 with fail
  have HX : Hid (FitIn c ep sq A st k D zs d n X b x gen slot full zw whole ps Y y w (w0.alloc (.cells #[.int .i64 gen, .int .i64 slot, .bool full, .int .i64 zw, .bool whole, .slice Y ps.length y] 51))) := by
    have hb := below_one w0 (.cells #[.int .i64 gen, .int .i64 slot, .bool full, .int .i64 zw, .bool whole, .slice Y ps.length y] 51)
    have hz := Box.fresh w0 51 #[.int .i64 gen, .int .i64 slot, .bool full, .int .i64 zw, .bool whole, .slice Y ps.length y]
    rw [hsz] at hz
    exact ⟨HV.out.1.later hb, HV.out.2.1.later hb, HV.out.2.2.1.later hb, hz, (h.later HV.out.2.2.2.1).later hb, HV.out.2.2.2.1.trans (hb.mono (by omega)), by simp; omega⟩
  generalize w0.alloc (.cells #[.int .i64 gen, .int .i64 slot, .bool full, .int .i64 zw, .bool whole, .slice Y ps.length y] 51) = w1 at HX ⊢
  clear HV HZ hsz h s0 s1 s2 s3 s4 s5 s6 s7 s8 s9 s10 s11 s12 s13 s14 r0 r1 r2 r3 r4 r5 r6 r7 r8 r9 z0 z1 z2 z3 z4 z5
  obtain ⟨s0, s1, s2, s3, s4, s5, s6, s7, s8, s9, s10, s11, s12, s13, s14⟩ := box15 HX.out.2.1
  obtain ⟨r0, r1, r2, r3, r4, r5, r6, r7, r8, r9⟩ := box10 HX.out.2.2.1
  obtain ⟨z0, z1, z2, z3, z4, z5⟩ := box6 HX.out.2.2.2.1
  obtain ⟨y0, y1, y2, y3, y4, y5, y6, y7, y8, y9, y10, y11, y12, y13, y14, y15, y16⟩ := box17 HX.out.1
  have hw0 := HX.out.2.2.2.2.2.1
  have HB := Lib.hid hw0
  clear hw0
  by_cases k1 : n 0 = 1
  · have HF := Lib.hid (fits1 (c := c) (st := st) (zs := zs) (b := b) (z := ⟨gen, slot, full, zw, whole, ps⟩) k1)
    rw [k1] at r0
    by_cases hs : slot = -1
    · have hsb : (slot != -1) = false := by simpa using hs
      subst hs
      cases hf : full with
      | true =>
        subst hf
        go_upto_region 9 with fail
        go_quiet (fail)
        go_wp2
        go_ret
        exact SaysP.no (fun h => absurd (HF.out.1 h).2.1 (by simp)) (below_drewN HB.out _)
      | false =>
        subst hf
        by_cases hg4 : n 4 = gen
        · obtain rfl : gen = n 4 := hg4.symm
          clear hg4
          go_upto_region 9 with fail
          clear s0 s1 s2 s3 s4 s5 s6 s7 s8 s9 s10 s11 s12 s13 s14 r0 r1 r2 r3 r4 r5 r6 r7 r8 r9 z0 z1 z2 z3 z4 z5 y0 y1 y2 y3 y4 y5 y6 y7 y8 y9 y10 y11 y12 y13 y14 y15 y16
          refine wpB_start w1.heap.size (by kernel_rfl) ?_
          have HX2 := Lib.hid (HX.out.later (Below.refl _ _).drew)
          have HS2 : Hid (w1.drew.heap.size = w1.heap.size) := rfl
          generalize w1.drew = w2 at HX2 HS2 ⊢
          rw [← HS2.out]
          clear HX HS2 HB
          have s0 := Box.at_ (B := w2.heap.size) HX2.out.2.1 HX2.out.2.1.lt (i := 0) rfl
          have s1 := Box.at_ (B := w2.heap.size) HX2.out.2.1 HX2.out.2.1.lt (i := 1) rfl
          have s2 := Box.at_ (B := w2.heap.size) HX2.out.2.1 HX2.out.2.1.lt (i := 2) rfl
          have s3 := Box.at_ (B := w2.heap.size) HX2.out.2.1 HX2.out.2.1.lt (i := 3) rfl
          have s4 := Box.at_ (B := w2.heap.size) HX2.out.2.1 HX2.out.2.1.lt (i := 4) rfl
          have s5 := Box.at_ (B := w2.heap.size) HX2.out.2.1 HX2.out.2.1.lt (i := 5) rfl
          have s6 := Box.at_ (B := w2.heap.size) HX2.out.2.1 HX2.out.2.1.lt (i := 6) rfl
          have s7 := Box.at_ (B := w2.heap.size) HX2.out.2.1 HX2.out.2.1.lt (i := 7) rfl
          have s8 := Box.at_ (B := w2.heap.size) HX2.out.2.1 HX2.out.2.1.lt (i := 8) rfl
          have s9 := Box.at_ (B := w2.heap.size) HX2.out.2.1 HX2.out.2.1.lt (i := 9) rfl
          have s10 := Box.at_ (B := w2.heap.size) HX2.out.2.1 HX2.out.2.1.lt (i := 10) rfl
          have s11 := Box.at_ (B := w2.heap.size) HX2.out.2.1 HX2.out.2.1.lt (i := 11) rfl
          have s12 := Box.at_ (B := w2.heap.size) HX2.out.2.1 HX2.out.2.1.lt (i := 12) rfl
          have s13 := Box.at_ (B := w2.heap.size) HX2.out.2.1 HX2.out.2.1.lt (i := 13) rfl
          have s14 := Box.at_ (B := w2.heap.size) HX2.out.2.1 HX2.out.2.1.lt (i := 14) rfl
          have r0 := Box.at_ (B := w2.heap.size) HX2.out.2.2.1 HX2.out.2.2.1.lt (i := 0) rfl
          have r1 := Box.at_ (B := w2.heap.size) HX2.out.2.2.1 HX2.out.2.2.1.lt (i := 1) rfl
          have r2 := Box.at_ (B := w2.heap.size) HX2.out.2.2.1 HX2.out.2.2.1.lt (i := 2) rfl
          have r3 := Box.at_ (B := w2.heap.size) HX2.out.2.2.1 HX2.out.2.2.1.lt (i := 3) rfl
          have r4 := Box.at_ (B := w2.heap.size) HX2.out.2.2.1 HX2.out.2.2.1.lt (i := 4) rfl
          have r5 := Box.at_ (B := w2.heap.size) HX2.out.2.2.1 HX2.out.2.2.1.lt (i := 5) rfl
          have r6 := Box.at_ (B := w2.heap.size) HX2.out.2.2.1 HX2.out.2.2.1.lt (i := 6) rfl
          have r7 := Box.at_ (B := w2.heap.size) HX2.out.2.2.1 HX2.out.2.2.1.lt (i := 7) rfl
          have r8 := Box.at_ (B := w2.heap.size) HX2.out.2.2.1 HX2.out.2.2.1.lt (i := 8) rfl
          have r9 := Box.at_ (B := w2.heap.size) HX2.out.2.2.1 HX2.out.2.2.1.lt (i := 9) rfl
          have z0 := Box.at_ (B := w2.heap.size) HX2.out.2.2.2.1 HX2.out.2.2.2.1.lt (i := 0) rfl
          have z1 := Box.at_ (B := w2.heap.size) HX2.out.2.2.2.1 HX2.out.2.2.2.1.lt (i := 1) rfl
          have z2 := Box.at_ (B := w2.heap.size) HX2.out.2.2.2.1 HX2.out.2.2.2.1.lt (i := 2) rfl
          have z3 := Box.at_ (B := w2.heap.size) HX2.out.2.2.2.1 HX2.out.2.2.2.1.lt (i := 3) rfl
          have z4 := Box.at_ (B := w2.heap.size) HX2.out.2.2.2.1 HX2.out.2.2.2.1.lt (i := 4) rfl
          have z5 := Box.at_ (B := w2.heap.size) HX2.out.2.2.2.1 HX2.out.2.2.2.1.lt (i := 5) rfl
          refine wpB_take (i := 0) (d := 30) (v := ?v9x0) rfl rfl (by kernel_rfl) (by kernel_rfl) (by kernel_rfl) (fun _ _ _ h => h) (by rfl) ?y9x0 ?r9x0
          case y9x0 => (intro w' hSw; go_simp; try (with_reducible rfl))
          simp only [Act.put, List.setIfInBounds_toArray, List.set_cons_zero, List.set_cons_succ]
          refine wpB_take (i := 1) (d := 31) (v := ?v9x1) rfl rfl (by kernel_rfl) (by kernel_rfl) (by kernel_rfl) (fun _ _ _ h => h) (by rfl) ?y9x1 ?r9x1
          case y9x1 => (intro w' hSw; go_simp; try (with_reducible rfl))
          simp only [Act.put, List.setIfInBounds_toArray, List.set_cons_zero, List.set_cons_succ]
          refine wpB_take (i := 2) (d := 32) (v := ?v9x2) rfl rfl (by kernel_rfl) (by kernel_rfl) (by kernel_rfl) (fun _ _ _ h => h) (by rfl) ?y9x2 ?r9x2
          case y9x2 => (intro w' hSw; go_simp; try (with_reducible rfl))
          simp only [Act.put, List.setIfInBounds_toArray, List.set_cons_zero, List.set_cons_succ]
          refine wpB_take (i := 3) (d := 33) (v := ?v9x3) rfl rfl (by kernel_rfl) (by kernel_rfl) (by kernel_rfl) (fun _ _ _ h => h) (by rfl) ?y9x3 ?r9x3
          case y9x3 => (intro w' hSw; go_simp; try (with_reducible rfl))
          simp only [Act.put, List.setIfInBounds_toArray, List.set_cons_zero, List.set_cons_succ]
          refine wpB_take (i := 4) (d := 34) (v := ?v9x4) rfl rfl (by kernel_rfl) (by kernel_rfl) (by kernel_rfl) (fun _ _ _ h => h) (by rfl) ?y9x4 ?r9x4
          case y9x4 => (intro w' hSw; go_simp; try (with_reducible rfl))
          simp only [Act.put, List.setIfInBounds_toArray, List.set_cons_zero, List.set_cons_succ]
          refine wpB_take (i := 5) (d := 35) (v := ?v9x5) rfl rfl (by kernel_rfl) (by kernel_rfl) (by kernel_rfl) (fun _ _ _ h => h) (by rfl) ?y9x5 ?r9x5
          case y9x5 => (intro w' hSw; go_simp; try (with_reducible rfl))
          simp only [Act.put, List.setIfInBounds_toArray, List.set_cons_zero, List.set_cons_succ]
          refine wpB_take (i := 6) (d := 36) (v := ?v9x6) rfl rfl (by kernel_rfl) (by kernel_rfl) (by kernel_rfl) (fun _ _ _ h => h) (by rfl) ?y9x6 ?r9x6
          case y9x6 => (intro w' hSw; go_simp; try (with_reducible rfl))
          simp only [Act.put, List.setIfInBounds_toArray, List.set_cons_zero, List.set_cons_succ]
          refine wpB_take (i := 7) (d := 37) (v := ?v9x7) rfl rfl (by kernel_rfl) (by kernel_rfl) (by kernel_rfl) (fun _ _ _ h => h) (by rfl) ?y9x7 ?r9x7
          case y9x7 => (intro w' hSw; go_simp; try (with_reducible rfl))
          simp only [Act.put, List.setIfInBounds_toArray, List.set_cons_zero, List.set_cons_succ]
          refine wpB_take (i := 8) (d := 38) (v := ?v9x8) rfl rfl (by kernel_rfl) (by kernel_rfl) (by kernel_rfl) (fun _ _ _ h => h) (by rfl) ?y9x8 ?r9x8
          case y9x8 => (intro w' hSw; go_simp; try (with_reducible rfl))
          simp only [Act.put, List.setIfInBounds_toArray, List.set_cons_zero, List.set_cons_succ]
          refine wpB_take (i := 9) (d := 39) (v := ?v9x9) rfl rfl (by kernel_rfl) (by kernel_rfl) (by kernel_rfl) (fun _ _ _ h => h) (by rfl) ?y9x9 ?r9x9
          case y9x9 => (intro w' hSw; go_simp; try (with_reducible rfl))
          simp only [Act.put, List.setIfInBounds_toArray, List.set_cons_zero, List.set_cons_succ]
          refine wpB_take (i := 10) (d := 40) (v := ?v9x10) rfl rfl (by kernel_rfl) (by kernel_rfl) (by kernel_rfl) (fun _ _ _ h => h) (by rfl) ?y9x10 ?r9x10
          case y9x10 => (intro w' hSw; go_simp; try (with_reducible rfl))
          simp only [Act.put, List.setIfInBounds_toArray, List.set_cons_zero, List.set_cons_succ]
          refine wpB_take (i := 11) (d := 41) (v := ?v9x11) rfl rfl (by kernel_rfl) (by kernel_rfl) (by kernel_rfl) (fun _ _ _ h => h) (by rfl) ?y9x11 ?r9x11
          case y9x11 => (intro w' hSw; go_simp; try (with_reducible rfl))
          simp only [Act.put, List.setIfInBounds_toArray, List.set_cons_zero, List.set_cons_succ]
          refine wpB_take (i := 12) (d := 42) (v := ?v9x12) rfl rfl (by kernel_rfl) (by kernel_rfl) (by kernel_rfl) (fun _ _ _ h => h) (by rfl) ?y9x12 ?r9x12
          case y9x12 => (intro w' hSw; go_simp; try (with_reducible rfl))
          simp only [Act.put, List.setIfInBounds_toArray, List.set_cons_zero, List.set_cons_succ]
          refine wpB_take (i := 13) (d := 43) (v := ?v9x13) rfl rfl (by kernel_rfl) (by kernel_rfl) (by kernel_rfl) (fun _ _ _ h => h) (by rfl) ?y9x13 ?r9x13
          case y9x13 => (intro w' hSw; go_simp; try (with_reducible rfl))
          simp only [Act.put, List.setIfInBounds_toArray, List.set_cons_zero, List.set_cons_succ]
          refine wpB_take (i := 14) (d := 44) (v := ?v9x14) rfl rfl (by kernel_rfl) (by kernel_rfl) (by kernel_rfl) (fun _ _ _ h => h) (by rfl) ?y9x14 ?r9x14
          case y9x14 => (intro w' hSw; go_simp; try (with_reducible rfl))
          simp only [Act.put, List.setIfInBounds_toArray, List.set_cons_zero, List.set_cons_succ]
          refine wpB_take (i := 15) (d := 45) (v := ?v9x15) rfl rfl (by kernel_rfl) (by kernel_rfl) (by kernel_rfl) (fun _ _ _ h => h) (by rfl) ?y9x15 ?r9x15
          case y9x15 => (intro w' hSw; go_simp; try (with_reducible rfl))
          simp only [Act.put, List.setIfInBounds_toArray, List.set_cons_zero, List.set_cons_succ]
          refine wpB_take (i := 17) (d := 47) (v := ?v9x17) rfl rfl (by kernel_rfl) (by kernel_rfl) (by kernel_rfl) (fun _ _ _ h => h) (by rfl) ?y9x17 ?r9x17
          case y9x17 => (intro w' hSw; go_simp; try (with_reducible rfl))
          simp only [Act.put, List.setIfInBounds_toArray, List.set_cons_zero, List.set_cons_succ]
          refine wpB_take (i := 18) (d := 48) (v := ?v9x18) rfl rfl (by kernel_rfl) (by kernel_rfl) (by kernel_rfl) (fun _ _ _ h => h) (by rfl) ?y9x18 ?r9x18
          case y9x18 => (intro w' hSw; go_simp; try (with_reducible rfl))
          simp only [Act.put, List.setIfInBounds_toArray, List.set_cons_zero, List.set_cons_succ]
          refine wpB_do (i := 16) (by kernel_rfl) rfl (by rfl) (fun K hK => ?_)
          go_simp
          refine (free_any c ep sq A st k D zs d w2 HX2.out.2.2.2.2.1 HQ.out.2.1).mono ?_
          rintro e w3 ⟨F, cf, rfl, hF, hcf, hb⟩
          have HX3 := Lib.hid (HX2.out.later hb)
          have HF2 := Lib.hid hF
          have HLE := Lib.hid hb.size
          go_simp
          refine hK.out w2.heap.size _ _ (Nat.le_refl _) hb ?_
          clear hb hK hF hcf HX2
          refine wpB_do (i := 19) (by kernel_rfl) rfl (by rfl) (fun K hK => ?_)
          go_simp
          refine (contains_any F cf (freeL c zs) (n 5) w3 HF2.out HFL.out).mono ?_
          rintro e w4 ⟨b4, rfl, hr4, hb⟩
          have HX4 := Lib.hid (HX3.out.later hb)
          have HE := Lib.hid hr4
          go_simp
          refine hK.out w2.heap.size _ _ (Nat.le_refl _) (hb.mono HLE.out) ?_
          clear hb hK hr4 HX3
          refine wpB_take (i := 20) (d := 50) (v := ?v9x20) rfl rfl (by kernel_rfl) (by kernel_rfl) (by kernel_rfl) (fun _ _ _ h => h) (by rfl) ?y9x20 ?r9x20
          case y9x20 => (intro w' hSw; go_simp; try (with_reducible rfl))
          simp only [Act.put, List.setIfInBounds_toArray, List.set_cons_zero, List.set_cons_succ]
          refine wpB_take (i := 21) (d := 6) (v := ?v9x21) rfl rfl (by kernel_rfl) (by kernel_rfl) (by kernel_rfl) (fun _ _ _ h => h) (by rfl) ?y9x21 ?r9x21
          case y9x21 => (intro w' hSw; go_simp; try (with_reducible rfl))
          simp only [Act.put, List.setIfInBounds_toArray, List.set_cons_zero, List.set_cons_succ]
          refine wpB_done (by kernel_rfl) ?_
          go_wp2
          go_ret
          exact ⟨b4, rfl, (HE.out.trans ⟨fun h => HF.out.2 (by simpa using h), fun h => (HF.out.1 h).2.2.2⟩), HX4.out.2.2.2.2.2.1⟩
        · have hgb : (n 4 == gen) = false := by simpa using hg4
          go_upto_region 9 with fail
          go_quiet (fail)
          go_wp2
          go_ret
          exact SaysP.no (fun h => hg4 (HF.out.1 h).2.2.1) (below_drewN HB.out _)
    · have hsb : (slot != -1) = true := by simpa using hs
      go_upto_region 9 with fail
      go_quiet (fail)
      go_wp2
      go_ret
      exact SaysP.no (fun h => hs (HF.out.1 h).1) (below_drewN HB.out _)
  have kb1 : (n 0 == 1) = false := by simpa using k1
  by_cases k2 : n 0 = 2
  · have HF := Lib.hid (fits2 (c := c) (st := st) (zs := zs) (b := b) (z := ⟨gen, slot, full, zw, whole, ps⟩) k2)
    rw [k2] at r0
    have hg := HG.out
    clear kb1
    by_cases hg4 : n 4 = gen + 1
    · have HG4 := Lib.hid hg4
      have hgb : (n 4 == gen + 1) = true := by simpa using hg4
      clear hg4
      go_wp2_with fail
      refine (has_any 0 1099511627776 (n 4) w1).mono ?_
      rintro e w2 ⟨b4, rfl, hr4, hb⟩
      have HE := Lib.hid hr4
      have HX2 := Lib.hid (HX.out.later hb)
      clear HX hb hr4 s0 s1 s2 s3 s4 s5 s6 s7 s8 s9 s10 s11 s12 s13 s14 r0 r1 r2 r3 r4 r5 r6 r7 r8 r9 z0 z1 z2 z3 z4 z5 y0 y1 y2 y3 y4 y5 y6 y7 y8 y9 y10 y11 y12 y13 y14 y15 y16
      go_wp2
      go_ret
      exact ⟨b4, rfl, HE.out.trans ⟨fun h => HF.out.2 ⟨HG4.out, h⟩, fun h => (HF.out.1 h).2⟩, HX2.out.2.2.2.2.2.1⟩
    · have HG4 := Lib.hid hg4
      have hgb : (n 4 == gen + 1) = false := by simpa using hg4
      clear hg4
      go_wp2
      go_ret
      exact SaysP.no (fun h => HG4.out (HF.out.1 h).1) HB.out
  have kb2 : (n 0 == 2) = false := by simpa using k2
  by_cases k5 : n 0 = 5
  · have HF := Lib.hid (fits5 (c := c) (st := st) (zs := zs) (b := b) (z := ⟨gen, slot, full, zw, whole, ps⟩) k5)
    rw [k5] at r0
    clear kb1 kb2
    by_cases hs : slot = -1
    · have HSL := Lib.hid hs
      have hsb : (slot != -1) = false := by simpa using hs
      clear hs
      go_wp2
      go_ret
      exact SaysP.no (fun h => (HF.out.1 h).1 HSL.out) HB.out
    · have HSL := Lib.hid hs
      have hsb : (slot != -1) = true := by simpa using hs
      clear hs
      go_wp2_with fail
      refine (rebuilds_any c ep sq A st k D zs d w1 HX.out.2.2.2.2.1.1 HQ.out.2.2).mono ?_
      rintro e w2 ⟨b4, rfl, hr4, hb⟩
      have HE := Lib.hid hr4
      have HX2 := Lib.hid (HX.out.later hb)
      clear HX hb hr4 s0 s1 s2 s3 s4 s5 s6 s7 s8 s9 s10 s11 s12 s13 s14 r0 r1 r2 r3 r4 r5 r6 r7 r8 r9 z0 z1 z2 z3 z4 z5 y0 y1 y2 y3 y4 y5 y6 y7 y8 y9 y10 y11 y12 y13 y14 y15 y16
      go_wp2
      go_ret
      exact ⟨b4, rfl, HE.out.trans ⟨fun h => HF.out.2 ⟨HSL.out, h⟩, fun h => (HF.out.1 h).2⟩, HX2.out.2.2.2.2.2.1⟩
  have kb5 : (n 0 == 5) = false := by simpa using k5
  by_cases k4 : n 0 = 4
  · have HF := Lib.hid (fits4 (c := c) (st := st) (zs := zs) (b := b) (z := ⟨gen, slot, full, zw, whole, ps⟩) k4)
    rw [k4] at r0
    clear kb1 kb2 kb5
    by_cases hg4 : n 4 = gen
    · have HG4 := Lib.hid hg4
      have hgb : (n 4 != gen) = false := by simpa using hg4
      clear hg4
      by_cases hw : n 6 = 0
      · have HW := Lib.hid hw
        have hwb : (n 6 == 0) = true := by simpa using hw
        clear hw
        go_wp2
        go_ret
        exact SaysP.no (fun h => (HF.out.1 h).2.1 HW.out) HB.out
      · have HW := Lib.hid hw
        have hwb : (n 6 == 0) = false := by simpa using hw
        clear hw
        by_cases hl : (b.length : Int) = c.u * c.b
        · have HL := Lib.hid hl
          have hlb : ((b.length : Int) != c.u * c.b) = false := by simpa using hl
          clear hl
          cases full with
          | true =>
            go_wp2
            go_ret
            exact SaysP.no (fun h => absurd (HF.out.1 h).2.2.2.1 (by simp)) HB.out
          | false =>
            by_cases hs : slot = -1
            · have HSL := Lib.hid hs
              have hsb : (slot != -1) = false := by simpa using hs
              clear hs
              go_wp2_with fail
              refine (end_any c (n 6) false w1).mono ?_
              rintro e w2 ⟨b4, rfl, hr4, hb⟩
              have HE := Lib.hid hr4
              have HX2 := Lib.hid (HX.out.later hb)
              clear HX hb hr4 s0 s1 s2 s3 s4 s5 s6 s7 s8 s9 s10 s11 s12 s13 s14 r0 r1 r2 r3 r4 r5 r6 r7 r8 r9 z0 z1 z2 z3 z4 z5 y0 y1 y2 y3 y4 y5 y6 y7 y8 y9 y10 y11 y12 y13 y14 y15 y16
              go_wp2
              go_ret
              exact ⟨b4, rfl, HE.out.trans ⟨fun h => HF.out.2 ⟨HG4.out, HW.out, HL.out, trivial, h.1, h.2.imp id (by simp)⟩, fun h => ⟨(HF.out.1 h).2.2.2.2.1, (HF.out.1 h).2.2.2.2.2.imp id (fun hh => absurd HSL.out hh)⟩⟩, HX2.out.2.2.2.2.2.1⟩
            · have HSL := Lib.hid hs
              have hsb : (slot != -1) = true := by simpa using hs
              clear hs
              go_wp2_with fail
              refine (end_any c (n 6) true w1).mono ?_
              rintro e w2 ⟨b4, rfl, hr4, hb⟩
              have HE := Lib.hid hr4
              have HX2 := Lib.hid (HX.out.later hb)
              clear HX hb hr4 s0 s1 s2 s3 s4 s5 s6 s7 s8 s9 s10 s11 s12 s13 s14 r0 r1 r2 r3 r4 r5 r6 r7 r8 r9 z0 z1 z2 z3 z4 z5 y0 y1 y2 y3 y4 y5 y6 y7 y8 y9 y10 y11 y12 y13 y14 y15 y16
              go_wp2
              go_ret
              exact ⟨b4, rfl, HE.out.trans ⟨fun h => HF.out.2 ⟨HG4.out, HW.out, HL.out, trivial, h.1, Or.inr HSL.out⟩, fun h => ⟨(HF.out.1 h).2.2.2.2.1, Or.inr trivial⟩⟩, HX2.out.2.2.2.2.2.1⟩
        · have HL := Lib.hid hl
          have hlb : ((b.length : Int) != c.u * c.b) = true := by simpa using hl
          clear hl
          go_wp2
          go_ret
          exact SaysP.no (fun h => HL.out (HF.out.1 h).2.2.1) HB.out
    · have HG4 := Lib.hid hg4
      have hgb : (n 4 != gen) = true := by simpa using hg4
      clear hg4
      go_wp2
      go_ret
      exact SaysP.no (fun h => HG4.out (HF.out.1 h).1) HB.out
  have kb4 : (n 0 == 4) = false := by simpa using k4
  by_cases k3 : n 0 = 3
  · have HF := Lib.hid (fits3 (c := c) (st := st) (zs := zs) (b := b) (z := ⟨gen, slot, full, zw, whole, ps⟩) k3)
    rw [k3] at r0
    clear kb1 kb2 kb5 kb4
    cases full with
    | true =>
      go_wp2
      go_ret
      exact SaysP.no (fun h => absurd (HF.out.1 h).1 (by simp)) HB.out
    | false =>
      by_cases hs : slot = -1
      · have HSL := Lib.hid hs
        have hsb : (slot != -1) = false := by simpa using hs
        clear hs
        go_wp2_with fail
        refine (end_any c (n 6) false w1).mono ?_
        rintro e w2 ⟨b4, rfl, hr4, hb⟩
        have HE := Lib.hid hr4
        have HX2 := Lib.hid (HX.out.later hb)
        clear HX hb hr4 s0 s1 s2 s3 s4 s5 s6 s7 s8 s9 s10 s11 s12 s13 s14 r0 r1 r2 r3 r4 r5 r6 r7 r8 r9 z0 z1 z2 z3 z4 z5 y0 y1 y2 y3 y4 y5 y6 y7 y8 y9 y10 y11 y12 y13 y14 y15 y16
        go_wp2
        go_ret
        exact ⟨b4, rfl, HE.out.trans ⟨fun h => HF.out.2 ⟨trivial, h.1, h.2.imp id (by simp)⟩, fun h => ⟨(HF.out.1 h).2.1, (HF.out.1 h).2.2.imp id (fun hh => absurd HSL.out hh)⟩⟩, HX2.out.2.2.2.2.2.1⟩
      · have HSL := Lib.hid hs
        have hsb : (slot != -1) = true := by simpa using hs
        clear hs
        go_wp2_with fail
        refine (end_any c (n 6) true w1).mono ?_
        rintro e w2 ⟨b4, rfl, hr4, hb⟩
        have HE := Lib.hid hr4
        have HX2 := Lib.hid (HX.out.later hb)
        clear HX hb hr4 s0 s1 s2 s3 s4 s5 s6 s7 s8 s9 s10 s11 s12 s13 s14 r0 r1 r2 r3 r4 r5 r6 r7 r8 r9 z0 z1 z2 z3 z4 z5 y0 y1 y2 y3 y4 y5 y6 y7 y8 y9 y10 y11 y12 y13 y14 y15 y16
        go_wp2
        go_ret
        exact ⟨b4, rfl, HE.out.trans ⟨fun h => HF.out.2 ⟨trivial, h.1, Or.inr HSL.out⟩, fun h => ⟨(HF.out.1 h).2.1, Or.inr trivial⟩⟩, HX2.out.2.2.2.2.2.1⟩
  have kb3 : (n 0 == 3) = false := by simpa using k3
  have HF := Lib.hid (fits0 (c := c) (st := st) (zs := zs) (b := b) (z := ⟨gen, slot, full, zw, whole, ps⟩) k1 k2 k5 k4 k3)
  by_cases hs : slot = -1
  · have hsb : (slot != -1) = false := by simpa using hs
    clear hs
    go_wp2
    go_ret
    exact SaysP.no HF.out HB.out
  · have hsb : (slot != -1) = true := by simpa using hs
    clear hs
    go_wp2
    go_ret
    exact SaysP.no HF.out HB.out
end Go.Proofs.Ytaceaemombnhkaa
