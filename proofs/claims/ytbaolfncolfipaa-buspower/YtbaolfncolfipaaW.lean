/- A bus in memory: its block, its places' block, its members. -/
import Derived.Test.YtbaolfncolfipaaU
import Derived.Test.YtbaolfncolfipaaV
namespace Go.Proofs.Ytbaolfncolfipaa
set_option linter.unusedVariables false
set_option linter.unusedSimpArgs false
open Go.RowKit
open Go.RowKit (wrap64)

/-- A place: the member there, how often it was put there, what is ahead. -/
structure Pl where
  dev : Option Addr
  serial : Int
  ahead : Int
def Pl.cells (p : Pl) : List Value := [.pointer p.dev, .int .i64 p.serial, .int .i64 p.ahead]
def pcells (ps : List Pl) : List Value := (ps.map Pl.cells).flatten
theorem pcells_cons (p : Pl) (ps : List Pl) : pcells (p :: ps) = p.cells ++ pcells ps := by simp [pcells]
theorem pcells_at : ∀ (ps : List Pl) (i j : Nat) (hi : i < ps.length), j < 3 → (pcells ps)[i * 3 + j]? = (ps[i].cells)[j]?
  | p :: r, 0, j, _, hj => by
    rw [pcells_cons, Nat.zero_mul, Nat.zero_add, List.getElem?_append_left (by simpa [Pl.cells] using hj)]
    rfl
  | p :: r, i + 1, j, hi, hj => by
    rw [pcells_cons, List.getElem?_append_right (by simp [Pl.cells]; omega)]
    have e : (i + 1) * 3 + j - p.cells.length = i * 3 + j := by simp [Pl.cells]; omega
    rw [e]
    exact pcells_at r i j (by simpa using hi) hj
theorem pcells_length (ps : List Pl) : (pcells ps).length = ps.length * 3 := by
  induction ps with
  | nil => rfl
  | cons p r ih => rw [pcells_cons, List.length_append, ih]; simp [Pl.cells]; omega
theorem pcells_set (p : Pl) : ∀ (ps : List Pl) (i : Nat), i < ps.length → pcells (ps.set i p) =
    (((pcells ps).set (i * 3) (.pointer p.dev)).set (i * 3 + 1) (.int .i64 p.serial)).set (i * 3 + 2) (.int .i64 p.ahead)
  | y :: r, 0, _ => by
    rw [List.set_cons_zero, pcells_cons, pcells_cons]
    simp [Pl.cells]
  | y :: r, i + 1, hi => by
    have h := pcells_set p r i (by simpa using hi)
    rw [List.set_cons_succ, pcells_cons, pcells_cons, h]
    have e : ∀ (j : Nat) (l : List Value) (u : Value), (y.cells ++ l).set ((i + 1) * 3 + j) u = y.cells ++ l.set (i * 3 + j) u := fun j l u => by
      rw [List.set_append_right _ _ (by simp [Pl.cells]; omega)]
      have e : (i + 1) * 3 + j - y.cells.length = i * 3 + j := by simp [Pl.cells]; omega
      rw [e]
    have e0 := e 0
    simp only [Nat.add_zero] at e0
    rw [e0, e 1, e 2]
theorem set_same {α : Type} : ∀ (l : List α) (i : Nat) (x : α), l[i]? = some x → l.set i x = l
  | y :: r, 0, x, h => by simp at h; simp [h]
  | y :: r, i + 1, x, h => by simp at h; simp [set_same r i x h]
  | [], _, _, h => by simp at h
/-- What is ahead alone is written anew. -/
theorem pcells_ahead (ps : List Pl) (i : Nat) (hi : i < ps.length) (a : Int) : pcells (ps.set i { ps[i] with ahead := a }) = (pcells ps).set (i * 3 + 2) (.int .i64 a) := by
  rw [pcells_set _ ps i hi]
  have h0 := pcells_at ps i 0 hi (by omega)
  have h1 := pcells_at ps i 1 hi (by omega)
  simp only [Nat.add_zero] at h0
  rw [set_same (pcells ps) (i * 3) _ (by rw [h0]; rfl), set_same (pcells ps) (i * 3 + 1) _ (by rw [h1]; rfl)]

/-- A member of a bus. -/
structure Mb where
  p : Nat
  zb : Nat
  bad : Nat
  lost : Bool
  zs : List Zs
  serial : Nat
  ahead : Int
def Mb.pl (m : Mb) : Pl := ⟨some ⟨m.p, 0, none⟩, (m.serial : Int), m.ahead⟩
structure MbAt (w : World) (cap blk : Nat) (limit : Int) (m : Mb) : Prop where
  gone : m.lost = true → DevBox w m.p none 0 0 limit m.bad true
  here : m.lost = false → DevAt w m.p m.zb cap blk limit m.bad m.zs
  zt : ∃ cs, Box w m.zb 74 cs
theorem MbAt.box {w : World} {cap blk : Nat} {limit : Int} {m : Mb} (h : MbAt w cap blk limit m) : ∃ Z n c, DevBox w m.p Z n c limit m.bad m.lost := by
  cases e : m.lost
  · exact ⟨_, _, _, (h.here e).bp⟩
  · exact ⟨_, _, _, h.gone e⟩
theorem Box.apart {w : World} {g h : Nat} {t u : TypeId} {cs ds : Array Value} (h1 : Box w g t cs) (h2 : Box w h u ds) (hne : t ≠ u) : g ≠ h := by
  rintro rfl
  unfold Box at h1 h2
  rw [h1] at h2
  injection h2 with h2
  injection h2 with _ h2
  exact hne h2
theorem MbAt.later {w w' : World} {cap blk : Nat} {limit : Int} {m : Mb} (h : MbAt w cap blk limit m) (hb : Below w.heap.size w w') : MbAt w' cap blk limit m := by
  obtain ⟨cs, hz⟩ := h.zt
  exact ⟨fun e => Box.later (h.gone e) hb, fun e => (h.here e).later hb, cs, hz.later hb⟩
theorem MbAt.turn {gs : List Nat} {w w' : World} {cap blk : Nat} {limit : Int} {m : Mb} (h : MbAt w cap blk limit m) (ht : Turn gs w w') (hg : ∀ g ∈ gs, Else 5 w g) (hp : m.p ∉ gs) (hz : m.zb ∉ gs) : MbAt w' cap blk limit m := by
  obtain ⟨cs, hx⟩ := h.zt
  exact ⟨fun e => Box.turn (h.gone e) ht hp, fun e => (h.here e).turn ht hg hp hz, cs, hx.turn ht hz⟩

/-- A bus as plain data. -/
structure Bd where
  b : Nat
  pb : Nat
  zones : Nat
  cap : Nat
  blk : Nat
  limit : Int
  fuse : Int
  down : Bool
  count : Nat
  gone : Nat
  ms : List Mb
def Bd.cells (B : Bd) : Array Value := #[.int .i64 (B.zones : Int), .int .i64 (B.cap : Int), .int .i64 (B.blk : Int), .int .i64 B.limit, .slice (some ⟨B.pb, 0, none⟩) B.ms.length B.ms.length, .int .i64 B.fuse, .bool B.down, .int .i64 (B.count : Int), .int .i64 (B.gone : Int)]
structure BusAt (w : World) (B : Bd) : Prop where
  bb : Box w B.b 54 B.cells
  bp : Box w B.pb 59 (pcells (B.ms.map Mb.pl)).toArray
  mem : ∀ m ∈ B.ms, MbAt w B.cap B.blk B.limit m
  apart : ∀ i j (hi : i < B.ms.length) (hj : j < B.ms.length), i ≠ j → B.ms[i].p ≠ B.ms[j].p ∧ B.ms[i].zb ≠ B.ms[j].zb
  len : B.ms.length ≤ 16
/-- All blocks of a bus. -/
def Bd.gs (B : Bd) : List Nat := B.b :: B.pb :: (B.ms.map (·.p) ++ B.ms.map (·.zb))
theorem Bd.mem_gs {B : Bd} {g : Nat} : g ∈ B.gs ↔ g = B.b ∨ g = B.pb ∨ (∃ m ∈ B.ms, m.p = g) ∨ (∃ m ∈ B.ms, m.zb = g) := by
  simp [Bd.gs]

section
variable {w w' : World} {B : Bd}
theorem BusAt.ne (h : BusAt w B) : B.b ≠ B.pb := Box.apart h.bb h.bp (by decide)
theorem BusAt.else_ (h : BusAt w B) {T : TypeId} (h1 : 54 ≠ T) (h2 : 59 ≠ T) (h3 : 79 ≠ T) (h4 : 74 ≠ T) : ∀ g ∈ B.gs, Else T w g := fun g hg => by
  rcases Bd.mem_gs.1 hg with rfl | rfl | ⟨m, hm, rfl⟩ | ⟨m, hm, rfl⟩
  · exact h.bb.else_ h1
  · exact h.bp.else_ h2
  · obtain ⟨Z, n, c, hx⟩ := (h.mem m hm).box
    exact Box.else_ hx h3
  · obtain ⟨cs, hx⟩ := (h.mem m hm).zt
    exact hx.else_ h4
theorem BusAt.lt (h : BusAt w B) : ∀ g ∈ B.gs, g < w.heap.size := fun g hg => by
  obtain ⟨t, cs, m, _, hx⟩ := h.else_ (T := 5) (by decide) (by decide) (by decide) (by decide) g hg
  exact (Array.getElem?_eq_some_iff.1 hx).1
theorem BusAt.later (h : BusAt w B) (hb : Below w.heap.size w w') : BusAt w' B :=
  ⟨h.bb.later hb, h.bp.later hb, fun m hm => (h.mem m hm).later hb, h.apart, h.len⟩
theorem BusAt.drew (h : BusAt w B) : BusAt w.drew B := h.later (Below.refl _ _).drew
theorem BusAt.turn {gs : List Nat} (h : BusAt w B) (ht : Turn gs w w') (hg : ∀ g ∈ gs, Else 5 w g) (hn : ∀ g ∈ B.gs, g ∉ gs) : BusAt w' B :=
  ⟨h.bb.turn ht (hn _ (Bd.mem_gs.2 (Or.inl rfl))), h.bp.turn ht (hn _ (Bd.mem_gs.2 (Or.inr (Or.inl rfl)))),
    fun m hm => (h.mem m hm).turn ht hg (hn _ (Bd.mem_gs.2 (Or.inr (Or.inr (Or.inl ⟨m, hm, rfl⟩))))) (hn _ (Bd.mem_gs.2 (Or.inr (Or.inr (Or.inr ⟨m, hm, rfl⟩))))), h.apart, h.len⟩
/-- Its own block alone is another. -/
theorem BusAt.head (h : BusAt w B) (ht : Turn [B.b] w w') (fuse : Int) (down : Bool) (count gone : Nat) (hb : Box w' B.b 54 ({ B with fuse := fuse, down := down, count := count, gone := gone } : Bd).cells) :
    BusAt w' { B with fuse := fuse, down := down, count := count, gone := gone } := by
  have hel : ∀ g ∈ [B.b], Else 5 w g := fun g hg => by
    obtain rfl : g = B.b := by simpa using hg
    exact h.bb.else_ (by decide)
  refine ⟨hb, h.bp.turn ht (by simpa using fun e => h.ne e.symm), fun m hm => (h.mem m hm).turn ht hel ?_ ?_, h.apart, h.len⟩
  · obtain ⟨Z, n, c, hx⟩ := (h.mem m hm).box
    simpa using Box.apart hx h.bb (by decide)
  · obtain ⟨cs, hx⟩ := (h.mem m hm).zt
    simpa using Box.apart hx h.bb (by decide)
/-- The cells of its i-th place. -/
theorem BusAt.place (h : BusAt w B) {i : Nat} (hi : i < B.ms.length) :
    (w.cell? ⟨B.pb, i * 3, none⟩ = some (.pointer (some ⟨B.ms[i].p, 0, none⟩)) ∧ w.cell? ⟨B.pb, i * 3 + 1, none⟩ = some (.int .i64 (B.ms[i].serial : Int)) ∧ w.cell? ⟨B.pb, i * 3 + 2, none⟩ = some (.int .i64 B.ms[i].ahead)) ∧
    (w.frozen? ⟨B.pb, i * 3, none⟩ = false ∧ w.frozen? ⟨B.pb, i * 3 + 1, none⟩ = false ∧ w.frozen? ⟨B.pb, i * 3 + 2, none⟩ = false) := by
  have e : ∀ j, j < 3 → w.cell? ⟨B.pb, i * 3 + j, none⟩ = (B.ms[i].pl.cells)[j]? := fun j hj => by
    rw [h.bp.cell, List.getElem?_toArray, pcells_at (B.ms.map Mb.pl) i j (by simpa using hi) hj]
    simp
  exact ⟨⟨e 0 (by omega), e 1 (by omega), e 2 (by omega)⟩, h.bp.frozen _, h.bp.frozen _, h.bp.frozen _⟩
/-- What is ahead of a member is another. -/
theorem BusAt.ahead (h : BusAt w B) {i : Nat} (hi : i < B.ms.length) (a : Int) :
    BusAt (w.setCell ⟨B.pb, i * 3 + 2, none⟩ (.int .i64 a)) { B with ms := B.ms.set i { B.ms[i] with ahead := a } } ∧ Turn [B.pb] w (w.setCell ⟨B.pb, i * 3 + 2, none⟩ (.int .i64 a)) := by
  have ht : Turn [B.pb] w (w.setCell ⟨B.pb, i * 3 + 2, none⟩ (.int .i64 a)) := (Turn.refl _ _).put (by simp) _
  have hel : ∀ g ∈ [B.pb], Else 5 w g := fun g hg => by
    obtain rfl : g = B.pb := by simpa using hg
    exact h.bp.else_ (by decide)
  have hmem : ∀ m ∈ B.ms, MbAt (w.setCell ⟨B.pb, i * 3 + 2, none⟩ (.int .i64 a)) B.cap B.blk B.limit m := fun m hm => by
    refine (h.mem m hm).turn ht hel ?_ ?_
    · obtain ⟨Z, n, c, hx⟩ := (h.mem m hm).box
      simpa using Box.apart hx h.bp (by decide)
    · obtain ⟨cs, hx⟩ := (h.mem m hm).zt
      simpa using Box.apart hx h.bp (by decide)
  refine ⟨⟨?_, ?_, fun m hm => ?_, fun j k hj hk hne => ?_, by simpa using h.len⟩, ht⟩
  · have := h.bb.turn ht (by simpa using h.ne)
    simpa [Bd.cells] using this
  · have h2 := h.bp.store (i * 3 + 2) (.int .i64 a)
    simp only [List.setIfInBounds_toArray] at h2
    rw [← pcells_ahead (B.ms.map Mb.pl) i (by simpa using hi) a] at h2
    simpa [List.map_set, Mb.pl] using h2
  · rcases List.mem_or_eq_of_mem_set hm with hm | rfl
    · exact hmem m hm
    · have hx := hmem _ (List.getElem_mem hi)
      exact ⟨hx.gone, hx.here, hx.zt⟩
  · simp only [List.length_set] at hj hk
    have hx := h.apart j k hj hk hne
    simp only [List.getElem_set]
    split <;> split <;> simp_all
/-- A member is another, at the same place. -/
theorem BusAt.put (h : BusAt w B) {i : Nat} (hi : i < B.ms.length) {m : Mb} (ht : Turn [B.ms[i].p, B.ms[i].zb] w w') (hm : MbAt w' B.cap B.blk B.limit m) (hp : m.p = B.ms[i].p) (hz : m.zb = B.ms[i].zb) (hs : m.serial = B.ms[i].serial) (ha : m.ahead = B.ms[i].ahead) :
    BusAt w' { B with ms := B.ms.set i m } := by
  have hmi := h.mem _ (List.getElem_mem hi)
  obtain ⟨Z, n, c, hxp⟩ := hmi.box
  obtain ⟨cs, hxz⟩ := hmi.zt
  have hel : ∀ g ∈ [B.ms[i].p, B.ms[i].zb], Else 5 w g := by
    simp only [List.mem_cons, List.not_mem_nil, or_false]
    rintro g (rfl | rfl)
    · exact Box.else_ hxp (by decide)
    · exact hxz.else_ (by decide)
  refine ⟨?_, ?_, fun y hy => ?_, fun j k hj hk hne => ?_, by simpa using h.len⟩
  · have := h.bb.turn ht (by simp only [List.mem_cons, List.not_mem_nil, or_false, not_or]; exact ⟨(Box.apart hxp h.bb (by decide)).symm, (Box.apart hxz h.bb (by decide)).symm⟩)
    simpa [Bd.cells] using this
  · have h2 := h.bp.turn ht (by simp only [List.mem_cons, List.not_mem_nil, or_false, not_or]; exact ⟨(Box.apart hxp h.bp (by decide)).symm, (Box.apart hxz h.bp (by decide)).symm⟩)
    have e : (B.ms.set i m).map Mb.pl = B.ms.map Mb.pl := by
      rw [List.map_set]
      refine set_same _ _ _ ?_
      simp [hi, Mb.pl, hp, hs, ha]
    rw [← e] at h2
    exact h2
  · obtain ⟨j, hj, rfl⟩ := List.getElem_of_mem hy
    simp only [List.length_set] at hj
    rw [List.getElem_set]
    by_cases e : i = j
    · subst e
      rw [if_pos rfl]
      exact hm
    · rw [if_neg e]
      have hmj := h.mem _ (List.getElem_mem hj)
      obtain ⟨Z2, n2, c2, hyp⟩ := hmj.box
      obtain ⟨cs2, hyz⟩ := hmj.zt
      have hap := h.apart j i hj hi (fun x => e x.symm)
      refine hmj.turn ht hel ?_ ?_
      · simp only [List.mem_cons, List.not_mem_nil, or_false, not_or]
        exact ⟨hap.1, Box.apart hyp hxz (by decide)⟩
      · simp only [List.mem_cons, List.not_mem_nil, or_false, not_or]
        exact ⟨Box.apart hyz hxp (by decide), hap.2⟩
  · simp only [List.length_set] at hj hk
    have hx := h.apart j k hj hk hne
    simp only [List.getElem_set]
    split <;> split <;> simp_all
end
theorem box9 {w : World} {g : Nat} {t : TypeId} {a b c d e f i j k : Value} (h : Box w g t #[a, b, c, d, e, f, i, j, k]) :
    (w.cell? ⟨g, 0, none⟩ = some a ∧ w.cell? ⟨g, 1, none⟩ = some b ∧ w.cell? ⟨g, 2, none⟩ = some c ∧ w.cell? ⟨g, 3, none⟩ = some d ∧ w.cell? ⟨g, 4, none⟩ = some e ∧ w.cell? ⟨g, 5, none⟩ = some f ∧ w.cell? ⟨g, 6, none⟩ = some i ∧ w.cell? ⟨g, 7, none⟩ = some j ∧ w.cell? ⟨g, 8, none⟩ = some k) ∧
    (w.frozen? ⟨g, 4, none⟩ = false ∧ w.frozen? ⟨g, 5, none⟩ = false ∧ w.frozen? ⟨g, 6, none⟩ = false ∧ w.frozen? ⟨g, 7, none⟩ = false ∧ w.frozen? ⟨g, 8, none⟩ = false) :=
  ⟨⟨h.cell 0, h.cell 1, h.cell 2, h.cell 3, h.cell 4, h.cell 5, h.cell 6, h.cell 7, h.cell 8⟩, h.frozen 4, h.frozen 5, h.frozen 6, h.frozen 7, h.frozen 8⟩
end Go.Proofs.Ytbaolfncolfipaa
