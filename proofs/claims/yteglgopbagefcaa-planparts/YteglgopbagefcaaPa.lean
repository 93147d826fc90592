/- Steps and places as plain data; rows of things of five cells in memory. -/
import Derived.Test.YteglgopbagefcaaZ
import Derived.BigQuiet
namespace Go.Proofs.Yteglgopbagefcaa
set_option linter.unusedVariables false
set_option linter.unusedSimpArgs false
open Go.RowKit
open Go.RowKit (wrap64)

/-- A step as plain data: parity?, member, phys, lb, n. -/
structure St where
  p : Bool
  m : Int
  f : Int
  b : Int
  n : Int
def St.cs (s : St) : List Value := [.bool s.p, .int .i64 s.m, .int .i64 s.f, .int .i64 s.b, .int .i64 s.n]
def St.v (s : St) : Value := (.agg #[.bool s.p, .int .i64 s.m, .int .i64 s.f, .int .i64 s.b, .int .i64 s.n])
def Pl.cs (P : Pl) : List Value := [.int .i64 P.s, .int .i64 P.u, .int .i64 P.i, .int .i64 P.m, .int .i64 P.p]

section
variable {α : Type} {f : α → List Value}
/-- The cells of a row of things. -/
def rcells (f : α → List Value) (l : List α) : List Value := (l.map f).flatten
theorem rcells_snoc (l : List α) (x : α) : rcells f (l ++ [x]) = rcells f l ++ f x := by simp [rcells]
theorem rcells_app (l k : List α) : rcells f (l ++ k) = rcells f l ++ rcells f k := by simp [rcells]
theorem rcells_len (hf : ∀ x, (f x).length = 5) (l : List α) : (rcells f l).length = l.length * 5 := by
  induction l with
  | nil => rfl
  | cons x l ih =>
    have : rcells f (x :: l) = f x ++ rcells f l := by simp [rcells]
    rw [this, List.length_append, hf, ih, List.length_cons]
    omega
theorem rcells_at (hf : ∀ x, (f x).length = 5) : ∀ (l : List α) (i j : Nat) (hi : i < l.length) (hj : j < 5), (rcells f l)[i * 5 + j]? = (f l[i])[j]?
  | [], i, j, hi, hj => by simp at hi
  | x :: l, 0, j, hi, hj => by
    have : rcells f (x :: l) = f x ++ rcells f l := by simp [rcells]
    rw [this, List.getElem?_append_left (by rw [hf]; omega)]
    simp
  | x :: l, i + 1, j, hi, hj => by
    have : rcells f (x :: l) = f x ++ rcells f l := by simp [rcells]
    rw [this, List.getElem?_append_right (by rw [hf]; omega), hf]
    have e : (i + 1) * 5 + j - 5 = i * 5 + j := by omega
    rw [e, rcells_at hf l i j (by simpa using hi) hj]
    simp

/-- A value is a slice, in memory of its own from base on, with these things. -/
def Rw (f : α → List Value) (t : TypeId) (w : World) (base : Nat) (v : Value) (l : List α) : Prop := w.ownsRow base t 5 v l.length (rcells f l)
theorem Rw.later {t : TypeId} {w w' : World} {base : Nat} {v : Value} {l : List α} (h : Rw f t w base v l) (hb : Below w.heap.size w w') : Rw f t w' base v l := by
  refine ⟨h.1, ?_⟩
  rcases h.2 with hn | ⟨g, cap, cur, hv, hbg, hg, rest⟩
  · exact .inl hn
  · exact .inr ⟨g, cap, cur, hv, hbg, (hb.block g (Array.getElem?_eq_some_iff.1 hg).1).trans hg, rest⟩
theorem Rw.mono {t : TypeId} {w : World} {base b2 : Nat} {v : Value} {l : List α} (h : Rw f t w base v l) (hb : b2 ≤ base) : Rw f t w b2 v l := by
  refine ⟨h.1, ?_⟩
  rcases h.2 with hn | ⟨g, cap, cur, hv, hbg, rest⟩
  · exact .inl hn
  · exact .inr ⟨g, cap, cur, hv, Nat.le_trans hb hbg, rest⟩
theorem Rw.nil (t : TypeId) (w : World) (base : Nat) : Rw f t w base (.slice none 0 0) [] := ⟨rfl, .inl ⟨rfl, rfl⟩⟩
/-- What is read at a slice's address. -/
def Seen (f : α → List Value) (w : World) (A : Option Addr) (l : List α) : Prop := ∀ i (hi : i < l.length), ∃ g, A = some ⟨g, 0, none⟩ ∧ ∀ j, j < 5 → w.cell? ⟨g, i * 5 + j, none⟩ = (f l[i])[j]?
theorem Seen.later {w w' : World} {A : Option Addr} {l : List α} (hf : ∀ x, (f x).length = 5) (h : Seen f w A l) (hb : Below w.heap.size w w') : Seen f w' A l := fun i hi => by
  obtain ⟨g, hA, hg⟩ := h i hi
  refine ⟨g, hA, fun j hj => ?_⟩
  rw [← hg j hj]
  have hlt : g < w.heap.size := by
    have h0 := hg 0 (by omega)
    rw [List.getElem?_eq_getElem (by rw [hf]; omega)] at h0
    unfold World.cell? at h0
    rcases Nat.lt_or_ge g w.heap.size with h1 | h1
    · exact h1
    · simp [Array.getElem?_eq_none h1] at h0
  exact hb.cell (p := ⟨g, i * 5 + j, none⟩) hlt
theorem Rw.seen {t : TypeId} {w : World} {base : Nat} {v : Value} {l : List α} (hf : ∀ x, (f x).length = 5) (h : Rw f t w base v l) : ∃ A c, v = .slice A l.length c ∧ l.length ≤ c ∧ Seen f w A l := by
  rcases h.2 with ⟨rfl, h0⟩ | ⟨g, cap, cur, rfl, hbg, hg, h1, h2, h3, h4⟩
  · exact ⟨none, 0, by rw [h0], by omega, fun i hi => by omega⟩
  · refine ⟨_, cap, rfl, h1, fun i hi => ⟨g, rfl, fun j hj => ?_⟩⟩
    rw [cell_of_row w g (i * 5 + j) cur t (0, 0) hg, ← rcells_at hf l i j hi hj, ← h4, List.getElem?_take_of_lt (by omega)]
    simp
end
theorem St.len (s : St) : s.cs.length = 5 := rfl
theorem Pl.len (P : Pl) : P.cs.length = 5 := rfl
/-- The call gave a new row of steps. -/
def GaveS (w : World) (l : List St) (e : Ending) (w' : World) : Prop := ∃ v, e = .returned v ∧ Rw St.cs 41 w' w.heap.size v l ∧ Below w.heap.size w w'
theorem Seen.step {w : World} {A : Option Addr} {l : List St} (h : Seen St.cs w A l) {i : Nat} (hi : i < l.length) : ∃ g, A = some ⟨g, 0, none⟩ ∧ w.cell? ⟨g, i * 5, none⟩ = some (.bool l[i].p) ∧ w.cell? ⟨g, i * 5 + 1, none⟩ = some (.int .i64 l[i].m) ∧ w.cell? ⟨g, i * 5 + 2, none⟩ = some (.int .i64 l[i].f) ∧ w.cell? ⟨g, i * 5 + 3, none⟩ = some (.int .i64 l[i].b) ∧ w.cell? ⟨g, i * 5 + 4, none⟩ = some (.int .i64 l[i].n) := by
  obtain ⟨g, hA, hg⟩ := h i hi
  exact ⟨g, hA, hg 0 (by omega), hg 1 (by omega), hg 2 (by omega), hg 3 (by omega), hg 4 (by omega)⟩
theorem Seen.place {w : World} {A : Option Addr} {l : List Pl} (h : Seen Pl.cs w A l) {i : Nat} (hi : i < l.length) : ∃ g, A = some ⟨g, 0, none⟩ ∧ w.cell? ⟨g, i * 5, none⟩ = some (.int .i64 l[i].s) ∧ w.cell? ⟨g, i * 5 + 1, none⟩ = some (.int .i64 l[i].u) ∧ w.cell? ⟨g, i * 5 + 2, none⟩ = some (.int .i64 l[i].i) ∧ w.cell? ⟨g, i * 5 + 3, none⟩ = some (.int .i64 l[i].m) ∧ w.cell? ⟨g, i * 5 + 4, none⟩ = some (.int .i64 l[i].p) := by
  obtain ⟨g, hA, hg⟩ := h i hi
  exact ⟨g, hA, hg 0 (by omega), hg 1 (by omega), hg 2 (by omega), hg 3 (by omega), hg 4 (by omega)⟩

set_option maxRecDepth 100000 in
set_option maxHeartbeats 2000000 in
theorem same_eq (A B : Option Addr) (ca cb : Nat) (l : List St) (w : World) (ha : Seen St.cs w A l) (hb : Seen St.cs w B l) (hl : l.length ≤ 1000000) :
    Calls Try.prog 11 #[.slice A l.length ca, .slice B l.length cb] w (Says w (.bool true)) := by
  have HA := Lib.hid ha
  have HB := Lib.hid hb
  clear ha hb
  have HN : Hid (∀ k, k < l.length → ∃ h : k < l.length, l[k] = l[k]) := fun k h => ⟨h, rfl⟩
  obtain ⟨n, hn⟩ : ∃ n, l.length = n := ⟨_, rfl⟩
  have HL := Lib.hid hn
  rw [hn] at hl ⊢
  clear hn HN
  go_enter Try.func11, Try.ntmps11
  go_wp2
  go_loopw [5] (fun i wr => ∃ k : Nat, k ≤ n ∧ i = .int .i64 k ∧ Below w.heap.size w wr) (fun i _ => n - (intOf i).toNat)
  case atStart => exact ⟨0, by omega, rfl, Below.refl _ _⟩
  case round =>
    obtain ⟨k, hk, rfl, hbe⟩ := hrel
    have HE := Lib.hid hbe
    clear hbe
    by_cases hlt : k < n
    · obtain ⟨ga, rfl, a0, a1, a2, a3, a4⟩ := (HA.out.later St.len HE.out).step (i := k) (by rw [HL.out]; exact hlt)
      obtain ⟨gb, rfl, b0, b1, b2, b3, b4⟩ := (HB.out.later St.len HE.out).step (i := k) (by rw [HL.out]; exact hlt)
      generalize l[k]'(by rw [HL.out]; exact hlt) = x at a0 a1 a2 a3 a4 b0 b1 b2 b3 b4
      go_upto_region 6 with fail
      go_region
      all_goals go_wp2
      all_goals go_roundw
      case rel => exact ⟨k + 1, by omega, by go_num, HE.out.drew⟩
      case measure => simp [intOf]; omega
    · obtain rfl : k = n := by omega
      go_wp2
      go_ret
      exact ⟨rfl, HE.out⟩
end Go.Proofs.Yteglgopbagefcaa
