/- The contract of slices.Delete of the first of three parities. -/
import Derived.Test.YtaceaemombnhkaaGs
import Derived.Test.YtaceaemombnhkaaGf
import Derived.Test.YtaceaemombnhkaaUc
import Derived.Deep.DeepAppendRoom
import Derived.Lib.SliceRun
namespace Go.Proofs.Ytaceaemombnhkaa
set_option linter.unusedVariables false
set_option maxRecDepth 100000
set_option linter.unusedSimpArgs false
open Go.RowKit
open Go.RowKit (wrap64)

/-- A cell of the call's own row stored. -/
theorem own_store {w : World} {base e size n g c i : Nat} {xs : List Value} (u : Value) (h : w.ownsRow base e size (.slice (some ⟨g, 0, none⟩) n c) n xs) (hi : i < n * size) : (w.setCell ⟨g, i, none⟩ u).ownsRow base e size (.slice (some ⟨g, 0, none⟩) n c) n (xs.set i u) := by
  rcases h.2 with ⟨h0, _⟩ | ⟨g', cap, cur, hv, hb, hh, hc, hm, hs, ht⟩
  · simp at h0
  · simp only [Value.slice.injEq, Option.some.injEq, Addr.mk.injEq, and_true, true_and] at hv
    obtain ⟨rfl, rfl⟩ := hv
    refine ⟨by rw [List.length_set]; exact h.1, Or.inr ⟨g, c, cur.setIfInBounds i u, rfl, hb, ?_, hc, hm, by rw [Array.size_setIfInBounds]; exact hs, ?_⟩⟩
    · rw [setCell_eq_setRow w g i cur e (0, 0) u hh]
      exact setRow_heap w g cur _ e _ hh
    · rw [← ht, Array.toList_setIfInBounds, List.take_set]
theorem PrsAt.cells {w : World} {S : Nat → Prop} {g : Nat} : ∀ {ps : List Pr} {off : Nat}, (∀ j (hj : j < ps.length), PrAt w S g (off + j * 2) ps[j]) → ∃ xs, PsRow w S ps xs ∧ ∀ j u, xs[j]? = some u → w.cell? ⟨g, off + j, none⟩ = some u
  | [], _, _ => ⟨[], rfl, fun j u h => by simp at h⟩
  | p :: ps, off, h => by
    obtain ⟨X, x, c0, c1, h1, h2, h3⟩ := h 0 (by simp)
    obtain ⟨xs, hx, hc⟩ := PrsAt.cells (ps := ps) (off := off + 2) (fun j hj => by
      have := h (j + 1) (by simpa using hj)
      rw [show off + (j + 1) * 2 = off + 2 + j * 2 by omega] at this
      simpa using this)
    refine ⟨_, ⟨X, x, xs, rfl, h1, h2, h3, hx⟩, fun j u hu => ?_⟩
    rcases j with _ | _ | j
    · obtain rfl : Value.int .i64 p.w = u := by simpa using hu
      simpa using c0
    · obtain rfl : Value.slice X p.b.length x = u := by simpa using hu
      simpa using c1
    · have := hc j u (by simpa using hu)
      rw [show off + (j + 1 + 1) = off + 2 + j by omega]
      exact this
theorem ZnsAt.cells {w : World} {S : Nat → Prop} {g : Nat} : ∀ {zs : List Zn} {off : Nat}, (∀ j (hj : j < zs.length), ZnAt w S g (off + j * 6) zs[j]) → ∃ xs, ZsRow w S zs xs ∧ ∀ j u, xs[j]? = some u → w.cell? ⟨g, off + j, none⟩ = some u
  | [], _, _ => ⟨[], rfl, fun j u h => by simp at h⟩
  | z :: zs, off, h => by
    obtain ⟨X, x, c0, c1, c2, c3, c4, c5, h1, h2, h3⟩ := h 0 (by simp)
    obtain ⟨xs, hx, hc⟩ := ZnsAt.cells (zs := zs) (off := off + 6) (fun j hj => by
      have := h (j + 1) (by simpa using hj)
      rw [show off + (j + 1) * 6 = off + 6 + j * 6 by omega] at this
      simpa using this)
    refine ⟨_, ⟨X, x, xs, rfl, h1, h2, h3, hx⟩, fun j u hu => ?_⟩
    rcases j with _ | _ | _ | _ | _ | _ | j
    · obtain rfl : Value.int .i64 z.gen = u := by simpa using hu
      simpa using c0
    · obtain rfl : Value.int .i64 z.slot = u := by simpa using hu
      simpa using c1
    · obtain rfl : Value.bool z.full = u := by simpa using hu
      simpa using c2
    · obtain rfl : Value.int .i64 z.w = u := by simpa using hu
      simpa using c3
    · obtain rfl : Value.bool z.whole = u := by simpa using hu
      simpa using c4
    · obtain rfl : Value.slice X z.ps.length x = u := by simpa using hu
      simpa using c5
    · have := hc j u (by simpa using hu)
      rw [show off + (j + 1 + 1 + 1 + 1 + 1 + 1) = off + 6 + j by omega]
      exact this
/-- A row of the call's own. -/
def GaveR (w : World) (e : TypeId) (size n : Nat) (xs : List Value) (en : Ending) (w' : World) : Prop := ∃ v, en = .returned v ∧ w'.ownsRow w.heap.size e size v n xs ∧ Below w.heap.size w w'
set_option maxHeartbeats 400000 in
theorem clone59_some (ad : Addr) (m c : Nat) (xs : List Value) (w : World) (hc : ∀ j u, xs[j]? = some u → w.cell? (ad.add j) = some u) (hl : xs.length = m * 1) (h1 : ∀ u ∈ xs, u.oneCell' = true) (hm : m ≤ 1000000) :
    Calls Try.prog 59 #[.slice (some ad) m c] w (GaveR w 3 1 m xs) := by
  have hnil := fun w => Lib.run_eql_slice_nil (P := Try.prog) w 24 3 (some ad) m c 0 0 Try.underlying24
  have ho : (w.alloc (.cells #[] 3)).ownsRow w.heap.size 3 1 (.slice (some ⟨w.heap.size, 0, none⟩) 0 0) 0 [] := World.ownsRow_lit w #[] 0 (Nat.le_refl _) (by simp [maxLen]) rfl
  have HO := Lib.hid ho
  have HC : Hid (∀ j u, xs[j]? = some u → (w.alloc (.cells #[] 3)).cell? (ad.add j) = some u) := fun j u hu => by
    have h := hc j u hu
    rw [World.cell?_alloc_some _ _ _ (by rw [h]; rfl)]
    exact h
  have HL := Lib.hid hl
  have H1 := Lib.hid h1
  clear ho hc hl h1
  go_enter Try.func59, Try.ntmps59
  go_wp2_with (at_builtin; refine wpList_own _ rfl 24 3 (.int .i64 0) 1 8 (.tmp 5) (.tmp 6) rfl Try.underlying24 Try.info3 rfl (by omega) w.heap.size _ 0 [] ad m c xs rfl rfl HO.out HL.out HC.out H1.out (by omega) (by omega) (by simp) ?_; intro v' w' ho' hg)
  rw [Nat.zero_add] at ho'
  obtain ⟨A2, a2, hv⟩ := own_form ho'
  subst hv
  have HE : Hid (w'.ownsRow w.heap.size 3 1 (.slice A2 m a2) m xs ∧ Below w.heap.size w w') := ⟨ho', (below_one w _).grown hg (by simp) (fun k hk => Nat.le_of_eq (Option.some.inj hk))⟩
  clear ho' hg
  go_wp2
  go_ret
  exact ⟨_, rfl, HE.out⟩
theorem clone59_none (m c : Nat) (w : World) : Calls Try.prog 59 #[.slice none m c] w fun e w' => e = .returned (.slice none 0 0) ∧ w = w' := by
  have hnil := fun w => Lib.run_eql_slice_nil (P := Try.prog) w 24 3 none m c 0 0 Try.underlying24
  go_enter Try.func59, Try.ntmps59
  go_wp2
  go_ret
  exact ⟨rfl, rfl⟩
set_option maxHeartbeats 400000 in
theorem clone88_some (ad : Addr) (m c : Nat) (xs : List Value) (w : World) (hc : ∀ j u, xs[j]? = some u → w.cell? (ad.add j) = some u) (hl : xs.length = m * 2) (h1 : ∀ u ∈ xs, u.oneCell' = true) (hm : m ≤ 1000000) :
    Calls Try.prog 88 #[.slice (some ad) m c] w (GaveR w 55 2 m xs) := by
  have hnil := fun w => Lib.run_eql_slice_nil (P := Try.prog) w 49 55 (some ad) m c 0 0 Try.underlying49
  have ho : (w.alloc (.cells #[] 55)).ownsRow w.heap.size 55 2 (.slice (some ⟨w.heap.size, 0, none⟩) 0 0) 0 [] := World.ownsRow_lit w #[] 0 (Nat.le_refl _) (by simp [maxLen]) rfl
  have HO := Lib.hid ho
  have HC : Hid (∀ j u, xs[j]? = some u → (w.alloc (.cells #[] 55)).cell? (ad.add j) = some u) := fun j u hu => by
    have h := hc j u hu
    rw [World.cell?_alloc_some _ _ _ (by rw [h]; rfl)]
    exact h
  have HL := Lib.hid hl
  have H1 := Lib.hid h1
  clear ho hc hl h1
  go_enter Try.func88, Try.ntmps88
  go_wp2_with (at_builtin; refine wpList_own _ rfl 49 55 (.agg #[.int .i64 0, .slice none 0 0]) 2 32 (.tmp 5) (.tmp 6) rfl Try.underlying49 Try.info55 rfl (by omega) w.heap.size _ 0 [] ad m c xs rfl rfl HO.out HL.out HC.out H1.out (by omega) (by omega) (by simp) ?_; intro v' w' ho' hg)
  rw [Nat.zero_add] at ho'
  obtain ⟨A2, a2, hv⟩ := own_form ho'
  subst hv
  have HE : Hid (w'.ownsRow w.heap.size 55 2 (.slice A2 m a2) m xs ∧ Below w.heap.size w w') := ⟨ho', (below_one w _).grown hg (by simp) (fun k hk => Nat.le_of_eq (Option.some.inj hk))⟩
  clear ho' hg
  go_wp2
  go_ret
  exact ⟨_, rfl, HE.out⟩
theorem clone88_none (m c : Nat) (w : World) : Calls Try.prog 88 #[.slice none m c] w fun e w' => e = .returned (.slice none 0 0) ∧ w = w' := by
  have hnil := fun w => Lib.run_eql_slice_nil (P := Try.prog) w 49 55 none m c 0 0 Try.underlying49
  go_enter Try.func88, Try.ntmps88
  go_wp2
  go_ret
  exact ⟨rfl, rfl⟩
set_option maxHeartbeats 400000 in
theorem clone60_some (ad : Addr) (m c : Nat) (xs : List Value) (w : World) (hc : ∀ j u, xs[j]? = some u → w.cell? (ad.add j) = some u) (hl : xs.length = m * 6) (h1 : ∀ u ∈ xs, u.oneCell' = true) (hm : m ≤ 1000000) :
    Calls Try.prog 60 #[.slice (some ad) m c] w (GaveR w 51 6 m xs) := by
  have hnil := fun w => Lib.run_eql_slice_nil (P := Try.prog) w 25 51 (some ad) m c 0 0 Try.underlying25
  have ho : (w.alloc (.cells #[] 51)).ownsRow w.heap.size 51 6 (.slice (some ⟨w.heap.size, 0, none⟩) 0 0) 0 [] := World.ownsRow_lit w #[] 0 (Nat.le_refl _) (by simp [maxLen]) rfl
  have HO := Lib.hid ho
  have HC : Hid (∀ j u, xs[j]? = some u → (w.alloc (.cells #[] 51)).cell? (ad.add j) = some u) := fun j u hu => by
    have h := hc j u hu
    rw [World.cell?_alloc_some _ _ _ (by rw [h]; rfl)]
    exact h
  have HL := Lib.hid hl
  have H1 := Lib.hid h1
  clear ho hc hl h1
  go_enter Try.func60, Try.ntmps60
  go_wp2_with (at_builtin; refine wpList_own _ rfl 25 51 (.agg #[.int .i64 0, .int .i64 0, .bool false, .int .i64 0, .bool false, .slice none 0 0]) 6 64 (.tmp 5) (.tmp 6) rfl Try.underlying25 Try.info51 rfl (by omega) w.heap.size _ 0 [] ad m c xs rfl rfl HO.out HL.out HC.out H1.out (by omega) (by omega) (by simp) ?_; intro v' w' ho' hg)
  rw [Nat.zero_add] at ho'
  obtain ⟨A2, a2, hv⟩ := own_form ho'
  subst hv
  have HE : Hid (w'.ownsRow w.heap.size 51 6 (.slice A2 m a2) m xs ∧ Below w.heap.size w w') := ⟨ho', (below_one w _).grown hg (by simp) (fun k hk => Nat.le_of_eq (Option.some.inj hk))⟩
  clear ho' hg
  go_wp2
  go_ret
  exact ⟨_, rfl, HE.out⟩
theorem clone60_none (m c : Nat) (w : World) : Calls Try.prog 60 #[.slice none m c] w fun e w' => e = .returned (.slice none 0 0) ∧ w = w' := by
  have hnil := fun w => Lib.run_eql_slice_nil (P := Try.prog) w 25 51 none m c 0 0 Try.underlying25
  go_enter Try.func60, Try.ntmps60
  go_wp2
  go_ret
  exact ⟨rfl, rfl⟩
end Go.Proofs.Ytaceaemombnhkaa
namespace Go.Proofs.Ytaceaemombnhkaa
set_option linter.unusedVariables false
set_option maxRecDepth 100000
set_option linter.unusedSimpArgs false
open Go.RowKit
open Go.RowKit (wrap64)

/-- Parities in a row of the call's own, their bytes in new blocks. -/
def GaveP (w : World) (ps : List Pr) (e : Ending) (w' : World) : Prop := ∃ A k xs, e = .returned (.slice A ps.length k) ∧ w'.ownsRow w.heap.size 55 2 (.slice A ps.length k) ps.length xs ∧ PsRow w' (NB w.heap.size w') ps xs ∧ Below w.heap.size w w'
/-- Within the loop: q of them have new bytes. -/
structure CP (w : World) (A : Option Addr) (k : Nat) (ps : List Pr) (q : Nat) (ys rs : List Value) (wr : World) : Prop where
  own : wr.ownsRow w.heap.size 55 2 (.slice A ps.length k) ps.length (ys ++ rs)
  new : PsRow wr (NB w.heap.size wr) (ps.take q) ys
  old : PsRow wr (LT w.heap.size) (ps.drop q) rs
  below : Below w.heap.size w wr
theorem PsRow.low {w w' : World} {B : Nat} {ps : List Pr} {xs : List Value} (h : PsRow w (LT B) ps xs) (hb : Below B w w') : PsRow w' (LT B) ps xs := h.map fun _ _ h => h.keep (Kept.below hb)
theorem PsRow.one {w : World} {S : Nat → Prop} : ∀ {ps : List Pr} {xs : List Value}, PsRow w S ps xs → ∀ u ∈ xs, u.oneCell' = true
  | [], _, rfl, u, h => by simp at h
  | _ :: _, _, ⟨X, x, xs', rfl, _, _, _, g4⟩, u, h => by
    rcases List.mem_cons.1 h with rfl | h
    · rfl
    · rcases List.mem_cons.1 h with rfl | h
      · rfl
      · exact g4.one u h
theorem CP.later {w wr w1 : World} {A : Option Addr} {k : Nat} {ps : List Pr} {q : Nat} {ys rs : List Value} (h : CP w A k ps q ys rs wr) (hb : Below wr.heap.size wr w1) : CP w A k ps q ys rs w1 :=
  ⟨h.own.kept (turned_of_below hb none) (by cases (Value.slice A ps.length k).ownBlock <;> simp), h.new.keepB (fun k hk hk2 => hb.block k hk2.lt), h.old.low (hb.mono h.below.size), h.below.trans (hb.mono h.below.size)⟩
theorem own_frozen {w : World} {base e size n g c : Nat} {xs : List Value} (h : w.ownsRow base e size (.slice (some ⟨g, 0, none⟩) n c) n xs) (i : Nat) : w.frozen? ⟨g, i, none⟩ = false := by
  rcases h.2 with ⟨h0, _⟩ | ⟨g', cap, cur, hv, hb, hh, _⟩
  · simp at h0
  · simp only [Value.slice.injEq, Option.some.injEq, Addr.mk.injEq, and_true, true_and] at hv
    obtain ⟨rfl, rfl⟩ := hv
    exact Box.frozen (t := e) (cs := cur) hh i
theorem set_two (ys rs : List Value) (a b u : Value) : (ys ++ (a :: b :: rs)).set (ys.length + 1) u = (ys ++ [a, u]) ++ rs := by
  rw [List.set_append_right _ _ (by omega)]
  simp
theorem CP.store {w wr : World} {g k : Nat} {ps : List Pr} {q : Nat} {ys rs : List Value} {p : Pr} {X A : Option Addr} {x c : Nat} (hq : q < ps.length) (hp : ps[q] = p) (h : CP w (some ⟨g, 0, none⟩) k ps q ys (.int .i64 p.w :: .slice X p.b.length x :: rs) wr) (hrs : PsRow wr (LT w.heap.size) (ps.drop (q + 1)) rs)
    (hA : RdS wr (NB w.heap.size wr) A p.b) (hc : p.b.length ≤ c) (hl : p.b.length ≤ 10000000) (hg : w.heap.size ≤ g) :
    CP w (some ⟨g, 0, none⟩) k ps (q + 1) (ys ++ [.int .i64 p.w, .slice A p.b.length c]) rs (wr.setCell ⟨g, q * 2 + 1, none⟩ (.slice A p.b.length c)) := by
  have hy := h.new.length
  rw [List.length_take, Nat.min_eq_left (by omega)] at hy
  have ho := own_store (i := q * 2 + 1) (.slice A p.b.length c) h.own (by omega)
  have hb : Below w.heap.size wr (wr.setCell ⟨g, q * 2 + 1, none⟩ (.slice A p.b.length c)) := (Below.refl _ _).setCell (by exact hg) _
  have hk : KeepB w.heap.size wr (wr.setCell ⟨g, q * 2 + 1, none⟩ (.slice A p.b.length c)) := fun k hk hk2 => Below.heap_setCell wr _ _ k (by
    have := hk2.own h.own (by decide)
    simp [Value.ownBlock] at this
    exact this)
  rw [← hy, set_two] at ho
  rw [← hy]
  refine ⟨ho, ?_, ?_, h.below.trans (by rw [hy]; exact hb)⟩
  · rw [List.take_succ_eq_append_getElem hq, hp]
    rw [hy]
    exact (h.new.keepB hk).snoc (hA.keepB hk) hc (by omega)
  · rw [hy]
    exact hrs.low hb
set_option maxHeartbeats 1000000 in
theorem clonePars_any (A : Option Addr) (k : Nat) (ps : List Pr) (w : World) (h : PrsAt w (LT w.heap.size) A ps) (hn : ps.length ≤ 1000000) (hs : ∀ p ∈ ps, p.b.length ≤ 10000000) :
    Calls Try.prog 61 #[.slice A ps.length k] w (GaveP w ps) := by
  have HC : Hid (Calls Try.prog 88 #[.slice A ps.length k] w fun e w' => ∃ A2 k2 rs, e = .returned (.slice A2 ps.length k2) ∧ CP w A2 k2 ps 0 [] rs w') := by
    rcases A with _ | ad
    · have h0 : ps = [] := by
        rcases ps with _ | ⟨p, ps⟩
        · rfl
        · obtain ⟨g, off, e, _⟩ := h (by simp)
          cases e
      subst h0
      refine (clone88_none 0 k w).mono ?_
      rintro e w' ⟨rfl, rfl⟩
      exact ⟨none, 0, [], rfl, World.ownsRow_nil _ _ _ _, rfl, rfl, Below.refl _ _⟩
    · obtain ⟨xs, hx, hc⟩ : ∃ xs, PsRow w (LT w.heap.size) ps xs ∧ ∀ j u, xs[j]? = some u → w.cell? (ad.add j) = some u := by
        rcases Nat.eq_zero_or_pos ps.length with h0 | h0
        · obtain rfl : ps = [] := List.eq_nil_of_length_eq_zero h0
          exact ⟨[], rfl, fun j u hu => by simp at hu⟩
        · obtain ⟨g, off, e, _, hall⟩ := h h0
          obtain rfl := Option.some.inj e
          obtain ⟨xs, hx, hc⟩ := PrsAt.cells hall
          refine ⟨xs, hx, fun j u hu => ?_⟩
          have hadd : (⟨g, off, none⟩ : Addr).add j = ⟨g, off + j, none⟩ := by unfold Addr.add; split <;> simp_all
          rw [hadd]
          exact hc j u hu
      refine (clone88_some ad ps.length k xs w hc hx.length hx.one hn).mono ?_
      rintro e w' ⟨v, rfl, ho, hb⟩
      obtain ⟨A2, k2, rfl⟩ := own_form ho
      exact ⟨A2, k2, xs, rfl, ho, rfl, hx.low hb, hb⟩
  have HN := Lib.hid hn
  have HS := Lib.hid hs
  clear h hn hs
  go_enter Try.func61, Try.ntmps61
  go_wp2_with fail
  refine HC.out.mono ?_
  rintro e w1 ⟨A2, k2, rs, rfl, hcp⟩
  have HP := Lib.hid hcp
  clear hcp HC
  go_wp2
  go_loopw [8] (fun i wr => ∃ (q : Nat) (ys rs : List Value), q ≤ ps.length ∧ i = .int .i64 q ∧ CP w A2 k2 ps q ys rs wr) (fun i _ => ps.length - (intOf i).toNat)
  case atStart => exact ⟨0, [], rs, Nat.zero_le _, rfl, HP.out⟩
  case round =>
    clear HP
    obtain ⟨q, ys, rs2, hq, rfl, hst⟩ := hrel
    have HP := Lib.hid hst
    clear hst
    by_cases hlt : q < ps.length
    · obtain ⟨g, hg, hg2⟩ : ∃ g, A2 = some ⟨g, 0, none⟩ ∧ w.heap.size ≤ g := by
        rcases HP.out.own.2 with ⟨h0, h1⟩ | ⟨g, cap, cur, hv, hb, _⟩
        · omega
        · simp only [Value.slice.injEq] at hv
          exact ⟨g, hv.1, hb⟩
      subst hg
      have hold := HP.out.old
      rw [List.drop_eq_getElem_cons hlt] at hold
      obtain ⟨X, x, rs3, hrs, hX, hx, _, hrest⟩ := hold
      subst hrs
      have hpl := HS.out _ (List.getElem_mem hlt)
      obtain ⟨p, hp⟩ : ∃ p, ps[q] = p := ⟨_, rfl⟩
      have HPE := Lib.hid hp
      rw [hp] at HP hX hx hpl
      clear hp
      have HY : Hid (ys.length = q * 2) := by
        show _ = _
        rw [HP.out.new.length, List.length_take, Nat.min_eq_left (by omega)]
      have hc1 : wr.cell? ⟨g, q * 2 + 1, none⟩ = some (.slice X p.b.length x) := by
        rw [World.ownsRow.cellAt HP.out.own (q * 2 + 1) (by omega), ← HY.out, List.getElem?_append_right (by omega)]
        simp
      have HCL := Lib.hid (cloneT_any X x w.heap.size p.b wr hX.lt HP.out.below.size hpl)
      have HRS := Lib.hid hrest
      have HPL := Lib.hid hpl
      clear hX hx hpl hrest
      go_wp2_with fail
      refine HCL.out.mono ?_
      rintro e w2 ⟨B, cb, rfl, hB, hcb, hb⟩
      have HP2 := Lib.hid (HP.out.later hb)
      have HB := Lib.hid (And.intro (hB.more HP.out.below.size) hcb)
      have HRS2 := Lib.hid (HRS.out.low (hb.mono HP.out.below.size))
      clear hB hcb hb hc1 HCL HRS HP
      have hc2 : w2.cell? ⟨g, q * 2 + 1, none⟩ = some (.slice X p.b.length x) := by
        rw [World.ownsRow.cellAt HP2.out.own (q * 2 + 1) (by omega), ← HY.out, List.getElem?_append_right (by omega)]
        simp
      have hf2 : w2.frozen? ⟨g, q * 2 + 1, none⟩ = false := own_frozen HP2.out.own _
      go_upto_region 6 with fail
      have HQ := Lib.hid (HP2.out.store hlt HPE.out HRS2.out HB.out.1 HB.out.2 HPL.out hg2)
      generalize w2.setCell ⟨g, q * 2 + 1, none⟩ (.slice B p.b.length cb) = w3 at HQ ⊢
      clear hc2 hf2 HP2 HB HRS2
      have hn2 := HN.out
      go_wp2
      go_roundw
      case rel => exact ⟨q + 1, _, _, hlt, by go_num, HQ.out⟩
      case measure => simp [intOf]; omega
    · obtain rfl : q = ps.length := by omega
      have HE : Hid (PsRow wr (NB w.heap.size wr) ps ys ∧ rs2 = []) := by
        have h1 := HP.out.new
        have h2 := HP.out.old
        rw [List.take_length] at h1
        rw [List.drop_length] at h2
        exact ⟨h1, h2⟩
      have ho := HP.out.own
      rw [HE.out.2, List.append_nil] at ho
      have HF : Hid (wr.ownsRow w.heap.size 55 2 (.slice A2 ps.length k2) ps.length ys ∧ Below w.heap.size w wr) := ⟨ho, HP.out.below⟩
      clear ho HP
      go_wp2
      go_ret
      exact ⟨A2, k2, ys, rfl, HF.out.1, HE.out.1, HF.out.2⟩
end Go.Proofs.Ytaceaemombnhkaa
namespace Go.Proofs.Ytaceaemombnhkaa
set_option linter.unusedVariables false
set_option maxRecDepth 100000
set_option linter.unusedSimpArgs false
open Go.RowKit
open Go.RowKit (wrap64)

theorem own_mono {w : World} {base base' e size n : Nat} {v : Value} {xs : List Value} (h : w.ownsRow base e size v n xs) (hb : base' ≤ base) : w.ownsRow base' e size v n xs := by
  refine ⟨h.1, ?_⟩
  rcases h.2 with h1 | ⟨g, cap, cur, hv, hg, hh⟩
  · exact Or.inl h1
  · exact Or.inr ⟨g, cap, cur, hv, Nat.le_trans hb hg, hh⟩
/-- All new rows of parities, and of bytes, stay. -/
def KeepT (lo : Nat) (w w' : World) : Prop := ∀ k, TB lo w k → w'.heap[k]? = w.heap[k]?
theorem KeepT.b {lo : Nat} {w w' : World} (h : KeepT lo w w') : KeepB lo w w' := fun k hk hb => h k (NB.tb k ⟨hk, hb⟩)
theorem own_keepT {w w' : World} {lo n : Nat} {v : Value} {xs : List Value} (h : w.ownsRow lo 55 2 v n xs) (hk : KeepT lo w w') : w'.ownsRow lo 55 2 v n xs := by
  refine ⟨h.1, ?_⟩
  rcases h.2 with h1 | ⟨g, cap, cur, hv, hg, hh, hr⟩
  · exact Or.inl h1
  · exact Or.inr ⟨g, cap, cur, hv, hg, (hk g ⟨hg, cur, 55, _, hh, Or.inr rfl⟩).trans hh, hr⟩
/-- Zones' cells, with their parities in rows of the call's own, in the blocks bs. -/
def ZOwn (w : World) (lo : Nat) : List Zn → List Value → List Nat → Prop
  | [], zx, bs => zx = [] ∧ bs = []
  | z :: zs, zx, bs => ∃ Y y xs zx' bs', zx = .int .i64 z.gen :: .int .i64 z.slot :: .bool z.full :: .int .i64 z.w :: .bool z.whole :: .slice Y z.ps.length y :: zx' ∧ w.ownsRow lo 55 2 (.slice Y z.ps.length y) z.ps.length xs ∧ PsRow w (NB lo w) z.ps xs ∧ bs = (Value.slice Y z.ps.length y).ownBlock.toList ++ bs' ∧ ZOwn w lo zs zx' bs'
theorem ZOwn.length {w : World} {lo : Nat} : ∀ {zs : List Zn} {zx : List Value} {bs : List Nat}, ZOwn w lo zs zx bs → zx.length = zs.length * 6
  | [], _, _, ⟨rfl, _⟩ => rfl
  | _ :: _, _, _, ⟨_, _, _, _, _, rfl, _, _, _, h⟩ => by simp [h.length]; omega
theorem ZOwn.keepT {w w' : World} {lo : Nat} (hk : KeepT lo w w') : ∀ {zs : List Zn} {zx : List Value} {bs : List Nat}, ZOwn w lo zs zx bs → ZOwn w' lo zs zx bs
  | [], _, _, h => h
  | _ :: _, _, _, ⟨Y, y, xs, zx', bs', e, h1, h2, h3, h4⟩ => ⟨Y, y, xs, zx', bs', e, own_keepT h1 hk, h2.keepB hk.b, h3, h4.keepT hk⟩
theorem ZOwn.snoc {w : World} {lo : Nat} : ∀ {zs : List Zn} {zx : List Value} {bs : List Nat} {z : Zn} {Y : Option Addr} {y : Nat} {xs : List Value}, ZOwn w lo zs zx bs → w.ownsRow lo 55 2 (.slice Y z.ps.length y) z.ps.length xs → PsRow w (NB lo w) z.ps xs → ZOwn w lo (zs ++ [z]) (zx ++ [.int .i64 z.gen, .int .i64 z.slot, .bool z.full, .int .i64 z.w, .bool z.whole, .slice Y z.ps.length y]) (bs ++ (Value.slice Y z.ps.length y).ownBlock.toList)
  | [], _, _, z, Y, y, xs, ⟨rfl, rfl⟩, h1, h2 => ⟨Y, y, xs, [], [], rfl, h1, h2, by simp, rfl, rfl⟩
  | _ :: _, _, _, z, Y, y, xs, ⟨Y0, y0, xs0, zx', bs', rfl, g1, g2, rfl, g4⟩, h1, h2 => ⟨Y0, y0, xs0, _, _, rfl, g1, g2, by rw [List.append_assoc], g4.snoc h1 h2⟩
theorem ZOwn.lt {w : World} {lo : Nat} : ∀ {zs : List Zn} {zx : List Value} {bs : List Nat}, ZOwn w lo zs zx bs → ∀ k ∈ bs, lo ≤ k ∧ k < w.heap.size
  | [], _, _, ⟨_, rfl⟩, k, h => by simp at h
  | _ :: _, _, _, ⟨_, _, _, _, _, rfl, h1, _, rfl, h4⟩, k, h => by
    rcases List.mem_append.1 h with h | h
    · exact World.ownsRow.lt h1 k (by simpa using h)
    · exact h4.lt k h
/-- As zones that are read. -/
theorem ZOwn.row {w : World} {lo : Nat} : ∀ {zs : List Zn} {zx : List Value} {bs : List Nat}, ZOwn w lo zs zx bs → (∀ z ∈ zs, z.ps.length ≤ 140737488351232) → ZsRow w (TB lo w) zs zx
  | [], _, _, ⟨rfl, _⟩, _ => rfl
  | z :: _, _, _, ⟨Y, y, xs, zx', bs', rfl, h1, h2, _, h4⟩, hl => by
    obtain ⟨Y2, y2, e, h5, h6⟩ := h2.row h1
    simp only [Value.slice.injEq, true_and] at e
    obtain ⟨rfl, rfl⟩ := e
    exact ⟨Y, y, zx', rfl, h5, h6, hl z List.mem_cons_self, h4.row fun q hq => hl q (List.mem_cons_of_mem _ hq)⟩
theorem ZsRow.one {w : World} {S : Nat → Prop} : ∀ {zs : List Zn} {xs : List Value}, ZsRow w S zs xs → ∀ u ∈ xs, u.oneCell' = true
  | [], _, rfl, u, h => by simp at h
  | _ :: _, _, ⟨X, x, xs', rfl, _, _, _, g4⟩, u, h => by
    simp only [List.mem_cons] at h
    rcases h with rfl | rfl | rfl | rfl | rfl | rfl | h <;> first | rfl | exact g4.one u h
theorem ZsRow.low {w w' : World} {B : Nat} {zs : List Zn} {xs : List Value} (h : ZsRow w (LT B) zs xs) (hb : Below B w w') : ZsRow w' (LT B) zs xs := h.map fun _ _ h => h.keep (Kept.below hb)
end Go.Proofs.Ytaceaemombnhkaa
namespace Go.Proofs.Ytaceaemombnhkaa
set_option linter.unusedVariables false
set_option maxRecDepth 100000
set_option linter.unusedSimpArgs false
open Go.RowKit
open Go.RowKit (wrap64)

def GotCl (w : World) (s : St) (e : Ending) (w' : World) : Prop := ∃ A k D d zx bs, e = .returned (.agg #[.int .i64 s.c.id, .int .i64 s.c.m, .int .i64 s.c.u, .int .i64 s.c.b, .int .i64 s.c.cp, .int .i64 s.c.z, .int .i64 s.c.s, .int .i64 s.c.mt, .int .i64 s.c.o, .int .i64 s.c.a, .int .i64 s.c.l, .int .i64 s.ep, .int .i64 s.sq, .slice A s.st.length k, .slice D s.zs.length d]) ∧ w'.ownsRow w.heap.size 3 1 (.slice A s.st.length k) s.st.length (s.st.map (Value.int .i64)) ∧ w'.ownsRow w.heap.size 51 6 (.slice D s.zs.length d) s.zs.length zx ∧ ZOwn w' w.heap.size s.zs zx bs ∧ bs.Nodup ∧ Below w.heap.size w w'
theorem cloneInts_any (A : Option Addr) (k : Nat) (st : List Int) (w : World) (h : IntsAt w (LT w.heap.size) A st) (hn : st.length ≤ 1000000) :
    Calls Try.prog 59 #[.slice A st.length k] w fun e w' => ∃ A2 k2, e = .returned (.slice A2 st.length k2) ∧ w'.ownsRow w.heap.size 3 1 (.slice A2 st.length k2) st.length (st.map (Value.int .i64)) ∧ Below w.heap.size w w' := by
  rcases A with _ | ad
  · have h0 : st = [] := by
      rcases st with _ | ⟨p, ps⟩
      · rfl
      · obtain ⟨g, off, e, _⟩ := h (by simp)
        cases e
    subst h0
    refine (clone59_none 0 k w).mono ?_
    rintro e w' ⟨rfl, rfl⟩
    exact ⟨none, 0, rfl, World.ownsRow_nil _ _ _ _, Below.refl _ _⟩
  · refine (clone59_some ad st.length k (st.map (Value.int .i64)) w (fun j u hu => ?_) (by simp) (by simp [Value.oneCell']) hn).mono ?_
    · have hj : j < st.length := by
        have := (List.getElem?_eq_some_iff.1 hu).1
        simpa using this
      obtain ⟨g, off, e, _, hall⟩ := h (by omega)
      obtain rfl := Option.some.inj e
      have hadd : (⟨g, off, none⟩ : Addr).add j = ⟨g, off + j, none⟩ := by unfold Addr.add; split <;> simp_all
      rw [hadd, hall j hj, ← hu]
      simp [hj]
    · rintro e w' ⟨v, rfl, ho, hb⟩
      obtain ⟨A2, k2, rfl⟩ := own_form ho
      exact ⟨A2, k2, rfl, ho, hb⟩
theorem cloneZones_any (D : Option Addr) (d : Nat) (zs : List Zn) (B : Nat) (w : World) (hB : B ≤ w.heap.size) (h : ZnsAt w (LT B) D zs) (hn : zs.length ≤ 1000000) :
    Calls Try.prog 60 #[.slice D zs.length d] w fun e w' => ∃ D2 d2 zx, e = .returned (.slice D2 zs.length d2) ∧ w'.ownsRow w.heap.size 51 6 (.slice D2 zs.length d2) zs.length zx ∧ ZsRow w' (LT B) zs zx ∧ Below w.heap.size w w' := by
  rcases D with _ | ad
  · have h0 : zs = [] := by
      rcases zs with _ | ⟨p, ps⟩
      · rfl
      · obtain ⟨g, off, e, _⟩ := h (by simp)
        cases e
    subst h0
    refine (clone60_none 0 d w).mono ?_
    rintro e w' ⟨rfl, rfl⟩
    exact ⟨none, 0, [], rfl, World.ownsRow_nil _ _ _ _, rfl, Below.refl _ _⟩
  · obtain ⟨xs, hx, hc⟩ : ∃ xs, ZsRow w (LT B) zs xs ∧ ∀ j u, xs[j]? = some u → w.cell? (ad.add j) = some u := by
      rcases Nat.eq_zero_or_pos zs.length with h0 | h0
      · obtain rfl : zs = [] := List.eq_nil_of_length_eq_zero h0
        exact ⟨[], rfl, fun j u hu => by simp at hu⟩
      · obtain ⟨g, off, e, _, hall⟩ := h h0
        obtain rfl := Option.some.inj e
        obtain ⟨xs, hx, hc⟩ := ZnsAt.cells hall
        refine ⟨xs, hx, fun j u hu => ?_⟩
        have hadd : (⟨g, off, none⟩ : Addr).add j = ⟨g, off + j, none⟩ := by unfold Addr.add; split <;> simp_all
        rw [hadd]
        exact hc j u hu
    refine (clone60_some ad zs.length d xs w hc hx.length hx.one hn).mono ?_
    rintro e w' ⟨v, rfl, ho, hb⟩
    obtain ⟨A2, k2, rfl⟩ := own_form ho
    exact ⟨A2, k2, xs, rfl, ho, hx.low (hb.mono hB), hb⟩
theorem own_turn {w w' : World} {g base e size n : Nat} {t : TypeId} {cs : Array Value} {v : Value} {xs : List Value} (h : w.ownsRow base e size v n xs) (hb : Box w g t cs) (hne : t ≠ e) (ht : Turn [g] w w') : w'.ownsRow base e size v n xs := by
  refine ⟨h.1, ?_⟩
  rcases h.2 with h1 | ⟨g', cap, cur, hv, hg, hh, hr⟩
  · exact Or.inl h1
  · refine Or.inr ⟨g', cap, cur, hv, hg, (ht.block g' (Array.getElem?_eq_some_iff.1 hh).1 (fun hm => ?_)).trans hh, hr⟩
    have : g' = g := by simpa using hm
    subst this
    have h' : w.heap[g']? = some (.cells cs t (0, 0)) := hb
    rw [h'] at hh
    simp at hh
    exact hne hh.2
/-- Within the loop: q zones have parities of their own. -/
structure CZ (c : Cf) (ep sq : Int) (st : List Int) (zs : List Zn) (w : World) (A2 : Option Addr) (k2 : Nat) (D2 : Option Addr) (d2 q : Nat) (ya ra : List Value) (bs : List Nat) (wr : World) : Prop where
  var : Box wr w.heap.size 27 #[.int .i64 c.id, .int .i64 c.m, .int .i64 c.u, .int .i64 c.b, .int .i64 c.cp, .int .i64 c.z, .int .i64 c.s, .int .i64 c.mt, .int .i64 c.o, .int .i64 c.a, .int .i64 c.l, .int .i64 ep, .int .i64 sq, .slice A2 st.length k2, .slice D2 zs.length d2]
  ret : Box wr (w.heap.size + 1) 27 #[.int .i64 0, .int .i64 0, .int .i64 0, .int .i64 0, .int .i64 0, .int .i64 0, .int .i64 0, .int .i64 0, .int .i64 0, .int .i64 0, .int .i64 0, .int .i64 0, .int .i64 0, .slice none 0 0, .slice none 0 0]
  ints : wr.ownsRow w.heap.size 3 1 (.slice A2 st.length k2) st.length (st.map (Value.int .i64))
  zons : wr.ownsRow w.heap.size 51 6 (.slice D2 zs.length d2) zs.length (ya ++ ra)
  new : ZOwn wr w.heap.size (zs.take q) ya bs
  nod : bs.Nodup
  old : ZsRow wr (LT w.heap.size) (zs.drop q) ra
  below : Below w.heap.size w wr
section
variable {c : Cf} {ep sq : Int} {st : List Int} {zs : List Zn} {w wr w1 : World} {A2 : Option Addr} {k2 : Nat} {D2 : Option Addr} {d2 q : Nat} {ya ra : List Value} {bs : List Nat}
theorem CZ.later (h : CZ c ep sq st zs w A2 k2 D2 d2 q ya ra bs wr) (hb : Below wr.heap.size wr w1) : CZ c ep sq st zs w A2 k2 D2 d2 q ya ra bs w1 :=
  ⟨h.var.later hb, h.ret.later hb, h.ints.kept (turned_of_below hb none) (by cases (Value.slice A2 st.length k2).ownBlock <;> simp), h.zons.kept (turned_of_below hb none) (by cases (Value.slice D2 zs.length d2).ownBlock <;> simp), h.new.keepT (fun k hk => hb.block k hk.lt), h.nod, h.old.low (hb.mono h.below.size), h.below.trans (hb.mono h.below.size)⟩
theorem CZ.store {g : Nat} {z : Zn} {X Y : Option Addr} {x y : Nat} {xs : List Value} (hq : q < zs.length) (hz : zs[q] = z) (h : CZ c ep sq st zs w A2 k2 (some ⟨g, 0, none⟩) d2 q ya (.int .i64 z.gen :: .int .i64 z.slot :: .bool z.full :: .int .i64 z.w :: .bool z.whole :: .slice X z.ps.length x :: ra) bs wr) (hra : ZsRow wr (LT w.heap.size) (zs.drop (q + 1)) ra)
    (ho : wr.ownsRow w.heap.size 55 2 (.slice Y z.ps.length y) z.ps.length xs) (hp : PsRow wr (NB w.heap.size wr) z.ps xs) (hnew : ∀ k ∈ bs, ∀ b, (Value.slice Y z.ps.length y).ownBlock = some b → k < b) :
    CZ c ep sq st zs w A2 k2 (some ⟨g, 0, none⟩) d2 (q + 1) (ya ++ [.int .i64 z.gen, .int .i64 z.slot, .bool z.full, .int .i64 z.w, .bool z.whole, .slice Y z.ps.length y]) ra (bs ++ (Value.slice Y z.ps.length y).ownBlock.toList) (wr.setCell ⟨g, q * 6 + 5, none⟩ (.slice Y z.ps.length y)) ∧ Turn [g] wr (wr.setCell ⟨g, q * 6 + 5, none⟩ (.slice Y z.ps.length y)) := by
  have hy := h.new.length
  rw [List.length_take, Nat.min_eq_left (by omega)] at hy
  have hst := own_store (i := q * 6 + 5) (.slice Y z.ps.length y) h.zons (by omega)
  have hgl : w.heap.size ≤ g := (World.ownsRow.lt h.zons g rfl).1
  have ht : Turn [g] wr (wr.setCell ⟨g, q * 6 + 5, none⟩ (.slice Y z.ps.length y)) := (Turn.refl _ _).put (Or.inl (by simp)) _
  have hb : Below w.heap.size wr (wr.setCell ⟨g, q * 6 + 5, none⟩ (.slice Y z.ps.length y)) := (Below.refl _ _).setCell (by exact hgl) _
  obtain ⟨cur, hcur⟩ : ∃ cur, Box wr g 51 cur := by
    rcases h.zons.2 with ⟨h0, _⟩ | ⟨g', cap, cur, hv, _, hh, _⟩
    · simp at h0
    · simp only [Value.slice.injEq, Option.some.injEq, Addr.mk.injEq, and_true, true_and] at hv
      obtain ⟨rfl, _⟩ := hv
      exact ⟨cur, hh⟩
  have hkt : KeepT w.heap.size wr (wr.setCell ⟨g, q * 6 + 5, none⟩ (.slice Y z.ps.length y)) := fun k hk => ht.block k hk.lt (by simpa using hk.box hcur (by decide) (by decide))
  have hs6 : (ya ++ (Value.int .i64 z.gen :: .int .i64 z.slot :: .bool z.full :: .int .i64 z.w :: .bool z.whole :: .slice X z.ps.length x :: ra)).set (q * 6 + 5) (.slice Y z.ps.length y) = (ya ++ [.int .i64 z.gen, .int .i64 z.slot, .bool z.full, .int .i64 z.w, .bool z.whole, .slice Y z.ps.length y]) ++ ra := by
    rw [← hy, List.set_append_right _ _ (by omega)]
    simp
  rw [hs6] at hst
  refine ⟨⟨h.var.turn ht (by simpa using h.var.apart hcur (by decide)), h.ret.turn ht (by simpa using h.ret.apart hcur (by decide)), own_set h.ints hcur (by decide), hst, ?_, ?_, hra.low hb, h.below.trans hb⟩, ht⟩
  · rw [List.take_succ_eq_append_getElem hq, hz]
    exact (h.new.keepT hkt).snoc (own_keepT ho hkt) (hp.keepB hkt.b)
  · refine List.nodup_append.2 ⟨h.nod, by cases (Value.slice Y z.ps.length y).ownBlock <;> simp, fun a ha b hb2 e => ?_⟩
    subst e
    have := hnew a ha a (by simpa using hb2)
    omega
end
set_option maxHeartbeats 2000000 in
theorem clone_state_any (c : Cf) (ep sq : Int) (A : Option Addr) (st : List Int) (k : Nat) (D : Option Addr) (zs : List Zn) (d : Nat) (w : World) (h : StAt w (LT w.heap.size) A st k D zs d) (hl1 : st.length ≤ 1000000) (hl2 : zs.length ≤ 1000000) (hp : ∀ z ∈ zs, z.ps.length ≤ 1000000 ∧ ∀ p ∈ z.ps, p.b.length ≤ 10000000) :
    Calls Try.prog 26 #[(.agg #[.int .i64 c.id, .int .i64 c.m, .int .i64 c.u, .int .i64 c.b, .int .i64 c.cp, .int .i64 c.z, .int .i64 c.s, .int .i64 c.mt, .int .i64 c.o, .int .i64 c.a, .int .i64 c.l, .int .i64 ep, .int .i64 sq, .slice A st.length k, .slice D zs.length d])] w (GotCl w ⟨c, ep, sq, st, zs⟩) := by
  have HI : Hid (∀ w', Below w.heap.size w w' → StAt w' (LT w'.heap.size) A st k D zs d) := fun w' hb => h.later hb
  have HIB : Hid (∀ w', Below w.heap.size w w' → StAt w' (LT w.heap.size) A st k D zs d) := fun w' hb => h.keep (Kept.below hb)
  have HL : Hid (st.length ≤ 1000000 ∧ zs.length ≤ 1000000) := ⟨hl1, hl2⟩
  have HPP := Lib.hid hp
  clear h hl1 hl2 hp
  go_enter Try.func26, Try.ntmps26
  go_upto_region 1 with fail
  have HV : Hid (Box ((w.alloc (.cells #[.int .i64 c.id, .int .i64 c.m, .int .i64 c.u, .int .i64 c.b, .int .i64 c.cp, .int .i64 c.z, .int .i64 c.s, .int .i64 c.mt, .int .i64 c.o, .int .i64 c.a, .int .i64 c.l, .int .i64 ep, .int .i64 sq, .slice A st.length k, .slice D zs.length d] 27)).alloc (.cells #[.int .i64 0, .int .i64 0, .int .i64 0, .int .i64 0, .int .i64 0, .int .i64 0, .int .i64 0, .int .i64 0, .int .i64 0, .int .i64 0, .int .i64 0, .int .i64 0, .int .i64 0, .slice none 0 0, .slice none 0 0] 27)) w.heap.size 27 #[.int .i64 c.id, .int .i64 c.m, .int .i64 c.u, .int .i64 c.b, .int .i64 c.cp, .int .i64 c.z, .int .i64 c.s, .int .i64 c.mt, .int .i64 c.o, .int .i64 c.a, .int .i64 c.l, .int .i64 ep, .int .i64 sq, .slice A st.length k, .slice D zs.length d] ∧ Box ((w.alloc (.cells #[.int .i64 c.id, .int .i64 c.m, .int .i64 c.u, .int .i64 c.b, .int .i64 c.cp, .int .i64 c.z, .int .i64 c.s, .int .i64 c.mt, .int .i64 c.o, .int .i64 c.a, .int .i64 c.l, .int .i64 ep, .int .i64 sq, .slice A st.length k, .slice D zs.length d] 27)).alloc (.cells #[.int .i64 0, .int .i64 0, .int .i64 0, .int .i64 0, .int .i64 0, .int .i64 0, .int .i64 0, .int .i64 0, .int .i64 0, .int .i64 0, .int .i64 0, .int .i64 0, .int .i64 0, .slice none 0 0, .slice none 0 0] 27)) (w.heap.size + 1) 27 #[.int .i64 0, .int .i64 0, .int .i64 0, .int .i64 0, .int .i64 0, .int .i64 0, .int .i64 0, .int .i64 0, .int .i64 0, .int .i64 0, .int .i64 0, .int .i64 0, .int .i64 0, .slice none 0 0, .slice none 0 0] ∧ Below w.heap.size w ((w.alloc (.cells #[.int .i64 c.id, .int .i64 c.m, .int .i64 c.u, .int .i64 c.b, .int .i64 c.cp, .int .i64 c.z, .int .i64 c.s, .int .i64 c.mt, .int .i64 c.o, .int .i64 c.a, .int .i64 c.l, .int .i64 ep, .int .i64 sq, .slice A st.length k, .slice D zs.length d] 27)).alloc (.cells #[.int .i64 0, .int .i64 0, .int .i64 0, .int .i64 0, .int .i64 0, .int .i64 0, .int .i64 0, .int .i64 0, .int .i64 0, .int .i64 0, .int .i64 0, .int .i64 0, .int .i64 0, .slice none 0 0, .slice none 0 0] 27))) := by
    obtain ⟨q1, q2, q3, q4⟩ := two_boxes' w 27 27 #[.int .i64 c.id, .int .i64 c.m, .int .i64 c.u, .int .i64 c.b, .int .i64 c.cp, .int .i64 c.z, .int .i64 c.s, .int .i64 c.mt, .int .i64 c.o, .int .i64 c.a, .int .i64 c.l, .int .i64 ep, .int .i64 sq, .slice A st.length k, .slice D zs.length d] #[.int .i64 0, .int .i64 0, .int .i64 0, .int .i64 0, .int .i64 0, .int .i64 0, .int .i64 0, .int .i64 0, .int .i64 0, .int .i64 0, .int .i64 0, .int .i64 0, .int .i64 0, .slice none 0 0, .slice none 0 0]
    exact ⟨q1, q2, q3⟩
  generalize ((w.alloc (.cells #[.int .i64 c.id, .int .i64 c.m, .int .i64 c.u, .int .i64 c.b, .int .i64 c.cp, .int .i64 c.z, .int .i64 c.s, .int .i64 c.mt, .int .i64 c.o, .int .i64 c.a, .int .i64 c.l, .int .i64 ep, .int .i64 sq, .slice A st.length k, .slice D zs.length d] 27)).alloc (.cells #[.int .i64 0, .int .i64 0, .int .i64 0, .int .i64 0, .int .i64 0, .int .i64 0, .int .i64 0, .int .i64 0, .int .i64 0, .int .i64 0, .int .i64 0, .int .i64 0, .int .i64 0, .slice none 0 0, .slice none 0 0] 27)) = w0 at HV ⊢
  obtain ⟨y0, y1, y2, y3, y4, y5, y6, y7, y8, y9, y10, y11, y12, y13, y14⟩ := box15 HV.out.1
  go_wp2_with fail
  refine (cloneInts_any A k st w0 (HI.out w0 HV.out.2.2).1 HL.out.1).mono ?_
  rintro e w1 ⟨A2, k2, rfl, ho, hb⟩
  have HV1 : Hid (Box w1 w.heap.size 27 #[.int .i64 c.id, .int .i64 c.m, .int .i64 c.u, .int .i64 c.b, .int .i64 c.cp, .int .i64 c.z, .int .i64 c.s, .int .i64 c.mt, .int .i64 c.o, .int .i64 c.a, .int .i64 c.l, .int .i64 ep, .int .i64 sq, .slice A st.length k, .slice D zs.length d] ∧ Box w1 (w.heap.size + 1) 27 #[.int .i64 0, .int .i64 0, .int .i64 0, .int .i64 0, .int .i64 0, .int .i64 0, .int .i64 0, .int .i64 0, .int .i64 0, .int .i64 0, .int .i64 0, .int .i64 0, .int .i64 0, .slice none 0 0, .slice none 0 0] ∧ Below w.heap.size w w1 ∧ w1.ownsRow w.heap.size 3 1 (.slice A2 st.length k2) st.length (st.map (Value.int .i64))) := ⟨HV.out.1.later hb, HV.out.2.1.later hb, HV.out.2.2.trans (hb.mono HV.out.2.2.size), own_mono ho HV.out.2.2.size⟩
  clear ho hb HV y0 y1 y2 y3 y4 y5 y6 y7 y8 y9 y10 y11 y12 y13 y14
  obtain ⟨y0, y1, y2, y3, y4, y5, y6, y7, y8, y9, y10, y11, y12, y13, y14⟩ := box15 HV1.out.1
  obtain ⟨f0, f1, f2, f3, f4, f5, f6, f7, f8, f9, f10, f11, f12, f13, f14⟩ := froz15 HV1.out.1
  go_upto_region 2 with fail
  have HV2 : Hid (Box (w1.setCell ⟨w.heap.size, 13, none⟩ (.slice A2 st.length k2)) w.heap.size 27 #[.int .i64 c.id, .int .i64 c.m, .int .i64 c.u, .int .i64 c.b, .int .i64 c.cp, .int .i64 c.z, .int .i64 c.s, .int .i64 c.mt, .int .i64 c.o, .int .i64 c.a, .int .i64 c.l, .int .i64 ep, .int .i64 sq, .slice A2 st.length k2, .slice D zs.length d] ∧ Box (w1.setCell ⟨w.heap.size, 13, none⟩ (.slice A2 st.length k2)) (w.heap.size + 1) 27 #[.int .i64 0, .int .i64 0, .int .i64 0, .int .i64 0, .int .i64 0, .int .i64 0, .int .i64 0, .int .i64 0, .int .i64 0, .int .i64 0, .int .i64 0, .int .i64 0, .int .i64 0, .slice none 0 0, .slice none 0 0] ∧ Below w.heap.size w (w1.setCell ⟨w.heap.size, 13, none⟩ (.slice A2 st.length k2)) ∧ (w1.setCell ⟨w.heap.size, 13, none⟩ (.slice A2 st.length k2)).ownsRow w.heap.size 3 1 (.slice A2 st.length k2) st.length (st.map (Value.int .i64))) := by
    have ht : Turn [w.heap.size] w1 (w1.setCell ⟨w.heap.size, 13, none⟩ (.slice A2 st.length k2)) := (Turn.refl _ _).put (Or.inl (by simp)) _
    exact ⟨by simpa using HV1.out.1.store 13 (.slice A2 st.length k2), HV1.out.2.1.turn ht (by simp), HV1.out.2.2.1.setCell (by exact Nat.le_refl _) _, own_set HV1.out.2.2.2 HV1.out.1 (by decide)⟩
  generalize w1.setCell ⟨w.heap.size, 13, none⟩ (.slice A2 st.length k2) = w2 at HV2 ⊢
  clear HV1 y0 y1 y2 y3 y4 y5 y6 y7 y8 y9 y10 y11 y12 y13 y14 f0 f1 f2 f3 f4 f5 f6 f7 f8 f9 f10 f11 f12 f13 f14
  obtain ⟨y0, y1, y2, y3, y4, y5, y6, y7, y8, y9, y10, y11, y12, y13, y14⟩ := box15 HV2.out.1
  go_wp2_with fail
  refine (cloneZones_any D d zs w.heap.size w2 HV2.out.2.2.1.size (HIB.out w2 HV2.out.2.2.1).2.1 HL.out.2).mono ?_
  rintro e w3 ⟨D2, d2, zx, rfl, hzo, hzr, hb⟩
  have HV3 : Hid (Box w3 w.heap.size 27 #[.int .i64 c.id, .int .i64 c.m, .int .i64 c.u, .int .i64 c.b, .int .i64 c.cp, .int .i64 c.z, .int .i64 c.s, .int .i64 c.mt, .int .i64 c.o, .int .i64 c.a, .int .i64 c.l, .int .i64 ep, .int .i64 sq, .slice A2 st.length k2, .slice D zs.length d] ∧ Box w3 (w.heap.size + 1) 27 #[.int .i64 0, .int .i64 0, .int .i64 0, .int .i64 0, .int .i64 0, .int .i64 0, .int .i64 0, .int .i64 0, .int .i64 0, .int .i64 0, .int .i64 0, .int .i64 0, .int .i64 0, .slice none 0 0, .slice none 0 0] ∧ Below w.heap.size w w3 ∧ w3.ownsRow w.heap.size 3 1 (.slice A2 st.length k2) st.length (st.map (Value.int .i64)) ∧ w3.ownsRow w.heap.size 51 6 (.slice D2 zs.length d2) zs.length zx ∧ ZsRow w3 (LT w.heap.size) zs zx) := ⟨HV2.out.1.later hb, HV2.out.2.1.later hb, HV2.out.2.2.1.trans (hb.mono HV2.out.2.2.1.size), HV2.out.2.2.2.kept (turned_of_below hb none) (by cases (Value.slice A2 st.length k2).ownBlock <;> simp), own_mono hzo HV2.out.2.2.1.size, hzr⟩
  clear hzo hzr hb HV2 y0 y1 y2 y3 y4 y5 y6 y7 y8 y9 y10 y11 y12 y13 y14
  obtain ⟨y0, y1, y2, y3, y4, y5, y6, y7, y8, y9, y10, y11, y12, y13, y14⟩ := box15 HV3.out.1
  obtain ⟨f0, f1, f2, f3, f4, f5, f6, f7, f8, f9, f10, f11, f12, f13, f14⟩ := froz15 HV3.out.1
  go_upto_region 3 with fail
  have HC : Hid (CZ c ep sq st zs w A2 k2 D2 d2 0 [] zx [] (w3.setCell ⟨w.heap.size, 14, none⟩ (.slice D2 zs.length d2))) := by
    have ht : Turn [w.heap.size] w3 (w3.setCell ⟨w.heap.size, 14, none⟩ (.slice D2 zs.length d2)) := (Turn.refl _ _).put (Or.inl (by simp)) _
    have hb : Below w.heap.size w3 (w3.setCell ⟨w.heap.size, 14, none⟩ (.slice D2 zs.length d2)) := (Below.refl _ _).setCell (by exact Nat.le_refl _) _
    exact ⟨by simpa using HV3.out.1.store 14 (.slice D2 zs.length d2), HV3.out.2.1.turn ht (by simp), own_set HV3.out.2.2.2.1 HV3.out.1 (by decide), own_set HV3.out.2.2.2.2.1 HV3.out.1 (by decide), ⟨rfl, rfl⟩, List.nodup_nil, HV3.out.2.2.2.2.2.low hb, HV3.out.2.2.1.trans hb⟩
  generalize w3.setCell ⟨w.heap.size, 14, none⟩ (.slice D2 zs.length d2) = w4 at HC ⊢
  clear HV3 y0 y1 y2 y3 y4 y5 y6 y7 y8 y9 y10 y11 y12 y13 y14 f0 f1 f2 f3 f4 f5 f6 f7 f8 f9 f10 f11 f12 f13 f14
  obtain ⟨y0, y1, y2, y3, y4, y5, y6, y7, y8, y9, y10, y11, y12, y13, y14⟩ := box15 HC.out.var
  have hl2 := HL.out.2
  go_wp2
  clear y0 y1 y2 y3 y4 y5 y6 y7 y8 y9 y10 y11 y12 y13 y14
  go_loopw [15] (fun i wr => ∃ (q : Nat) (ya ra : List Value) (bs : List Nat), q ≤ zs.length ∧ i = .int .i64 q ∧ CZ c ep sq st zs w A2 k2 D2 d2 q ya ra bs wr) (fun i _ => zs.length - (intOf i).toNat)
  case atStart => exact ⟨0, [], zx, [], Nat.zero_le _, rfl, HC.out⟩
  case round =>
    clear HC
    obtain ⟨q, ya, ra, bs, hq, rfl, hst⟩ := hrel
    have HP := Lib.hid hst
    clear hst
    by_cases hlt : q < zs.length
    · obtain ⟨g, hg, hg2, cur, hcur⟩ : ∃ g, D2 = some ⟨g, 0, none⟩ ∧ w.heap.size ≤ g ∧ ∃ cur, Box wr g 51 cur := by
        rcases HP.out.zons.2 with ⟨h0, h1⟩ | ⟨g, cap, cur, hv, hb, hh, _⟩
        · omega
        · simp only [Value.slice.injEq] at hv
          exact ⟨g, hv.1, hb, cur, hh⟩
      subst hg
      have HGS : Hid (w.heap.size ∉ [g]) := by
        have := HP.out.var.apart hcur (by decide)
        show _ ∉ _
        simpa using this
      clear hcur
      have hold := HP.out.old
      rw [List.drop_eq_getElem_cons hlt] at hold
      obtain ⟨X, x, ra2, hra, hX, hx, _, hrest⟩ := hold
      subst hra
      obtain ⟨z, hz⟩ : ∃ z, zs[q] = z := ⟨_, rfl⟩
      have HZ := Lib.hid hz
      have HPZ := Lib.hid (HPP.out _ (List.getElem_mem hlt))
      rw [hz] at HP HPZ hX hx
      clear hz
      have HY : Hid (ya.length = q * 6) := by
        show _ = _
        rw [HP.out.new.length, List.length_take, Nat.min_eq_left (by omega)]
      have HCE : Hid (∀ w' y', CZ c ep sq st zs w A2 k2 (some ⟨g, 0, none⟩) d2 q ya (.int .i64 z.gen :: .int .i64 z.slot :: .bool z.full :: .int .i64 z.w :: .bool z.whole :: y' :: ra2) bs w' → w'.cell? ⟨g, q * 6 + 5, none⟩ = some y') := fun w' y' h => by
        rw [World.ownsRow.cellAt h.zons (q * 6 + 5) (by omega), ← HY.out, List.getElem?_append_right (by omega)]
        simp
      have HXX : Hid (PrsAt wr (LT w.heap.size) X z.ps) := hX
      have HRS : Hid (ZsRow wr (LT w.heap.size) (zs.drop (q + 1)) ra2) := hrest
      clear hX hx hrest
      obtain ⟨y0, y1, y2, y3, y4, y5, y6, y7, y8, y9, y10, y11, y12, y13, y14⟩ := box15 HP.out.var
      go_upto_region 6 with fail
      clear y0 y1 y2 y3 y4 y5 y6 y7 y8 y9 y10 y11 y12 y13 y14
      refine wpG_start [g] (by kernel_rfl) ?_
      have HD := Lib.hid (HP.out.later (Below.refl _ _).drew)
      have HXD : Hid (PrsAt wr.drew (LT w.heap.size) X z.ps ∧ ZsRow wr.drew (LT w.heap.size) (zs.drop (q + 1)) ra2) := ⟨HXX.out.keep (fun k hk => rfl), HRS.out.low (Below.refl _ _).drew⟩
      generalize wr.drew = wd at HD HXD ⊢
      clear HP HXX HRS
      refine wpG_take (i := 0) (d := 18) (v := ?v6x0) rfl rfl (by kernel_rfl) (by kernel_rfl) (by kernel_rfl) (fun _ _ _ h => h) (by rfl) ?y6x0 ?r6x0
      case y6x0 => (intro w' hSw; obtain ⟨y0, y1, y2, y3, y4, y5, y6, y7, y8, y9, y10, y11, y12, y13, y14⟩ := box15 (HD.out.var.turn hSw HGS.out); go_simp; try (with_reducible rfl))
      simp only [Act.put, List.setIfInBounds_toArray, List.set_cons_zero, List.set_cons_succ]
      refine wpG_take (i := 1) (d := 19) (v := ?v6x1) rfl rfl (by kernel_rfl) (by kernel_rfl) (by kernel_rfl) (fun _ _ _ h => h) (by rfl) ?y6x1 ?r6x1
      case y6x1 => (intro w' hSw; obtain ⟨y0, y1, y2, y3, y4, y5, y6, y7, y8, y9, y10, y11, y12, y13, y14⟩ := box15 (HD.out.var.turn hSw HGS.out); go_simp; try (with_reducible rfl))
      simp only [Act.put, List.setIfInBounds_toArray, List.set_cons_zero, List.set_cons_succ]
      refine wpG_take (i := 2) (d := 20) (v := ?v6x2) rfl rfl (by kernel_rfl) (by kernel_rfl) (by kernel_rfl) (fun _ _ _ h => h) (by rfl) ?y6x2 ?r6x2
      case y6x2 => (intro w' hSw; obtain ⟨y0, y1, y2, y3, y4, y5, y6, y7, y8, y9, y10, y11, y12, y13, y14⟩ := box15 (HD.out.var.turn hSw HGS.out); go_simp; try (with_reducible rfl))
      simp only [Act.put, List.setIfInBounds_toArray, List.set_cons_zero, List.set_cons_succ]
      refine wpG_take (i := 3) (d := 21) (v := ?v6x3) rfl rfl (by kernel_rfl) (by kernel_rfl) (by kernel_rfl) (fun _ _ _ h => h) (by rfl) ?y6x3 ?r6x3
      case y6x3 => (intro w' hSw; obtain ⟨y0, y1, y2, y3, y4, y5, y6, y7, y8, y9, y10, y11, y12, y13, y14⟩ := box15 (HD.out.var.turn hSw HGS.out); go_simp; try (with_reducible rfl))
      simp only [Act.put, List.setIfInBounds_toArray, List.set_cons_zero, List.set_cons_succ]
      refine wpG_take (i := 4) (d := 22) (v := ?v6x4) rfl rfl (by kernel_rfl) (by kernel_rfl) (by kernel_rfl) (fun _ _ _ h => h) (by rfl) ?y6x4 ?r6x4
      case y6x4 => (intro w' hSw; obtain ⟨y0, y1, y2, y3, y4, y5, y6, y7, y8, y9, y10, y11, y12, y13, y14⟩ := box15 (HD.out.var.turn hSw HGS.out); go_simp; try (with_reducible rfl))
      simp only [Act.put, List.setIfInBounds_toArray, List.set_cons_zero, List.set_cons_succ]
      refine wpG_take (i := 5) (d := 23) (v := ?v6x5) rfl rfl (by kernel_rfl) (by kernel_rfl) (by kernel_rfl) (fun _ _ _ h => h) (by rfl) ?y6x5 ?r6x5
      case y6x5 => (intro w' hSw; obtain ⟨y0, y1, y2, y3, y4, y5, y6, y7, y8, y9, y10, y11, y12, y13, y14⟩ := box15 (HD.out.var.turn hSw HGS.out); go_simp; try (with_reducible rfl))
      simp only [Act.put, List.setIfInBounds_toArray, List.set_cons_zero, List.set_cons_succ]
      refine wpG_take (i := 6) (d := 24) (v := ?v6x6) rfl rfl (by kernel_rfl) (by kernel_rfl) (by kernel_rfl) (fun _ _ _ h => h) (by rfl) ?y6x6 ?r6x6
      case y6x6 => (intro w' hSw; obtain ⟨y0, y1, y2, y3, y4, y5, y6, y7, y8, y9, y10, y11, y12, y13, y14⟩ := box15 (HD.out.var.turn hSw HGS.out); go_simp; try (with_reducible rfl))
      simp only [Act.put, List.setIfInBounds_toArray, List.set_cons_zero, List.set_cons_succ]
      refine wpG_take (i := 7) (d := 25) (v := ?v6x7) rfl rfl (by kernel_rfl) (by kernel_rfl) (by kernel_rfl) (fun _ _ _ h => h) (by rfl) ?y6x7 ?r6x7
      case y6x7 => (intro w' hSw; obtain ⟨y0, y1, y2, y3, y4, y5, y6, y7, y8, y9, y10, y11, y12, y13, y14⟩ := box15 (HD.out.var.turn hSw HGS.out); go_simp; try (with_reducible rfl))
      simp only [Act.put, List.setIfInBounds_toArray, List.set_cons_zero, List.set_cons_succ]
      have c5 := HCE.out wd _ HD.out
      refine wpG_do (i := 8) (by kernel_rfl) rfl (by rfl) (fun K hK => ?_)
      go_simp
      refine hK.out _ _ (Turn.refl _ _) ?_
      try simp only [Act.put, List.setIfInBounds_toArray, List.set_cons_zero, List.set_cons_succ]
      clear hK c5
      refine wpG_do (i := 9) (by kernel_rfl) rfl (by rfl) (fun K hK => ?_)
      go_simp
      refine (clonePars_any X x z.ps wd (HXD.out.1.mono (LT.up HD.out.below.size)) HPZ.out.1 HPZ.out.2).mono ?_
      rintro e w5 ⟨B, cb, xs, rfl, ho, hp, hb⟩
      have HD5 := Lib.hid (HD.out.later hb)
      have HO5 : Hid (w5.ownsRow w.heap.size 55 2 (.slice B z.ps.length cb) z.ps.length xs ∧ PsRow w5 (NB w.heap.size w5) z.ps xs ∧ ZsRow w5 (LT w.heap.size) (zs.drop (q + 1)) ra2 ∧ ∀ k ∈ bs, ∀ b, (Value.slice B z.ps.length cb).ownBlock = some b → k < b) := ⟨own_mono ho HD.out.below.size, hp.map (fun _ _ h => h.more HD.out.below.size), HXD.out.2.low (hb.mono HD.out.below.size), fun k hk b hbb => Nat.lt_of_lt_of_le (HD.out.new.lt k hk).2 (World.ownsRow.lt ho b hbb).1⟩
      refine hK.out _ _ (Turn.of_below hb (Nat.le_refl _)) ?_
      try simp only [Act.put, List.setIfInBounds_toArray, List.set_cons_zero, List.set_cons_succ]
      clear hK ho hp hb HD HXD
      refine wpG_take (i := 10) (d := 28) (v := ?v6x10) rfl rfl (by kernel_rfl) (by kernel_rfl) (by kernel_rfl) (fun _ _ _ h => h) (by rfl) ?y6x10 ?r6x10
      case y6x10 => (intro w' hSw; go_simp; try (with_reducible rfl))
      simp only [Act.put, List.setIfInBounds_toArray, List.set_cons_zero, List.set_cons_succ]
      refine wpG_take (i := 11) (d := 29) (v := ?v6x11) rfl rfl (by kernel_rfl) (by kernel_rfl) (by kernel_rfl) (fun _ _ _ h => h) (by rfl) ?y6x11 ?r6x11
      case y6x11 => (intro w' hSw; go_simp; try (with_reducible rfl))
      simp only [Act.put, List.setIfInBounds_toArray, List.set_cons_zero, List.set_cons_succ]
      have c5 := HCE.out w5 _ HD5.out
      have f5 := own_frozen HD5.out.zons (q * 6 + 5)
      refine wpG_do (i := 12) (by kernel_rfl) rfl (by rfl) (fun K hK => ?_)
      go_simp
      obtain ⟨hq1, hq2⟩ := HD5.out.store hlt HZ.out HO5.out.2.2.1 HO5.out.1 HO5.out.2.1 HO5.out.2.2.2
      refine hK.out _ _ hq2 ?_
      have HQ := Lib.hid hq1
      generalize w5.setCell ⟨g, q * 6 + 5, none⟩ (.slice B z.ps.length cb) = w6 at HQ ⊢
      clear hK hq1 hq2 c5 f5 HD5 HO5
      refine wpG_done (by kernel_rfl) ?_
      have hn2 := HL.out.2
      go_wp2
      go_roundw
      case rel => exact ⟨q + 1, _, _, _, hlt, by go_num, HQ.out⟩
      case measure => simp [intOf]; omega
    · obtain rfl : q = zs.length := by omega
      have HE : Hid (ZOwn wr w.heap.size zs ya bs ∧ ra = []) := by
        have h1 := HP.out.new
        have h2 := HP.out.old
        rw [List.take_length] at h1
        rw [List.drop_length] at h2
        exact ⟨h1, h2⟩
      go_upto_region 8 with fail
      go_wp2_with (first | (refine list_load27 rfl (.tmp 1) rfl w.heap.size #[.int .i64 c.id, .int .i64 c.m, .int .i64 c.u, .int .i64 c.b, .int .i64 c.cp, .int .i64 c.z, .int .i64 c.s, .int .i64 c.mt, .int .i64 c.o, .int .i64 c.a, .int .i64 c.l, .int .i64 ep, .int .i64 sq, .slice A2 st.length k2, .slice D2 zs.length d2] HP.out.var rfl rfl ?_) | (refine list_store27 rfl (.tmp 2) (.tmp 31) rfl (w.heap.size + 1) #[.int .i64 c.id, .int .i64 c.m, .int .i64 c.u, .int .i64 c.b, .int .i64 c.cp, .int .i64 c.z, .int .i64 c.s, .int .i64 c.mt, .int .i64 c.o, .int .i64 c.a, .int .i64 c.l, .int .i64 ep, .int .i64 sq, .slice A2 st.length k2, .slice D2 zs.length d2] _ HP.out.ret rfl rfl (by first | kernel_rfl | simp [Value.oneCell']) rfl rfl (fun w5 q1 q2 => ?_)))
      have ht := q2 [w.heap.size + 1] (by simp)
      have hzo := HP.out.zons
      rw [HE.out.2, List.append_nil] at hzo
      have hbel : Below w.heap.size wr w5 := ht.below (by simp) HP.out.below.size
      refine bodyPost_ret (v := .agg #[.int .i64 c.id, .int .i64 c.m, .int .i64 c.u, .int .i64 c.b, .int .i64 c.cp, .int .i64 c.z, .int .i64 c.s, .int .i64 c.mt, .int .i64 c.o, .int .i64 c.a, .int .i64 c.l, .int .i64 ep, .int .i64 sq, .slice A2 st.length k2, .slice D2 zs.length d2]) (results27 (p := 2) rfl _ _ (w.heap.size + 1) #[.int .i64 c.id, .int .i64 c.m, .int .i64 c.u, .int .i64 c.b, .int .i64 c.cp, .int .i64 c.z, .int .i64 c.s, .int .i64 c.mt, .int .i64 c.o, .int .i64 c.a, .int .i64 c.l, .int .i64 ep, .int .i64 sq, .slice A2 st.length k2, .slice D2 zs.length d2] rfl q1 rfl) rfl ⟨A2, k2, D2, d2, ya, bs, rfl, own_turn HP.out.ints HP.out.ret (by decide) ht, own_turn hzo HP.out.ret (by decide) ht, HE.out.1.keepT (fun k hk => ht.block k hk.lt (by simpa using hk.box HP.out.ret (by decide) (by decide))), HP.out.nod, HP.out.below.trans hbel⟩
end Go.Proofs.Ytaceaemombnhkaa
namespace Go.Proofs.Ytaceaemombnhkaa
set_option linter.unusedVariables false
set_option maxRecDepth 100000
set_option linter.unusedSimpArgs false
open Go.RowKit
open Go.RowKit (wrap64)

theorem delete0_any (A : Option Addr) (n c : Nat) (w : World) (hn : n ≤ 1000) (hc : n ≤ c) (hc2 : c ≤ maxLen) : Calls Try.prog 63 #[.slice A n c, .int .i64 0, .int .i64 0] w fun e w' => e = .returned (.slice A n c) ∧ w = w' := by
  go_enter Try.func63, Try.ntmps63
  go_wp2
  go_ret
  exact ⟨rfl, rfl⟩
/-- The row's beginning, with no cell. -/
theorem own_none {w : World} {base e size n g c : Nat} {xs : List Value} (h : w.ownsRow base e size (.slice (some ⟨g, 0, none⟩) n c) n xs) : w.ownsRow base e size (.slice (some ⟨g, 0, none⟩) 0 c) 0 [] := by
  rcases h.2 with ⟨h0, _⟩ | ⟨g', cap, cur, hv, hb, hh, hc, hm, hs, ht⟩
  · simp at h0
  · simp only [Value.slice.injEq, Option.some.injEq, Addr.mk.injEq, and_true, true_and] at hv
    obtain ⟨rfl, rfl⟩ := hv
    exact ⟨by simp, Or.inr ⟨g, c, cur, rfl, hb, hh, Nat.zero_le _, hm, hs, by simp⟩⟩
/-- A cell behind the row's end stored. -/
theorem own_out {w : World} {base e size n g c i : Nat} {xs : List Value} (u : Value) (h : w.ownsRow base e size (.slice (some ⟨g, 0, none⟩) n c) n xs) (hi : n * size ≤ i) : (w.setCell ⟨g, i, none⟩ u).ownsRow base e size (.slice (some ⟨g, 0, none⟩) n c) n xs := by
  rcases h.2 with ⟨h0, _⟩ | ⟨g', cap, cur, hv, hb, hh, hc, hm, hs, ht⟩
  · simp at h0
  · simp only [Value.slice.injEq, Option.some.injEq, Addr.mk.injEq, and_true, true_and] at hv
    obtain ⟨rfl, rfl⟩ := hv
    refine ⟨h.1, Or.inr ⟨g, c, cur.setIfInBounds i u, rfl, hb, ?_, hc, hm, by rw [Array.size_setIfInBounds]; exact hs, ?_⟩⟩
    · rw [setCell_eq_setRow w g i cur e (0, 0) u hh]
      exact setRow_heap w g cur _ e _ hh
    · rw [← ht, Array.toList_setIfInBounds, List.take_set, List.set_eq_of_length_le (by rw [List.length_take]; omega)]
theorem run_clear_par (w : World) (g o c : Nat) (ty : TypeId) (h0 : (w.cell? ⟨g, o, none⟩).isSome = true) (h1 : (w.cell? ⟨g, o + 1, none⟩).isSome = true) (f0 : w.frozen? ⟨g, o, none⟩ = false) (f1 : w.frozen? ⟨g, o + 1, none⟩ = false) :
    (Builtin.clear_ #[49] ty #[.slice (some ⟨g, o, none⟩) 1 c]).run Try.prog w = .ok (.tuple #[]) ((w.setCell ⟨g, o, none⟩ (.int .i64 0)).setCell ⟨g, o + 1, none⟩ (.slice none 0 0)) := by
  obtain ⟨i0, hi, hz0, hz1, hz2⟩ := info_parts Try.info55
  have hv : ∀ w, (zeroValue 55).run Try.prog w = .ok (.agg #[.int .i64 0, .slice none 0 0]) w := fun w => by simp [zeroValue, typeInfo, hi, hz0]
  have hzc : (Builtin.zeroCells (Value.agg #[.int .i64 0, .slice none 0 0]).cells 1).toList = [.int .i64 0, .slice none 0 0] := by kernel_rfl
  have hst := run_storeCells_cells (P := Try.prog) g o [.int .i64 0, .slice none 0 0] 0 w (fun j hj => by
    have : j = 0 ∨ j = 1 := by simp at hj; omega
    rcases this with rfl | rfl
    · simpa using h0
    · simpa using h1) (fun j hj => by
    have : j = 0 ∨ j = 1 := by simp at hj; omega
    rcases this with rfl | rfl
    · simpa using f0
    · simpa using f1) (by simp [Value.oneCell'])
  simp only [Nat.add_zero] at hst
  simp [Builtin.clear_, run_underlying Try.underlying49, hv, hzc, hst, World.setCells]
set_option maxHeartbeats 1000000 in
theorem delete1_any (g cap lo : Nat) (a0 a1 b0 b1 c0 c1 : Value) (w : World) (h : w.ownsRow lo 55 2 (.slice (some ⟨g, 0, none⟩) 3 cap) 3 [a0, a1, b0, b1, c0, c1]) (hone : ∀ u ∈ [a0, a1, b0, b1, c0, c1], u.oneCell' = true) :
    Calls Try.prog 63 #[.slice (some ⟨g, 0, none⟩) 3 cap, .int .i64 0, .int .i64 1] w fun e w' => e = .returned (.slice (some ⟨g, 0, none⟩) 2 cap) ∧ w'.ownsRow lo 55 2 (.slice (some ⟨g, 0, none⟩) 2 cap) 2 [b0, b1, c0, c1] ∧ Turn [g] w w' := by
  obtain ⟨hc3, hcm⟩ : 3 ≤ cap ∧ cap ≤ maxLen := by
    rcases h.2 with ⟨h0, _⟩ | ⟨g', cp, cur, hv, hb, hh, hc, hm, hs, ht⟩
    · simp at h0
    · simp only [Value.slice.injEq, Option.some.injEq, Addr.mk.injEq, and_true, true_and] at hv
      obtain ⟨rfl, rfl⟩ := hv
      exact ⟨hc, hm⟩
  have HO := Lib.hid h
  replace h : w.drew.ownsRow lo 55 2 (.slice (some ⟨g, 0, none⟩) 3 cap) 3 [a0, a1, b0, b1, c0, c1] := h
  have hnews : ∀ j u, [b0, b1, c0, c1][j]? = some u → w.drew.cell? ((⟨g, 2, none⟩ : Addr).add j) = some u := fun j u hu => by
    have hadd : (⟨g, 2, none⟩ : Addr).add j = ⟨g, 2 + j, none⟩ := by unfold Addr.add; split <;> simp_all
    have hj : j < 4 := by
      have := (List.getElem?_eq_some_iff.1 hu).1
      simpa using this
    rw [hadd, World.ownsRow.cellAt h (2 + j) (by omega), show 2 + j = j + 1 + 1 by omega]
    simpa using hu
  obtain ⟨i0, hi, hz0, hz1, hz2⟩ := info_parts Try.info55
  obtain ⟨w2, hrun, ho2, hg2⟩ := run_append_own_spare (P := Try.prog) w.drew lo 49 49 55 i0 2 Try.underlying49 hi hz1 g 0 cap [] (own_none h) ⟨g, 2, none⟩ 2 (cap - 1) [b0, b1, c0, c1] rfl hnews (fun u hu => hone u (List.mem_cons_of_mem _ (List.mem_cons_of_mem _ hu))) (by omega)
  simp only [Nat.zero_add, List.nil_append] at hrun ho2
  have HR := Lib.hid hrun
  have H2 := Lib.hid (And.intro ho2 hg2)
  clear h hnews hrun ho2 hg2 hi hz0 hz1 hz2 hone
  have hcne : ¬ cap = 1 := by omega
  go_enter Try.func63, Try.ntmps63
  go_upto_region 5 with fail
  refine wpG_start [g] (by kernel_rfl) ?_
  refine wpG_take (i := 0) (d := 20) (v := ?v5x0) rfl rfl (by kernel_rfl) (by kernel_rfl) (by kernel_rfl) (fun _ _ _ h => h) (by rfl) ?y5x0 ?r5x0
  case y5x0 => (intro w' hSw; go_simp; try (with_reducible rfl))
  simp only [Act.put, List.setIfInBounds_toArray, List.set_cons_zero, List.set_cons_succ]
  refine wpG_take (i := 1) (d := 21) (v := ?v5x1) rfl rfl (by kernel_rfl) (by kernel_rfl) (by kernel_rfl) (fun _ _ _ h => h) (by rfl) ?y5x1 ?r5x1
  case y5x1 => (intro w' hSw; go_simp; try (with_reducible rfl))
  simp only [Act.put, List.setIfInBounds_toArray, List.set_cons_zero, List.set_cons_succ]
  refine wpG_take (i := 2) (d := 22) (v := ?v5x2) rfl rfl (by kernel_rfl) (by kernel_rfl) (by kernel_rfl) (fun _ _ _ h => h) (by rfl) ?y5x2 ?r5x2
  case y5x2 => (intro w' hSw; go_simp; try (with_reducible rfl))
  simp only [Act.put, List.setIfInBounds_toArray, List.set_cons_zero, List.set_cons_succ]
  refine wpG_take (i := 3) (d := 23) (v := ?v5x3) rfl rfl (by kernel_rfl) (by kernel_rfl) (by kernel_rfl) (fun _ _ _ h => h) (by rfl) ?y5x3 ?r5x3
  case y5x3 => (intro w' hSw; go_simp; try (with_reducible rfl))
  simp only [Act.put, List.setIfInBounds_toArray, List.set_cons_zero, List.set_cons_succ]
  refine wpG_take (i := 4) (d := 24) (v := ?v5x4) rfl rfl (by kernel_rfl) (by kernel_rfl) (by kernel_rfl) (fun _ _ _ h => h) (by rfl) ?y5x4 ?r5x4
  case y5x4 => (intro w' hSw; go_simp; try (with_reducible rfl))
  simp only [Act.put, List.setIfInBounds_toArray, List.set_cons_zero, List.set_cons_succ]
  refine wpG_take (i := 5) (d := 25) (v := ?v5x5) rfl rfl (by kernel_rfl) (by kernel_rfl) (by kernel_rfl) (fun _ _ _ h => h) (by rfl) ?y5x5 ?r5x5
  case y5x5 => (intro w' hSw; go_simp; try (with_reducible rfl))
  simp only [Act.put, List.setIfInBounds_toArray, List.set_cons_zero, List.set_cons_succ]
  refine wpG_do (i := 6) (by kernel_rfl) rfl (by rfl) (fun K hK => ?_)
  refine oper_app (.tmp 22) (.tmp 25) 49 rfl _ _ _ w2 rfl rfl HR.out ?_
  refine hK.out _ _ ⟨H2.out.2.os, H2.out.2.tape, H2.out.2.output, H2.out.2.size, fun k hk hn => H2.out.2.block k hk (fun e => hn (by simp at e; simp [e]))⟩ ?_
  clear hK HR
  simp only [Act.put, List.setIfInBounds_toArray, List.set_cons_zero, List.set_cons_succ]
  refine wpG_take (i := 7) (d := 0) (v := ?v5x7) rfl rfl (by kernel_rfl) (by kernel_rfl) (by kernel_rfl) (fun _ _ _ h => h) (by rfl) ?y5x7 ?r5x7
  case y5x7 => (intro w' hSw; go_simp; try (with_reducible rfl))
  simp only [Act.put, List.setIfInBounds_toArray, List.set_cons_zero, List.set_cons_succ]
  refine wpG_done (by kernel_rfl) ?_
  obtain ⟨cur, hcur, hcs⟩ : ∃ cur, Box w2 g 55 cur ∧ cur.size = cap * 2 := by
    rcases H2.out.1.2 with ⟨h0, _⟩ | ⟨g', cp, cur, hv, hb, hh, hc, hm, hs, ht⟩
    · simp at h0
    · simp only [Value.slice.injEq, Option.some.injEq, Addr.mk.injEq, and_true, true_and] at hv
      obtain ⟨rfl, rfl⟩ := hv
      exact ⟨cur, hh, hs⟩
  have hclr := run_clear_par w2 g 4 (cap - 2) 0 (by rw [hcur.cell]; simp; omega) (by rw [hcur.cell]; simp; omega) (hcur.frozen _) (hcur.frozen _)
  have HE : Hid (((w2.setCell ⟨g, 4, none⟩ (.int .i64 0)).setCell ⟨g, 4 + 1, none⟩ (.slice none 0 0)).ownsRow lo 55 2 (.slice (some ⟨g, 0, none⟩) 2 cap) 2 [b0, b1, c0, c1] ∧ Turn [g] w ((w2.setCell ⟨g, 4, none⟩ (.int .i64 0)).setCell ⟨g, 4 + 1, none⟩ (.slice none 0 0))) := by
    refine ⟨own_out _ (own_out _ H2.out.1 (by omega)) (by omega), ?_⟩
    have ht : Turn [g] w w2 := ⟨H2.out.2.os, H2.out.2.tape, H2.out.2.output, H2.out.2.size, fun k hk hn => H2.out.2.block k hk (fun e => hn (by simp at e; simp [e]))⟩
    exact (ht.put (Or.inl (by simp)) _).put (Or.inl (by simp)) _
  clear hcur hcs H2
  go_wp2
  go_ret
  exact ⟨rfl, HE.out⟩
end Go.Proofs.Ytaceaemombnhkaa
