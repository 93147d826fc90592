/- Contracts of span.has, slices.Index, slices.Contains, rebuilds, Odd, and the reference's Rebuilds, Odd. -/
import Derived.Test.YtaceaemombnhkaaSb
import Derived.BigQuiet
import Derived.Deep.DeepCutAuto
namespace Go.Proofs.Ytaceaemombnhkaa
set_option linter.unusedVariables false
set_option maxRecDepth 100000
set_option linter.unusedSimpArgs false
open Go.RowKit
open Go.RowKit (wrap64)

theorem has_any (lo hi n : Int) (w : World) : Calls Try.prog 52 #[(.agg #[.int .i64 lo, .int .i64 hi]), .int .i64 n] w (SaysP w (lo ≤ n ∧ n ≤ hi)) := by
  have hb : Below w.heap.size w (w.alloc (.cells #[.int .i64 lo, .int .i64 hi] 79)) := (Below.refl _ _).alloc (Nat.le_refl _) _
  by_cases h1 : lo ≤ n
  · by_cases h2 : n ≤ hi
    · go_enter Try.func52, Try.ntmps52
      go_wp2
      go_ret
      exact SaysP.yes ⟨h1, h2⟩ hb
    · go_enter Try.func52, Try.ntmps52
      go_wp2
      go_ret
      exact SaysP.no (by omega) hb
  · go_enter Try.func52, Try.ntmps52
    go_wp2
    go_ret
    exact SaysP.no (by omega) hb
/-- slices.Index: a place of n, or nothing below k. -/
theorem index_any (A : Option Addr) (k : Nat) (l : List Int) (n : Int) (w : World) (h : IntsAt w (LT w.heap.size) A l) (hl : l.length ≤ 1000000) :
    Calls Try.prog 98 #[.slice A l.length k, .int .i64 n] w fun e w' => ∃ r : Int, e = .returned (.int .i64 r) ∧ (0 ≤ r ↔ n ∈ l) ∧ w = w' := by
  have HP := Lib.hid h
  clear h
  go_enter Try.func98, Try.ntmps98
  go_wp2
  go_loop [5, 8] (fun p i => ∃ k : Nat, k ≤ l.length ∧ i = .int .i64 k ∧ ∀ j (hj : j < l.length), j < k → l[j] ≠ n) (fun _ i => l.length - (intOf i).toNat)
  case atStart => exact ⟨0, by omega, rfl, fun j _ hj => absurd hj (Nat.not_lt_zero j)⟩
  case round =>
    obtain ⟨q, hq, rfl, hall⟩ := hrel
    by_cases hlt : q < l.length
    · obtain ⟨g, off, rfl, hg, hc⟩ := HP.out (by omega)
      have hcq := hc q hlt
      by_cases he : n = l[q]
      · rw [← he] at hcq
        have HM : Hid (n ∈ l) := (he ▸ List.getElem_mem hlt)
        clear he hall hc
        go_wp2
        go_ret
        exact ⟨(q : Int), rfl, iff_of_true (by omega) HM.out, rfl⟩
      · have HN : Hid (∀ j (hj : j < l.length), j < q + 1 → l[j] ≠ n) := fun j hj hjk => by
          rcases Nat.lt_or_ge j q with h1 | h1
          · exact hall j hj h1
          · obtain rfl : j = q := by omega
            exact fun e => he e.symm
        clear hall hc
        generalize l[q] = m at hcq he
        go_wp2
        go_round
        case rel => exact ⟨q + 1, by omega, by go_num, HN.out⟩
        case measure => simp [intOf]; omega
    · obtain rfl : q = l.length := by omega
      go_wp2
      go_ret
      refine ⟨-1, rfl, iff_of_false (by omega) (fun hm => ?_), rfl⟩
      obtain ⟨j, hj, e⟩ := List.getElem_of_mem hm
      exact hall j hj hj e
theorem contains_any (A : Option Addr) (k : Nat) (l : List Int) (n : Int) (w : World) (h : IntsAt w (LT w.heap.size) A l) (hl : l.length ≤ 1000000) :
    Calls Try.prog 86 #[.slice A l.length k, .int .i64 n] w (SaysP w (n ∈ l)) := by
  go_enter Try.func86, Try.ntmps86
  go_wp2_with fail
  refine (index_any A k l n w h hl).mono ?_
  rintro e w' ⟨r, rfl, hr, rfl⟩
  by_cases h0 : 0 ≤ r
  · go_wp2
    go_ret
    exact ⟨_, rfl, by rw [decide_eq_true_eq], Below.refl _ _⟩
  · go_wp2
    go_ret
    exact ⟨_, rfl, by rw [decide_eq_true_eq], Below.refl _ _⟩
theorem below_drewN {B : Nat} {a w : World} (h : Below B a w) (n : Nat) : Below B a (w.drewN n) := h.trans ⟨rfl, rfl, rfl, Nat.le_refl _, fun _ _ => rfl⟩
theorem below_one (w : World) (o : Obj) : Below w.heap.size w (w.alloc o) := (Below.refl _ _).alloc (Nat.le_refl _) o
theorem rebuilds_any (c : Cf) (ep sq : Int) (A : Option Addr) (st : List Int) (k : Nat) (D : Option Addr) (zs : List Zn) (d : Nat) (w : World) (h : IntsAt w (LT w.heap.size) A st) (hl : st.length ≤ 1000000) :
    Calls Try.prog 55 #[(.agg #[.int .i64 c.id, .int .i64 c.m, .int .i64 c.u, .int .i64 c.b, .int .i64 c.cp, .int .i64 c.z, .int .i64 c.s, .int .i64 c.mt, .int .i64 c.o, .int .i64 c.a, .int .i64 c.l, .int .i64 ep, .int .i64 sq, .slice A st.length k, .slice D zs.length d])] w (SaysP w (2 ∈ st)) := by
  go_enter Try.func55, Try.ntmps55
  go_wp2_with fail
  refine (contains_any A k st 2 _ (h.later (below_one _ _)) hl).mono ?_
  rintro e w' ⟨b, rfl, hr, hb⟩
  have hb := (below_one w _).trans (hb.mono (below_one w _).size)
  go_wp2
  go_ret
  exact ⟨b, rfl, hr, hb⟩
theorem rRebuilds_any (c : Cf) (ep sq : Int) (A : Option Addr) (st : List Int) (k : Nat) (D : Option Addr) (zs : List Zn) (d : Nat) (w : World) (h : StAt w (LT w.heap.size) A st k D zs d) (hl : st.length ≤ 1000000) :
    Calls Try.prog 67 #[(.agg #[.int .i64 c.id, .int .i64 c.m, .int .i64 c.u, .int .i64 c.b, .int .i64 c.cp, .int .i64 c.z, .int .i64 c.s, .int .i64 c.mt, .int .i64 c.o, .int .i64 c.a, .int .i64 c.l, .int .i64 ep, .int .i64 sq, .slice A st.length k, .slice D zs.length d])] w (SaysP w (2 ∈ st)) := by
  go_enter Try.func67, Try.ntmps67
  go_upto_region 1 with fail
  have HV := Lib.hid (StIn.new (c := c) (ep := ep) (sq := sq) h)
  generalize (w.alloc (.cells #[.int .i64 c.id, .int .i64 c.m, .int .i64 c.u, .int .i64 c.b, .int .i64 c.cp, .int .i64 c.z, .int .i64 c.s, .int .i64 c.mt, .int .i64 c.o, .int .i64 c.a, .int .i64 c.l, .int .i64 ep, .int .i64 sq, .slice A st.length k, .slice D zs.length d] 27)) = w0 at HV ⊢
  clear h
  obtain ⟨y0, y1, y2, y3, y4, y5, y6, y7, y8, y9, y10, y11, y12, y13, y14⟩ := box15 HV.out.1
  go_wp2
  go_loop [3] (fun i => ∃ q : Nat, q ≤ st.length ∧ i = .int .i64 q ∧ ∀ j (hj : j < st.length), j < q → st[j] ≠ 2) (fun i => st.length - (intOf i).toNat)
  case atStart => exact ⟨0, by omega, rfl, fun j _ hj => absurd hj (Nat.not_lt_zero j)⟩
  case round =>
    obtain ⟨q, hq, rfl, hall⟩ := hrel
    by_cases hlt : q < st.length
    · obtain ⟨g, off, rfl, hg, hc⟩ := HV.out.2.1.1 (by omega)
      have hcq := hc q hlt
      by_cases he : st[q] = 2
      · rw [he] at hcq
        have HM : Hid (2 ∈ st) := (he ▸ List.getElem_mem hlt)
        clear he hall hc
        go_wp2
        go_ret
        exact SaysP.yes HM.out HV.out.2.2
      · have HN : Hid (∀ j (hj : j < st.length), j < q + 1 → st[j] ≠ 2) := fun j hj hjk => by
          rcases Nat.lt_or_ge j q with h1 | h1
          · exact hall j hj h1
          · obtain rfl : j = q := by omega
            exact he
        clear hall hc
        generalize st[q] = m at hcq he
        go_wp2
        go_round
        case rel => exact ⟨q + 1, by omega, by go_num, HN.out⟩
        case measure => simp [intOf]; omega
    · obtain rfl : q = st.length := by omega
      have HN := Lib.hid hall
      clear hall
      go_wp2
      go_ret
      refine SaysP.no (fun hm => ?_) HV.out.2.2
      obtain ⟨j, hj, e⟩ := List.getElem_of_mem hm
      exact HN.out j hj hj e
/-- The first that is not 0. -/
def oddL : List Int → Nat → Option (Nat × Int)
  | [], _ => none
  | n :: l, i => if n = 0 then oddL l (i + 1) else some (i, n)
theorem oddL_skip : ∀ (l : List Int) (i k : Nat), (∀ j (hj : j < l.length), j < k → l[j] = 0) → k ≤ l.length → oddL l i = oddL (l.drop k) (i + k)
  | l, i, 0, _, _ => by simp
  | [], i, k + 1, _, h => absurd h (by simp)
  | n :: l, i, k + 1, h, hk => by
    have h0 : n = 0 := h 0 (by simp) (by omega)
    have h1 := oddL_skip l (i + 1) k (fun j hj hjk => h (j + 1) (by simpa using hj) (by omega)) (by simpa using hk)
    show (if n = 0 then oddL l (i + 1) else some (i, n)) = _
    rw [if_pos h0, h1, List.drop_succ_cons, show i + 1 + k = i + (k + 1) by omega]
theorem oddL_hit {l : List Int} {k : Nat} (hk : k < l.length) (h : ∀ j (hj : j < l.length), j < k → l[j] = 0) (hn : l[k] ≠ 0) : oddL l 0 = some (k, l[k]) := by
  rw [oddL_skip l 0 k h (by omega), List.drop_eq_getElem_cons hk]
  show (if l[k] = 0 then _ else some (0 + k, l[k])) = _
  rw [if_neg hn, Nat.zero_add]
theorem oddL_none {l : List Int} (h : ∀ j (hj : j < l.length), j < l.length → l[j] = 0) : oddL l 0 = none := by
  rw [oddL_skip l 0 l.length h (by omega), List.drop_length]
  rfl
/-- What Odd answers. -/
def OddG (w : World) (st : List Int) (e : Ending) (w' : World) : Prop :=
  Below w.heap.size w w' ∧ ((oddL st 0 = none ∧ e = .returned (.tuple #[.int .i64 0, .int .i64 0, .bool false])) ∨ ∃ m n, oddL st 0 = some (m, n) ∧ e = .returned (.tuple #[.int .i64 (m : Nat), .int .i64 n, .bool true]))
theorem odd_any (c : Cf) (ep sq : Int) (A : Option Addr) (st : List Int) (k : Nat) (D : Option Addr) (zs : List Zn) (d : Nat) (w : World) (h : StAt w (LT w.heap.size) A st k D zs d) (hl : st.length ≤ 1000000) :
    Calls Try.prog 87 #[(.agg #[.int .i64 c.id, .int .i64 c.m, .int .i64 c.u, .int .i64 c.b, .int .i64 c.cp, .int .i64 c.z, .int .i64 c.s, .int .i64 c.mt, .int .i64 c.o, .int .i64 c.a, .int .i64 c.l, .int .i64 ep, .int .i64 sq, .slice A st.length k, .slice D zs.length d])] w (OddG w st) := by
  go_enter Try.func87, Try.ntmps87
  go_upto_region 1 with fail
  have HV := Lib.hid (StIn.new (c := c) (ep := ep) (sq := sq) h)
  generalize (w.alloc (.cells #[.int .i64 c.id, .int .i64 c.m, .int .i64 c.u, .int .i64 c.b, .int .i64 c.cp, .int .i64 c.z, .int .i64 c.s, .int .i64 c.mt, .int .i64 c.o, .int .i64 c.a, .int .i64 c.l, .int .i64 ep, .int .i64 sq, .slice A st.length k, .slice D zs.length d] 27)) = w0 at HV ⊢
  clear h
  obtain ⟨y0, y1, y2, y3, y4, y5, y6, y7, y8, y9, y10, y11, y12, y13, y14⟩ := box15 HV.out.1
  go_wp2
  go_loop [5, 6, 10] (fun _ _ i => ∃ q : Nat, q ≤ st.length ∧ i = .int .i64 q ∧ ∀ j (hj : j < st.length), j < q → st[j] = 0) (fun _ _ i => st.length - (intOf i).toNat)
  case atStart => exact ⟨0, by omega, rfl, fun j _ hj => absurd hj (Nat.not_lt_zero j)⟩
  case round =>
    obtain ⟨q, hq, rfl, hall⟩ := hrel
    by_cases hlt : q < st.length
    · obtain ⟨g, off, rfl, hg, hc⟩ := HV.out.2.1.1 (by omega)
      have hcq := hc q hlt
      by_cases he : st[q] = 0
      · have HN : Hid (∀ j (hj : j < st.length), j < q + 1 → st[j] = 0) := fun j hj hjk => by
          rcases Nat.lt_or_ge j q with h1 | h1
          · exact hall j hj h1
          · obtain rfl : j = q := by omega
            exact he
        rw [he] at hcq
        clear hall hc he
        go_wp2
        go_round
        case rel => exact ⟨q + 1, by omega, by go_num, HN.out⟩
        case measure => simp [intOf]; omega
      · have HM := Lib.hid (oddL_hit hlt hall he)
        clear hall hc
        generalize st[q] = m at hcq he HM
        go_wp2
        exact bodyPost_ret (v := .tuple #[.int .i64 (q : Nat), .int .i64 m, .bool true]) (by simp [results, Try.results87, go_sem, *]) rfl ⟨HV.out.2.2, Or.inr ⟨q, m, HM.out, rfl⟩⟩
    · obtain rfl : q = st.length := by omega
      have HN := Lib.hid (oddL_none hall)
      clear hall
      go_wp2
      exact bodyPost_ret (v := .tuple #[.int .i64 0, .int .i64 0, .bool false]) (by simp [results, Try.results87, go_sem, *]) rfl ⟨HV.out.2.2, Or.inl ⟨HN.out, rfl⟩⟩
theorem rOdd_any (c : Cf) (ep sq : Int) (A : Option Addr) (st : List Int) (k : Nat) (D : Option Addr) (zs : List Zn) (d : Nat) (w : World) (h : StAt w (LT w.heap.size) A st k D zs d) (hl : st.length ≤ 1000000) :
    Calls Try.prog 64 #[(.agg #[.int .i64 c.id, .int .i64 c.m, .int .i64 c.u, .int .i64 c.b, .int .i64 c.cp, .int .i64 c.z, .int .i64 c.s, .int .i64 c.mt, .int .i64 c.o, .int .i64 c.a, .int .i64 c.l, .int .i64 ep, .int .i64 sq, .slice A st.length k, .slice D zs.length d])] w (OddG w st) := by
  go_enter Try.func64, Try.ntmps64
  go_upto_region 1 with fail
  have HV := Lib.hid (StIn.new (c := c) (ep := ep) (sq := sq) h)
  generalize (w.alloc (.cells #[.int .i64 c.id, .int .i64 c.m, .int .i64 c.u, .int .i64 c.b, .int .i64 c.cp, .int .i64 c.z, .int .i64 c.s, .int .i64 c.mt, .int .i64 c.o, .int .i64 c.a, .int .i64 c.l, .int .i64 ep, .int .i64 sq, .slice A st.length k, .slice D zs.length d] 27)) = w0 at HV ⊢
  clear h
  obtain ⟨y0, y1, y2, y3, y4, y5, y6, y7, y8, y9, y10, y11, y12, y13, y14⟩ := box15 HV.out.1
  go_wp2
  go_loop [5] (fun i => ∃ q : Nat, q ≤ st.length ∧ i = .int .i64 q ∧ ∀ j (hj : j < st.length), j < q → st[j] = 0) (fun i => st.length - (intOf i).toNat)
  case atStart => exact ⟨0, by omega, rfl, fun j _ hj => absurd hj (Nat.not_lt_zero j)⟩
  case round =>
    obtain ⟨q, hq, rfl, hall⟩ := hrel
    by_cases hlt : q < st.length
    · obtain ⟨g, off, rfl, hg, hc⟩ := HV.out.2.1.1 (by omega)
      have hcq := hc q hlt
      by_cases he : st[q] = 0
      · have HN : Hid (∀ j (hj : j < st.length), j < q + 1 → st[j] = 0) := fun j hj hjk => by
          rcases Nat.lt_or_ge j q with h1 | h1
          · exact hall j hj h1
          · obtain rfl : j = q := by omega
            exact he
        rw [he] at hcq
        clear hall hc he
        go_wp2
        go_round
        case rel => exact ⟨q + 1, by omega, by go_num, HN.out⟩
        case measure => simp [intOf]; omega
      · have HM := Lib.hid (oddL_hit hlt hall he)
        clear hall hc
        generalize st[q] = m at hcq he HM
        go_upto_region 5 with fail
        go_quiet (fail)
        have HQ : Hid (Below w.heap.size w (w0.drewN nq)) := below_drewN HV.out.2.2 nq
        generalize w0.drewN nq = w4 at HQ ⊢
        clear HV hcq y0 y1 y2 y3 y4 y5 y6 y7 y8 y9 y10 y11 y12 y13 y14
        go_wp2
        exact bodyPost_ret (v := .tuple #[.int .i64 (q : Nat), .int .i64 m, .bool true]) (by simp [results, Try.results64, go_sem, *]) rfl ⟨HQ.out, Or.inr ⟨q, m, HM.out, rfl⟩⟩
    · obtain rfl : q = st.length := by omega
      have HN := Lib.hid (oddL_none hall)
      clear hall
      go_wp2
      exact bodyPost_ret (v := .tuple #[.int .i64 0, .int .i64 0, .bool false]) (by simp [results, Try.results64, go_sem, *]) rfl ⟨HV.out.2.2, Or.inl ⟨HN.out, rfl⟩⟩
end Go.Proofs.Ytaceaemombnhkaa
