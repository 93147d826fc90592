/- The contract of gather, over any iterator of steps. -/
import Derived.Test.YteglgopbagefcaaPa
import Derived.RangeFuncNested
import Derived.RangeFuncBound
import Derived.RangeFuncCalls
import Derived.RangeFuncLeaves
import Derived.Shelf.Abstract
import Derived.Shelf.RegionOpen
import Derived.WalkKit
import Derived.OwnWalkIn
import Derived.TacticsInMore
import Derived.LoopNIn
import Derived.LoopIn
import Derived.Maps.AppendAt
namespace Go.Proofs.Yteglgopbagefcaa
set_option linter.unusedVariables false
set_option linter.unusedSimpArgs false
open Go.RowKit Go.Shelf
open Go.RowKit (wrap64)
attribute [local go_sem] Oper.semAt_some

theorem Try.info41 : (Try.prog.info? 41).map (fun i => (i.zero, i.size, i.bytes)) = some (some (.agg #[.bool false, .int .i64 0, .int .i64 0, .int .i64 0, .int .i64 0]), 5, 40) := by kernel_rfl
theorem cells_five_new (w : World) (x0 x1 x2 x3 x4 : Value) (t : TypeId) : ∀ j u, [x0, x1, x2, x3, x4][j]? = some u → (w.alloc (.cells #[x0, x1, x2, x3, x4] t)).cell? ((⟨w.heap.size, 0, none⟩ : Addr).add j) = some u := by
  intro j u hj
  have hb := Box.fresh w t #[x0, x1, x2, x3, x4]
  have : ((⟨w.heap.size, 0, none⟩ : Addr).add j) = ⟨w.heap.size, j, none⟩ := by simp [Addr.add] <;> omega
  rw [this, hb.cell]
  simpa using hj
theorem box_own {β : Type} (B : Nat) (t : TypeId) (cs : β → Array Value) : Go.Own (fun s W => Box W B t (cs s)) := fun s X Y row hs hg hrow => by
  refine (hg.block B hs.lt ?_).trans hs
  intro e'
  obtain ⟨o, ho, hc⟩ := hrow B e'.symm
  rw [show X.heap[B]? = _ from hs] at ho
  cases ho
  cases hc

/-- What a round of gather keeps: what lay below B, and every place that an iterator has laid. -/
def Kept (B : Nat) (W W' : World) : Prop := Below B W W' ∧ ∀ k cs, Box W k 36 cs → Box W' k 36 cs
theorem kept_t {B : Nat} {W1 W2 W3 : World} (h : Kept B W1 W2) (k : Kept B W2 W3) : Kept B W1 W3 := ⟨h.1.trans k.1, fun i cs hi => k.2 i cs (h.2 i cs hi)⟩
theorem kept_b {n₀ : Nat} {w : World} (hn : n₀ ≤ w.heap.size) (W : World) (l : Nat) (o o' : Obj) (hl : w.heap.size ≤ l) (h : W.heap[l]? = some o) (h1 : o.isCells = false) (h2 : o.isWalk = false) : Kept n₀ W (W.putObj l o') :=
  ⟨belowK_b hn W l o o' hl h h1 h2, fun k cs hk => (World.putObj_heap_other (by
    rintro rfl
    rw [show W.heap[k]? = _ from hk] at h
    cases h
    cases h1)).trans hk⟩
theorem kept_alloc {B : Nat} (W : World) (hB : B ≤ W.heap.size) (o : Obj) : Kept B W (W.alloc o) := ⟨(Below.refl _ W).alloc hB o, fun k cs h => h.later ((Below.refl _ _).alloc (Nat.le_refl _) _)⟩
theorem kept_appended {B b : Nat} {W w1 : World} {tmp : Obj} {v v' : Value} {k : Nat} {xs : List Value} (hrow : W.ownsRow B 41 5 v k xs) (hv : Boxed W b 27 v) (hgrow : (W.alloc tmp).grownBy w1 v.ownBlock) (hb : Below B W (w1.setCell ⟨b, 0, none⟩ v')) : Kept B W (w1.setCell ⟨b, 0, none⟩ v') := by
  refine ⟨hb, fun j cs h => ?_⟩
  have h1 : Box (W.alloc tmp) j 36 cs := h.later ((Below.refl _ _).alloc (Nat.le_refl _) _)
  have hne : some j ≠ v.ownBlock := by
    rcases hrow.2 with ⟨rfl, _⟩ | ⟨g, cap, cur, rfl, _, hgb, _⟩
    · simp [Value.ownBlock]
    · intro e
      obtain rfl : j = g := by simpa [Value.ownBlock] using e
      rw [show W.heap[j]? = _ from h] at hgb
      cases hgb
  have h2 : Box w1 j 36 cs := (hgrow.block j h1.lt hne).trans h1
  have h3 : j ≠ b := by
    rintro rfl
    have hv' : W.heap[j]? = _ := hv
    rw [show W.heap[j]? = _ from h] at hv'
    cases hv'
  exact (Below.heap_setCell w1 ⟨b, 0, none⟩ v' j h3).trans h2
/-- What an iterator of steps hands on, as gather asks it. -/
def Hands (gf : Nat) (lb : Array Value) (l : List St) (w : World) : Prop := SeqStopsK Fence.wide 2 Try.prog gf lb (fun s : St => #[(.agg #[.bool s.p, .int .i64 s.m, .int .i64 s.f, .int .i64 s.b, .int .i64 s.n])]) (Kept w.heap.size) (fun ys => ys = l) (fun pre => pre <+: l) l.length w

set_option maxRecDepth 100000 in
set_option maxHeartbeats 2000000 in
theorem gather_any (gf : Nat) (lb : Array Value) (l : List St) (w : World) (eg : ∀ args w, (callFunc gf args).run Try.prog w = .ok (.enter gf args) w) (hl : l.length ≤ 1000000) (hs : Hands gf lb l w) :
    Calls Try.prog 26 #[.func (.func gf) #[] lb] w (GaveS w l) := by
  refine (callsIn_wide (n := 3)).1 ?_
  obtain ⟨i0, hi, hz0, hz1, hz2⟩ := info_parts Try.info41
  refine callsIn_of_wp_marks Try.func26 rfl trivial ?_ rfl
  simp only [Try.ntmps26, List.size_toArray, List.length_cons, List.length_nil, Nat.reduceAdd, Nat.reduceSub, Array.replicate_succ, Array.replicate_zero, List.push_toArray, List.append_toArray, List.nil_append, List.cons_append]
  gi_wp2
  have bO := Boxed.new w 27 (.slice none 0 0)
  have hB0 : Below w.heap.size w (w.alloc (.cells #[.slice none 0 0] 27)) := (Below.refl _ w).alloc (Nat.le_refl _) _
  have hsz : (w.alloc (.cells #[.slice none 0 0] 27)).heap.size = w.heap.size + 1 := by simp
  obtain ⟨W0, hW0⟩ : ∃ W0, w.alloc (.cells #[.slice none 0 0] 27) = W0 := ⟨_, rfl⟩
  rw [hW0] at bO hB0 hsz ⊢
  clear hW0
  refine wpIn_rangeFunc_ownH rfl (by omega) (gf := gf) (lb := lb) rfl trivial eg hs kept_t (kept_b (by omega)) hB0 (fun _ => rfl)
    (fun pre W => (∃ v, Boxed W w.heap.size 27 v ∧ W.ownsRow w.heap.size 41 5 v pre.length (rcells St.cs pre) ∧ True) ∧ Below w.heap.size w W)
    (fun _ _ _ => False)
    (OwnFrom.and (Own.from (holdsRow_own w.heap.size w.heap.size 27 41 5 (fun pre => pre.length) (fun pre => rcells St.cs pre) (fun pre v => True)) _) (ownFrom_below (Nat.le_refl _) (by omega)))
    (fun _ _ _ _ _ hs _ _ => hs)
    ⟨⟨_, bO, World.ownsRow_nil _ _ _ _, trivial⟩, hB0⟩
    (fun x a' W => ∃ Bx, w.heap.size < Bx ∧ Box W Bx 41 #[.bool x.p, .int .i64 x.m, .int .i64 x.f, .int .i64 x.b, .int .i64 x.n] ∧ a' = { tmps := #[.func (.func gf) #[] lb, undef, .slice none 0 0, .pointer (some ⟨w.heap.size, 0, none⟩), .pointer (some ⟨Bx, 0, none⟩), .func (.func gf) #[] lb, (.agg #[.bool x.p, .int .i64 x.m, .int .i64 x.f, .int .i64 x.b, .int .i64 x.n]), undef, undef, undef, undef, undef], defers := [] })
    (fun x a' _ X Y row hs hg hr => by obtain ⟨Bx, h1, h2, h3⟩ := hs; exact ⟨Bx, h1, box_own Bx 41 (fun (_ : Unit) => #[.bool x.p, .int .i64 x.m, .int .i64 x.f, .int .i64 x.b, .int .i64 x.n]) () X Y row h2 hg (fun r e => (hr r e).2), h3⟩)
    ?assign ?body ?done ?stop
  case assign =>
    rintro l1 pre x W K ⟨⟨v, hv, hrow, _⟩, hB⟩ hK
    gi_wp2
    exact hK _ _ ((KeepsOthers.alloc _ _).from _) (kept_alloc W hB.size _) ⟨⟨v, hv.alloc _, hrow.alloc _, trivial⟩, hB.alloc hB.size _⟩ ⟨W.heap.size, hv.lt, Box.fresh W 41 _, rfl⟩
  case body =>
    rintro l1 pre x a' W hl1 hr1 ⟨⟨v, hv, hrow, _⟩, hB⟩ ⟨Bx, hBx, bX, rfl⟩ hlt
    have hc := hv.cell
    obtain ⟨⟨x0, x1, x2, x3, x4⟩, _⟩ := box5 bX
    gi_wp2_with (gi_at_builtin; refine wpListIn_append_own _ rfl _ _ 27 rfl w.heap.size 41 i0 _ 5 40 Try.underlying27 hi hz0 hz1 hz2 rfl (by decide) _ _ _ rfl (hrow.alloc _) ⟨W.heap.size, 0, none⟩ 1 1 (St.cs x) rfl rfl (cells_five_new _ _ _ _ _ _ _) (by simp [St.cs, Value.oneCell']) (by unfold maxLen; omega) (by omega) (by have := hB.size; simp; omega) ?_; intro v' w1 hown' hgrow _; obtain ⟨g', cap', rfl⟩ := ownsRow_succ hown'; obtain ⟨hv1, hv2, hr2, hk2, hb2⟩ := hv.appended (by decide) hrow hB.size (Nat.le_refl _) hown' hgrow; have hc1 := hv1.cell; have hf1 := hv1.frozen)
    exact ⟨hk2.from _, kept_appended hrow hv hgrow hb2, ⟨_, hv2, by rw [rcells_snoc]; simpa using hr2, trivial⟩, hB.trans hb2⟩
  case done =>
    rintro D ys W hD rfl ⟨⟨v, hv, hrow, hnil⟩, hB⟩ hK
    have hc := hv.cell
    gi_wp2
    refine ⟨by simp, .inl ⟨_, _, rfl, run_takeDeferred hK, ?_⟩⟩
    exact ⟨_, results_tmp rfl _ _ _, v, rfl, ownsRow_putObj hrow _ hK rfl, hB.trans (belowK_b (w := w) (Nat.le_refl _) W D _ _ (by omega) hK rfl rfl)⟩
  case stop =>
    rintro D c pre W _ _ h _
    exact h.elim
end Go.Proofs.Yteglgopbagefcaa
