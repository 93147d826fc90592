/-
  A region that draws its order, walked in the order of the text: 'wpB B': whatever order is drawn from here on, every world behind leaves the blocks below B as they are now. What reads below B is taken at once; what writes above B, or makes memory, is carried out when it is the one that may come up (or one of two).
-/
import Derived.OrdersHeld
import Derived.Deep.RegionHeld3
import Derived.Deep.Draws
import Derived.Below
namespace Go.Proofs.Ytaceaemombnhkaa
open Go.RowKit

section
variable {P : Program} {ops : Array Oper} {Q : Exit → Act → World → Prop} {md : Region.Mode} {B : Nat}

/-- A stronger condition on the worlds serves a weaker one. -/
theorem held_weaker {S S' : World → Prop} (hS : ∀ w, S' w → S w) : ∀ (fuel : Nat) (listed : Array Bool) (a : Act) (w : World), wpAnyH P md ops Q S' fuel listed a w → wpAnyH P md ops Q S fuel listed a w
  | 0, _, _, _, h => h
  | fuel + 1, _, _, _, h => ⟨h.1, fun i hi => wpOp_mono (fun a' w' h' => ⟨hS w' h'.1, held_weaker hS fuel _ a' w' h'.2⟩) (h.2 i hi)⟩

def wpB (P : Program) (md : Region.Mode) (ops : Array Oper) (Q : Exit → Act → World → Prop) (B : Nat) (fuel : Nat) (listed : Array Bool) (a : Act) (w : World) : Prop :=
  wpAnyH P md ops Q (fun w' => Below B w w') fuel listed a w

theorem wpB_start {id : Nat} {a : Act} {w : World} (B : Nat) (hm : P.follows .mixedOrders = true) (h : wpB P .any ops Q B ops.size (Array.replicate ops.size false) a w.drew) : (Code.region id ops true).wp P Q a w :=
  wp_region_held hm h

theorem wpB_take {i d : Nat} {oi : Oper} {v : Value} {fuel : Nat} {listed : Array Bool} {a : Act} {w : World} (hi : ops[i]? = some oi)
    (hd : oi.dst = some d) (hs : Region.noSelect ops = true) (hf : Region.free md ops listed i = true) (hr : (Region.ready md ops listed).contains i = true)
    (hQ : ∀ c a w, Q (.panic c) (a.put (some d) v) w → Q (.panic c) a w) (hw : Region.wanted oi (yielded ops a.tmps) = true)
    (hy : ∀ w', Below B w w' → (execOp a.eval oi).run P w' = .ok (.value v) w')
    (h : wpB P md ops Q B fuel (listed.setIfInBounds i true) (a.put (some d) v) w) : wpB P md ops Q B (fuel + 1) listed a w := by
  rw [← hd] at hQ h
  exact wpAnyH_take hi hs hf hr hQ (.inl ⟨hw, hy⟩) (Below.refl _ _) h

theorem wpB_skip {i d : Nat} {oi : Oper} {fuel : Nat} {listed : Array Bool} {a : Act} {w : World} (hi : ops[i]? = some oi)
    (hd : oi.dst = some d) (hs : Region.noSelect ops = true) (hf : Region.free md ops listed i = true) (hr : (Region.ready md ops listed).contains i = true)
    (hQ : ∀ c a w, Q (.panic c) (a.put (some d) undef) w → Q (.panic c) a w) (hw : Region.wanted oi (yielded ops a.tmps) = false)
    (h : wpB P md ops Q B fuel (listed.setIfInBounds i true) (a.put (some d) undef) w) : wpB P md ops Q B (fuel + 1) listed a w := by
  rw [← hd] at hQ h
  exact wpAnyH_take hi hs hf hr hQ (.inr ⟨hw, rfl⟩) (Below.refl _ _) h

/-- What follows an operation that was carried out; B may grow. -/
def Goes (P : Program) (md : Region.Mode) (ops : Array Oper) (Q : Exit → Act → World → Prop) (B fuel : Nat) (listed : Array Bool) (w : World) (K : Act → World → Prop) : Prop :=
  ∀ B' a' w', B ≤ B' → Below B w w' → wpB P md ops Q B' fuel listed a' w' → K a' w'

theorem goes_held {fuel : Nat} {listed : Array Bool} {w : World} {K : Act → World → Prop} (hK : ∀ a' w', (Below B w w' ∧ wpAnyH P md ops Q (fun w' => Below B w w') fuel listed a' w') → K a' w') : Goes P md ops Q B fuel listed w K := by
  intro B' a' w' hB hb hx
  exact hK a' w' ⟨hb, held_weaker (fun w2 h2 => hb.trans (h2.mono hB)) _ _ _ _ hx⟩

theorem wpB_do {i : Nat} {o : Oper} {fuel : Nat} {listed : Array Bool} {a : Act} {w : World} (hr : Region.ready md ops listed = [i]) (ho : ops[i]? = some o) (hw : Region.wanted o (yielded ops a.tmps) = true)
    (h : ∀ K : Act → World → Prop, Shut (Goes P md ops Q B fuel (listed.setIfInBounds i true) w K) → Oper.wp P o a w K Q) : wpB P md ops Q B (fuel + 1) listed a w := by
  refine wpAnyH_all hr (by simp) fun j hj => ?_
  obtain rfl : j = i := by simpa using hj
  refine wpOp_step ho fun K hK => ?_
  rw [if_pos hw]
  exact h K (goes_held hK)

theorem wpB_two {i j : Nat} {oi oj : Oper} {fuel : Nat} {listed : Array Bool} {a : Act} {w : World} (hr : Region.ready md ops listed = [i, j]) (hi : ops[i]? = some oi) (hj : ops[j]? = some oj)
    (hwi : Region.wanted oi (yielded ops a.tmps) = true) (hwj : Region.wanted oj (yielded ops a.tmps) = true)
    (h1 : ∀ K : Act → World → Prop, Shut (Goes P md ops Q B fuel (listed.setIfInBounds i true) w K) → Oper.wp P oi a w K Q)
    (h2 : ∀ K : Act → World → Prop, Shut (Goes P md ops Q B fuel (listed.setIfInBounds j true) w K) → Oper.wp P oj a w K Q) : wpB P md ops Q B (fuel + 1) listed a w := by
  refine wpAnyH_all hr (by simp) fun k hk => ?_
  have hk' : k = i ∨ k = j := by simpa using hk
  rcases hk' with rfl | rfl
  · refine wpOp_step hi fun K hK => ?_
    rw [if_pos hwi]
    exact h1 K (goes_held hK)
  · refine wpOp_step hj fun K hK => ?_
    rw [if_pos hwj]
    exact h2 K (goes_held hK)

theorem wpB_done {fuel : Nat} {listed : Array Bool} {a : Act} {w : World} (hr : Region.ready md ops listed = []) (h : Q .normal a w) : wpB P md ops Q B fuel listed a w := wpAnyH_done hr h fuel
end
end Go.Proofs.Ytaceaemombnhkaa
