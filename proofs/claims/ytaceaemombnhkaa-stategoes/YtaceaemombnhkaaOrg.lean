/-
  A region that draws its order, walked in the order of the text: 'wpG gs': whatever order is drawn from here on, every world behind leaves all blocks that are there now as they are, but for those of gs. What reads outside gs is taken at once; what writes, reads within gs or makes memory is carried out when it is the one that may come up (or one of two).
-/
import Derived.Test.YtaceaemombnhkaaTrn
namespace Go.Proofs.Ytaceaemombnhkaa
open Go.RowKit
set_option linter.unusedVariables false

section
variable {P : Program} {ops : Array Oper} {Q : Exit → Act → World → Prop} {md : Region.Mode} {gs : List Nat}

def wpG (P : Program) (md : Region.Mode) (ops : Array Oper) (Q : Exit → Act → World → Prop) (gs : List Nat) (fuel : Nat) (listed : Array Bool) (a : Act) (w : World) : Prop :=
  wpAnyH P md ops Q (fun w' => Turn gs w w') fuel listed a w

theorem wpG_start {id : Nat} {a : Act} {w : World} (gs : List Nat) (hm : P.follows .mixedOrders = true) (h : wpG P .any ops Q gs ops.size (Array.replicate ops.size false) a w.drew) : (Code.region id ops true).wp P Q a w :=
  wp_region_held hm h

theorem wpG_take {i d : Nat} {oi : Oper} {v : Value} {fuel : Nat} {listed : Array Bool} {a : Act} {w : World} (hi : ops[i]? = some oi)
    (hd : oi.dst = some d) (hs : Region.noSelect ops = true) (hf : Region.free md ops listed i = true) (hr : (Region.ready md ops listed).contains i = true)
    (hQ : ∀ c a w, Q (.panic c) (a.put (some d) v) w → Q (.panic c) a w) (hw : Region.wanted oi (yielded ops a.tmps) = true)
    (hy : ∀ w', Turn gs w w' → (execOp a.eval oi).run P w' = .ok (.value v) w')
    (h : wpG P md ops Q gs fuel (listed.setIfInBounds i true) (a.put (some d) v) w) : wpG P md ops Q gs (fuel + 1) listed a w := by
  rw [← hd] at hQ h
  exact wpAnyH_take hi hs hf hr hQ (.inl ⟨hw, hy⟩) (Turn.refl _ _) h

theorem wpG_skip {i d : Nat} {oi : Oper} {fuel : Nat} {listed : Array Bool} {a : Act} {w : World} (hi : ops[i]? = some oi)
    (hd : oi.dst = some d) (hs : Region.noSelect ops = true) (hf : Region.free md ops listed i = true) (hr : (Region.ready md ops listed).contains i = true)
    (hQ : ∀ c a w, Q (.panic c) (a.put (some d) undef) w → Q (.panic c) a w) (hw : Region.wanted oi (yielded ops a.tmps) = false)
    (h : wpG P md ops Q gs fuel (listed.setIfInBounds i true) (a.put (some d) undef) w) : wpG P md ops Q gs (fuel + 1) listed a w := by
  rw [← hd] at hQ h
  exact wpAnyH_take hi hs hf hr hQ (.inr ⟨hw, rfl⟩) (Turn.refl _ _) h

/-- What follows an operation that was carried out. -/
def GoesG (P : Program) (md : Region.Mode) (ops : Array Oper) (Q : Exit → Act → World → Prop) (gs : List Nat) (fuel : Nat) (listed : Array Bool) (w : World) (K : Act → World → Prop) : Prop :=
  ∀ a' w', Turn gs w w' → wpG P md ops Q gs fuel listed a' w' → K a' w'

theorem goesG_held {fuel : Nat} {listed : Array Bool} {w : World} {K : Act → World → Prop} (hK : ∀ a' w', (Turn gs w w' ∧ wpAnyH P md ops Q (fun w' => Turn gs w w') fuel listed a' w') → K a' w') : GoesG P md ops Q gs fuel listed w K := by
  intro a' w' hb hx
  exact hK a' w' ⟨hb, held_weaker (fun w2 h2 => hb.trans h2) _ _ _ _ hx⟩

theorem wpG_do {i : Nat} {o : Oper} {fuel : Nat} {listed : Array Bool} {a : Act} {w : World} (hr : Region.ready md ops listed = [i]) (ho : ops[i]? = some o) (hw : Region.wanted o (yielded ops a.tmps) = true)
    (h : ∀ K : Act → World → Prop, Shut (GoesG P md ops Q gs fuel (listed.setIfInBounds i true) w K) → Oper.wp P o a w K Q) : wpG P md ops Q gs (fuel + 1) listed a w := by
  refine wpAnyH_all hr (by simp) fun j hj => ?_
  obtain rfl : j = i := by simpa using hj
  refine wpOp_step ho fun K hK => ?_
  rw [if_pos hw]
  exact h K (goesG_held hK)

theorem wpG_two {i j : Nat} {oi oj : Oper} {fuel : Nat} {listed : Array Bool} {a : Act} {w : World} (hr : Region.ready md ops listed = [i, j]) (hi : ops[i]? = some oi) (hj : ops[j]? = some oj)
    (hwi : Region.wanted oi (yielded ops a.tmps) = true) (hwj : Region.wanted oj (yielded ops a.tmps) = true)
    (h1 : ∀ K : Act → World → Prop, Shut (GoesG P md ops Q gs fuel (listed.setIfInBounds i true) w K) → Oper.wp P oi a w K Q)
    (h2 : ∀ K : Act → World → Prop, Shut (GoesG P md ops Q gs fuel (listed.setIfInBounds j true) w K) → Oper.wp P oj a w K Q) : wpG P md ops Q gs (fuel + 1) listed a w := by
  refine wpAnyH_all hr (by simp) fun k hk => ?_
  have hk' : k = i ∨ k = j := by simpa using hk
  rcases hk' with rfl | rfl
  · refine wpOp_step hi fun K hK => ?_
    rw [if_pos hwi]
    exact h1 K (goesG_held hK)
  · refine wpOp_step hj fun K hK => ?_
    rw [if_pos hwj]
    exact h2 K (goesG_held hK)

theorem wpG_done {fuel : Nat} {listed : Array Bool} {a : Act} {w : World} (hr : Region.ready md ops listed = []) (h : Q .normal a w) : wpG P md ops Q gs fuel listed a w := wpAnyH_done hr h fuel
end
end Go.Proofs.Ytaceaemombnhkaa
