/- A region that draws its order, beside a row of bytes that grows; states as bytes. -/
import Derived.Test.YtaceaemombnhkaaSi
import Derived.Test.YtaceaemombnhkaaE
import Derived.Test.YtaceaemombnhkaaD
import Derived.Test.YtaceaemombnhkaaR
namespace Go.Proofs.Ytaceaemombnhkaa
set_option linter.unusedVariables false
set_option maxRecDepth 100000
set_option linter.unusedSimpArgs false
open Go.RowKit
open Go.RowKit (wrap64)

/-- A block of bytes. -/
def Byts (w : World) (k : Nat) : Prop := ∃ cs mk, w.heap[k]? = some (.cells cs 5 mk)
/-- All blocks below B, and all that hold no bytes, stay. -/
structure Ofb (B : Nat) (w w' : World) : Prop where
  os : w'.os = w.os
  tape : w'.tape = w.tape
  output : w'.output = w.output
  size : w.heap.size ≤ w'.heap.size
  block : ∀ k, k < w.heap.size → (k < B ∨ ¬ Byts w k) → w'.heap[k]? = w.heap[k]?
theorem Ofb.refl (B : Nat) (w : World) : Ofb B w w := ⟨rfl, rfl, rfl, Nat.le_refl _, fun _ _ _ => rfl⟩
theorem Ofb.trans {B : Nat} {a b c : World} (h : Ofb B a b) (k : Ofb B b c) : Ofb B a c :=
  ⟨k.os.trans h.os, k.tape.trans h.tape, k.output.trans h.output, Nat.le_trans h.size k.size, fun i hi hn => by
    have h1 := h.block i hi hn
    refine (k.block i (Nat.lt_of_lt_of_le hi h.size) (hn.imp id fun hb hx => hb ?_)).trans h1
    obtain ⟨cs, mk, hx⟩ := hx
    exact ⟨cs, mk, h1 ▸ hx⟩⟩
theorem Ofb.below {B : Nat} {w w' : World} (h : Below w.heap.size w w') : Ofb B w w' := ⟨h.os, h.tape, h.output, h.size, fun k hk _ => h.block k hk⟩
theorem Ofb.to {B : Nat} {w w' : World} (h : Ofb B w w') (hB : B ≤ w.heap.size) : Below B w w' := ⟨h.os, h.tape, h.output, h.size, fun k hk => h.block k (by omega) (Or.inl hk)⟩
theorem Ofb.drew {B : Nat} {a w : World} (h : Ofb B a w) : Ofb B a w.drew := ⟨h.os, h.tape, h.output, h.size, h.block⟩
theorem Ofb.grown {B : Nat} {w w' : World} {v : Value} {l : List UInt8} (h : Own w B 5 v l) (hg : w.grownBy w' v.ownBlock) : Ofb B w w' :=
  ⟨hg.os, hg.tape, hg.output, hg.size, fun k hk hn => hg.block k hk (fun e => by
    rcases h.2 with ⟨rfl, _⟩ | ⟨g, cap, cur, rfl, hb, hh, _⟩
    · simp [Value.ownBlock] at e
    · simp only [Value.ownBlock, Option.some.injEq] at e
      subst e
      rcases hn with hn | hn
      · omega
      · exact hn ⟨_, _, hh⟩)⟩
theorem Box.off {B : Nat} {w w' : World} {g : Nat} {t : TypeId} {cs : Array Value} (h : Box w g t cs) (ho : Ofb B w w') (ht : t ≠ 5) : Box w' g t cs :=
  (ho.block g h.lt (Or.inr fun hx => by
    obtain ⟨cs', mk, hx⟩ := hx
    have h' : w.heap[g]? = some (.cells cs t (0, 0)) := h
    rw [h'] at hx
    simp at hx
    exact ht hx.2.1)).trans h
section
variable {P : Program} {ops : Array Oper} {Q : Exit → Act → World → Prop} {md : Region.Mode} {B : Nat}
def wpO (P : Program) (md : Region.Mode) (ops : Array Oper) (Q : Exit → Act → World → Prop) (B : Nat) (fuel : Nat) (listed : Array Bool) (a : Act) (w : World) : Prop :=
  wpAnyH P md ops Q (fun w' => Ofb B w w') fuel listed a w
theorem wpO_start {id : Nat} {a : Act} {w : World} (B : Nat) (hm : P.follows .mixedOrders = true) (h : wpO P .any ops Q B ops.size (Array.replicate ops.size false) a w.drew) : (Code.region id ops true).wp P Q a w :=
  wp_region_held hm h
theorem wpO_take {i d : Nat} {oi : Oper} {v : Value} {fuel : Nat} {listed : Array Bool} {a : Act} {w : World} (hi : ops[i]? = some oi)
    (hd : oi.dst = some d) (hs : Region.noSelect ops = true) (hf : Region.free md ops listed i = true) (hr : (Region.ready md ops listed).contains i = true)
    (hQ : ∀ c a w, Q (.panic c) (a.put (some d) v) w → Q (.panic c) a w) (hw : Region.wanted oi (yielded ops a.tmps) = true)
    (hy : ∀ w', Ofb B w w' → (execOp a.eval oi).run P w' = .ok (.value v) w')
    (h : wpO P md ops Q B fuel (listed.setIfInBounds i true) (a.put (some d) v) w) : wpO P md ops Q B (fuel + 1) listed a w := by
  rw [← hd] at hQ h
  exact wpAnyH_take hi hs hf hr hQ (.inl ⟨hw, hy⟩) (Ofb.refl _ _) h
def GoesO (P : Program) (md : Region.Mode) (ops : Array Oper) (Q : Exit → Act → World → Prop) (B fuel : Nat) (listed : Array Bool) (w : World) (K : Act → World → Prop) : Prop :=
  ∀ a' w', Ofb B w w' → wpO P md ops Q B fuel listed a' w' → K a' w'
theorem goesO_held {fuel : Nat} {listed : Array Bool} {w : World} {K : Act → World → Prop} (hK : ∀ a' w', (Ofb B w w' ∧ wpAnyH P md ops Q (fun w' => Ofb B w w') fuel listed a' w') → K a' w') : GoesO P md ops Q B fuel listed w K := by
  intro a' w' hb hx
  exact hK a' w' ⟨hb, held_weaker (fun w2 h2 => hb.trans h2) _ _ _ _ hx⟩
theorem wpO_do {i : Nat} {o : Oper} {fuel : Nat} {listed : Array Bool} {a : Act} {w : World} (hr : Region.ready md ops listed = [i]) (ho : ops[i]? = some o) (hw : Region.wanted o (yielded ops a.tmps) = true)
    (h : ∀ K : Act → World → Prop, Shut (GoesO P md ops Q B fuel (listed.setIfInBounds i true) w K) → Oper.wp P o a w K Q) : wpO P md ops Q B (fuel + 1) listed a w := by
  refine wpAnyH_all hr (by simp) fun j hj => ?_
  obtain rfl : j = i := by simpa using hj
  refine wpOp_step ho fun K hK => ?_
  rw [if_pos hw]
  exact h K (goesO_held hK)
theorem wpO_done {fuel : Nat} {listed : Array Bool} {a : Act} {w : World} (hr : Region.ready md ops listed = []) (h : Q .normal a w) : wpO P md ops Q B fuel listed a w := wpAnyH_done hr h fuel
end
/-- An append onto the call's own row of bytes, in a region. -/
theorem oper_own (W : World) {o : Oper} {a : Act} {K : Act → World → Prop} {Q : Exit → Act → World → Prop} (s y : Operand)
    (ho : o.op = .call { callee := .builtin .append, args := #[s, y], argTypes := #[28, 28] }) (base : Nat) (v : Value) (L : List UInt8) (D : Option Addr) (d Bd : Nat) (e : List UInt8) (hs : a.eval s = v) (hy : a.eval y = .slice D e.length d)
    (hrow : Own W base 5 v L) (hr : Rd W Bd D e) (he : 0 < e.length) (hn : L.length + e.length ≤ 100000000) (hb : base ≤ W.heap.size)
    (hK : ∀ v' w', Own w' base 5 v' (L ++ e) → W.grownBy w' v.ownBlock → K (a.put o.dst v') w') : Oper.wp Try.prog o a W K Q := by
  obtain ⟨i0, hi, hz0, hz1, hz2⟩ := info_parts Try.info5
  obtain ⟨ad, rfl, _, hc⟩ := hr he
  obtain ⟨v', w', hrun, h2, h3, _⟩ := run_append_own (P := Try.prog) W base 28 o.type 5 i0 (.int .u8 0) 1 1 Try.underlying28 hi hz0 hz1 hz2 rfl (by omega) v L.length (cBs L) hrow ad e.length d (cBs e) (by simp [cBs_length]) hc (cBs_one e) (by unfold maxLen; omega) (by omega) hb
  refine oper_app s y 28 ho _ _ _ _ hs hy hrun (hK _ _ ?_ h3)
  unfold Own
  rw [List.length_append, cBs_append]
  exact h2
/-- A flag's byte. -/
def fB (b : Bool) : List UInt8 := [if b then 1 else 0]
/-- Parities, zones, states as bytes. -/
def putP (p : Pr) : List UInt8 := le8 p.w ++ (le8 p.b.length ++ p.b)
def putPs : List Pr → List UInt8
  | [] => []
  | p :: l => putP p ++ putPs l
def headZ (z : Zn) : List UInt8 := le8 z.gen ++ (le8 z.slot ++ (fB z.full ++ (le8 z.w ++ (fB z.whole ++ le8 z.ps.length))))
def putZ (z : Zn) : List UInt8 := headZ z ++ putPs z.ps
def putZs : List Zn → List UInt8
  | [] => []
  | z :: l => putZ z ++ putZs l
def putIs : List Int → List UInt8
  | [] => []
  | n :: l => le8 n ++ putIs l
def putS (s : St) : List UInt8 := les s.c 11 ++ (le8 s.ep ++ (le8 s.sq ++ (putIs s.st ++ putZs s.zs)))
theorem putPs_snoc : ∀ (l : List Pr) (p : Pr), putPs (l ++ [p]) = putPs l ++ putP p
  | [], p => by simp [putPs]
  | q :: l, p => by show putP q ++ putPs (l ++ [p]) = putP q ++ putPs l ++ putP p; rw [putPs_snoc l p, List.append_assoc]
theorem putZs_snoc : ∀ (l : List Zn) (p : Zn), putZs (l ++ [p]) = putZs l ++ putZ p
  | [], p => by simp [putZs]
  | q :: l, p => by show putZ q ++ putZs (l ++ [p]) = putZ q ++ putZs l ++ putZ p; rw [putZs_snoc l p, List.append_assoc]
theorem putIs_snoc : ∀ (l : List Int) (p : Int), putIs (l ++ [p]) = putIs l ++ le8 p
  | [], p => by simp [putIs]
  | q :: l, p => by show le8 q ++ putIs (l ++ [p]) = le8 q ++ putIs l ++ le8 p; rw [putIs_snoc l p, List.append_assoc]
theorem putPs_take {l : List Pr} {k : Nat} (h : k < l.length) : putPs (l.take (k + 1)) = putPs (l.take k) ++ putP l[k] := by rw [List.take_succ_eq_append_getElem h, putPs_snoc]
theorem putZs_take {l : List Zn} {k : Nat} (h : k < l.length) : putZs (l.take (k + 1)) = putZs (l.take k) ++ putZ l[k] := by rw [List.take_succ_eq_append_getElem h, putZs_snoc]
theorem putIs_take {l : List Int} {k : Nat} (h : k < l.length) : putIs (l.take (k + 1)) = putIs (l.take k) ++ le8 l[k] := by rw [List.take_succ_eq_append_getElem h, putIs_snoc]
theorem putIs_length : ∀ l : List Int, (putIs l).length = 8 * l.length
  | [] => rfl
  | n :: l => by show (le8 n ++ putIs l).length = 8 * (l.length + 1); rw [List.length_append, le8_length, putIs_length l]; omega
theorem putPs_le {M : Nat} : ∀ l : List Pr, (∀ p ∈ l, p.b.length ≤ M) → (putPs l).length ≤ (16 + M) * l.length
  | [], _ => by simp [putPs]
  | p :: l, h => by
    show (putP p ++ putPs l).length ≤ (16 + M) * (l.length + 1)
    have h1 := putPs_le l (fun q hq => h q (List.mem_cons_of_mem _ hq))
    have h2 := h p List.mem_cons_self
    unfold putP
    simp only [List.length_append, le8_length, Nat.mul_add, Nat.mul_one]
    omega
theorem headZ_length (z : Zn) : (headZ z).length = 34 := by simp [headZ, le8_length, fB]
end Go.Proofs.Ytaceaemombnhkaa
