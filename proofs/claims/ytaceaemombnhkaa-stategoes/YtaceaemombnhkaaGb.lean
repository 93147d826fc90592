/- What Get answers, plain: sound. -/
import Derived.Test.YtaceaemombnhkaaGa
import Derived.Test.YtaceaemombnhkaaS
import Derived.Test.YtaceaemombnhkaaP
namespace Go.Proofs.Ytaceaemombnhkaa
set_option linter.unusedVariables false
set_option maxRecDepth 100000
set_option linter.unusedSimpArgs false
open Go.RowKit
open Go.RowKit (wrap64)

theorem rS_ok {l : List UInt8} : ∀ k, (rS l k).2 = 0 → l = ((List.range k).map fun i => le8 (rV l i)).flatten ++ (rS l k).1
  | 0, _ => by simp [rS]
  | k + 1, h => by
    have h' : (rI (rS l k).1 (rS l k).2 (-4611686018427387904) 4611686018427387904).2.2 = 0 := h
    obtain ⟨h1, h2, _⟩ := rI_ok h'
    have h3 := rS_ok k h1
    rw [List.range_succ, List.map_append, List.flatten_append, List.append_assoc]
    have e : ([k].map fun i => le8 (rV l i)).flatten = le8 (rV l k) := by simp
    rw [e]
    exact h3.trans (congrArg _ h2)
theorem rS_err {l : List UInt8} : ∀ k, ErrR (rS l k).2
  | 0 => Or.inl rfl
  | k + 1 => rI_err (rS_err k)
theorem getC_err' (l : List UInt8) : ErrR (getC l).2 := by
  unfold getC
  split
  · split
    · exact Or.inr (Or.inl rfl)
    · exact Or.inl rfl
  · exact rS_err 11
theorem getC_ok {l : List UInt8} (h : (getC l).2 = 0) : l = les (getC l).1 11 := by
  unfold getC at h ⊢
  by_cases h0 : (rS l 11).2 = 0
  · rw [if_pos h0] at h ⊢
    by_cases h1 : 0 < (rS l 11).1.length
    · rw [if_pos h1] at h
      simp at h
    · rw [if_neg h1]
      have h2 := rS_ok 11 h0
      have h3 : (rS l 11).1 = [] := List.eq_nil_of_length_eq_zero (by omega)
      rw [h3, List.append_nil] at h2
      refine h2.trans ?_
      simp [les, Cf.list, Cf.rest, List.range_succ]
  · rw [if_neg h0] at h
    exact absurd h h0
/-- What stands behind the settings. -/
def getB (c : Cf) (b : List UInt8) : St × (List UInt8 × Int) :=
  let e := rI b 0 1 1099511627776
  let q := rI e.2.1 e.2.2 0 1099511627776
  let st := getIs c.m.toNat q.2
  let zs := getZs (slotsC c - 1) (sizeC c) (c.u * c.b) c.z.toNat st.2
  (⟨c, e.1, q.1, st.1, zs.1⟩, zs.2)
theorem getB_ok {c : Cf} {b : List UInt8} (h : (getB c b).2.2 = 0) (h0 : (getB c b).2.1 = []) : les c 11 ++ b = putS (getB c b).1 := by
  obtain ⟨h1, h2⟩ := getZs_ok h
  obtain ⟨h3, h4⟩ := getIs_ok h1
  obtain ⟨h5, h6, _⟩ := rI_ok h3
  obtain ⟨_, h8, _⟩ := rI_ok h5
  show les c 11 ++ b = les c 11 ++ (le8 _ ++ (le8 _ ++ (putIs _ ++ putZs _)))
  congr 1
  refine h8.trans ?_
  congr 1
  refine h6.trans ?_
  congr 1
  refine h4.trans ?_
  congr 1
  refine h2.trans ?_
  have h9 : (getZs (slotsC c - 1) (sizeC c) (c.u * c.b) c.z.toNat (getIs c.m.toNat (rI (rI b 0 1 1099511627776).2.1 (rI b 0 1 1099511627776).2.2 0 1099511627776).2).2).2.1 = [] := h0
  rw [h9, List.append_nil]
  rfl
theorem getB_err (c : Cf) (b : List UInt8) : ErrR (getB c b).2.2 := getZs_err (getIs_err (rI_err (rI_err (Or.inl rfl))))
/-- What is read of b: the state where it may be one. -/
structure GetS (b : List UInt8) (s : St) : Prop where
  conf : (getC (b.take (min 88 b.length))).2 = 0
  check : checkC (getC (b.take (min 88 b.length))).1 = 0
  state : (getB (getC (b.take (min 88 b.length))).1 (b.drop (min 88 b.length))).1 = s
  err : (getB (getC (b.take (min 88 b.length))).1 (b.drop (min 88 b.length))).2.2 = 0
  left : (getB (getC (b.take (min 88 b.length))).1 (b.drop (min 88 b.length))).2.1 = []
  right : RightS s
theorem GetS.put {b : List UInt8} {s : St} (h : GetS b s) : putS s = b := by
  have h1 := getC_ok h.conf
  have h2 := getB_ok h.err h.left
  rw [h.state, ← h1, List.take_append_drop] at h2
  exact h2.symm
end Go.Proofs.Ytaceaemombnhkaa
