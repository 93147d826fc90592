/- Contracts of the reference's List, sane. -/
import Derived.Test.YtaceaemombnhkaaJ
namespace Go.Proofs.Ytaceaemombnhkaa
set_option linter.unusedVariables false
set_option maxRecDepth 100000
set_option linter.unusedSimpArgs false
open Go.RowKit
open Go.RowKit (wrap64)

/-- Block q holds all numbers but the ID. -/
def ListAt (w : World) (q : Nat) (c : Cf) : Prop := Box w q 3 #[.int .i64 c.m, .int .i64 c.u, .int .i64 c.b, .int .i64 c.cp, .int .i64 c.z, .int .i64 c.s, .int .i64 c.mt, .int .i64 c.o, .int .i64 c.a, .int .i64 c.l]
theorem ListAt.at_ {w : World} {q : Nat} {c : Cf} (h : ListAt w q c) (i : Nat) (hi : i < c.rest.length) : w.cell? ⟨q, i, none⟩ = some (.int .i64 c.rest[i]) := by
  match i, hi with
  | 0, _ => exact h.cell 0
  | 1, _ => exact h.cell 1
  | 2, _ => exact h.cell 2
  | 3, _ => exact h.cell 3
  | 4, _ => exact h.cell 4
  | 5, _ => exact h.cell 5
  | 6, _ => exact h.cell 6
  | 7, _ => exact h.cell 7
  | 8, _ => exact h.cell 8
  | 9, _ => exact h.cell 9
  | i + 10, hi => exact absurd hi (by show ¬ (i + 10 < 10); omega)
/-- What List hands back. -/
def GaveL (w : World) (c : Cf) (e : Ending) (w' : World) : Prop := e = .returned (.slice (some ⟨w.heap.size + 1, 0, none⟩) 10 10) ∧ ListAt w' (w.heap.size + 1) c ∧ Below w.heap.size w w'
set_option maxHeartbeats 1000000 in
theorem list_any (c : Cf) (w : World) : Calls Try.prog 73 #[(.agg #[.int .i64 c.id, .int .i64 c.m, .int .i64 c.u, .int .i64 c.b, .int .i64 c.cp, .int .i64 c.z, .int .i64 c.s, .int .i64 c.mt, .int .i64 c.o, .int .i64 c.a, .int .i64 c.l])] w (GaveL w c) := by
  go_enter Try.func73, Try.ntmps73
  go_wp2
  go_ret
  refine ⟨rfl, ?_, ((Below.refl _ _).alloc (Nat.le_refl _) _).alloc (by simp) _⟩
  have h := Box.fresh (w.alloc (.cells #[.int .i64 c.id, .int .i64 c.m, .int .i64 c.u, .int .i64 c.b, .int .i64 c.cp, .int .i64 c.z, .int .i64 c.s, .int .i64 c.mt, .int .i64 c.o, .int .i64 c.a, .int .i64 c.l] 23)) 3 #[.int .i64 c.m, .int .i64 c.u, .int .i64 c.b, .int .i64 c.cp, .int .i64 c.z, .int .i64 c.s, .int .i64 c.mt, .int .i64 c.o, .int .i64 c.a, .int .i64 c.l]
  unfold ListAt
  simpa using h
set_option maxHeartbeats 1000000 in
theorem sane_any (c : Cf) (w : World) : Calls Try.prog 49 #[(.agg #[.int .i64 c.id, .int .i64 c.m, .int .i64 c.u, .int .i64 c.b, .int .i64 c.cp, .int .i64 c.z, .int .i64 c.s, .int .i64 c.mt, .int .i64 c.o, .int .i64 c.a, .int .i64 c.l])] w (Says w (.bool c.sane)) := by
  go_enter Try.func49, Try.ntmps49
  go_wp2_with fail
  refine (list_any c _).mono ?_
  rintro e w1 ⟨rfl, hq, hb⟩
  have HB := Lib.hid (below_of_alloc hb (by simp))
  simp only [World.alloc, Array.size_push] at hq ⊢
  generalize w.heap.size + 1 + 1 = q at hq ⊢
  have HQ : Hid (∀ k (hk : k < c.rest.length), w1.cell? ⟨q, k, none⟩ = some (.int .i64 c.rest[k])) := fun k hk => hq.at_ k hk
  have hlen : c.rest.length = 10 := rfl
  have HN : Hid (∀ k (hk : k < c.rest.length), ¬ (1 ≤ c.rest[k] ∧ c.rest[k] ≤ 1048576) → c.sane = false) := fun k hk h => allIn_not hk h
  have HT : Hid (∀ k (hk : k < c.rest.length), allIn 1 1048576 (c.rest.take (k + 1)) = (allIn 1 1048576 (c.rest.take k) && decide (1 ≤ c.rest[k] ∧ c.rest[k] ≤ 1048576))) := fun k hk => allIn_take hk
  have HF : Hid (∀ k, k = 10 → allIn 1 1048576 (c.rest.take k) = c.sane) := by
    show ∀ k, k = 10 → allIn 1 1048576 (c.rest.take k) = c.sane
    intro k hk
    subst hk
    unfold Cf.sane
    rw [List.take_of_length_le (by omega)]
  clear hq hb
  generalize c.rest = vs at HN HT HF hlen HQ
  go_wp2
  go_loop [4] (fun i => ∃ k : Nat, k ≤ 10 ∧ i = .int .i64 k ∧ allIn 1 1048576 (vs.take k) = true) (fun i => 10 - (intOf i).toNat)
  case atStart => exact ⟨0, by omega, rfl, rfl⟩
  case round =>
    obtain ⟨k, hk, rfl, hall⟩ := hrel
    by_cases hlt : k < 10
    · have h2 := HQ.out k (by omega)
      have HN2 := Lib.hid (HN.out k (by omega))
      have HT2 := Lib.hid (HT.out k (by omega))
      have HA := Lib.hid hall
      clear hall
      generalize vs[k]'(by omega) = n at h2 HN2 HT2
      by_cases hn1 : n < 1
      · have hr : Hid (c.sane = false) := HN2.out (by omega)
        go_wp2
        go_ret
        exact ⟨by rw [hr.out]; rfl, HB.out⟩
      · by_cases hn2 : 1048576 < n
        · have hr : Hid (c.sane = false) := HN2.out (by omega)
          go_wp2
          go_ret
          exact ⟨by rw [hr.out]; rfl, HB.out⟩
        · go_wp2
          go_round
          case rel => exact ⟨k + 1, by omega, by go_num, by rw [HT2.out, HA.out]; simp; omega⟩
          case measure => simp [intOf]; omega
    · obtain rfl : k = 10 := by omega
      have hr : Hid (c.sane = true) := (HF.out 10 rfl).symm.trans hall
      clear hall
      go_wp2
      go_ret
      exact ⟨by rw [hr.out]; rfl, HB.out⟩
end Go.Proofs.Ytaceaemombnhkaa
