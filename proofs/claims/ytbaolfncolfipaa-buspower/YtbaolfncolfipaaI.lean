/- Contracts of a member's small functions: there, Dead, Bad, reach, count, and what is deferred. -/
import Derived.Test.YtbaolfncolfipaaH
import Derived.Defers
namespace Go.Proofs.Ytbaolfncolfipaa
set_option linter.unusedVariables false
set_option linter.unusedSimpArgs false
open Go.RowKit
open Go.RowKit (wrap64)

theorem box4 {w : World} {g : Nat} {t : TypeId} {a b c d : Value} (h : Box w g t #[a, b, c, d]) :
    (w.cell? ⟨g, 0, none⟩ = some a ∧ w.cell? ⟨g, 1, none⟩ = some b ∧ w.cell? ⟨g, 2, none⟩ = some c ∧ w.cell? ⟨g, 3, none⟩ = some d) ∧
    (w.frozen? ⟨g, 0, none⟩ = false ∧ w.frozen? ⟨g, 1, none⟩ = false ∧ w.frozen? ⟨g, 2, none⟩ = false ∧ w.frozen? ⟨g, 3, none⟩ = false) :=
  ⟨⟨h.cell 0, h.cell 1, h.cell 2, h.cell 3⟩, h.frozen 0, h.frozen 1, h.frozen 2, h.frozen 3⟩

/-- A member's block. -/
def DevBox (w : World) (p : Nat) (Z : Option Addr) (n c : Nat) (limit bad : Int) (lost : Bool) : Prop := Box w p 79 #[.slice Z n c, .int .i64 limit, .int .i64 bad, .bool lost]

set_option maxHeartbeats 400000 in
theorem there_nil (w : World) : Calls Try.prog 54 #[.pointer none] w fun e w' => e = .returned (.int .i64 16) ∧ w = w' := by
  go_enter Try.func54, Try.ntmps54
  go_wp2
  go_ret
  exact ⟨rfl, rfl⟩

/-- What is wrong with a member that is there. -/
def thereE (lost : Bool) : Int := if lost = true then 11 else 0
set_option maxHeartbeats 400000 in
theorem there_dev {p : Nat} {Z : Option Addr} {n c : Nat} {limit bad : Int} {lost : Bool} (w : World) (h : DevBox w p Z n c limit bad lost) :
    Calls Try.prog 54 #[.pointer (some ⟨p, 0, none⟩)] w fun e w' => e = .returned (.int .i64 (thereE lost)) ∧ w = w' := by
  obtain ⟨⟨q0, q1, q2, q3⟩, f0, f1, f2, f3⟩ := box4 h
  clear h
  cases lost
  all_goals
    go_enter Try.func54, Try.ntmps54
    go_wp2
    go_ret
    exact ⟨rfl, rfl⟩

set_option maxHeartbeats 400000 in
theorem dead_nil (w : World) : Calls Try.prog 41 #[.pointer none] w fun e w' => e = .returned (.bool true) ∧ w = w' := by
  go_enter Try.func41, Try.ntmps41
  go_wp2_with fail
  refine (there_nil w).mono ?_
  rintro e w' ⟨rfl, rfl⟩
  go_wp2
  go_ret
  exact ⟨rfl, rfl⟩
set_option maxHeartbeats 400000 in
theorem dead_dev {p : Nat} {Z : Option Addr} {n c : Nat} {limit bad : Int} {lost : Bool} (w : World) (h : DevBox w p Z n c limit bad lost) :
    Calls Try.prog 41 #[.pointer (some ⟨p, 0, none⟩)] w fun e w' => e = .returned (.bool lost) ∧ w = w' := by
  go_enter Try.func41, Try.ntmps41
  go_wp2_with fail
  refine (there_dev w h).mono ?_
  rintro e w' ⟨rfl, rfl⟩
  cases lost
  · rw [show thereE false = 0 from rfl]
    go_wp2
    go_ret
    exact ⟨rfl, rfl⟩
  · rw [show thereE true = 11 from rfl]
    go_wp2
    go_ret
    exact ⟨rfl, rfl⟩

set_option maxHeartbeats 400000 in
theorem bad_nil (w : World) : Calls Try.prog 42 #[.pointer none] w fun e w' => e = .returned (.int .i64 0) ∧ w = w' := by
  go_enter Try.func42, Try.ntmps42
  go_wp2
  go_ret
  exact ⟨rfl, rfl⟩
set_option maxHeartbeats 400000 in
theorem bad_dev {p : Nat} {Z : Option Addr} {n c : Nat} {limit bad : Int} {lost : Bool} (w : World) (h : DevBox w p Z n c limit bad lost) :
    Calls Try.prog 42 #[.pointer (some ⟨p, 0, none⟩)] w fun e w' => e = .returned (.int .i64 bad) ∧ w = w' := by
  obtain ⟨⟨q0, q1, q2, q3⟩, f0, f1, f2, f3⟩ := box4 h
  clear h
  go_enter Try.func42, Try.ntmps42
  go_wp2
  go_ret
  exact ⟨rfl, rfl⟩

set_option maxHeartbeats 400000 in
theorem reach_nil (z : Int) (w : World) : Calls Try.prog 48 #[.pointer none, .int .i64 z] w fun e w' => e = .returned (.int .i64 16) ∧ w = w' := by
  go_enter Try.func48, Try.ntmps48
  go_wp2_with fail
  refine (there_nil w).mono ?_
  rintro e w' ⟨rfl, rfl⟩
  go_wp2
  go_ret
  exact ⟨rfl, rfl⟩

/-- What is wrong with a member, or with a zone's number. -/
def reachE (lost : Bool) (n : Nat) (z : Int) : Int := if lost = true then 11 else if z < 0 ∨ (n : Int) ≤ z then 2 else 0
set_option maxHeartbeats 400000 in
theorem reach_dev {p : Nat} {Z : Option Addr} {n c : Nat} {limit bad : Int} {lost : Bool} (z : Int) (w : World) (h : DevBox w p Z n c limit bad lost) :
    Calls Try.prog 48 #[.pointer (some ⟨p, 0, none⟩), .int .i64 z] w fun e w' => e = .returned (.int .i64 (reachE lost n z)) ∧ w = w' := by
  obtain ⟨⟨q0, q1, q2, q3⟩, f0, f1, f2, f3⟩ := box4 h
  cases lost
  · by_cases h0 : z < 0
    · rw [show reachE false n z = 2 by simp [reachE, h0]]
      go_enter Try.func48, Try.ntmps48
      go_wp2_with fail
      refine (there_dev w h).mono ?_
      clear h
      rintro e w' ⟨rfl, rfl⟩
      rw [show thereE false = 0 from rfl]
      go_wp2
      go_ret
      exact ⟨rfl, rfl⟩
    · by_cases h1 : (n : Int) ≤ z
      · rw [show reachE false n z = 2 by simp [reachE, h1]]
        go_enter Try.func48, Try.ntmps48
        go_wp2_with fail
        refine (there_dev w h).mono ?_
        clear h
        rintro e w' ⟨rfl, rfl⟩
        rw [show thereE false = 0 from rfl]
        go_wp2
        go_ret
        exact ⟨rfl, rfl⟩
      · rw [show reachE false n z = 0 by simp [reachE]; omega]
        go_enter Try.func48, Try.ntmps48
        go_wp2_with fail
        refine (there_dev w h).mono ?_
        clear h
        rintro e w' ⟨rfl, rfl⟩
        rw [show thereE false = 0 from rfl]
        go_wp2
        go_ret
        exact ⟨rfl, rfl⟩
  · rw [show reachE true n z = 11 from rfl]
    go_enter Try.func48, Try.ntmps48
    go_wp2_with fail
    refine (there_dev w h).mono ?_
    clear h
    rintro e w' ⟨rfl, rfl⟩
    rw [show thereE true = 11 from rfl]
    go_wp2
    go_ret
    exact ⟨rfl, rfl⟩

/-- Which errors are counted. -/
def counted (e : Int) : Bool := e == 2 || e == 3 || e == 6 || e == 4 || e == 8
theorem counted_not {e : Int} (h : counted e = false) : (e == 2) = false ∧ (e == 3) = false ∧ (e == 6) = false ∧ (e == 4) = false ∧ (e == 8) = false := by
  unfold counted at h
  simp only [Bool.or_eq_false_iff] at h
  exact ⟨h.1.1.1.1, h.1.1.1.2, h.1.1.2, h.1.2, h.2⟩
set_option maxHeartbeats 400000 in
theorem count_none (v : Value) (x : Int) (w : World) (hx : counted x = false) : Calls Try.prog 47 #[v, .int .i64 x] w fun e w' => e = .returned (.tuple #[]) ∧ w = w' := by
  obtain ⟨h1, h2, h3, h4, h5⟩ := counted_not hx
  clear hx
  go_enter Try.func47, Try.ntmps47
  go_wp2
  go_end0
  exact ⟨rfl, rfl⟩
set_option maxHeartbeats 1000000 in
theorem count_some {p : Nat} {Z : Option Addr} {n c : Nat} {limit : Int} {bad : Nat} {lost : Bool} (x : Int) (w : World) (h : DevBox w p Z n c limit bad lost) (hb : bad ≤ 1000000) (hx : counted x = true) :
    Calls Try.prog 47 #[.pointer (some ⟨p, 0, none⟩), .int .i64 x] w fun e w' => e = .returned (.tuple #[]) ∧ w.setCell ⟨p, 2, none⟩ (.int .i64 ((bad + 1 : Nat) : Int)) = w' := by
  obtain ⟨⟨q0, q1, q2, q3⟩, f0, f1, f2, f3⟩ := box4 h
  clear h
  have hx' : x = 2 ∨ x = 3 ∨ x = 6 ∨ x = 4 ∨ x = 8 := by
    unfold counted at hx
    simp only [Bool.or_eq_true, beq_iff_eq] at hx
    omega
  clear hx
  have hcast : ((bad + 1 : Nat) : Int) = (bad : Int) + 1 := by simp
  rw [hcast]
  clear hcast
  rcases hx' with rfl | rfl | rfl | rfl | rfl
  all_goals
    go_enter Try.func47, Try.ntmps47
    go_wp2
    go_end0
    exact ⟨rfl, rfl⟩
end Go.Proofs.Ytbaolfncolfipaa
