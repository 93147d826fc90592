/- Contracts of what is deferred; what a member that is nil answers. -/
import Derived.Test.YtbaolfncolfipaaI
namespace Go.Proofs.Ytbaolfncolfipaa
set_option linter.unusedVariables false
set_option linter.unusedSimpArgs false
open Go.RowKit
open Go.RowKit (wrap64)

set_option maxHeartbeats 400000 in
theorem d22_none (g h : Nat) (v : Option Addr) (x : Int) (u : FrameMode) (w : World) (c1 : w.cell? ⟨g, 0, none⟩ = some (.pointer v)) (c2 : w.cell? ⟨h, 0, none⟩ = some (.int .i64 x)) (hx : counted x = false) :
    CallsD Try.prog 46 #[.pointer (some ⟨g, 0, none⟩), .pointer (some ⟨h, 0, none⟩)] u w fun e u' w' => u' = u ∧ (e = .returned (.tuple #[]) ∧ w = w') := by
  have HX := Lib.hid hx
  clear hx
  go_enter_d Try.func46, Try.ntmps46
  go_wp2_with fail
  refine (count_none _ x w HX.out).mono ?_
  rintro e w' ⟨rfl, rfl⟩
  go_wp2
  go_end0
  exact ⟨rfl, rfl⟩
set_option maxHeartbeats 400000 in
theorem d22_some (g h : Nat) {p : Nat} {Z : Option Addr} {n c : Nat} {limit : Int} {bad : Nat} {lost : Bool} (x : Int) (u : FrameMode) (w : World) (c1 : w.cell? ⟨g, 0, none⟩ = some (.pointer (some ⟨p, 0, none⟩))) (c2 : w.cell? ⟨h, 0, none⟩ = some (.int .i64 x)) (hd : DevBox w p Z n c limit bad lost) (hb : bad ≤ 1000000) (hx : counted x = true) :
    CallsD Try.prog 46 #[.pointer (some ⟨g, 0, none⟩), .pointer (some ⟨h, 0, none⟩)] u w fun e u' w' => u' = u ∧ (e = .returned (.tuple #[]) ∧ w.setCell ⟨p, 2, none⟩ (.int .i64 ((bad + 1 : Nat) : Int)) = w') := by
  have HX := Lib.hid (And.intro hx (And.intro hb hd))
  clear hx hb hd
  go_enter_d Try.func46, Try.ntmps46
  go_wp2_with fail
  refine (count_some x w HX.out.2.2 HX.out.2.1 HX.out.1).mono ?_
  rintro e w' ⟨rfl, rfl⟩
  go_wp2
  go_end0
  exact ⟨rfl, rfl⟩

set_option maxHeartbeats 400000 in
theorem d36_none (g h : Nat) (v : Option Addr) (x : Int) (u : FrameMode) (w : World) (c1 : w.cell? ⟨g, 0, none⟩ = some (.pointer v)) (c2 : w.cell? ⟨h, 0, none⟩ = some (.int .i64 x)) (hx : counted x = false) :
    CallsD Try.prog 56 #[.pointer (some ⟨g, 0, none⟩), .pointer (some ⟨h, 0, none⟩)] u w fun e u' w' => u' = u ∧ (e = .returned (.tuple #[]) ∧ w = w') := by
  have HX := Lib.hid hx
  clear hx
  go_enter_d Try.func56, Try.ntmps56
  go_wp2_with fail
  refine (count_none _ x w HX.out).mono ?_
  rintro e w' ⟨rfl, rfl⟩
  go_wp2
  go_end0
  exact ⟨rfl, rfl⟩
set_option maxHeartbeats 400000 in
theorem d36_some (g h : Nat) {p : Nat} {Z : Option Addr} {n c : Nat} {limit : Int} {bad : Nat} {lost : Bool} (x : Int) (u : FrameMode) (w : World) (c1 : w.cell? ⟨g, 0, none⟩ = some (.pointer (some ⟨p, 0, none⟩))) (c2 : w.cell? ⟨h, 0, none⟩ = some (.int .i64 x)) (hd : DevBox w p Z n c limit bad lost) (hb : bad ≤ 1000000) (hx : counted x = true) :
    CallsD Try.prog 56 #[.pointer (some ⟨g, 0, none⟩), .pointer (some ⟨h, 0, none⟩)] u w fun e u' w' => u' = u ∧ (e = .returned (.tuple #[]) ∧ w.setCell ⟨p, 2, none⟩ (.int .i64 ((bad + 1 : Nat) : Int)) = w') := by
  have HX := Lib.hid (And.intro hx (And.intro hb hd))
  clear hx hb hd
  go_enter_d Try.func56, Try.ntmps56
  go_wp2_with fail
  refine (count_some x w HX.out.2.2 HX.out.2.1 HX.out.1).mono ?_
  rintro e w' ⟨rfl, rfl⟩
  go_wp2
  go_end0
  exact ⟨rfl, rfl⟩

set_option maxHeartbeats 400000 in
theorem d44_none (g h : Nat) (v : Option Addr) (x : Int) (u : FrameMode) (w : World) (c1 : w.cell? ⟨g, 0, none⟩ = some (.pointer v)) (c2 : w.cell? ⟨h, 0, none⟩ = some (.int .i64 x)) (hx : counted x = false) :
    CallsD Try.prog 72 #[.pointer (some ⟨g, 0, none⟩), .pointer (some ⟨h, 0, none⟩)] u w fun e u' w' => u' = u ∧ (e = .returned (.tuple #[]) ∧ w = w') := by
  have HX := Lib.hid hx
  clear hx
  go_enter_d Try.func72, Try.ntmps72
  go_wp2_with fail
  refine (count_none _ x w HX.out).mono ?_
  rintro e w' ⟨rfl, rfl⟩
  go_wp2
  go_end0
  exact ⟨rfl, rfl⟩
set_option maxHeartbeats 400000 in
theorem d44_some (g h : Nat) {p : Nat} {Z : Option Addr} {n c : Nat} {limit : Int} {bad : Nat} {lost : Bool} (x : Int) (u : FrameMode) (w : World) (c1 : w.cell? ⟨g, 0, none⟩ = some (.pointer (some ⟨p, 0, none⟩))) (c2 : w.cell? ⟨h, 0, none⟩ = some (.int .i64 x)) (hd : DevBox w p Z n c limit bad lost) (hb : bad ≤ 1000000) (hx : counted x = true) :
    CallsD Try.prog 72 #[.pointer (some ⟨g, 0, none⟩), .pointer (some ⟨h, 0, none⟩)] u w fun e u' w' => u' = u ∧ (e = .returned (.tuple #[]) ∧ w.setCell ⟨p, 2, none⟩ (.int .i64 ((bad + 1 : Nat) : Int)) = w') := by
  have HX := Lib.hid (And.intro hx (And.intro hb hd))
  clear hx hb hd
  go_enter_d Try.func72, Try.ntmps72
  go_wp2_with fail
  refine (count_some x w HX.out.2.2 HX.out.2.1 HX.out.1).mono ?_
  rintro e w' ⟨rfl, rfl⟩
  go_wp2
  go_end0
  exact ⟨rfl, rfl⟩

set_option maxHeartbeats 1000000 in
theorem append_nil (z : Int) (B : Value) (w : World) : Calls Try.prog 28 #[.pointer none, .int .i64 z, B] w fun e w' => e = .returned (.int .i64 16) ∧ Below w.heap.size w w' := by
  have hmf : ∀ (fn : Fn) (first cap : Array Value) (w : World), (Instr.makeFunc fn first cap).run Try.prog w = .ok (.func fn first cap) w := fun _ _ _ _ => rfl
  go_enter_defers Try.func28, Try.ntmps28
  go_wp2_with fail
  refine (reach_nil z _).mono ?_
  rintro e w' ⟨rfl, rfl⟩
  go_wp2
  refine leaves_cons (f := 46) (args := #[.pointer (some ⟨w.heap.size, 0, none⟩), .pointer (some ⟨w.heap.size + 1, 0, none⟩)]) (by simp) (by simp [go_sem]) ?_
  refine (d22_none w.heap.size (w.heap.size + 1) none 16 .returning _ ?_ ?_ (by decide)).mono ?_
  · simp [go_sem]
  · simp [go_sem]
  rintro e u' w' ⟨rfl, rfl, rfl⟩
  simp only [settle]
  refine ⟨.int .i64 16, by simp [results, Try.results28, go_sem], rfl, ?_⟩
  exact (by repeat (first | with_reducible exact Below.refl _ _ | with_reducible refine Below.drew ?_ | with_reducible refine Below.alloc ?_ (by first | (simp; done) | (simp; omega)) _ | with_reducible refine Below.setCell ?_ (by first | (simp; done) | (simp; omega)) _))
set_option maxHeartbeats 1000000 in
theorem change_nil (z : Int) (F : Value) (w : World) : Calls Try.prog 60 #[.pointer none, .int .i64 z, F] w fun e w' => e = .returned (.int .i64 16) ∧ Below w.heap.size w w' := by
  have hmf : ∀ (fn : Fn) (first cap : Array Value) (w : World), (Instr.makeFunc fn first cap).run Try.prog w = .ok (.func fn first cap) w := fun _ _ _ _ => rfl
  go_enter_defers Try.func60, Try.ntmps60
  go_wp2_with fail
  refine (reach_nil z _).mono ?_
  rintro e w' ⟨rfl, rfl⟩
  go_wp2
  refine leaves_cons (f := 72) (args := #[.pointer (some ⟨w.heap.size, 0, none⟩), .pointer (some ⟨w.heap.size + 1, 0, none⟩)]) (by simp) (by simp [go_sem]) ?_
  refine (d44_none w.heap.size (w.heap.size + 1) none 16 .returning _ ?_ ?_ (by decide)).mono ?_
  · simp [go_sem]
  · simp [go_sem]
  rintro e u' w' ⟨rfl, rfl, rfl⟩
  simp only [settle]
  refine ⟨.int .i64 16, by simp [results, Try.results60, go_sem], rfl, ?_⟩
  exact (by repeat (first | with_reducible exact Below.refl _ _ | with_reducible refine Below.drew ?_ | with_reducible refine Below.alloc ?_ (by first | (simp; done) | (simp; omega)) _ | with_reducible refine Below.setCell ?_ (by first | (simp; done) | (simp; omega)) _))
set_option maxHeartbeats 400000 in
theorem flush_nil  (w : World) : Calls Try.prog 31 #[.pointer none] w fun e w' => e = .returned (.int .i64 16) ∧ Below w.heap.size w w' := by
  go_enter Try.func31, Try.ntmps31
  go_wp2_with fail
  refine (there_nil w).mono ?_
  rintro e w' ⟨rfl, rfl⟩
  go_wp2
  go_ret
  exact ⟨rfl, Below.refl _ _⟩
set_option maxHeartbeats 400000 in
theorem reset_nil (z : Int) (w : World) : Calls Try.prog 38 #[.pointer none, .int .i64 z] w fun e w' => e = .returned (.int .i64 16) ∧ Below w.heap.size w w' := by
  go_enter Try.func38, Try.ntmps38
  go_wp2_with fail
  refine (change_nil z _ w).mono ?_
  rintro e w' ⟨rfl, hb⟩
  go_wp2
  go_ret
  exact ⟨rfl, hb⟩
set_option maxHeartbeats 400000 in
theorem finish_nil (z : Int) (w : World) : Calls Try.prog 39 #[.pointer none, .int .i64 z] w fun e w' => e = .returned (.int .i64 16) ∧ Below w.heap.size w w' := by
  go_enter Try.func39, Try.ntmps39
  go_wp2_with fail
  refine (change_nil z _ w).mono ?_
  rintro e w' ⟨rfl, hb⟩
  go_wp2
  go_ret
  exact ⟨rfl, hb⟩
set_option maxHeartbeats 400000 in
theorem active_nil  (w : World) : Calls Try.prog 68 #[.pointer none] w fun e w' => e = .returned (.int .i64 0) ∧ Below w.heap.size w w' := by
  go_enter Try.func68, Try.ntmps68
  go_wp2_with fail
  refine (dead_nil w).mono ?_
  rintro e w' ⟨rfl, rfl⟩
  go_wp2
  go_ret
  exact ⟨rfl, Below.refl _ _⟩
set_option maxHeartbeats 400000 in
theorem crash_nil (B : Value) (w : World) : Calls Try.prog 29 #[.pointer none, B] w fun e w' => e = .returned (.tuple #[]) ∧ Below w.heap.size w w' := by
  go_enter Try.func29, Try.ntmps29
  go_wp2_with fail
  refine (dead_nil w).mono ?_
  rintro e w' ⟨rfl, rfl⟩
  go_wp2
  refine bodyPost_ret (results_none rfl _ _ _) rfl ⟨rfl, Below.refl _ _⟩
set_option maxHeartbeats 400000 in
theorem kill_nil (w : World) : Calls Try.prog 33 #[.pointer none] w fun e w' => e = .returned (.tuple #[]) ∧ Below w.heap.size w w' := by
  go_enter Try.func33, Try.ntmps33
  go_wp2
  refine bodyPost_ret (results_none rfl _ _ _) rfl ⟨rfl, Below.refl _ _⟩
set_option maxHeartbeats 400000 in
theorem look_nil (z : Int) (w : World) : Calls Try.prog 36 #[.pointer none, .int .i64 z] w fun e w' => e = .returned (.tuple #[.agg #[.int .i64 0, .int .i64 0, .bool false], .bool false]) ∧ Below w.heap.size w w' := by
  go_enter Try.func36, Try.ntmps36
  go_wp2_with fail
  refine (reach_nil z _).mono ?_
  rintro e w' ⟨rfl, rfl⟩
  go_wp2
  refine bodyPost_ret (v := .tuple #[.agg #[.int .i64 0, .int .i64 0, .bool false], .bool false]) (by simp [results, Try.results36, go_sem]) rfl ⟨rfl, ?_⟩
  exact (by repeat (first | with_reducible exact Below.refl _ _ | with_reducible refine Below.drew ?_ | with_reducible refine Below.alloc ?_ (by first | (simp; done) | (simp; omega)) _ | with_reducible refine Below.setCell ?_ (by first | (simp; done) | (simp; omega)) _))
set_option maxHeartbeats 1000000 in
theorem read_nil (z a n : Int) (w : World) : Calls Try.prog 35 #[.pointer none, .int .i64 z, .int .i64 a, .int .i64 n] w fun e w' => e = .returned (.tuple #[.slice none 0 0, .int .i64 16]) ∧ Below w.heap.size w w' := by
  have hmf : ∀ (fn : Fn) (first cap : Array Value) (w : World), (Instr.makeFunc fn first cap).run Try.prog w = .ok (.func fn first cap) w := fun _ _ _ _ => rfl
  go_enter_defers Try.func35, Try.ntmps35
  go_wp2_with fail
  refine (reach_nil z _).mono ?_
  rintro e w' ⟨rfl, rfl⟩
  go_wp2
  go_region
  go_wp2
  refine leaves_cons (f := 56) (args := #[.pointer (some ⟨w.heap.size, 0, none⟩), .pointer (some ⟨w.heap.size + 1, 0, none⟩)]) (by simp) (by simp [go_sem]) ?_
  refine (d36_none w.heap.size (w.heap.size + 1) none 16 .returning _ ?_ ?_ (by decide)).mono ?_
  · simp [go_sem]
  · simp [go_sem]
  rintro e u' w' ⟨rfl, rfl, rfl⟩
  simp only [settle]
  refine ⟨.tuple #[.slice none 0 0, .int .i64 16], by simp [results, Try.results35, go_sem], rfl, ?_⟩
  exact (by repeat (first | with_reducible exact Below.refl _ _ | with_reducible refine Below.drew ?_ | with_reducible refine Below.alloc ?_ (by first | (simp; done) | (simp; omega)) _ | with_reducible refine Below.setCell ?_ (by first | (simp; done) | (simp; omega)) _))
end Go.Proofs.Ytbaolfncolfipaa
