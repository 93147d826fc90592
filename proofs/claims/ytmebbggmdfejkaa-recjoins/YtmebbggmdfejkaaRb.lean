/- Records in memory; contracts of fields, the reference's list, mayBe, span. -/
import Derived.Test.YtmebbggmdfejkaaRa
import Derived.Test.YtmebbggmdfejkaaOrg
namespace Go.Proofs.Ytmebbggmdfejkaa
set_option linter.unusedVariables false
set_option linter.unusedSimpArgs false
open Go.RowKit
open Go.RowKit (wrap64)

/-- A block of ten cells. -/
theorem box10 {w : World} {g : Nat} {t : TypeId} {a0 a1 a2 a3 a4 a5 a6 a7 a8 a9 : Value} (h : Box w g t #[a0, a1, a2, a3, a4, a5, a6, a7, a8, a9]) :
    (w.cell? ⟨g, 0, none⟩ = some a0 ∧ w.cell? ⟨g, 1, none⟩ = some a1 ∧ w.cell? ⟨g, 2, none⟩ = some a2 ∧ w.cell? ⟨g, 3, none⟩ = some a3 ∧ w.cell? ⟨g, 4, none⟩ = some a4 ∧ w.cell? ⟨g, 5, none⟩ = some a5 ∧ w.cell? ⟨g, 6, none⟩ = some a6 ∧ w.cell? ⟨g, 7, none⟩ = some a7 ∧ w.cell? ⟨g, 8, none⟩ = some a8 ∧ w.cell? ⟨g, 9, none⟩ = some a9) := by
  refine ⟨?_, ?_, ?_, ?_, ?_, ?_, ?_, ?_, ?_, ?_⟩ <;> (rw [h.cell]; rfl)
theorem froz10 {w : World} {g : Nat} {t : TypeId} {cs : Array Value} (h : Box w g t cs) : (w.frozen? ⟨g, 0, none⟩ = false ∧ w.frozen? ⟨g, 1, none⟩ = false ∧ w.frozen? ⟨g, 2, none⟩ = false ∧ w.frozen? ⟨g, 3, none⟩ = false ∧ w.frozen? ⟨g, 4, none⟩ = false ∧ w.frozen? ⟨g, 5, none⟩ = false ∧ w.frozen? ⟨g, 6, none⟩ = false ∧ w.frozen? ⟨g, 7, none⟩ = false ∧ w.frozen? ⟨g, 8, none⟩ = false ∧ w.frozen? ⟨g, 9, none⟩ = false) :=
  ⟨h.frozen _, h.frozen _, h.frozen _, h.frozen _, h.frozen _, h.frozen _, h.frozen _, h.frozen _, h.frozen _, h.frozen _⟩
/-- A record in memory. -/
def RecAt (w : World) (g : Nat) (n : Nat → Int) (v : Value) : Prop := Box w g 24 #[.int .i64 (n 0), .int .i64 (n 1), .int .i64 (n 2), .int .i64 (n 3), .int .i64 (n 4), .int .i64 (n 5), .int .i64 (n 6), .int .i64 (n 7), .int .i64 (n 8), v]
theorem RecAt.num {w : World} {g : Nat} {n : Nat → Int} {v : Value} (h : RecAt w g n v) {k : Nat} (hk : k < 9) : w.cell? ⟨g, k, none⟩ = some (.int .i64 (n k)) := by
  have h' := box10 h
  match k, hk with
  | 0, _ => exact h'.1
  | 1, _ => exact h'.2.1
  | 2, _ => exact h'.2.2.1
  | 3, _ => exact h'.2.2.2.1
  | 4, _ => exact h'.2.2.2.2.1
  | 5, _ => exact h'.2.2.2.2.2.1
  | 6, _ => exact h'.2.2.2.2.2.2.1
  | 7, _ => exact h'.2.2.2.2.2.2.2.1
  | 8, _ => exact h'.2.2.2.2.2.2.2.2.1
  | k + 9, hk => omega
theorem RecAt.body {w : World} {g : Nat} {n : Nat → Int} {v : Value} (h : RecAt w g n v) : w.cell? ⟨g, 9, none⟩ = some v := (box10 h).2.2.2.2.2.2.2.2.2
theorem RecAt.later {w w' : World} {g : Nat} {n : Nat → Int} {v : Value} (h : RecAt w g n v) (hb : Below w.heap.size w w') : RecAt w' g n v := Box.later h hb
/-- A record's fields, by their addresses. -/
def FldAt (w : World) (F g : Nat) : Prop := Box w F 54 #[.pointer (some ⟨g, 0, none⟩), .int .i64 0, .int .i64 6, .pointer (some ⟨g, 1, none⟩), .int .i64 0, .int .i64 1099511627776, .pointer (some ⟨g, 2, none⟩), .int .i64 0, .int .i64 1099511627776, .pointer (some ⟨g, 3, none⟩), .int .i64 0, .int .i64 1099511627776, .pointer (some ⟨g, 4, none⟩), .int .i64 0, .int .i64 1099511627776, .pointer (some ⟨g, 5, none⟩), .int .i64 (-1), .int .i64 1099511627776, .pointer (some ⟨g, 6, none⟩), .int .i64 0, .int .i64 1099511627776, .pointer (some ⟨g, 7, none⟩), .int .i64 0, .int .i64 1099511627776, .pointer (some ⟨g, 8, none⟩), .int .i64 0, .int .i64 1099511627776]
theorem FldAt.later {w w' : World} {F g : Nat} (h : FldAt w F g) (hb : Below w.heap.size w w') : FldAt w' F g := Box.later h hb
theorem FldAt.at_ {w : World} {F g : Nat} (h : FldAt w F g) {k : Nat} (hk : k < 9) : w.cell? ⟨F, k * 3, none⟩ = some (.pointer (some ⟨g, k, none⟩)) ∧ w.cell? ⟨F, k * 3 + 1, none⟩ = some (.int .i64 (loF k)) ∧ w.cell? ⟨F, k * 3 + 2, none⟩ = some (.int .i64 (hiF k)) := by
  match k, hk with
  | 0, _ => exact ⟨h.cell 0, h.cell 1, h.cell 2⟩
  | 1, _ => exact ⟨h.cell 3, h.cell 4, h.cell 5⟩
  | 2, _ => exact ⟨h.cell 6, h.cell 7, h.cell 8⟩
  | 3, _ => exact ⟨h.cell 9, h.cell 10, h.cell 11⟩
  | 4, _ => exact ⟨h.cell 12, h.cell 13, h.cell 14⟩
  | 5, _ => exact ⟨h.cell 15, h.cell 16, h.cell 17⟩
  | 6, _ => exact ⟨h.cell 18, h.cell 19, h.cell 20⟩
  | 7, _ => exact ⟨h.cell 21, h.cell 22, h.cell 23⟩
  | 8, _ => exact ⟨h.cell 24, h.cell 25, h.cell 26⟩
  | k + 9, hk => omega
def FldG (w : World) (g : Nat) (e : Ending) (w' : World) : Prop := e = .returned (.slice (some ⟨w.heap.size, 0, none⟩) 9 9) ∧ FldAt w' w.heap.size g ∧ Below w.heap.size w w'
set_option maxRecDepth 100000 in
set_option maxHeartbeats 2000000 in
theorem fields_any (g : Nat) (w : World) : Calls Try.prog 26 #[.pointer (some ⟨g, 0, none⟩)] w (FldG w g) := by
  go_enter Try.func26, Try.ntmps26
  go_wp2_with fail
  refine wpB_start w.heap.size (by kernel_rfl) ?_
  have HV : Hid (Below w.heap.size w w.drew ∧ w.drew.heap.size = w.heap.size) := ⟨(Below.refl _ _).drew, rfl⟩
  generalize w.drew = w0 at HV ⊢
  refine wpB_take (i := 0) (d := 3) (v := ?v1x0) rfl rfl (by kernel_rfl) (by kernel_rfl) (by kernel_rfl) (fun _ _ _ h => h) (by rfl) ?y1x0 ?r1x0
  case y1x0 => (intro w' hSw; go_simp; try (with_reducible rfl))
  simp only [Act.put, List.setIfInBounds_toArray, List.set_cons_zero, List.set_cons_succ]
  refine wpB_take (i := 1) (d := 4) (v := ?v1x1) rfl rfl (by kernel_rfl) (by kernel_rfl) (by kernel_rfl) (fun _ _ _ h => h) (by rfl) ?y1x1 ?r1x1
  case y1x1 => (intro w' hSw; go_simp; try (with_reducible rfl))
  simp only [Act.put, List.setIfInBounds_toArray, List.set_cons_zero, List.set_cons_succ]
  refine wpB_take (i := 2) (d := 5) (v := ?v1x2) rfl rfl (by kernel_rfl) (by kernel_rfl) (by kernel_rfl) (fun _ _ _ h => h) (by rfl) ?y1x2 ?r1x2
  case y1x2 => (intro w' hSw; go_simp; try (with_reducible rfl))
  simp only [Act.put, List.setIfInBounds_toArray, List.set_cons_zero, List.set_cons_succ]
  refine wpB_take (i := 3) (d := 6) (v := ?v1x3) rfl rfl (by kernel_rfl) (by kernel_rfl) (by kernel_rfl) (fun _ _ _ h => h) (by rfl) ?y1x3 ?r1x3
  case y1x3 => (intro w' hSw; go_simp; try (with_reducible rfl))
  simp only [Act.put, List.setIfInBounds_toArray, List.set_cons_zero, List.set_cons_succ]
  refine wpB_take (i := 4) (d := 7) (v := ?v1x4) rfl rfl (by kernel_rfl) (by kernel_rfl) (by kernel_rfl) (fun _ _ _ h => h) (by rfl) ?y1x4 ?r1x4
  case y1x4 => (intro w' hSw; go_simp; try (with_reducible rfl))
  simp only [Act.put, List.setIfInBounds_toArray, List.set_cons_zero, List.set_cons_succ]
  refine wpB_take (i := 5) (d := 8) (v := ?v1x5) rfl rfl (by kernel_rfl) (by kernel_rfl) (by kernel_rfl) (fun _ _ _ h => h) (by rfl) ?y1x5 ?r1x5
  case y1x5 => (intro w' hSw; go_simp; try (with_reducible rfl))
  simp only [Act.put, List.setIfInBounds_toArray, List.set_cons_zero, List.set_cons_succ]
  refine wpB_take (i := 6) (d := 9) (v := ?v1x6) rfl rfl (by kernel_rfl) (by kernel_rfl) (by kernel_rfl) (fun _ _ _ h => h) (by rfl) ?y1x6 ?r1x6
  case y1x6 => (intro w' hSw; go_simp; try (with_reducible rfl))
  simp only [Act.put, List.setIfInBounds_toArray, List.set_cons_zero, List.set_cons_succ]
  refine wpB_take (i := 7) (d := 10) (v := ?v1x7) rfl rfl (by kernel_rfl) (by kernel_rfl) (by kernel_rfl) (fun _ _ _ h => h) (by rfl) ?y1x7 ?r1x7
  case y1x7 => (intro w' hSw; go_simp; try (with_reducible rfl))
  simp only [Act.put, List.setIfInBounds_toArray, List.set_cons_zero, List.set_cons_succ]
  refine wpB_take (i := 8) (d := 11) (v := ?v1x8) rfl rfl (by kernel_rfl) (by kernel_rfl) (by kernel_rfl) (fun _ _ _ h => h) (by rfl) ?y1x8 ?r1x8
  case y1x8 => (intro w' hSw; go_simp; try (with_reducible rfl))
  simp only [Act.put, List.setIfInBounds_toArray, List.set_cons_zero, List.set_cons_succ]
  refine wpB_take (i := 9) (d := 12) (v := ?v1x9) rfl rfl (by kernel_rfl) (by kernel_rfl) (by kernel_rfl) (fun _ _ _ h => h) (by rfl) ?y1x9 ?r1x9
  case y1x9 => (intro w' hSw; go_simp; try (with_reducible rfl))
  simp only [Act.put, List.setIfInBounds_toArray, List.set_cons_zero, List.set_cons_succ]
  refine wpB_take (i := 10) (d := 13) (v := ?v1x10) rfl rfl (by kernel_rfl) (by kernel_rfl) (by kernel_rfl) (fun _ _ _ h => h) (by rfl) ?y1x10 ?r1x10
  case y1x10 => (intro w' hSw; go_simp; try (with_reducible rfl))
  simp only [Act.put, List.setIfInBounds_toArray, List.set_cons_zero, List.set_cons_succ]
  refine wpB_take (i := 11) (d := 14) (v := ?v1x11) rfl rfl (by kernel_rfl) (by kernel_rfl) (by kernel_rfl) (fun _ _ _ h => h) (by rfl) ?y1x11 ?r1x11
  case y1x11 => (intro w' hSw; go_simp; try (with_reducible rfl))
  simp only [Act.put, List.setIfInBounds_toArray, List.set_cons_zero, List.set_cons_succ]
  refine wpB_take (i := 12) (d := 15) (v := ?v1x12) rfl rfl (by kernel_rfl) (by kernel_rfl) (by kernel_rfl) (fun _ _ _ h => h) (by rfl) ?y1x12 ?r1x12
  case y1x12 => (intro w' hSw; go_simp; try (with_reducible rfl))
  simp only [Act.put, List.setIfInBounds_toArray, List.set_cons_zero, List.set_cons_succ]
  refine wpB_take (i := 13) (d := 16) (v := ?v1x13) rfl rfl (by kernel_rfl) (by kernel_rfl) (by kernel_rfl) (fun _ _ _ h => h) (by rfl) ?y1x13 ?r1x13
  case y1x13 => (intro w' hSw; go_simp; try (with_reducible rfl))
  simp only [Act.put, List.setIfInBounds_toArray, List.set_cons_zero, List.set_cons_succ]
  refine wpB_take (i := 14) (d := 17) (v := ?v1x14) rfl rfl (by kernel_rfl) (by kernel_rfl) (by kernel_rfl) (fun _ _ _ h => h) (by rfl) ?y1x14 ?r1x14
  case y1x14 => (intro w' hSw; go_simp; try (with_reducible rfl))
  simp only [Act.put, List.setIfInBounds_toArray, List.set_cons_zero, List.set_cons_succ]
  refine wpB_take (i := 15) (d := 18) (v := ?v1x15) rfl rfl (by kernel_rfl) (by kernel_rfl) (by kernel_rfl) (fun _ _ _ h => h) (by rfl) ?y1x15 ?r1x15
  case y1x15 => (intro w' hSw; go_simp; try (with_reducible rfl))
  simp only [Act.put, List.setIfInBounds_toArray, List.set_cons_zero, List.set_cons_succ]
  refine wpB_take (i := 16) (d := 19) (v := ?v1x16) rfl rfl (by kernel_rfl) (by kernel_rfl) (by kernel_rfl) (fun _ _ _ h => h) (by rfl) ?y1x16 ?r1x16
  case y1x16 => (intro w' hSw; go_simp; try (with_reducible rfl))
  simp only [Act.put, List.setIfInBounds_toArray, List.set_cons_zero, List.set_cons_succ]
  refine wpB_take (i := 17) (d := 20) (v := ?v1x17) rfl rfl (by kernel_rfl) (by kernel_rfl) (by kernel_rfl) (fun _ _ _ h => h) (by rfl) ?y1x17 ?r1x17
  case y1x17 => (intro w' hSw; go_simp; try (with_reducible rfl))
  simp only [Act.put, List.setIfInBounds_toArray, List.set_cons_zero, List.set_cons_succ]
  refine wpB_take (i := 18) (d := 21) (v := ?v1x18) rfl rfl (by kernel_rfl) (by kernel_rfl) (by kernel_rfl) (fun _ _ _ h => h) (by rfl) ?y1x18 ?r1x18
  case y1x18 => (intro w' hSw; go_simp; try (with_reducible rfl))
  simp only [Act.put, List.setIfInBounds_toArray, List.set_cons_zero, List.set_cons_succ]
  refine wpB_take (i := 19) (d := 22) (v := ?v1x19) rfl rfl (by kernel_rfl) (by kernel_rfl) (by kernel_rfl) (fun _ _ _ h => h) (by rfl) ?y1x19 ?r1x19
  case y1x19 => (intro w' hSw; go_simp; try (with_reducible rfl))
  simp only [Act.put, List.setIfInBounds_toArray, List.set_cons_zero, List.set_cons_succ]
  refine wpB_take (i := 20) (d := 23) (v := ?v1x20) rfl rfl (by kernel_rfl) (by kernel_rfl) (by kernel_rfl) (fun _ _ _ h => h) (by rfl) ?y1x20 ?r1x20
  case y1x20 => (intro w' hSw; go_simp; try (with_reducible rfl))
  simp only [Act.put, List.setIfInBounds_toArray, List.set_cons_zero, List.set_cons_succ]
  refine wpB_take (i := 21) (d := 24) (v := ?v1x21) rfl rfl (by kernel_rfl) (by kernel_rfl) (by kernel_rfl) (fun _ _ _ h => h) (by rfl) ?y1x21 ?r1x21
  case y1x21 => (intro w' hSw; go_simp; try (with_reducible rfl))
  simp only [Act.put, List.setIfInBounds_toArray, List.set_cons_zero, List.set_cons_succ]
  refine wpB_take (i := 22) (d := 25) (v := ?v1x22) rfl rfl (by kernel_rfl) (by kernel_rfl) (by kernel_rfl) (fun _ _ _ h => h) (by rfl) ?y1x22 ?r1x22
  case y1x22 => (intro w' hSw; go_simp; try (with_reducible rfl))
  simp only [Act.put, List.setIfInBounds_toArray, List.set_cons_zero, List.set_cons_succ]
  refine wpB_take (i := 23) (d := 26) (v := ?v1x23) rfl rfl (by kernel_rfl) (by kernel_rfl) (by kernel_rfl) (fun _ _ _ h => h) (by rfl) ?y1x23 ?r1x23
  case y1x23 => (intro w' hSw; go_simp; try (with_reducible rfl))
  simp only [Act.put, List.setIfInBounds_toArray, List.set_cons_zero, List.set_cons_succ]
  refine wpB_take (i := 24) (d := 27) (v := ?v1x24) rfl rfl (by kernel_rfl) (by kernel_rfl) (by kernel_rfl) (fun _ _ _ h => h) (by rfl) ?y1x24 ?r1x24
  case y1x24 => (intro w' hSw; go_simp; try (with_reducible rfl))
  simp only [Act.put, List.setIfInBounds_toArray, List.set_cons_zero, List.set_cons_succ]
  refine wpB_take (i := 25) (d := 28) (v := ?v1x25) rfl rfl (by kernel_rfl) (by kernel_rfl) (by kernel_rfl) (fun _ _ _ h => h) (by rfl) ?y1x25 ?r1x25
  case y1x25 => (intro w' hSw; go_simp; try (with_reducible rfl))
  simp only [Act.put, List.setIfInBounds_toArray, List.set_cons_zero, List.set_cons_succ]
  refine wpB_take (i := 26) (d := 29) (v := ?v1x26) rfl rfl (by kernel_rfl) (by kernel_rfl) (by kernel_rfl) (fun _ _ _ h => h) (by rfl) ?y1x26 ?r1x26
  case y1x26 => (intro w' hSw; go_simp; try (with_reducible rfl))
  simp only [Act.put, List.setIfInBounds_toArray, List.set_cons_zero, List.set_cons_succ]
  refine wpB_take (i := 27) (d := 30) (v := ?v1x27) rfl rfl (by kernel_rfl) (by kernel_rfl) (by kernel_rfl) (fun _ _ _ h => h) (by rfl) ?y1x27 ?r1x27
  case y1x27 => (intro w' hSw; go_simp; try (with_reducible rfl))
  simp only [Act.put, List.setIfInBounds_toArray, List.set_cons_zero, List.set_cons_succ]
  refine wpB_take (i := 28) (d := 31) (v := ?v1x28) rfl rfl (by kernel_rfl) (by kernel_rfl) (by kernel_rfl) (fun _ _ _ h => h) (by rfl) ?y1x28 ?r1x28
  case y1x28 => (intro w' hSw; go_simp; try (with_reducible rfl))
  simp only [Act.put, List.setIfInBounds_toArray, List.set_cons_zero, List.set_cons_succ]
  refine wpB_take (i := 29) (d := 32) (v := ?v1x29) rfl rfl (by kernel_rfl) (by kernel_rfl) (by kernel_rfl) (fun _ _ _ h => h) (by rfl) ?y1x29 ?r1x29
  case y1x29 => (intro w' hSw; go_simp; try (with_reducible rfl))
  simp only [Act.put, List.setIfInBounds_toArray, List.set_cons_zero, List.set_cons_succ]
  refine wpB_take (i := 30) (d := 33) (v := ?v1x30) rfl rfl (by kernel_rfl) (by kernel_rfl) (by kernel_rfl) (fun _ _ _ h => h) (by rfl) ?y1x30 ?r1x30
  case y1x30 => (intro w' hSw; go_simp; try (with_reducible rfl))
  simp only [Act.put, List.setIfInBounds_toArray, List.set_cons_zero, List.set_cons_succ]
  refine wpB_take (i := 31) (d := 34) (v := ?v1x31) rfl rfl (by kernel_rfl) (by kernel_rfl) (by kernel_rfl) (fun _ _ _ h => h) (by rfl) ?y1x31 ?r1x31
  case y1x31 => (intro w' hSw; go_simp; try (with_reducible rfl))
  simp only [Act.put, List.setIfInBounds_toArray, List.set_cons_zero, List.set_cons_succ]
  refine wpB_take (i := 32) (d := 35) (v := ?v1x32) rfl rfl (by kernel_rfl) (by kernel_rfl) (by kernel_rfl) (fun _ _ _ h => h) (by rfl) ?y1x32 ?r1x32
  case y1x32 => (intro w' hSw; go_simp; try (with_reducible rfl))
  simp only [Act.put, List.setIfInBounds_toArray, List.set_cons_zero, List.set_cons_succ]
  refine wpB_take (i := 33) (d := 36) (v := ?v1x33) rfl rfl (by kernel_rfl) (by kernel_rfl) (by kernel_rfl) (fun _ _ _ h => h) (by rfl) ?y1x33 ?r1x33
  case y1x33 => (intro w' hSw; go_simp; try (with_reducible rfl))
  simp only [Act.put, List.setIfInBounds_toArray, List.set_cons_zero, List.set_cons_succ]
  refine wpB_take (i := 34) (d := 37) (v := ?v1x34) rfl rfl (by kernel_rfl) (by kernel_rfl) (by kernel_rfl) (fun _ _ _ h => h) (by rfl) ?y1x34 ?r1x34
  case y1x34 => (intro w' hSw; go_simp; try (with_reducible rfl))
  simp only [Act.put, List.setIfInBounds_toArray, List.set_cons_zero, List.set_cons_succ]
  refine wpB_take (i := 35) (d := 38) (v := ?v1x35) rfl rfl (by kernel_rfl) (by kernel_rfl) (by kernel_rfl) (fun _ _ _ h => h) (by rfl) ?y1x35 ?r1x35
  case y1x35 => (intro w' hSw; go_simp; try (with_reducible rfl))
  simp only [Act.put, List.setIfInBounds_toArray, List.set_cons_zero, List.set_cons_succ]
  refine wpB_do (i := 36) (by kernel_rfl) rfl (by rfl) (fun K hK => ?_)
  go_simp
  refine hK.out w.heap.size _ _ (Nat.le_refl _) ((Below.refl _ _).alloc (Nat.le_of_eq HV.out.2.symm) _) ?_
  have HP : Hid (FldAt (w0.alloc (.cells #[.pointer (some ⟨g, 0, none⟩), .int .i64 0, .int .i64 6, .pointer (some ⟨g, 1, none⟩), .int .i64 0, .int .i64 1099511627776, .pointer (some ⟨g, 2, none⟩), .int .i64 0, .int .i64 1099511627776, .pointer (some ⟨g, 3, none⟩), .int .i64 0, .int .i64 1099511627776, .pointer (some ⟨g, 4, none⟩), .int .i64 0, .int .i64 1099511627776, .pointer (some ⟨g, 5, none⟩), .int .i64 (-1), .int .i64 1099511627776, .pointer (some ⟨g, 6, none⟩), .int .i64 0, .int .i64 1099511627776, .pointer (some ⟨g, 7, none⟩), .int .i64 0, .int .i64 1099511627776, .pointer (some ⟨g, 8, none⟩), .int .i64 0, .int .i64 1099511627776] 54)) w.heap.size g ∧ Below w.heap.size w (w0.alloc (.cells #[.pointer (some ⟨g, 0, none⟩), .int .i64 0, .int .i64 6, .pointer (some ⟨g, 1, none⟩), .int .i64 0, .int .i64 1099511627776, .pointer (some ⟨g, 2, none⟩), .int .i64 0, .int .i64 1099511627776, .pointer (some ⟨g, 3, none⟩), .int .i64 0, .int .i64 1099511627776, .pointer (some ⟨g, 4, none⟩), .int .i64 0, .int .i64 1099511627776, .pointer (some ⟨g, 5, none⟩), .int .i64 (-1), .int .i64 1099511627776, .pointer (some ⟨g, 6, none⟩), .int .i64 0, .int .i64 1099511627776, .pointer (some ⟨g, 7, none⟩), .int .i64 0, .int .i64 1099511627776, .pointer (some ⟨g, 8, none⟩), .int .i64 0, .int .i64 1099511627776] 54))) := by
    have h := Box.fresh w0 54 #[.pointer (some ⟨g, 0, none⟩), .int .i64 0, .int .i64 6, .pointer (some ⟨g, 1, none⟩), .int .i64 0, .int .i64 1099511627776, .pointer (some ⟨g, 2, none⟩), .int .i64 0, .int .i64 1099511627776, .pointer (some ⟨g, 3, none⟩), .int .i64 0, .int .i64 1099511627776, .pointer (some ⟨g, 4, none⟩), .int .i64 0, .int .i64 1099511627776, .pointer (some ⟨g, 5, none⟩), .int .i64 (-1), .int .i64 1099511627776, .pointer (some ⟨g, 6, none⟩), .int .i64 0, .int .i64 1099511627776, .pointer (some ⟨g, 7, none⟩), .int .i64 0, .int .i64 1099511627776, .pointer (some ⟨g, 8, none⟩), .int .i64 0, .int .i64 1099511627776]
    rw [HV.out.2] at h
    exact ⟨h, HV.out.1.alloc (Nat.le_of_eq HV.out.2.symm) _⟩
  rw [HV.out.2]
  generalize (w0.alloc (.cells #[.pointer (some ⟨g, 0, none⟩), .int .i64 0, .int .i64 6, .pointer (some ⟨g, 1, none⟩), .int .i64 0, .int .i64 1099511627776, .pointer (some ⟨g, 2, none⟩), .int .i64 0, .int .i64 1099511627776, .pointer (some ⟨g, 3, none⟩), .int .i64 0, .int .i64 1099511627776, .pointer (some ⟨g, 4, none⟩), .int .i64 0, .int .i64 1099511627776, .pointer (some ⟨g, 5, none⟩), .int .i64 (-1), .int .i64 1099511627776, .pointer (some ⟨g, 6, none⟩), .int .i64 0, .int .i64 1099511627776, .pointer (some ⟨g, 7, none⟩), .int .i64 0, .int .i64 1099511627776, .pointer (some ⟨g, 8, none⟩), .int .i64 0, .int .i64 1099511627776] 54)) = w1 at HP ⊢
  clear hK HV
  refine wpB_take (i := 37) (d := 2) (v := ?v1x37) rfl rfl (by kernel_rfl) (by kernel_rfl) (by kernel_rfl) (fun _ _ _ h => h) (by rfl) ?y1x37 ?r1x37
  case y1x37 => (intro w' hSw; go_simp; try (with_reducible rfl))
  simp only [Act.put, List.setIfInBounds_toArray, List.set_cons_zero, List.set_cons_succ]
  refine wpB_done (by kernel_rfl) ?_
  go_wp2
  go_ret
  exact ⟨rfl, HP.out.1, HP.out.2⟩
/-- The reference's list of a record's numbers. -/
def LstAt (w : World) (q : Nat) (n : Nat → Int) : Prop := Box w q 3 #[.int .i64 (n 0), .int .i64 (n 1), .int .i64 (n 2), .int .i64 (n 3), .int .i64 (n 4), .int .i64 (n 5), .int .i64 (n 6), .int .i64 (n 7), .int .i64 (n 8)]
theorem LstAt.num {w : World} {q : Nat} {n : Nat → Int} (h : LstAt w q n) {k : Nat} (hk : k < 9) : w.cell? ⟨q, k, none⟩ = some (.int .i64 (n k)) := by
  match k, hk with
  | 0, _ => exact h.cell 0
  | 1, _ => exact h.cell 1
  | 2, _ => exact h.cell 2
  | 3, _ => exact h.cell 3
  | 4, _ => exact h.cell 4
  | 5, _ => exact h.cell 5
  | 6, _ => exact h.cell 6
  | 7, _ => exact h.cell 7
  | 8, _ => exact h.cell 8
  | k + 9, hk => omega
theorem LstAt.later {w w' : World} {g : Nat} {n : Nat → Int} (h : LstAt w g n) (hb : Below w.heap.size w w') : LstAt w' g n := Box.later h hb
def LstG (w : World) (n : Nat → Int) (e : Ending) (w' : World) : Prop := ∃ q, e = .returned (.slice (some ⟨q, 0, none⟩) 9 9) ∧ LstAt w' q n ∧ Below w.heap.size w w'
set_option maxHeartbeats 1000000 in
theorem rlist_any (n : Nat → Int) (v : Value) (w : World) : Calls Try.prog 27 #[.agg #[.int .i64 (n 0), .int .i64 (n 1), .int .i64 (n 2), .int .i64 (n 3), .int .i64 (n 4), .int .i64 (n 5), .int .i64 (n 6), .int .i64 (n 7), .int .i64 (n 8), v]] w (LstG w n) := by
  go_enter Try.func27, Try.ntmps27
  go_wp2
  go_ret
  refine ⟨w.heap.size + 1, by simp, ?_, ((Below.refl _ _).alloc (Nat.le_refl _) _).alloc (by simp) _⟩
  have h := Box.fresh (w.alloc (.cells #[.int .i64 (n 0), .int .i64 (n 1), .int .i64 (n 2), .int .i64 (n 3), .int .i64 (n 4), .int .i64 (n 5), .int .i64 (n 6), .int .i64 (n 7), .int .i64 (n 8), v] 24)) 3 #[.int .i64 (n 0), .int .i64 (n 1), .int .i64 (n 2), .int .i64 (n 3), .int .i64 (n 4), .int .i64 (n 5), .int .i64 (n 6), .int .i64 (n 7), .int .i64 (n 8)]
  simpa [LstAt] using h
theorem mayBe_any (bl : Int) (w : World) : Calls Try.prog 21 #[.int .i64 bl] w fun e w' => e = .returned (.bool (mayB bl)) ∧ w = w' := by
  by_cases h1 : 1 ≤ bl
  · by_cases h2 : bl ≤ 4096
    · have e : mayB bl = true := mayB_iff.2 ⟨h1, h2⟩
      rw [e]
      go_enter Try.func21, Try.ntmps21
      go_wp2
      go_ret
      exact ⟨rfl, rfl⟩
    · have e : mayB bl = false := by unfold mayB; rw [decide_eq_false h2, Bool.and_false]
      rw [e]
      go_enter Try.func21, Try.ntmps21
      go_wp2
      go_ret
      exact ⟨rfl, rfl⟩
  · have e : mayB bl = false := by unfold mayB; rw [decide_eq_false h1, Bool.false_and]
    rw [e]
    go_enter Try.func21, Try.ntmps21
    go_wp2
    go_ret
    exact ⟨rfl, rfl⟩
theorem span_any (s b : Nat) (w : World) (hs : s ≤ 10000000) (hb : 1 ≤ b) (hb2 : b ≤ 4096) : Calls Try.prog 32 #[.int .i64 (s : Int), .int .i64 (b : Int)] w fun e w' => e = .returned (.int .i64 (spanN s b : Nat)) ∧ w = w' := by
  have HS : Hid (((16 + (s : Int) + (b : Int) - 1) / (b : Int)) = ((spanN s b : Nat) : Int)) := by
    show _ = _
    unfold spanN
    rw [Int.natCast_ediv]
    congr 1
    omega
  have h0 : ((b : Int) == 0) = false := by simp; omega
  have h1 : ¬ (b : Int) = 0 := by omega
  go_enter Try.func32, Try.ntmps32
  go_wp2
  go_ret
  exact ⟨by rw [← HS.out]; rfl, rfl⟩
end Go.Proofs.Ytmebbggmdfejkaa
