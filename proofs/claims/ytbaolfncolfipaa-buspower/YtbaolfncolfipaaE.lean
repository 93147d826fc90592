/- Contracts of zone.Look, Active, Flush, Crash, Append, Read, Reset, Finish. -/
import Derived.Test.YtbaolfncolfipaaD
namespace Go.Proofs.Ytbaolfncolfipaa
set_option linter.unusedVariables false
set_option linter.unusedSimpArgs false
open Go.RowKit
open Go.RowKit (wrap64)

theorem setCell_self {w : World} {g i : Nat} {t : TypeId} {cs : Array Value} {u : Value} (h : Box w g t cs) (hi : cs[i]? = some u) : w.setCell ⟨g, i, none⟩ u = w := by
  have h' : w.heap[g]? = some (.cells cs t (0, 0)) := h
  have hcs : cs.setIfInBounds i u = cs := by
    apply Array.ext_getElem?
    intro k
    rw [Array.getElem?_setIfInBounds]
    split
    · rename_i hk; subst hk; rw [hi]; simp [(Array.getElem?_eq_some_iff.1 hi).1]
    · rfl
  unfold World.setCell
  cases w with
  | mk _ _ _ _ =>
    congr 1
    apply Array.ext_getElem?
    intro k
    rw [Array.getElem?_modify]
    split
    · rename_i hk
      subst hk
      rw [h']
      simp [hcs]
    · rfl
theorem self5 {w : World} {g : Nat} {t : TypeId} {a b c d e : Value} (h : Box w g t #[a, b, c, d, e]) :
    w.setCell ⟨g, 0, none⟩ a = w ∧ w.setCell ⟨g, 1, none⟩ b = w ∧ w.setCell ⟨g, 2, none⟩ c = w ∧ w.setCell ⟨g, 3, none⟩ d = w ∧ w.setCell ⟨g, 4, none⟩ e = w :=
  ⟨setCell_self h rfl, setCell_self h rfl, setCell_self h rfl, setCell_self h rfl, setCell_self h rfl⟩

theorem box3 {w : World} {g : Nat} {t : TypeId} {a b c : Value} (h : Box w g t #[a, b, c]) :
    w.cell? ⟨g, 0, none⟩ = some a ∧ w.cell? ⟨g, 1, none⟩ = some b ∧ w.cell? ⟨g, 2, none⟩ = some c ∧ w.frozen? ⟨g, 0, none⟩ = false ∧ w.frozen? ⟨g, 1, none⟩ = false ∧ w.frozen? ⟨g, 2, none⟩ = false :=
  ⟨h.cell 0, h.cell 1, h.cell 2, h.frozen 0, h.frozen 1, h.frozen 2⟩
/-- The numbers of a zone. -/
structure Zok (cap blk k safe n c : Nat) : Prop where
  c1 : 1 ≤ cap
  c2 : cap ≤ 4096
  h1 : 1 ≤ blk
  h2 : blk ≤ 4096
  hk : n = k * blk
  hc : k ≤ cap
  hn : n ≤ 16777216
  hcn : n ≤ c
  hs : safe ≤ k

theorem sound_any {cap blk k safe n c : Nat} (A : Option Addr) (done : Bool) (w : World) (z : Zok cap blk k safe n c) :
    Calls Try.prog 65 #[.agg #[.int .i64 (cap : Int), .int .i64 (blk : Int), .slice A n c, .int .i64 (safe : Int), .bool done]] w fun e w' => e = .returned (.agg #[.int .i64 (cap : Int), .int .i64 (blk : Int), .slice A n c, .int .i64 (safe : Int), .bool done]) ∧ Below w.heap.size w w' := by
  refine (sound_exact cap blk k A n c safe done w z.c1 z.c2 z.h1 z.h2 z.hk z.hc z.hn z.hcn z.hs).mono ?_
  rintro e w' ⟨rfl, rfl⟩
  exact ⟨rfl, (by repeat (first | with_reducible exact Below.refl _ _ | with_reducible refine Below.drew ?_ | with_reducible refine Below.alloc ?_ (by first | (simp; done) | (simp; omega)) _ | with_reducible refine Below.setCell ?_ (by first | (simp; done) | (simp; omega)) _))⟩

set_option maxHeartbeats 1000000 in
theorem look_any {cap blk k safe n c : Nat} (A : Option Addr) (done : Bool) (w : World) (z : Zok cap blk k safe n c) :
    Calls Try.prog 58 #[.agg #[.int .i64 (cap : Int), .int .i64 (blk : Int), .slice A n c, .int .i64 (safe : Int), .bool done]] w fun e w' => e = .returned (.agg #[.int .i64 (k : Int), .int .i64 (safe : Int), .bool done]) ∧ Below w.heap.size w w' := by
  have HZ := Lib.hid z
  clear z
  go_enter Try.func58, Try.ntmps58
  go_wp2_with fail
  refine (sound_any A done _ HZ.out).mono ?_
  rintro e w1 ⟨rfl, hb1⟩
  obtain ⟨b1, b2, hbw⟩ := two_boxes hb1 (by simp)
  obtain ⟨⟨q0, q1, q2, q3, q4⟩, f0, f1, f2, f3, f4⟩ := box5 b1
  obtain ⟨s0, s1, s2, s3, s4⟩ := self5 b1
  have HB1 := Lib.hid b1
  have HB2 := Lib.hid b2
  have HB := Lib.hid hbw
  clear hb1 hbw b1 b2
  go_wp2_with fail
  refine wpB_start (w.heap.size + 1) (by kernel_rfl) ?_
  have B1 : Box w1.drew w.heap.size 74 _ := HB1.out
  have B2 : Hid (Box w1.drew (w.heap.size + 1) 43 _) := HB2.out
  have BB : Hid (Below w.heap.size w w1.drew) := HB.out.drew
  clear HB1 HB2 HB q0 q1 q2 q3 q4 f0 f1 f2 f3 f4 s0 s1 s2 s3 s4
  generalize w1.drew = w0 at B1 B2 BB ⊢
  have q0 : ∀ w', Below (w.heap.size + 1) w0 w' → w'.cell? ⟨w.heap.size, 0, none⟩ = some (.int .i64 (cap : Int)) := fun w' h => (box5 (B1.under h (by omega))).1.1
  have q1 : ∀ w', Below (w.heap.size + 1) w0 w' → w'.cell? ⟨w.heap.size, 1, none⟩ = some (.int .i64 (blk : Int)) := fun w' h => (box5 (B1.under h (by omega))).1.2.1
  have q2 : ∀ w', Below (w.heap.size + 1) w0 w' → w'.cell? ⟨w.heap.size, 2, none⟩ = some (.slice A n c) := fun w' h => (box5 (B1.under h (by omega))).1.2.2.1
  have q3 : ∀ w', Below (w.heap.size + 1) w0 w' → w'.cell? ⟨w.heap.size, 3, none⟩ = some (.int .i64 (safe : Int)) := fun w' h => (box5 (B1.under h (by omega))).1.2.2.2.1
  have q4 : ∀ w', Below (w.heap.size + 1) w0 w' → w'.cell? ⟨w.heap.size, 4, none⟩ = some (.bool done) := fun w' h => (box5 (B1.under h (by omega))).1.2.2.2.2
  clear B1
  refine wpB_take (i := 0) (d := 5) (v := ?v2x0) rfl rfl (by kernel_rfl) (by kernel_rfl) (by kernel_rfl) (fun _ _ _ h => h) (by rfl) ?y2x0 ?r2x0
  case y2x0 => (intro w' hSw; go_simp; try (with_reducible rfl))
  simp only [Act.put, List.setIfInBounds_toArray, List.set_cons_zero, List.set_cons_succ]
  refine wpB_take (i := 2) (d := 7) (v := ?v2x2) rfl rfl (by kernel_rfl) (by kernel_rfl) (by kernel_rfl) (fun _ _ _ h => h) (by rfl) ?y2x2 ?r2x2
  case y2x2 => (intro w' hSw; go_simp; try (with_reducible rfl))
  simp only [Act.put, List.setIfInBounds_toArray, List.set_cons_zero, List.set_cons_succ]
  refine wpB_take (i := 3) (d := 8) (v := ?v2x3) rfl rfl (by kernel_rfl) (by kernel_rfl) (by kernel_rfl) (fun _ _ _ h => h) (by rfl) ?y2x3 ?r2x3
  case y2x3 => (intro w' hSw; go_simp; try (with_reducible rfl))
  simp only [Act.put, List.setIfInBounds_toArray, List.set_cons_zero, List.set_cons_succ]
  refine wpB_take (i := 4) (d := 9) (v := ?v2x4) rfl rfl (by kernel_rfl) (by kernel_rfl) (by kernel_rfl) (fun _ _ _ h => h) (by rfl) ?y2x4 ?r2x4
  case y2x4 => (intro w' hSw; go_simp; try (with_reducible rfl))
  simp only [Act.put, List.setIfInBounds_toArray, List.set_cons_zero, List.set_cons_succ]
  refine wpB_take (i := 5) (d := 10) (v := ?v2x5) rfl rfl (by kernel_rfl) (by kernel_rfl) (by kernel_rfl) (fun _ _ _ h => h) (by rfl) ?y2x5 ?r2x5
  case y2x5 => (intro w' hSw; go_simp; try (with_reducible rfl))
  simp only [Act.put, List.setIfInBounds_toArray, List.set_cons_zero, List.set_cons_succ]
  refine wpB_do (i := 1) (by kernel_rfl) rfl (by rfl) (fun K hK => ?_)
  go_simp
  refine (pointer_any (cap : Int) (safe : Int) blk k n A c done w0 HZ.out.h1 HZ.out.h2 HZ.out.hk HZ.out.hn).mono ?_
  rintro e w3 ⟨rfl, hb3⟩
  have B3 := B2.out.later hb3
  have hsz := B2.out.lt
  obtain ⟨p0, p1, p2, g0, g1, g2⟩ := box3 B3
  have BB3 := Lib.hid (BB.out.trans (hb3.mono BB.out.size))
  have HSZ := Lib.hid B3.lt
  refine hK.out _ _ _ (Nat.le_refl _) (hb3.mono (by omega)) ?_
  clear hK K hb3 q0 q1 q2 q3 q4 BB B2 B3
  refine wpB_take (i := 6) (d := 11) (v := ?v2x6) rfl rfl (by kernel_rfl) (by kernel_rfl) (by kernel_rfl) (fun _ _ _ h => h) (by rfl) ?y2x6 ?r2x6
  case y2x6 => (intro w' hSw; go_simp; try (with_reducible rfl))
  simp only [Act.put, List.setIfInBounds_toArray, List.set_cons_zero, List.set_cons_succ]
  refine wpB_do (i := 7) (by kernel_rfl) rfl (by rfl) (fun K hK => ?_)
  go_simp
  refine hK.out _ _ _ (Nat.le_refl _) (by repeat (first | with_reducible exact Below.refl _ _ | with_reducible refine Below.drew ?_ | with_reducible refine Below.alloc ?_ (by first | (simp; done) | (simp; omega)) _ | with_reducible refine Below.setCell ?_ (by first | (simp; done) | (simp; omega)) _)) ?_
  clear hK K
  refine wpB_done (by kernel_rfl) ?_
  go_wp2
  exact bodyPost_ret (v := .agg #[.int .i64 (k : Int), .int .i64 (safe : Int), .bool done]) (by simp [results, Try.results58, go_sem, *]) rfl ⟨rfl, BB3.out.trans (by repeat (first | with_reducible exact Below.refl _ _ | with_reducible refine Below.drew ?_ | with_reducible refine Below.alloc ?_ (by first | (simp; done) | (simp; omega)) _ | with_reducible refine Below.setCell ?_ (by first | (simp; done) | (simp; omega)) _))⟩

/-- A zone is handed back, with its bytes. -/
def GaveZ (cap blk safe : Nat) (done : Bool) (D : List UInt8) (w : World) (e : Ending) (w' : World) : Prop :=
  ∃ A c, e = .returned (.agg #[.int .i64 (cap : Int), .int .i64 (blk : Int), .slice A D.length c, .int .i64 (safe : Int), .bool done]) ∧ Mem 5 w' A (cBs D) ∧ D.length ≤ c ∧ Below w.heap.size w w'

set_option maxHeartbeats 1000000 in
theorem flush_any {cap blk k safe c : Nat} (A : Option Addr) (D : List UInt8) (done : Bool) (w : World) (z : Zok cap blk k safe D.length c) (hr : Mem 5 w A (cBs D)) :
    Calls Try.prog 55 #[.agg #[.int .i64 (cap : Int), .int .i64 (blk : Int), .slice A D.length c, .int .i64 (safe : Int), .bool done]] w (GaveZ cap blk k done D w) := by
  have HZ := Lib.hid z
  have HR := Lib.hid hr
  clear z hr
  go_enter Try.func55, Try.ntmps55
  go_wp2_with fail
  refine (sound_any A done _ HZ.out).mono ?_
  rintro e w1 ⟨rfl, hb1⟩
  obtain ⟨b1, b2, hbw⟩ := two_boxes hb1 (by simp)
  obtain ⟨⟨q0, q1, q2, q3, q4⟩, f0, f1, f2, f3, f4⟩ := box5 b1
  obtain ⟨s0, s1, s2, s3, s4⟩ := self5 b1
  have HB1 := Lib.hid b1
  have HB2 := Lib.hid b2
  have HB := Lib.hid hbw
  clear hb1 hbw b1 b2
  go_wp2_with fail
  refine wpB_start (w.heap.size + 1) (by kernel_rfl) ?_
  have B1 : Box w1.drew w.heap.size 74 _ := HB1.out
  have B2 : Hid (Box w1.drew (w.heap.size + 1) 74 _) := HB2.out
  have BB : Hid (Below w.heap.size w w1.drew) := HB.out.drew
  clear HB1 HB2 HB q0 q1 q2 q3 q4 f0 f1 f2 f3 f4 s0 s1 s2 s3 s4
  generalize w1.drew = w0 at B1 B2 BB ⊢
  have q0 : ∀ w', Below (w.heap.size + 1) w0 w' → w'.cell? ⟨w.heap.size, 0, none⟩ = some (.int .i64 (cap : Int)) := fun w' h => (box5 (B1.under h (by omega))).1.1
  have q1 : ∀ w', Below (w.heap.size + 1) w0 w' → w'.cell? ⟨w.heap.size, 1, none⟩ = some (.int .i64 (blk : Int)) := fun w' h => (box5 (B1.under h (by omega))).1.2.1
  have q2 : ∀ w', Below (w.heap.size + 1) w0 w' → w'.cell? ⟨w.heap.size, 2, none⟩ = some (.slice A D.length c) := fun w' h => (box5 (B1.under h (by omega))).1.2.2.1
  have q3 : ∀ w', Below (w.heap.size + 1) w0 w' → w'.cell? ⟨w.heap.size, 3, none⟩ = some (.int .i64 (safe : Int)) := fun w' h => (box5 (B1.under h (by omega))).1.2.2.2.1
  have q4 : ∀ w', Below (w.heap.size + 1) w0 w' → w'.cell? ⟨w.heap.size, 4, none⟩ = some (.bool done) := fun w' h => (box5 (B1.under h (by omega))).1.2.2.2.2
  clear B1
  refine wpB_take (i := 0) (d := 5) (v := ?v2x0) rfl rfl (by kernel_rfl) (by kernel_rfl) (by kernel_rfl) (fun _ _ _ h => h) (by rfl) ?y2x0 ?r2x0
  case y2x0 => (intro w' hSw; go_simp; try (with_reducible rfl))
  simp only [Act.put, List.setIfInBounds_toArray, List.set_cons_zero, List.set_cons_succ]
  refine wpB_take (i := 1) (d := 6) (v := ?v2x1) rfl rfl (by kernel_rfl) (by kernel_rfl) (by kernel_rfl) (fun _ _ _ h => h) (by rfl) ?y2x1 ?r2x1
  case y2x1 => (intro w' hSw; go_simp; try (with_reducible rfl))
  simp only [Act.put, List.setIfInBounds_toArray, List.set_cons_zero, List.set_cons_succ]
  refine wpB_do (i := 2) (by kernel_rfl) rfl (by rfl) (fun K hK => ?_)
  go_simp
  refine (pointer_any (cap : Int) (safe : Int) blk k D.length A c done w0 HZ.out.h1 HZ.out.h2 HZ.out.hk HZ.out.hn).mono ?_
  rintro e w3 ⟨rfl, hb3⟩
  have B3 := Lib.hid (B2.out.later hb3)
  have hsz := B2.out.lt
  have BB3 := Lib.hid (BB.out.trans (hb3.mono BB.out.size))
  refine hK.out _ _ _ (Nat.le_refl _) (hb3.mono (by omega)) ?_
  clear hK K hb3 q0 q1 q2 q3 q4 BB B2
  refine wpB_do (i := 3) (by kernel_rfl) rfl (by rfl) (fun K hK => ?_)
  go_simp
  refine (settled_any (cap : Int) (safe : Int) blk k D.length A D c done w3 HZ.out.h1 HZ.out.h2 HZ.out.hk (Nat.le_refl _) HZ.out.hn HZ.out.hcn (HR.out.later BB3.out)).mono ?_
  rintro e w4 ⟨A4, c4, rfl, hr4, hc4, hb4⟩
  rw [List.take_length] at hr4 hc4 ⊢
  have B4 := B3.out.later hb4
  have hsz4 := B3.out.lt
  obtain ⟨⟨p0, p1, p2, p3, p4⟩, g0, g1, g2, g3, g4⟩ := box5 B4
  have HM := Lib.hid (And.intro hr4 (And.intro hc4 (And.intro (BB3.out.trans (hb4.mono BB3.out.size)) B4)))
  refine hK.out _ _ _ (Nat.le_refl _) (hb4.mono (by omega)) ?_
  clear hK K hb4 hr4 hc4 B3 BB3 B4
  refine wpB_do (i := 4) (by kernel_rfl) rfl (by rfl) (fun K hK => ?_)
  go_simp
  refine hK.out _ _ _ (Nat.le_refl _) (by repeat (first | with_reducible exact Below.refl _ _ | with_reducible refine Below.drew ?_ | with_reducible refine Below.alloc ?_ (by first | (simp; done) | (simp; omega)) _ | with_reducible refine Below.setCell ?_ (by first | (simp; done) | (simp; omega)) _)) ?_
  clear hK K
  refine wpB_done (by kernel_rfl) ?_
  go_wp2
  refine bodyPost_ret (v := .agg #[.int .i64 (cap : Int), .int .i64 (blk : Int), .slice A4 D.length c4, .int .i64 (k : Int), .bool done]) (by simp [results, Try.results55, go_sem, *]) rfl ?_
  refine ⟨A4, c4, rfl, HM.out.1.turn (gs := [w.heap.size + 1]) ?_ ?_, HM.out.2.1, HM.out.2.2.1.trans (by repeat (first | with_reducible exact Below.refl _ _ | with_reducible refine Below.drew ?_ | with_reducible refine Below.alloc ?_ (by first | (simp; done) | (simp; omega)) _ | with_reducible refine Below.setCell ?_ (by first | (simp; done) | (simp; omega)) _))⟩
  · repeat (first | with_reducible exact Turn.refl _ _ | with_reducible refine Turn.put ?_ (by simp) _ | with_reducible refine Turn.alloc ?_ _ | with_reducible refine Turn.drew ?_)
  · intro g hg
    obtain rfl : g = w.heap.size + 1 := by simpa using hg
    exact HM.out.2.2.2.else_ (by decide)
end Go.Proofs.Ytbaolfncolfipaa
