/- The contracts of a member's Look and Read. -/
import Derived.Test.YtbaolfncolfipaaT
namespace Go.Proofs.Ytbaolfncolfipaa
set_option linter.unusedVariables false
set_option linter.unusedSimpArgs false
open Go.RowKit
open Go.RowKit (wrap64)

set_option maxHeartbeats 1000000 in
theorem look_none {p : Nat} {Z : Option Addr} {n c : Nat} {limit bad : Int} {lost : Bool} (z : Int) (w : World) (h : DevBox w p Z n c limit bad lost) (hE : reachE lost n z ≠ 0) :
    Calls Try.prog 36 #[.pointer (some ⟨p, 0, none⟩), .int .i64 z] w fun e w' => e = .returned (.tuple #[.agg #[.int .i64 0, .int .i64 0, .bool false], .bool false]) ∧ Below w.heap.size w w' := by
  have H := Lib.hid h
  have hEne : (reachE lost n z != 0) = true := by simpa using hE
  clear h hE
  go_enter Try.func36, Try.ntmps36
  go_wp2_with fail
  refine (reach_dev z _ (Box.later H.out ((Below.refl _ _).alloc (Nat.le_refl _) _))).mono ?_
  rintro e w' ⟨rfl, rfl⟩
  generalize reachE lost n z = E at hEne ⊢
  go_wp2
  refine bodyPost_ret (v := .tuple #[.agg #[.int .i64 0, .int .i64 0, .bool false], .bool false]) (by simp [results, Try.results36, go_sem]) rfl ⟨rfl, ?_⟩
  exact (by repeat (first | with_reducible exact Below.refl _ _ | with_reducible refine Below.drew ?_ | with_reducible refine Below.alloc ?_ (by first | (simp; done) | (simp; omega)) _ | with_reducible refine Below.setCell ?_ (by first | (simp; done) | (simp; omega)) _))
theorem box3f {w : World} {g : Nat} {t : TypeId} {a b c : Value} (h : Box w g t #[a, b, c]) : (w.cell? ⟨g, 0, none⟩ = some a ∧ w.cell? ⟨g, 1, none⟩ = some b ∧ w.cell? ⟨g, 2, none⟩ = some c) ∧ w.frozen? ⟨g, 0, none⟩ = false ∧ w.frozen? ⟨g, 1, none⟩ = false ∧ w.frozen? ⟨g, 2, none⟩ = false :=
  ⟨⟨h.cell 0, h.cell 1, h.cell 2⟩, h.frozen 0, h.frozen 1, h.frozen 2⟩
set_option maxHeartbeats 1000000 in
theorem look_dev {p zb cap blk : Nat} {limit : Int} {bad : Nat} {zs : List Zs} (i : Nat) (hi : i < zs.length) (w : World) (h : DevAt w p zb cap blk limit bad zs) :
    Calls Try.prog 36 #[.pointer (some ⟨p, 0, none⟩), .int .i64 (i : Int)] w fun e w' => e = .returned (.tuple #[.agg #[.int .i64 (zs[i].k : Int), .int .i64 (zs[i].safe : Int), .bool zs[i].done], .bool true]) ∧ Below w.heap.size w w' := by
  have HE : Hid (reachE false zs.length (i : Int) = 0) := by
    show reachE false zs.length (i : Int) = 0
    simp [reachE]; omega
  have H := Lib.hid h
  have HO := Lib.hid (h.ok zs[i] (List.getElem_mem hi))
  clear h
  go_enter Try.func36, Try.ntmps36
  go_wp2_with fail
  refine (reach_dev (lost := false) (i : Int) _ (H.out.later ((Below.refl _ _).alloc (Nat.le_refl _) _)).bp).mono ?_
  rintro e w1 ⟨rfl, hw⟩
  rw [show reachE false zs.length (i : Int) = 0 from HE.out]
  have HS : Hid (Box w1 w.heap.size 43 #[.int .i64 0, .int .i64 0, .bool false] ∧ Below w.heap.size w w1) := by
    have h2 := one_box (w := w) (t := 43) (Below.refl (w.heap.size + 1) (w.alloc (.cells #[.int .i64 0, .int .i64 0, .bool false] 43))) (Nat.le_refl _)
    rw [hw] at h2
    exact h2
  clear hw
  obtain ⟨⟨q0, q1, q2, q3⟩, f0, f1, f2, f3⟩ := box4 (H.out.later HS.out.2).bp
  obtain ⟨⟨z0, z1, z2, z3, z4⟩, y0, y1, y2, y3, y4⟩ := (H.out.later HS.out.2).zone hi
  go_wp2_with fail
  refine (look_any zs[i].A zs[i].done w1 HO.out).mono ?_
  rintro e w2 ⟨rfl, hb2⟩
  have HT := Lib.hid (And.intro (HS.out.1.later hb2) (HS.out.2.trans (hb2.mono HS.out.2.size)))
  clear hb2 q0 q1 q2 q3 f0 f1 f2 f3 z0 z1 z2 z3 z4 y0 y1 y2 y3 y4 HS
  obtain ⟨⟨r0, r1, r2⟩, g0, g1, g2⟩ := box3f HT.out.1
  go_wp2
  refine bodyPost_ret (v := .tuple #[.agg #[.int .i64 (zs[i].k : Int), .int .i64 (zs[i].safe : Int), .bool zs[i].done], .bool true]) (by simp [results, Try.results36, go_sem, *]) rfl ⟨rfl, ?_⟩
  exact HT.out.2.trans (by repeat (first | with_reducible exact Below.refl _ _ | with_reducible refine Below.drew ?_ | with_reducible refine Below.alloc ?_ (by first | (simp; done) | (simp; omega)) _ | with_reducible refine Below.setCell ?_ (by first | (simp; done) | (simp; omega)) _))

/-- What a member's Read with an error leaves: one call more is counted. -/
def ErrR (p zb cap blk : Nat) (limit : Int) (bad : Nat) (zs : List Zs) (x : Int) (w : World) (e : Ending) (w' : World) : Prop := e = .returned (.tuple #[.slice none 0 0, .int .i64 x]) ∧ DevAt w' p zb cap blk limit (bad + 1) zs ∧ Turn [p, zb] w w'
set_option maxHeartbeats 1000000 in
theorem read_range {p zb cap blk : Nat} {limit : Int} {bad : Nat} {zs : List Zs} (z a n : Int) (w : World) (h : DevAt w p zb cap blk limit bad zs) (hbad : bad ≤ 1000000) (hz : z < 0 ∨ (zs.length : Int) ≤ z) :
    Calls Try.prog 35 #[.pointer (some ⟨p, 0, none⟩), .int .i64 z, .int .i64 a, .int .i64 n] w (ErrR p zb cap blk limit bad zs 2 w) := by
  have HE : Hid (reachE false zs.length z = 2) := by
    show reachE false zs.length z = 2
    simp [reachE, hz]
  clear hz
  have hmf : ∀ (fn : Fn) (first cap : Array Value) (w : World), (Instr.makeFunc fn first cap).run Try.prog w = .ok (.func fn first cap) w := fun _ _ _ _ => rfl
  have H := Lib.hid h
  have hp := h.lt.1
  have hp1 : ¬ p = w.heap.size + 1 := by omega
  have hp2 : ¬ p = w.heap.size := by omega
  have hp3 : ¬ w.heap.size + 1 = p := by omega
  have hp4 : ¬ w.heap.size = p := by omega
  clear h
  go_enter_defers Try.func35, Try.ntmps35
  go_wp2_with fail
  refine (reach_dev (lost := false) z _ (H.out.later (((Below.refl _ _).alloc (Nat.le_refl _) _).alloc (by simp) _)).bp).mono ?_
  rintro e w1 ⟨rfl, hw⟩
  rw [show reachE false zs.length z = 2 from HE.out]
  have HS : Hid (Box w1 w.heap.size 55 #[.pointer (some ⟨p, 0, none⟩)] ∧ Box w1 (w.heap.size + 1) 26 #[.int .i64 0] ∧ Below w.heap.size w w1) := by
    have h2 := two_boxes (w := w) (t := 55) (u := 26) (Below.refl (w.heap.size + 1 + 1) ((w.alloc (.cells #[.pointer (some ⟨p, 0, none⟩)] 55)).alloc (.cells #[.int .i64 0] 26))) (Nat.le_refl _)
    rw [hw] at h2
    exact h2
  clear hw
  have hs1 := HS.out.2.1.lt
  obtain ⟨g0, fg0⟩ := box1 HS.out.1
  obtain ⟨e0, fe0⟩ := box1 HS.out.2.1
  go_wp2
  go_region
  go_wp2
  refine leaves_cons (f := 56) (args := #[.pointer (some ⟨w.heap.size, 0, none⟩), .pointer (some ⟨w.heap.size + 1, 0, none⟩)]) (by simp) (by simp [go_sem]) ?_
  refine (d36_some w.heap.size (w.heap.size + 1) 2 .returning _ (by simp [go_sem, *]) (by simp [go_sem, *]) (H.out.later (HS.out.2.2.trans (by repeat (first | with_reducible exact Below.refl _ _ | with_reducible refine Below.drew ?_ | with_reducible refine Below.alloc ?_ (by first | (simp; done) | (simp; omega)) _ | with_reducible refine Below.setCell ?_ (by first | (simp; done) | (simp; omega)) _)))).bp hbad (by decide)).mono ?_
  rintro e u' w' ⟨rfl, rfl, rfl⟩
  simp only [settle]
  refine ⟨.tuple #[.slice none 0 0, .int .i64 2], by simp [results, Try.results35, go_sem, *], rfl, counted_turn H.out (HS.out.2.2.trans (by repeat (first | with_reducible exact Below.refl _ _ | with_reducible refine Below.drew ?_ | with_reducible refine Below.alloc ?_ (by first | (simp; done) | (simp; omega)) _ | with_reducible refine Below.setCell ?_ (by first | (simp; done) | (simp; omega)) _)))⟩

set_option maxHeartbeats 1000000 in
theorem read_bad {p zb cap blk : Nat} {limit : Int} {bad : Nat} {zs : List Zs} (i : Nat) (hi : i < zs.length) (a n : Int) (w : World) (h : DevAt w p zb cap blk limit bad zs) (hbad : bad ≤ 1000000) (hc : ∀ w1, Calls Try.prog 57 #[.agg #[.int .i64 (cap : Int), .int .i64 (blk : Int), .slice zs[i].A zs[i].D.length zs[i].c, .int .i64 (zs[i].safe : Int), .bool zs[i].done], .int .i64 a, .int .i64 n] w1 fun e w' => e = .returned (.tuple #[.slice none 0 0, .int .i64 4]) ∧ Below w1.heap.size w1 w') :
    Calls Try.prog 35 #[.pointer (some ⟨p, 0, none⟩), .int .i64 (i : Int), .int .i64 a, .int .i64 n] w (ErrR p zb cap blk limit bad zs 4 w) := by
  have HE : Hid (reachE false zs.length (i : Int) = 0) := by
    show reachE false zs.length (i : Int) = 0
    simp [reachE]; omega
  have HO := Lib.hid (h.ok zs[i] (List.getElem_mem hi))
  have HC := Lib.hid hc
  clear hc
  have hmf : ∀ (fn : Fn) (first cap : Array Value) (w : World), (Instr.makeFunc fn first cap).run Try.prog w = .ok (.func fn first cap) w := fun _ _ _ _ => rfl
  have H := Lib.hid h
  have hp := h.lt.1
  have hp1 : ¬ p = w.heap.size + 1 := by omega
  have hp2 : ¬ p = w.heap.size := by omega
  have hp3 : ¬ w.heap.size + 1 = p := by omega
  have hp4 : ¬ w.heap.size = p := by omega
  clear h
  go_enter_defers Try.func35, Try.ntmps35
  go_wp2_with fail
  refine (reach_dev (lost := false) (i : Int) _ (H.out.later (((Below.refl _ _).alloc (Nat.le_refl _) _).alloc (by simp) _)).bp).mono ?_
  rintro e w1 ⟨rfl, hw⟩
  rw [show reachE false zs.length (i : Int) = 0 from HE.out]
  have HS : Hid (Box w1 w.heap.size 55 #[.pointer (some ⟨p, 0, none⟩)] ∧ Box w1 (w.heap.size + 1) 26 #[.int .i64 0] ∧ Below w.heap.size w w1) := by
    have h2 := two_boxes (w := w) (t := 55) (u := 26) (Below.refl (w.heap.size + 1 + 1) ((w.alloc (.cells #[.pointer (some ⟨p, 0, none⟩)] 55)).alloc (.cells #[.int .i64 0] 26))) (Nat.le_refl _)
    rw [hw] at h2
    exact h2
  clear hw
  have hs1 := HS.out.2.1.lt
  obtain ⟨g0, fg0⟩ := box1 HS.out.1
  obtain ⟨e0, fe0⟩ := box1 HS.out.2.1
  have s0 := setCell_self HS.out.2.1 (i := 0) (u := .int .i64 0) rfl
  have HD1 := Lib.hid (H.out.later HS.out.2.2)
  obtain ⟨⟨q0, q1, q2, q3⟩, f0, f1, f2, f3⟩ := box4 HD1.out.bp
  obtain ⟨⟨z0, z1, z2, z3, z4⟩, y0, y1, y2, y3, y4⟩ := HD1.out.zone hi
  go_wp2_with fail
  refine (HC.out w1).mono ?_
  rintro e w2 ⟨rfl, hb2⟩
  have HT := Lib.hid (And.intro (HS.out.1.later hb2) (And.intro (HS.out.2.1.later hb2) (HS.out.2.2.trans (hb2.mono HS.out.2.2.size))))
  clear s0 HD1 q0 q1 q2 q3 f0 f1 f2 f3 z0 z1 z2 z3 z4 y0 y1 y2 y3 y4 g0 fg0 e0 fe0 hb2 hs1 HS
  have hs2 := HT.out.2.1.lt
  have hs3 := HT.out.1.lt
  obtain ⟨g0, fg0⟩ := box1 HT.out.1
  obtain ⟨e0, fe0⟩ := box1 HT.out.2.1
  go_wp2
  refine leaves_cons (f := 56) (args := #[.pointer (some ⟨w.heap.size, 0, none⟩), .pointer (some ⟨w.heap.size + 1, 0, none⟩)]) (by simp) (by simp [go_sem]) ?_
  refine (d36_some w.heap.size (w.heap.size + 1) 4 .returning _ (by simp [go_sem, *]) (by simp [go_sem, *]) (H.out.later (HT.out.2.2.trans (by repeat (first | with_reducible exact Below.refl _ _ | with_reducible refine Below.drew ?_ | with_reducible refine Below.alloc ?_ (by first | (simp; done) | (simp; omega)) _ | with_reducible refine Below.setCell ?_ (by first | (simp; done) | (simp; omega)) _)))).bp hbad (by decide)).mono ?_
  rintro e u' w' ⟨rfl, rfl, rfl⟩
  simp only [settle]
  refine ⟨.tuple #[.slice none 0 0, .int .i64 4], by simp [results, Try.results35, go_sem, *], rfl, counted_turn H.out (HT.out.2.2.trans (by repeat (first | with_reducible exact Below.refl _ _ | with_reducible refine Below.drew ?_ | with_reducible refine Below.alloc ?_ (by first | (simp; done) | (simp; omega)) _ | with_reducible refine Below.setCell ?_ (by first | (simp; done) | (simp; omega)) _)))⟩

/-- What a member's Read with no error leaves. -/
def GotD (p zb cap blk : Nat) (limit : Int) (bad : Nat) (zs : List Zs) (l : List UInt8) (w : World) (e : Ending) (w' : World) : Prop := ∃ A c, e = .returned (.tuple #[.slice A l.length c, .int .i64 0]) ∧ Mem 5 w' A (cBs l) ∧ DevAt w' p zb cap blk limit bad zs ∧ Below w.heap.size w w'
set_option maxHeartbeats 1000000 in
theorem read_fits {p zb cap blk : Nat} {limit : Int} {bad : Nat} {zs : List Zs} (i : Nat) (hi : i < zs.length) (a n : Nat) (w : World) (h : DevAt w p zb cap blk limit bad zs) (hf : a + n ≤ zs[i].k) :
    Calls Try.prog 35 #[.pointer (some ⟨p, 0, none⟩), .int .i64 (i : Int), .int .i64 (a : Int), .int .i64 (n : Int)] w (GotD p zb cap blk limit bad zs ((zs[i].D.drop (a * blk)).take (n * blk)) w) := by
  have HE : Hid (reachE false zs.length (i : Int) = 0) := by
    show reachE false zs.length (i : Int) = 0
    simp [reachE]; omega
  have HO := Lib.hid (h.ok zs[i] (List.getElem_mem hi))
  have HME := Lib.hid (h.mem zs[i] (List.getElem_mem hi))
  have HC := Lib.hid (fun (w1 : World) (hr : Mem 5 w1 zs[i].A (cBs zs[i].D)) => read_ok zs[i].A zs[i].D zs[i].done a n w1 HO.out hr hf)
  generalize (zs[i].D.drop (a * blk)).take (n * blk) = T at HC ⊢
  clear hf
  have hmf : ∀ (fn : Fn) (first cap : Array Value) (w : World), (Instr.makeFunc fn first cap).run Try.prog w = .ok (.func fn first cap) w := fun _ _ _ _ => rfl
  have H := Lib.hid h
  have hp := h.lt.1
  have hp1 : ¬ p = w.heap.size + 1 := by omega
  have hp2 : ¬ p = w.heap.size := by omega
  have hp3 : ¬ w.heap.size + 1 = p := by omega
  have hp4 : ¬ w.heap.size = p := by omega
  clear h
  go_enter_defers Try.func35, Try.ntmps35
  go_wp2_with fail
  refine (reach_dev (lost := false) (i : Int) _ (H.out.later (((Below.refl _ _).alloc (Nat.le_refl _) _).alloc (by simp) _)).bp).mono ?_
  rintro e w1 ⟨rfl, hw⟩
  rw [show reachE false zs.length (i : Int) = 0 from HE.out]
  have HS : Hid (Box w1 w.heap.size 55 #[.pointer (some ⟨p, 0, none⟩)] ∧ Box w1 (w.heap.size + 1) 26 #[.int .i64 0] ∧ Below w.heap.size w w1) := by
    have h2 := two_boxes (w := w) (t := 55) (u := 26) (Below.refl (w.heap.size + 1 + 1) ((w.alloc (.cells #[.pointer (some ⟨p, 0, none⟩)] 55)).alloc (.cells #[.int .i64 0] 26))) (Nat.le_refl _)
    rw [hw] at h2
    exact h2
  clear hw
  have hs1 := HS.out.2.1.lt
  obtain ⟨g0, fg0⟩ := box1 HS.out.1
  obtain ⟨e0, fe0⟩ := box1 HS.out.2.1
  have s0 := setCell_self HS.out.2.1 (i := 0) (u := .int .i64 0) rfl
  have HD1 := Lib.hid (H.out.later HS.out.2.2)
  obtain ⟨⟨q0, q1, q2, q3⟩, f0, f1, f2, f3⟩ := box4 HD1.out.bp
  obtain ⟨⟨z0, z1, z2, z3, z4⟩, y0, y1, y2, y3, y4⟩ := HD1.out.zone hi
  go_wp2_with fail
  refine (HC.out w1 (HME.out.later HS.out.2.2)).mono ?_
  rintro e w2 ⟨A2, c2, rfl, hm2, hb2⟩
  have HM2 := Lib.hid hm2
  clear hm2
  have HT := Lib.hid (And.intro (HS.out.1.later hb2) (And.intro (HS.out.2.1.later hb2) (HS.out.2.2.trans (hb2.mono HS.out.2.2.size))))
  clear s0 HD1 q0 q1 q2 q3 f0 f1 f2 f3 z0 z1 z2 z3 z4 y0 y1 y2 y3 y4 g0 fg0 e0 fe0 hb2 hs1 HS
  have hs2 := HT.out.2.1.lt
  have hs3 := HT.out.1.lt
  obtain ⟨g0, fg0⟩ := box1 HT.out.1
  obtain ⟨e0, fe0⟩ := box1 HT.out.2.1
  have s0 := setCell_self HT.out.2.1 (i := 0) (u := .int .i64 0) rfl
  go_wp2
  refine leaves_cons (f := 56) (args := #[.pointer (some ⟨w.heap.size, 0, none⟩), .pointer (some ⟨w.heap.size + 1, 0, none⟩)]) (by simp) (by simp [go_sem]) ?_
  refine (d36_none w.heap.size (w.heap.size + 1) (some ⟨p, 0, none⟩) 0 .returning _ g0 e0 (by decide)).mono ?_
  rintro e u' w' ⟨rfl, rfl, rfl⟩
  simp only [settle]
  exact ⟨.tuple #[.slice A2 T.length c2, .int .i64 0], by simp [results, Try.results35, go_sem, *], A2, c2, rfl, HM2.out, H.out.later HT.out.2.2, HT.out.2.2⟩
end Go.Proofs.Ytbaolfncolfipaa
