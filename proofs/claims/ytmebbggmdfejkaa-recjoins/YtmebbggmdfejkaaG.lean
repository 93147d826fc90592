/- The contract of the reference's ReadBytes. -/
import Derived.Test.YtmebbggmdfejkaaF
import Derived.Deep.DeepCutAuto
namespace Go.Proofs.Ytmebbggmdfejkaa
set_option linter.unusedVariables false
set_option linter.unusedSimpArgs false
open Go.RowKit
open Go.RowKit (wrap64)

/-- What ReadBytes hands back. -/
def GotB (A : Option Addr) (b : List UInt8) (c : Nat) (q : List UInt8 × List UInt8 × Int) (B0 : Nat) (w : World) (e : Ending) (w' : World) : Prop :=
  ∃ (at' : Nat) (A' : Option Addr) (c' : Nat), e = .returned (.tuple #[.agg #[.slice A b.length c, .int .i64 (at' : Int), .int .i64 q.2.2], .slice A' q.1.length c']) ∧ at' ≤ b.length ∧ b.drop at' = q.2.1 ∧ Rd w' B0 A' q.1 ∧ Below w.heap.size w w'
theorem box_far3 {w : World} {g h : Nat} {t : TypeId} {cs : Array Value} (hb : Box w g t cs) (hne : g ≠ h) (a b c : Value) : Box (((w.setCell ⟨h, 0, none⟩ a).setCell ⟨h, 1, none⟩ b).setCell ⟨h, 2, none⟩ c) g t cs :=
  ((Below.heap_setCell _ _ _ _ hne).trans ((Below.heap_setCell _ _ _ _ hne).trans (Below.heap_setCell _ _ _ _ hne))).trans hb
theorem below_far3 {w w1 : World} {B h : Nat} (hb : Below B w w1) (hB : B ≤ h) (a b c : Value) : Below B w (((w1.setCell ⟨h, 0, none⟩ a).setCell ⟨h, 1, none⟩ b).setCell ⟨h, 2, none⟩ c) :=
  ((hb.setCell (p := ⟨h, 0, none⟩) hB a).setCell (p := ⟨h, 1, none⟩) hB b).setCell (p := ⟨h, 2, none⟩) hB c
/-- What the call of ReadInt within ReadBytes leaves. -/
def AfterI (A : Option Addr) (b : List UInt8) (c at_ : Nat) (er most v : Int) (l1 : List UInt8) (e1 : Int) : Prop :=
  ∀ W : World, Rd W W.heap.size A b → Calls Try.prog 36 #[.agg #[.slice A b.length c, .int .i64 (at_ : Int), .int .i64 er], .int .i64 0, .int .i64 most] W (GotI A b c (v, l1, e1) W)
set_option maxHeartbeats 10000000 in
theorem refReadBytes_err (A : Option Addr) (b : List UInt8) (c at_ : Nat) (er most v e1 : Int) (l1 : List UInt8) (w : World) (B0 : Nat) (hr0 : Rd w B0 A b) (hBB : B0 ≤ w.heap.size) (HI : Hid (AfterI A b c at_ er most v l1 e1)) (he2 : (e1 != 0) = true) :
    Calls Try.prog 37 #[.agg #[.slice A b.length c, .int .i64 (at_ : Int), .int .i64 er], .int .i64 most] w (GotB A b c ([], l1, e1) B0 w) := by
  have hr := hr0.more hBB
  have hra := (hr.alloc (Nat.le_refl _) (.cells #[.slice A b.length c, .int .i64 (at_ : Int), .int .i64 er] 66)).alloc (by simp) (.cells #[.slice none 0 0, .int .i64 0, .int .i64 0] 66)
  have hra' := hra.more (show w.heap.size ≤ ((w.alloc (.cells #[.slice A b.length c, .int .i64 (at_ : Int), .int .i64 er] 66)).alloc (.cells #[.slice none 0 0, .int .i64 0, .int .i64 0] 66)).heap.size by simp; omega)
  have hx1 : Box ((w.alloc (.cells #[.slice A b.length c, .int .i64 (at_ : Int), .int .i64 er] 66)).alloc (.cells #[.slice none 0 0, .int .i64 0, .int .i64 0] 66)) (w.heap.size + 1) 66 #[.slice none 0 0, .int .i64 0, .int .i64 0] := by
    simpa using Box.fresh (w.alloc (.cells #[.slice A b.length c, .int .i64 (at_ : Int), .int .i64 er] 66)) 66 #[.slice none 0 0, .int .i64 0, .int .i64 0]
  have hx0 : Box ((w.alloc (.cells #[.slice A b.length c, .int .i64 (at_ : Int), .int .i64 er] 66)).alloc (.cells #[.slice none 0 0, .int .i64 0, .int .i64 0] 66)) w.heap.size 66 #[.slice A b.length c, .int .i64 (at_ : Int), .int .i64 er] :=
    Box.under (Box.fresh w 66 _) ((Below.refl _ _).alloc (Nat.le_refl _) _) (by first | (simp; done) | (simp; omega))
  go_enter Try.func37, Try.ntmps37
  go_wp2_with fail
  refine (HI.out _ hra').mono ?_
  rintro e w1 ⟨at1, rfl, hat, hdr, hbl⟩
  have hBW : Below w.heap.size w w1 := (((Below.refl _ _).alloc (Nat.le_refl _) _).alloc (by simp) _).trans (hbl.mono (by first | (simp; done) | (simp; omega)))
  have hB0 : Box w1 w.heap.size 66 #[.slice A b.length c, .int .i64 (at_ : Int), .int .i64 er] := Box.under hx0 hbl (by first | (simp; done) | (simp; omega))
  have hB1 : Box w1 (w.heap.size + 1) 66 #[.slice none 0 0, .int .i64 0, .int .i64 0] := Box.under hx1 hbl (by first | (simp; done) | (simp; omega))
  have k00 : w1.cell? ⟨w.heap.size, 0, none⟩ = some (.slice A b.length c) := hB0.cell 0
  have k01 : w1.cell? ⟨w.heap.size, 1, none⟩ = some (.int .i64 (at_ : Int)) := hB0.cell 1
  have k02 : w1.cell? ⟨w.heap.size, 2, none⟩ = some (.int .i64 er) := hB0.cell 2
  have f00 : w1.frozen? ⟨w.heap.size, 0, none⟩ = false := hB0.frozen 0
  have f01 : w1.frozen? ⟨w.heap.size, 1, none⟩ = false := hB0.frozen 1
  have f02 : w1.frozen? ⟨w.heap.size, 2, none⟩ = false := hB0.frozen 2
  have k10 : w1.cell? ⟨(w.heap.size + 1), 0, none⟩ = some (.slice none 0 0) := hB1.cell 0
  have k11 : w1.cell? ⟨(w.heap.size + 1), 1, none⟩ = some (.int .i64 0) := hB1.cell 1
  have k12 : w1.cell? ⟨(w.heap.size + 1), 2, none⟩ = some (.int .i64 0) := hB1.cell 2
  have f10 : w1.frozen? ⟨(w.heap.size + 1), 0, none⟩ = false := hB1.frozen 0
  have f11 : w1.frozen? ⟨(w.heap.size + 1), 1, none⟩ = false := hB1.frozen 1
  have f12 : w1.frozen? ⟨(w.heap.size + 1), 2, none⟩ = false := hB1.frozen 2
  have HD := Lib.hid hdr
  have HB0 := Lib.hid hB0
  have HB1 := Lib.hid hB1
  have HBW := Lib.hid hBW
  clear hdr hbl hB0 hB1 hBW hx0 hx1 hra hra' hr
  go_upto_region 2 with fail
  have hB0 : Box (((w1.setCell ⟨w.heap.size, 0, none⟩ (.slice A b.length c)).setCell ⟨w.heap.size, 1, none⟩ (.int .i64 (at1 : Int))).setCell ⟨w.heap.size, 2, none⟩ (.int .i64 e1)) w.heap.size 66 #[.slice A b.length c, .int .i64 (at1 : Int), .int .i64 e1] := ((HB0.out.store 0 _).store 1 _).store 2 _
  have hB1 : Box (((w1.setCell ⟨w.heap.size, 0, none⟩ (.slice A b.length c)).setCell ⟨w.heap.size, 1, none⟩ (.int .i64 (at1 : Int))).setCell ⟨w.heap.size, 2, none⟩ (.int .i64 e1)) (w.heap.size + 1) 66 #[.slice none 0 0, .int .i64 0, .int .i64 0] := box_far3 HB1.out (Nat.succ_ne_self _) _ _ _
  have hBW := below_far3 HBW.out (Nat.le_refl w.heap.size) (.slice A b.length c) (.int .i64 (at1 : Int)) (.int .i64 e1)
  clear HB0 HB1 HBW k00 k01 k02 f00 f01 f02 k10 k11 k12 f10 f11 f12
  generalize ((w1.setCell ⟨w.heap.size, 0, none⟩ (.slice A b.length c)).setCell ⟨w.heap.size, 1, none⟩ (.int .i64 (at1 : Int))).setCell ⟨w.heap.size, 2, none⟩ (.int .i64 e1) = w2 at hB0 hB1 hBW ⊢
  have k00 : w2.cell? ⟨w.heap.size, 0, none⟩ = some (.slice A b.length c) := hB0.cell 0
  have k01 : w2.cell? ⟨w.heap.size, 1, none⟩ = some (.int .i64 (at1 : Int)) := hB0.cell 1
  have k02 : w2.cell? ⟨w.heap.size, 2, none⟩ = some (.int .i64 e1) := hB0.cell 2
  have f00 : w2.frozen? ⟨w.heap.size, 0, none⟩ = false := hB0.frozen 0
  have f01 : w2.frozen? ⟨w.heap.size, 1, none⟩ = false := hB0.frozen 1
  have f02 : w2.frozen? ⟨w.heap.size, 2, none⟩ = false := hB0.frozen 2
  have k10 : w2.cell? ⟨(w.heap.size + 1), 0, none⟩ = some (.slice none 0 0) := hB1.cell 0
  have k11 : w2.cell? ⟨(w.heap.size + 1), 1, none⟩ = some (.int .i64 0) := hB1.cell 1
  have k12 : w2.cell? ⟨(w.heap.size + 1), 2, none⟩ = some (.int .i64 0) := hB1.cell 2
  have f10 : w2.frozen? ⟨(w.heap.size + 1), 0, none⟩ = false := hB1.frozen 0
  have f11 : w2.frozen? ⟨(w.heap.size + 1), 1, none⟩ = false := hB1.frozen 1
  have f12 : w2.frozen? ⟨(w.heap.size + 1), 2, none⟩ = false := hB1.frozen 2
  clear hB0 hB1
  go_wp2
  exact bodyPost_ret (v := .tuple #[.agg #[.slice A b.length c, .int .i64 (at1 : Int), .int .i64 e1], .slice none 0 0]) (by simp [results, Try.results37, go_sem, *]) rfl ⟨at1, none, 0, rfl, hat, HD.out, Rd.nil, below_far3 hBW (Nat.le_succ _) _ _ _⟩
set_option maxHeartbeats 10000000 in
theorem refReadBytes_short (A : Option Addr) (b : List UInt8) (c at_ n : Nat) (er most : Int) (l1 : List UInt8) (w : World) (hb : b.length ≤ 10000000) (B0 : Nat) (hr0 : Rd w B0 A b) (hBB : B0 ≤ w.heap.size) (HI : Hid (AfterI A b c at_ er most (n : Int) l1 0)) (hn : l1.length < n) :
    Calls Try.prog 37 #[.agg #[.slice A b.length c, .int .i64 (at_ : Int), .int .i64 er], .int .i64 most] w (GotB A b c ([], l1, 14) B0 w) := by
  have hr := hr0.more hBB
  have hra := (hr.alloc (Nat.le_refl _) (.cells #[.slice A b.length c, .int .i64 (at_ : Int), .int .i64 er] 66)).alloc (by simp) (.cells #[.slice none 0 0, .int .i64 0, .int .i64 0] 66)
  have hra' := hra.more (show w.heap.size ≤ ((w.alloc (.cells #[.slice A b.length c, .int .i64 (at_ : Int), .int .i64 er] 66)).alloc (.cells #[.slice none 0 0, .int .i64 0, .int .i64 0] 66)).heap.size by simp; omega)
  have hx1 : Box ((w.alloc (.cells #[.slice A b.length c, .int .i64 (at_ : Int), .int .i64 er] 66)).alloc (.cells #[.slice none 0 0, .int .i64 0, .int .i64 0] 66)) (w.heap.size + 1) 66 #[.slice none 0 0, .int .i64 0, .int .i64 0] := by
    simpa using Box.fresh (w.alloc (.cells #[.slice A b.length c, .int .i64 (at_ : Int), .int .i64 er] 66)) 66 #[.slice none 0 0, .int .i64 0, .int .i64 0]
  have hx0 : Box ((w.alloc (.cells #[.slice A b.length c, .int .i64 (at_ : Int), .int .i64 er] 66)).alloc (.cells #[.slice none 0 0, .int .i64 0, .int .i64 0] 66)) w.heap.size 66 #[.slice A b.length c, .int .i64 (at_ : Int), .int .i64 er] :=
    Box.under (Box.fresh w 66 _) ((Below.refl _ _).alloc (Nat.le_refl _) _) (by first | (simp; done) | (simp; omega))
  go_enter Try.func37, Try.ntmps37
  go_wp2_with fail
  refine (HI.out _ hra').mono ?_
  rintro e w1 ⟨at1, rfl, hat, hdr, hbl⟩
  have hBW : Below w.heap.size w w1 := (((Below.refl _ _).alloc (Nat.le_refl _) _).alloc (by simp) _).trans (hbl.mono (by first | (simp; done) | (simp; omega)))
  have hB0 : Box w1 w.heap.size 66 #[.slice A b.length c, .int .i64 (at_ : Int), .int .i64 er] := Box.under hx0 hbl (by first | (simp; done) | (simp; omega))
  have hB1 : Box w1 (w.heap.size + 1) 66 #[.slice none 0 0, .int .i64 0, .int .i64 0] := Box.under hx1 hbl (by first | (simp; done) | (simp; omega))
  have k00 : w1.cell? ⟨w.heap.size, 0, none⟩ = some (.slice A b.length c) := hB0.cell 0
  have k01 : w1.cell? ⟨w.heap.size, 1, none⟩ = some (.int .i64 (at_ : Int)) := hB0.cell 1
  have k02 : w1.cell? ⟨w.heap.size, 2, none⟩ = some (.int .i64 er) := hB0.cell 2
  have f00 : w1.frozen? ⟨w.heap.size, 0, none⟩ = false := hB0.frozen 0
  have f01 : w1.frozen? ⟨w.heap.size, 1, none⟩ = false := hB0.frozen 1
  have f02 : w1.frozen? ⟨w.heap.size, 2, none⟩ = false := hB0.frozen 2
  have k10 : w1.cell? ⟨(w.heap.size + 1), 0, none⟩ = some (.slice none 0 0) := hB1.cell 0
  have k11 : w1.cell? ⟨(w.heap.size + 1), 1, none⟩ = some (.int .i64 0) := hB1.cell 1
  have k12 : w1.cell? ⟨(w.heap.size + 1), 2, none⟩ = some (.int .i64 0) := hB1.cell 2
  have f10 : w1.frozen? ⟨(w.heap.size + 1), 0, none⟩ = false := hB1.frozen 0
  have f11 : w1.frozen? ⟨(w.heap.size + 1), 1, none⟩ = false := hB1.frozen 1
  have f12 : w1.frozen? ⟨(w.heap.size + 1), 2, none⟩ = false := hB1.frozen 2
  have hgt : (b.length : Int) - (at1 : Int) < (n : Int) := by
    have hdl : (b.drop at1).length = l1.length := congrArg List.length hdr
    rw [List.length_drop] at hdl
    omega
  clear hn
  have HD := Lib.hid hdr
  have HB0 := Lib.hid hB0
  have HB1 := Lib.hid hB1
  have HBW := Lib.hid hBW
  clear hdr hbl hB0 hB1 hBW hx0 hx1 hra hra' hr
  go_upto_region 2 with fail
  have hB0 : Box (((w1.setCell ⟨w.heap.size, 0, none⟩ (.slice A b.length c)).setCell ⟨w.heap.size, 1, none⟩ (.int .i64 (at1 : Int))).setCell ⟨w.heap.size, 2, none⟩ (.int .i64 0)) w.heap.size 66 #[.slice A b.length c, .int .i64 (at1 : Int), .int .i64 0] := ((HB0.out.store 0 _).store 1 _).store 2 _
  have hB1 : Box (((w1.setCell ⟨w.heap.size, 0, none⟩ (.slice A b.length c)).setCell ⟨w.heap.size, 1, none⟩ (.int .i64 (at1 : Int))).setCell ⟨w.heap.size, 2, none⟩ (.int .i64 0)) (w.heap.size + 1) 66 #[.slice none 0 0, .int .i64 0, .int .i64 0] := box_far3 HB1.out (Nat.succ_ne_self _) _ _ _
  have hBW := below_far3 HBW.out (Nat.le_refl w.heap.size) (.slice A b.length c) (.int .i64 (at1 : Int)) (.int .i64 0)
  clear HB0 HB1 HBW k00 k01 k02 f00 f01 f02 k10 k11 k12 f10 f11 f12
  generalize ((w1.setCell ⟨w.heap.size, 0, none⟩ (.slice A b.length c)).setCell ⟨w.heap.size, 1, none⟩ (.int .i64 (at1 : Int))).setCell ⟨w.heap.size, 2, none⟩ (.int .i64 0) = w2 at hB0 hB1 hBW ⊢
  have k00 : w2.cell? ⟨w.heap.size, 0, none⟩ = some (.slice A b.length c) := hB0.cell 0
  have k01 : w2.cell? ⟨w.heap.size, 1, none⟩ = some (.int .i64 (at1 : Int)) := hB0.cell 1
  have k02 : w2.cell? ⟨w.heap.size, 2, none⟩ = some (.int .i64 0) := hB0.cell 2
  have f00 : w2.frozen? ⟨w.heap.size, 0, none⟩ = false := hB0.frozen 0
  have f01 : w2.frozen? ⟨w.heap.size, 1, none⟩ = false := hB0.frozen 1
  have f02 : w2.frozen? ⟨w.heap.size, 2, none⟩ = false := hB0.frozen 2
  have k10 : w2.cell? ⟨(w.heap.size + 1), 0, none⟩ = some (.slice none 0 0) := hB1.cell 0
  have k11 : w2.cell? ⟨(w.heap.size + 1), 1, none⟩ = some (.int .i64 0) := hB1.cell 1
  have k12 : w2.cell? ⟨(w.heap.size + 1), 2, none⟩ = some (.int .i64 0) := hB1.cell 2
  have f10 : w2.frozen? ⟨(w.heap.size + 1), 0, none⟩ = false := hB1.frozen 0
  have f11 : w2.frozen? ⟨(w.heap.size + 1), 1, none⟩ = false := hB1.frozen 1
  have f12 : w2.frozen? ⟨(w.heap.size + 1), 2, none⟩ = false := hB1.frozen 2
  have HB0 := Lib.hid (hB0.store 2 (.int .i64 14))
  have HB1 : Hid (Box (w2.setCell ⟨w.heap.size, 2, none⟩ (.int .i64 14)) (w.heap.size + 1) 66 #[.slice none 0 0, .int .i64 0, .int .i64 0]) := (Below.heap_setCell _ _ _ _ (Nat.succ_ne_self _)).trans hB1
  have HBW : Hid (Below w.heap.size w (w2.setCell ⟨w.heap.size, 2, none⟩ (.int .i64 14))) := hBW.setCell (p := ⟨w.heap.size, 2, none⟩) (Nat.le_refl _) _
  clear hB0 hB1
  go_upto_region 6 with fail
  clear hBW k00 k01 k02 f00 f01 f02 k10 k11 k12 f10 f11 f12
  have hB0 : Box (w2.setCell ⟨w.heap.size, 2, none⟩ (.int .i64 14)) w.heap.size 66 #[.slice A b.length c, .int .i64 (at1 : Int), .int .i64 14] := HB0.out
  have hB1 := HB1.out
  have hBW := HBW.out
  clear HB0 HB1 HBW
  generalize w2.setCell ⟨w.heap.size, 2, none⟩ (.int .i64 14) = w3 at hB0 hB1 hBW ⊢
  have k00 : w3.cell? ⟨w.heap.size, 0, none⟩ = some (.slice A b.length c) := hB0.cell 0
  have k01 : w3.cell? ⟨w.heap.size, 1, none⟩ = some (.int .i64 (at1 : Int)) := hB0.cell 1
  have k02 : w3.cell? ⟨w.heap.size, 2, none⟩ = some (.int .i64 14) := hB0.cell 2
  have f00 : w3.frozen? ⟨w.heap.size, 0, none⟩ = false := hB0.frozen 0
  have f01 : w3.frozen? ⟨w.heap.size, 1, none⟩ = false := hB0.frozen 1
  have f02 : w3.frozen? ⟨w.heap.size, 2, none⟩ = false := hB0.frozen 2
  have k10 : w3.cell? ⟨(w.heap.size + 1), 0, none⟩ = some (.slice none 0 0) := hB1.cell 0
  have k11 : w3.cell? ⟨(w.heap.size + 1), 1, none⟩ = some (.int .i64 0) := hB1.cell 1
  have k12 : w3.cell? ⟨(w.heap.size + 1), 2, none⟩ = some (.int .i64 0) := hB1.cell 2
  have f10 : w3.frozen? ⟨(w.heap.size + 1), 0, none⟩ = false := hB1.frozen 0
  have f11 : w3.frozen? ⟨(w.heap.size + 1), 1, none⟩ = false := hB1.frozen 1
  have f12 : w3.frozen? ⟨(w.heap.size + 1), 2, none⟩ = false := hB1.frozen 2
  clear hB0 hB1
  go_wp2
  exact bodyPost_ret (v := .tuple #[.agg #[.slice A b.length c, .int .i64 (at1 : Int), .int .i64 14], .slice none 0 0]) (by simp [results, Try.results37, go_sem, *]) rfl ⟨at1, none, 0, rfl, hat, HD.out, Rd.nil, below_far3 hBW (Nat.le_succ _) _ _ _⟩
set_option maxHeartbeats 10000000 in
theorem refReadBytes_ok (A : Option Addr) (b : List UInt8) (c at_ n : Nat) (er most : Int) (l1 : List UInt8) (w : World) (hb : b.length ≤ 10000000) (B0 : Nat) (hr0 : Rd w B0 A b) (hBB : B0 ≤ w.heap.size) (HI : Hid (AfterI A b c at_ er most (n : Int) l1 0)) (hc : b.length ≤ c) (hn : n ≤ l1.length) :
    Calls Try.prog 37 #[.agg #[.slice A b.length c, .int .i64 (at_ : Int), .int .i64 er], .int .i64 most] w (GotB A b c (l1.take n, l1.drop n, 0) B0 w) := by
  have hr := hr0.more hBB
  have hra := (hr.alloc (Nat.le_refl _) (.cells #[.slice A b.length c, .int .i64 (at_ : Int), .int .i64 er] 66)).alloc (by simp) (.cells #[.slice none 0 0, .int .i64 0, .int .i64 0] 66)
  have hra' := hra.more (show w.heap.size ≤ ((w.alloc (.cells #[.slice A b.length c, .int .i64 (at_ : Int), .int .i64 er] 66)).alloc (.cells #[.slice none 0 0, .int .i64 0, .int .i64 0] 66)).heap.size by simp; omega)
  have hx1 : Box ((w.alloc (.cells #[.slice A b.length c, .int .i64 (at_ : Int), .int .i64 er] 66)).alloc (.cells #[.slice none 0 0, .int .i64 0, .int .i64 0] 66)) (w.heap.size + 1) 66 #[.slice none 0 0, .int .i64 0, .int .i64 0] := by
    simpa using Box.fresh (w.alloc (.cells #[.slice A b.length c, .int .i64 (at_ : Int), .int .i64 er] 66)) 66 #[.slice none 0 0, .int .i64 0, .int .i64 0]
  have hx0 : Box ((w.alloc (.cells #[.slice A b.length c, .int .i64 (at_ : Int), .int .i64 er] 66)).alloc (.cells #[.slice none 0 0, .int .i64 0, .int .i64 0] 66)) w.heap.size 66 #[.slice A b.length c, .int .i64 (at_ : Int), .int .i64 er] :=
    Box.under (Box.fresh w 66 _) ((Below.refl _ _).alloc (Nat.le_refl _) _) (by first | (simp; done) | (simp; omega))
  go_enter Try.func37, Try.ntmps37
  go_wp2_with fail
  refine (HI.out _ hra').mono ?_
  rintro e w1 ⟨at1, rfl, hat, hdr, hbl⟩
  have hBW : Below w.heap.size w w1 := (((Below.refl _ _).alloc (Nat.le_refl _) _).alloc (by simp) _).trans (hbl.mono (by first | (simp; done) | (simp; omega)))
  have hB0 : Box w1 w.heap.size 66 #[.slice A b.length c, .int .i64 (at_ : Int), .int .i64 er] := Box.under hx0 hbl (by first | (simp; done) | (simp; omega))
  have hB1 : Box w1 (w.heap.size + 1) 66 #[.slice none 0 0, .int .i64 0, .int .i64 0] := Box.under hx1 hbl (by first | (simp; done) | (simp; omega))
  have k00 : w1.cell? ⟨w.heap.size, 0, none⟩ = some (.slice A b.length c) := hB0.cell 0
  have k01 : w1.cell? ⟨w.heap.size, 1, none⟩ = some (.int .i64 (at_ : Int)) := hB0.cell 1
  have k02 : w1.cell? ⟨w.heap.size, 2, none⟩ = some (.int .i64 er) := hB0.cell 2
  have f00 : w1.frozen? ⟨w.heap.size, 0, none⟩ = false := hB0.frozen 0
  have f01 : w1.frozen? ⟨w.heap.size, 1, none⟩ = false := hB0.frozen 1
  have f02 : w1.frozen? ⟨w.heap.size, 2, none⟩ = false := hB0.frozen 2
  have k10 : w1.cell? ⟨(w.heap.size + 1), 0, none⟩ = some (.slice none 0 0) := hB1.cell 0
  have k11 : w1.cell? ⟨(w.heap.size + 1), 1, none⟩ = some (.int .i64 0) := hB1.cell 1
  have k12 : w1.cell? ⟨(w.heap.size + 1), 2, none⟩ = some (.int .i64 0) := hB1.cell 2
  have f10 : w1.frozen? ⟨(w.heap.size + 1), 0, none⟩ = false := hB1.frozen 0
  have f11 : w1.frozen? ⟨(w.heap.size + 1), 1, none⟩ = false := hB1.frozen 1
  have f12 : w1.frozen? ⟨(w.heap.size + 1), 2, none⟩ = false := hB1.frozen 2
  have hX : Hid (Rd w B0 (if c = at1 then A else A.map (·.add at1)) (l1.take n) ∧ (l1.take n).length = n ∧ at1 + n ≤ b.length ∧ b.drop (at1 + n) = l1.drop n) := by
    have hdl : (b.drop at1).length = l1.length := congrArg List.length hdr
    rw [List.length_drop] at hdl
    refine ⟨?_, ?_, by omega, ?_⟩
    · have h := (hr0.cut (n := at1) hat hc).take n
      rw [hdr] at h
      exact h
    · rw [List.length_take]; omega
    · rw [← List.drop_drop, hdr]
  have hnb : at1 + n ≤ b.length := hX.out.2.2.1
  have hle : ¬ (b.length : Int) - (at1 : Int) < (n : Int) := by omega
  clear hn
  have HD := Lib.hid hdr
  have HB0 := Lib.hid hB0
  have HB1 := Lib.hid hB1
  have HBW := Lib.hid hBW
  clear hdr hbl hB0 hB1 hBW hx0 hx1 hra hra' hr
  go_upto_region 2 with fail
  have hB0 : Box (((w1.setCell ⟨w.heap.size, 0, none⟩ (.slice A b.length c)).setCell ⟨w.heap.size, 1, none⟩ (.int .i64 (at1 : Int))).setCell ⟨w.heap.size, 2, none⟩ (.int .i64 0)) w.heap.size 66 #[.slice A b.length c, .int .i64 (at1 : Int), .int .i64 0] := ((HB0.out.store 0 _).store 1 _).store 2 _
  have hB1 : Box (((w1.setCell ⟨w.heap.size, 0, none⟩ (.slice A b.length c)).setCell ⟨w.heap.size, 1, none⟩ (.int .i64 (at1 : Int))).setCell ⟨w.heap.size, 2, none⟩ (.int .i64 0)) (w.heap.size + 1) 66 #[.slice none 0 0, .int .i64 0, .int .i64 0] := box_far3 HB1.out (Nat.succ_ne_self _) _ _ _
  have hBW := below_far3 HBW.out (Nat.le_refl w.heap.size) (.slice A b.length c) (.int .i64 (at1 : Int)) (.int .i64 0)
  clear HB0 HB1 HBW k00 k01 k02 f00 f01 f02 k10 k11 k12 f10 f11 f12
  generalize ((w1.setCell ⟨w.heap.size, 0, none⟩ (.slice A b.length c)).setCell ⟨w.heap.size, 1, none⟩ (.int .i64 (at1 : Int))).setCell ⟨w.heap.size, 2, none⟩ (.int .i64 0) = w2 at hB0 hB1 hBW ⊢
  have k00 : w2.cell? ⟨w.heap.size, 0, none⟩ = some (.slice A b.length c) := hB0.cell 0
  have k01 : w2.cell? ⟨w.heap.size, 1, none⟩ = some (.int .i64 (at1 : Int)) := hB0.cell 1
  have k02 : w2.cell? ⟨w.heap.size, 2, none⟩ = some (.int .i64 0) := hB0.cell 2
  have f00 : w2.frozen? ⟨w.heap.size, 0, none⟩ = false := hB0.frozen 0
  have f01 : w2.frozen? ⟨w.heap.size, 1, none⟩ = false := hB0.frozen 1
  have f02 : w2.frozen? ⟨w.heap.size, 2, none⟩ = false := hB0.frozen 2
  have k10 : w2.cell? ⟨(w.heap.size + 1), 0, none⟩ = some (.slice none 0 0) := hB1.cell 0
  have k11 : w2.cell? ⟨(w.heap.size + 1), 1, none⟩ = some (.int .i64 0) := hB1.cell 1
  have k12 : w2.cell? ⟨(w.heap.size + 1), 2, none⟩ = some (.int .i64 0) := hB1.cell 2
  have f10 : w2.frozen? ⟨(w.heap.size + 1), 0, none⟩ = false := hB1.frozen 0
  have f11 : w2.frozen? ⟨(w.heap.size + 1), 1, none⟩ = false := hB1.frozen 1
  have f12 : w2.frozen? ⟨(w.heap.size + 1), 2, none⟩ = false := hB1.frozen 2
  clear hB0 hB1
  have hend : Hid (Below w.heap.size w ((((w2.setCell ⟨w.heap.size, 1, none⟩ (.int .i64 ((at1 : Int) + (n : Int)))).setCell ⟨w.heap.size + 1, 0, none⟩ (.slice A b.length c)).setCell ⟨w.heap.size + 1, 1, none⟩ (.int .i64 ((at1 : Int) + (n : Int)))).setCell ⟨w.heap.size + 1, 2, none⟩ (.int .i64 0))) :=
    below_far3 (hBW.setCell (p := ⟨w.heap.size, 1, none⟩) (Nat.le_refl _) _) (Nat.le_succ _) _ _ _
  clear hBW
  by_cases hca : c = at1
  · subst hca
    rw [if_pos rfl] at hX
    go_wp2
    exact bodyPost_ret (v := .tuple #[.agg #[.slice A b.length c, .int .i64 ((c : Int) + (n : Int)), .int .i64 0], .slice A n 0]) (by simp [results, Try.results37, go_sem, *]) rfl ⟨c + n, A, 0, by rw [hX.out.2.1]; simp, hX.out.2.2.1, hX.out.2.2.2, hX.out.1.below (hend.out.mono hBB), hend.out⟩
  · rw [if_neg hca] at hX
    go_wp2
    exact bodyPost_ret (v := .tuple #[.agg #[.slice A b.length c, .int .i64 ((at1 : Int) + (n : Int)), .int .i64 0], .slice (A.map (·.add at1)) n (c - at1)]) (by simp [results, Try.results37, go_sem, *]) rfl ⟨at1 + n, A.map (·.add at1), c - at1, by rw [hX.out.2.1]; simp, hX.out.2.2.1, hX.out.2.2.2, hX.out.1.below (hend.out.mono hBB), hend.out⟩
theorem refReadBytes_any (A : Option Addr) (b : List UInt8) (c at_ : Nat) (er most : Int) (w : World) (B0 : Nat) (hr0 : Rd w B0 A b) (hBB : B0 ≤ w.heap.size) (hl : at_ ≤ b.length) (hb : b.length ≤ 10000000) (hc : b.length ≤ c) :
    Calls Try.prog 37 #[.agg #[.slice A b.length c, .int .i64 (at_ : Int), .int .i64 er], .int .i64 most] w (GotB A b c (rB (b.drop at_) er most) B0 w) := by
  have hnn := rI_nonneg (b.drop at_) er most
  have hI : AfterI A b c at_ er most (rI (b.drop at_) er 0 most).1 (rI (b.drop at_) er 0 most).2.1 (rI (b.drop at_) er 0 most).2.2 := fun W hW => refReadInt_any A b c at_ er 0 most W hW hl hb hc
  unfold rB
  generalize rI (b.drop at_) er 0 most = q at hnn hI ⊢
  obtain ⟨v, l1, e1⟩ := q
  simp only at hnn hI ⊢
  by_cases he : e1 = 0
  · subst he
    have hv := hnn rfl
    obtain ⟨n, rfl⟩ : ∃ n : Nat, v = (n : Int) := ⟨v.toNat, by omega⟩
    by_cases hn : l1.length < n
    · have eq : (if (0 : Int) = 0 then if l1.length < ((n : Int)).toNat then (([] : List UInt8), l1, (14 : Int)) else (l1.take (n : Int).toNat, l1.drop (n : Int).toNat, 0) else ([], l1, 0)) = ([], l1, 14) := by
        simp [hn]
      rw [eq]
      exact refReadBytes_short A b c at_ n er most l1 w hb B0 hr0 hBB (Lib.hid hI) hn
    · have eq : (if (0 : Int) = 0 then if l1.length < ((n : Int)).toNat then (([] : List UInt8), l1, (14 : Int)) else (l1.take (n : Int).toNat, l1.drop (n : Int).toNat, 0) else ([], l1, 0)) = (l1.take n, l1.drop n, 0) := by
        simp [hn]
      rw [eq]
      exact refReadBytes_ok A b c at_ n er most l1 w hb B0 hr0 hBB (Lib.hid hI) hc (by omega)
  · have eq : (if e1 = 0 then if l1.length < v.toNat then (([] : List UInt8), l1, (14 : Int)) else (l1.take v.toNat, l1.drop v.toNat, 0) else ([], l1, e1)) = ([], l1, e1) := by
      simp [he]
    rw [eq]
    exact refReadBytes_err A b c at_ er most v e1 l1 w B0 hr0 hBB (Lib.hid hI) (by simpa using he)
end Go.Proofs.Ytmebbggmdfejkaa
