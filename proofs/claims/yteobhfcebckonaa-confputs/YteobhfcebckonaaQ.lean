/- The contract of the reference's Get. -/
import Derived.Test.YteobhfcebckonaaF
import Derived.Test.YteobhfcebckonaaP
namespace Go.Proofs.Yteobhfcebckonaa
set_option linter.unusedVariables false
set_option linter.unusedSimpArgs false
open Go.RowKit
open Go.RowKit (wrap64)

/-- The reference's memory when k numbers were read. -/
structure RGetSt (w wr : World) (A : Option Addr) (b : List UInt8) (c at_ k : Nat) : Prop where
  rdr : Box wr (w.heap.size + 1) 53 #[.slice A b.length c, .int .i64 (at_ : Int), .int .i64 (rS b k).2]
  le : at_ ≤ b.length
  left : b.drop at_ = (rS b k).1
  box : Box wr (w.heap.size + 2) 54 (nums b k).toArray
  res : Box wr w.heap.size 23 #[.int .i64 0, .int .i64 0, .int .i64 0, .int .i64 0, .int .i64 0, .int .i64 0, .int .i64 0, .int .i64 0, .int .i64 0, .int .i64 0, .int .i64 0]
  bel : Below w.heap.size w wr
theorem box3 {w : World} {g : Nat} {t : TypeId} {a0 a1 a2 : Value} (h : Box w g t #[a0, a1, a2]) : (w.cell? ⟨g, 0, none⟩ = some a0 ∧ w.cell? ⟨g, 1, none⟩ = some a1 ∧ w.cell? ⟨g, 2, none⟩ = some a2) ∧ w.frozen? ⟨g, 0, none⟩ = false ∧ w.frozen? ⟨g, 1, none⟩ = false ∧ w.frozen? ⟨g, 2, none⟩ = false := by
  refine ⟨⟨?_, ?_, ?_⟩, ?_, ?_, ?_⟩ <;> first | (rw [h.cell]; rfl) | exact h.frozen _
theorem RGetSt.next {w wr w2 : World} {A : Option Addr} {b : List UInt8} {c at_ at' k : Nat} (h : RGetSt w wr A b c at_ k) (hb : Below wr.heap.size wr w2) (hk : k < 11) (hle : at' ≤ b.length) (hl : b.drop at' = (rS b (k + 1)).1) :
    RGetSt w ((((w2.setCell ⟨w.heap.size + 1, 0, none⟩ (.slice A b.length c)).setCell ⟨w.heap.size + 1, 1, none⟩ (.int .i64 (at' : Int))).setCell ⟨w.heap.size + 1, 2, none⟩ (.int .i64 (rS b (k + 1)).2)).setCell ⟨w.heap.size + 2, k, none⟩ (.int .i64 (rV b k))) A b c at' (k + 1) := by
  have hT : Turn [w.heap.size + 1, w.heap.size + 2] w2 ((((w2.setCell ⟨w.heap.size + 1, 0, none⟩ (.slice A b.length c)).setCell ⟨w.heap.size + 1, 1, none⟩ (.int .i64 (at' : Int))).setCell ⟨w.heap.size + 1, 2, none⟩ (.int .i64 (rS b (k + 1)).2)).setCell ⟨w.heap.size + 2, k, none⟩ (.int .i64 (rV b k))) := by
    repeat (first | with_reducible exact Turn.refl _ _ | with_reducible refine Turn.put ?_ (by simp) _)
  have hT1 : Turn [w.heap.size + 1] w2 (((w2.setCell ⟨w.heap.size + 1, 0, none⟩ (.slice A b.length c)).setCell ⟨w.heap.size + 1, 1, none⟩ (.int .i64 (at' : Int))).setCell ⟨w.heap.size + 1, 2, none⟩ (.int .i64 (rS b (k + 1)).2)) := by
    repeat (first | with_reducible exact Turn.refl _ _ | with_reducible refine Turn.put ?_ (by simp) _)
  refine ⟨?_, hle, hl, ?_, (h.res.later hb).turn hT (by simp <;> omega), (h.bel.trans (hb.mono h.bel.size)).trans (hT.below (by simp <;> omega) (Nat.le_trans h.bel.size hb.size)), ⟩
  · have h1 := (((h.rdr.later hb).store 0 (.slice A b.length c)).store 1 (.int .i64 (at' : Int))).store 2 (.int .i64 (rS b (k + 1)).2)
    have h2 : Turn [w.heap.size + 2] (((w2.setCell ⟨w.heap.size + 1, 0, none⟩ (.slice A b.length c)).setCell ⟨w.heap.size + 1, 1, none⟩ (.int .i64 (at' : Int))).setCell ⟨w.heap.size + 1, 2, none⟩ (.int .i64 (rS b (k + 1)).2)) ((((w2.setCell ⟨w.heap.size + 1, 0, none⟩ (.slice A b.length c)).setCell ⟨w.heap.size + 1, 1, none⟩ (.int .i64 (at' : Int))).setCell ⟨w.heap.size + 1, 2, none⟩ (.int .i64 (rS b (k + 1)).2)).setCell ⟨w.heap.size + 2, k, none⟩ (.int .i64 (rV b k))) := (Turn.refl _ _).put (by simp) _
    exact Box.turn h1 h2 (by simp)
  · have h1 := ((h.box.later hb).turn hT1 (by simp)).store k (.int .i64 (rV b k))
    rw [List.setIfInBounds_toArray, nums_set b k hk] at h1
    exact h1
theorem three_boxes (w : World) (t u v : TypeId) (a b d : Array Value) : Box (((w.alloc (.cells a t)).alloc (.cells b u)).alloc (.cells d v)) w.heap.size t a ∧ Box (((w.alloc (.cells a t)).alloc (.cells b u)).alloc (.cells d v)) (w.heap.size + 1) u b ∧ Box (((w.alloc (.cells a t)).alloc (.cells b u)).alloc (.cells d v)) (w.heap.size + 2) v d ∧ Below w.heap.size w (((w.alloc (.cells a t)).alloc (.cells b u)).alloc (.cells d v)) := by
  have h := two_boxes' w t u a b
  have hb : Below ((w.alloc (.cells a t)).alloc (.cells b u)).heap.size ((w.alloc (.cells a t)).alloc (.cells b u)) (((w.alloc (.cells a t)).alloc (.cells b u)).alloc (.cells d v)) := (Below.refl _ _).alloc (Nat.le_refl _) _
  have h3 := Box.fresh ((w.alloc (.cells a t)).alloc (.cells b u)) v d
  rw [h.2.2.2] at h3
  exact ⟨h.1.later hb, h.2.1.later hb, h3, h.2.2.1.trans (hb.mono h.2.2.1.size)⟩

set_option maxHeartbeats 4000000 in
theorem refGet_any (A : Option Addr) (c : Nat) (l : List UInt8) (w : World) (hr : Rd w w.heap.size A l) (hl : l.length ≤ 10000) (hc : l.length ≤ c) :
    Calls Try.prog 20 #[.slice A l.length c] w (GotC w (getC l)) := by
  go_enter Try.func20, Try.ntmps20
  go_wp2
  have HA := Lib.hid (three_boxes w 23 53 54 #[.int .i64 0, .int .i64 0, .int .i64 0, .int .i64 0, .int .i64 0, .int .i64 0, .int .i64 0, .int .i64 0, .int .i64 0, .int .i64 0, .int .i64 0] #[.slice A l.length c, .int .i64 0, .int .i64 0] #[.int .i64 0, .int .i64 0, .int .i64 0, .int .i64 0, .int .i64 0, .int .i64 0, .int .i64 0, .int .i64 0, .int .i64 0, .int .i64 0, .int .i64 0])
  have HB : Hid (RGetSt w (((w.alloc (.cells #[.int .i64 0, .int .i64 0, .int .i64 0, .int .i64 0, .int .i64 0, .int .i64 0, .int .i64 0, .int .i64 0, .int .i64 0, .int .i64 0, .int .i64 0] 23)).alloc (.cells #[.slice A l.length c, .int .i64 0, .int .i64 0] 53)).alloc (.cells #[.int .i64 0, .int .i64 0, .int .i64 0, .int .i64 0, .int .i64 0, .int .i64 0, .int .i64 0, .int .i64 0, .int .i64 0, .int .i64 0, .int .i64 0] 54)) A l c 0 0) :=
    ⟨HA.out.2.1, Nat.zero_le _, rfl, by rw [nums_none]; exact HA.out.2.2.1, HA.out.1, HA.out.2.2.2⟩
  clear HA
  go_loopw [6] (fun i wr => ∃ k at_ : Nat, k ≤ 11 ∧ i = .int .i64 k ∧ RGetSt w wr A l c at_ k) (fun i _ => 11 - (intOf i).toNat)
  case atStart => exact ⟨0, 0, by omega, rfl, HB.out⟩
  case round =>
    clear HB
    obtain ⟨k, at_, hk, rfl, hst⟩ := hrel
    have HS := Lib.hid hst
    clear hst
    by_cases hlt : k < 11
    · obtain ⟨⟨y0, y1, y2⟩, f0, f1, f2⟩ := box3 HS.out.rdr
      have hrw : Rd wr wr.heap.size A l := (hr.below HS.out.bel).more HS.out.bel.size
      go_wp2_with fail
      refine (refReadInt_any A l c at_ (rS l k).2 (-4611686018427387904) 4611686018427387904 wr hrw HS.out.le (by omega) hc).mono ?_
      rintro e w3 ⟨at', rfl, hle, hdr, hb⟩
      rw [HS.out.left] at hdr
      rw [HS.out.left]
      have HN := Lib.hid (HS.out.next hb hlt hle hdr)
      obtain ⟨⟨x0, x1, x2⟩, g0, g1, g2⟩ := box3 (HS.out.rdr.later hb)
      have hb3 := HS.out.box.later hb
      obtain ⟨u, hu⟩ : ∃ u : Int, (if k < k then rV l k else 0) = u := ⟨_, rfl⟩
      have h2 : w3.cell? ⟨w.heap.size + 2, k, none⟩ = some (.int .i64 u) := by
        rw [hb3.cell, List.getElem?_toArray, nums_at l k k hlt, hu]
      have h3 : w3.frozen? ⟨w.heap.size + 2, k, none⟩ = false := hb3.frozen k
      have hv1 : (rI (rS l k).1 (rS l k).2 (-4611686018427387904) 4611686018427387904).1 = rV l k := rfl
      have hv2 : (rI (rS l k).1 (rS l k).2 (-4611686018427387904) 4611686018427387904).2.2 = (rS l (k + 1)).2 := rfl
      rw [hv1, hv2]
      clear hv1 hv2 hu hb hb3 HS hle hdr y0 y1 y2 f0 f1 f2 hrw
      generalize rV l k = n at HN ⊢
      generalize (rS l (k + 1)).2 = er2 at HN ⊢
      generalize (rS l k).2 = er1 at x2
      go_wp2
      go_roundw
      case rel => exact ⟨k + 1, at', by omega, by go_num, HN.out⟩
      case measure => simp [intOf]; omega
    · obtain rfl : k = 11 := by omega
      have HZ : Hid ((¬ (rS l 11).2 = 0 → getC l = (⟨0, 0, 0, 0, 0, 0, 0, 0, 0, 0, 0⟩, (rS l 11).2)) ∧ ((rS l 11).2 = 0 → 0 < (rS l 11).1.length → getC l = (⟨0, 0, 0, 0, 0, 0, 0, 0, 0, 0, 0⟩, 13)) ∧ ((rS l 11).2 = 0 → ¬ 0 < (rS l 11).1.length → getC l = (⟨rV l 0, rV l 1, rV l 2, rV l 3, rV l 4, rV l 5, rV l 6, rV l 7, rV l 8, rV l 9, rV l 10⟩, 0))) := by
        refine ⟨fun h => ?_, fun h h2 => ?_, fun h h2 => ?_⟩
        · unfold getC; rw [if_neg h]
        · unfold getC; rw [if_pos h, if_pos h2]
        · unfold getC; rw [if_pos h, if_neg h2]
      have hll : (rS l 11).1.length = l.length - at_ := by rw [← HS.out.left, List.length_drop]
      rw [hll] at HZ
      have hle := HS.out.le
      have hrd := HS.out.rdr
      have hbx := HS.out.box
      rw [nums_all] at hbx
      have HR := Lib.hid (And.intro HS.out.res HS.out.bel)
      clear HS hll hr
      generalize (rS l 11).2 = er at HZ hrd
      obtain ⟨⟨x0, x1, x2⟩, g0, g1, g2⟩ := box3 hrd
      obtain ⟨z0, z1, z2, z3, z4, z5, z6, z7, z8, z9, z10⟩ := box11 HR.out.1
      obtain ⟨f0, f1, f2, f3, f4, f5, f6, f7, f8, f9, f10⟩ := froz11 HR.out.1
      by_cases he : er = 0
      · subst he
        have HZ2 : Hid ((at_ < l.length → getC l = _) ∧ (at_ = l.length → getC l = _)) := ⟨fun h => HZ.out.2.1 rfl (by omega), fun h => HZ.out.2.2 rfl (by omega)⟩
        clear HZ hrd
        by_cases hx : at_ < l.length
        · have HW := Lib.hid (HZ2.out.1 hx)
          clear HZ2 hbx
          go_wp2
          refine bodyPost_ret (v := .tuple #[.agg #[.int .i64 0, .int .i64 0, .int .i64 0, .int .i64 0, .int .i64 0, .int .i64 0, .int .i64 0, .int .i64 0, .int .i64 0, .int .i64 0, .int .i64 0], .int .i64 13]) (by simp [results, Try.results20, go_sem, *]) rfl ⟨by rw [HW.out], HR.out.2.trans ?_⟩
          exact (by repeat (first | with_reducible exact Below.refl _ _ | with_reducible refine Below.drew ?_ | with_reducible refine Below.alloc ?_ (by first | (simp; done) | (simp; omega)) _ | with_reducible refine Below.setCell ?_ (by first | (simp; done) | (simp; omega)) _))
        · have HW := Lib.hid (HZ2.out.2 (by omega))
          obtain ⟨y0, y1, y2, y3, y4, y5, y6, y7, y8, y9, y10⟩ := box11 hbx
          clear HZ2 hbx
          generalize rV l 0 = n0 at HW y0
          generalize rV l 1 = n1 at HW y1
          generalize rV l 2 = n2 at HW y2
          generalize rV l 3 = n3 at HW y3
          generalize rV l 4 = n4 at HW y4
          generalize rV l 5 = n5 at HW y5
          generalize rV l 6 = n6 at HW y6
          generalize rV l 7 = n7 at HW y7
          generalize rV l 8 = n8 at HW y8
          generalize rV l 9 = n9 at HW y9
          generalize rV l 10 = n10 at HW y10
          go_wp2
          refine bodyPost_ret (v := .tuple #[.agg #[.int .i64 n0, .int .i64 n1, .int .i64 n2, .int .i64 n3, .int .i64 n4, .int .i64 n5, .int .i64 n6, .int .i64 n7, .int .i64 n8, .int .i64 n9, .int .i64 n10], .int .i64 0]) (by simp [results, Try.results20, go_sem, *]) rfl ⟨by rw [HW.out], HR.out.2.trans ?_⟩
          exact (by repeat (first | with_reducible exact Below.refl _ _ | with_reducible refine Below.drew ?_ | with_reducible refine Below.alloc ?_ (by first | (simp; done) | (simp; omega)) _ | with_reducible refine Below.setCell ?_ (by first | (simp; done) | (simp; omega)) _))
      · have he2 : (er == 0) = false := by simpa using he
        have he3 : (er != 0) = true := by simpa using he
        have HW := Lib.hid (HZ.out.1 he)
        clear HZ hbx he
        go_wp2_with fail
        refine wpG_start [w.heap.size] (by kernel_rfl) ?_
        have HD : Hid (Box wr.drew w.heap.size 23 #[.int .i64 0, .int .i64 0, .int .i64 0, .int .i64 0, .int .i64 0, .int .i64 0, .int .i64 0, .int .i64 0, .int .i64 0, .int .i64 0, .int .i64 0] ∧ Below w.heap.size w wr.drew ∧ Box wr.drew (w.heap.size + 1) 53 #[.slice A l.length c, .int .i64 (at_ : Int), .int .i64 er]) := ⟨HR.out.1.later (Below.refl _ _).drew, HR.out.2.drew, hrd.later (Below.refl _ _).drew⟩
        clear x0 x1 x2 g0 g1 g2 z0 z1 z2 z3 z4 z5 z6 z7 z8 z9 z10 f0 f1 f2 f3 f4 f5 f6 f7 f8 f9 f10 HR hrd
        generalize wr.drew = w0 at HD ⊢
        have s2 : ∀ w', Turn [w.heap.size] w0 w' → w'.cell? ⟨w.heap.size + 1, 2, none⟩ = some (.int .i64 er) := fun w' h => (box3 (HD.out.2.2.turn h (by simp))).1.2.2
        refine wpG_take (i := 0) (d := 23) (v := ?v8x0) rfl rfl (by kernel_rfl) (by kernel_rfl) (by kernel_rfl) (fun _ _ _ h => h) (by rfl) ?y8x0 ?r8x0
        case y8x0 => (intro w' hSw; go_simp; try (with_reducible rfl))
        simp only [Act.put, List.setIfInBounds_toArray, List.set_cons_zero, List.set_cons_succ]
        refine wpG_take (i := 1) (d := 24) (v := ?v8x1) rfl rfl (by kernel_rfl) (by kernel_rfl) (by kernel_rfl) (fun _ _ _ h => h) (by rfl) ?y8x1 ?r8x1
        case y8x1 => (intro w' hSw; go_simp; try (with_reducible rfl))
        simp only [Act.put, List.setIfInBounds_toArray, List.set_cons_zero, List.set_cons_succ]
        refine wpG_take (i := 2) (d := 25) (v := ?v8x2) rfl rfl (by kernel_rfl) (by kernel_rfl) (by kernel_rfl) (fun _ _ _ h => h) (by rfl) ?y8x2 ?r8x2
        case y8x2 => (intro w' hSw; go_simp; try (with_reducible rfl))
        simp only [Act.put, List.setIfInBounds_toArray, List.set_cons_zero, List.set_cons_succ]
        refine wpG_do (i := 3) (by kernel_rfl) rfl (by rfl) (fun K hK => ?_)
        go_simp
        obtain ⟨z0, z1, z2, z3, z4, z5, z6, z7, z8, z9, z10⟩ := box11 HD.out.1
        obtain ⟨f0, f1, f2, f3, f4, f5, f6, f7, f8, f9, f10⟩ := froz11 HD.out.1
        go_simp
        have HN : Hid (Box (((((((((((w0.setCell ⟨w.heap.size, 0, none⟩ (.int .i64 0)).setCell ⟨w.heap.size, 1, none⟩ (.int .i64 0)).setCell ⟨w.heap.size, 2, none⟩ (.int .i64 0)).setCell ⟨w.heap.size, 3, none⟩ (.int .i64 0)).setCell ⟨w.heap.size, 4, none⟩ (.int .i64 0)).setCell ⟨w.heap.size, 5, none⟩ (.int .i64 0)).setCell ⟨w.heap.size, 6, none⟩ (.int .i64 0)).setCell ⟨w.heap.size, 7, none⟩ (.int .i64 0)).setCell ⟨w.heap.size, 8, none⟩ (.int .i64 0)).setCell ⟨w.heap.size, 9, none⟩ (.int .i64 0)).setCell ⟨w.heap.size, 10, none⟩ (.int .i64 0)) w.heap.size 23 #[.int .i64 0, .int .i64 0, .int .i64 0, .int .i64 0, .int .i64 0, .int .i64 0, .int .i64 0, .int .i64 0, .int .i64 0, .int .i64 0, .int .i64 0] ∧ Below w.heap.size w (((((((((((w0.setCell ⟨w.heap.size, 0, none⟩ (.int .i64 0)).setCell ⟨w.heap.size, 1, none⟩ (.int .i64 0)).setCell ⟨w.heap.size, 2, none⟩ (.int .i64 0)).setCell ⟨w.heap.size, 3, none⟩ (.int .i64 0)).setCell ⟨w.heap.size, 4, none⟩ (.int .i64 0)).setCell ⟨w.heap.size, 5, none⟩ (.int .i64 0)).setCell ⟨w.heap.size, 6, none⟩ (.int .i64 0)).setCell ⟨w.heap.size, 7, none⟩ (.int .i64 0)).setCell ⟨w.heap.size, 8, none⟩ (.int .i64 0)).setCell ⟨w.heap.size, 9, none⟩ (.int .i64 0)).setCell ⟨w.heap.size, 10, none⟩ (.int .i64 0)) ∧ Turn [w.heap.size] w0 (((((((((((w0.setCell ⟨w.heap.size, 0, none⟩ (.int .i64 0)).setCell ⟨w.heap.size, 1, none⟩ (.int .i64 0)).setCell ⟨w.heap.size, 2, none⟩ (.int .i64 0)).setCell ⟨w.heap.size, 3, none⟩ (.int .i64 0)).setCell ⟨w.heap.size, 4, none⟩ (.int .i64 0)).setCell ⟨w.heap.size, 5, none⟩ (.int .i64 0)).setCell ⟨w.heap.size, 6, none⟩ (.int .i64 0)).setCell ⟨w.heap.size, 7, none⟩ (.int .i64 0)).setCell ⟨w.heap.size, 8, none⟩ (.int .i64 0)).setCell ⟨w.heap.size, 9, none⟩ (.int .i64 0)).setCell ⟨w.heap.size, 10, none⟩ (.int .i64 0))) := by
          refine ⟨?_, HD.out.2.1.trans ?_, ?_⟩
          · exact (((((((((((HD.out.1).store 0 _).store 1 _).store 2 _).store 3 _).store 4 _).store 5 _).store 6 _).store 7 _).store 8 _).store 9 _).store 10 _
          · exact (by repeat (first | with_reducible exact Below.refl _ _ | with_reducible refine Below.drew ?_ | with_reducible refine Below.alloc ?_ (by first | (simp; done) | (simp; omega)) _ | with_reducible refine Below.setCell ?_ (by first | (simp; done) | (simp; omega)) _))
          · repeat (first | with_reducible exact Turn.refl _ _ | with_reducible refine Turn.put ?_ (by simp) _)
        generalize (((((((((((w0.setCell ⟨w.heap.size, 0, none⟩ (.int .i64 0)).setCell ⟨w.heap.size, 1, none⟩ (.int .i64 0)).setCell ⟨w.heap.size, 2, none⟩ (.int .i64 0)).setCell ⟨w.heap.size, 3, none⟩ (.int .i64 0)).setCell ⟨w.heap.size, 4, none⟩ (.int .i64 0)).setCell ⟨w.heap.size, 5, none⟩ (.int .i64 0)).setCell ⟨w.heap.size, 6, none⟩ (.int .i64 0)).setCell ⟨w.heap.size, 7, none⟩ (.int .i64 0)).setCell ⟨w.heap.size, 8, none⟩ (.int .i64 0)).setCell ⟨w.heap.size, 9, none⟩ (.int .i64 0)).setCell ⟨w.heap.size, 10, none⟩ (.int .i64 0)) = W at HN ⊢
        refine hK.out _ _ HN.out.2.2 ?_
        clear hK HD s2 z0 z1 z2 z3 z4 z5 z6 z7 z8 z9 z10 f0 f1 f2 f3 f4 f5 f6 f7 f8 f9 f10
        refine wpG_take (i := 4) (d := 3) (v := ?v8x4) rfl rfl (by kernel_rfl) (by kernel_rfl) (by kernel_rfl) (fun _ _ _ h => h) (by rfl) ?y8x4 ?r8x4
        case y8x4 => (intro w' hSw; go_simp; try (with_reducible rfl))
        simp only [Act.put, List.setIfInBounds_toArray, List.set_cons_zero, List.set_cons_succ]
        refine wpG_done (by kernel_rfl) ?_
        obtain ⟨z0, z1, z2, z3, z4, z5, z6, z7, z8, z9, z10⟩ := box11 HN.out.1
        go_wp2
        exact bodyPost_ret (v := .tuple #[.agg #[.int .i64 0, .int .i64 0, .int .i64 0, .int .i64 0, .int .i64 0, .int .i64 0, .int .i64 0, .int .i64 0, .int .i64 0, .int .i64 0, .int .i64 0], .int .i64 er]) (by simp [results, Try.results20, go_sem, *]) rfl ⟨by rw [HW.out], HN.out.2.1⟩
end Go.Proofs.Yteobhfcebckonaa
