/- The contract of read. -/
import Derived.Test.YtmebbggmdfejkaaRh
import Derived.Deep.DeepCutAuto
import Derived.BigQuiet
namespace Go.Proofs.Ytmebbggmdfejkaa
set_option linter.unusedVariables false
set_option linter.unusedSimpArgs false
open Go.RowKit
open Go.RowKit (wrap64)

theorem Rdr.lt {w : World} {p : Nat} {l : List UInt8} {er : Int} (h : Rdr w p l er) : p < w.heap.size := by
  obtain ⟨A, c, h1, _⟩ := h
  exact h1.lt
theorem ReadSt.later {w wr w2 : World} {p F k : Nat} {l : List UInt8} (h : ReadSt w wr p F l k) (hb : Below wr.heap.size wr w2) : ReadSt w w2 p F l k :=
  ⟨h.rdr.below hb h.rdr.lt, h.box.later hb, h.fld.later hb, h.res.later hb, h.bel.trans (hb.mono h.bel.size), h.hp⟩
theorem ReadSt.alloc {w wr : World} {p F k : Nat} {l : List UInt8} (h : ReadSt w wr p F l k) (o : Obj) : ReadSt w (wr.alloc o) p F l k := h.later ((Below.refl _ _).alloc (Nat.le_refl _) _)
theorem ReadSt.drew {w wr : World} {p F k : Nat} {l : List UInt8} (h : ReadSt w wr p F l k) : ReadSt w wr.drew p F l k := h.later (Below.refl _ _).drew
/-- A record handed back, and whether there is one. -/
def RdG (w : World) (n : Nat → Int) (d : List UInt8) (b : Bool) (e : Ending) (w' : World) : Prop :=
  ∃ A c, e = .returned (.tuple #[.agg #[.int .i64 (n 0), .int .i64 (n 1), .int .i64 (n 2), .int .i64 (n 3), .int .i64 (n 4), .int .i64 (n 5), .int .i64 (n 6), .int .i64 (n 7), .int .i64 (n 8), .slice A d.length c], .bool b]) ∧ Rd w' w'.heap.size A d ∧ Below w.heap.size w w'
def ReadP (w : World) (l : List UInt8) (e : Ending) (w' : World) : Prop := (readB l = true → RdG w (rV l) (rY l).1 true e w') ∧ (readB l = false → RdG w (fun _ => 0) [] false e w')
theorem RecAt.ofZero {w : World} {g : Nat} (h : Box w g 24 #[.int .i64 0, .int .i64 0, .int .i64 0, .int .i64 0, .int .i64 0, .int .i64 0, .int .i64 0, .int .i64 0, .int .i64 0, .slice none 0 0]) : RecAt w g (fun _ => 0) (.slice none 0 0) := h
set_option maxRecDepth 100000 in
set_option maxHeartbeats 2000000 in
theorem read_walk (A : Option Addr) (cap : Nat) (l : List UInt8) (w : World) (hr : Rd w w.heap.size A l) (hl : l.length ≤ 10000000) :
    Calls Try.prog 34 #[.slice A l.length cap] w (ReadP w l) := by
  go_enter Try.func34, Try.ntmps34
  go_wp2_with fail
  have HA := Lib.hid (two_boxes' w 24 24 #[.int .i64 0, .int .i64 0, .int .i64 0, .int .i64 0, .int .i64 0, .int .i64 0, .int .i64 0, .int .i64 0, .int .i64 0, .slice none 0 0] #[.int .i64 0, .int .i64 0, .int .i64 0, .int .i64 0, .int .i64 0, .int .i64 0, .int .i64 0, .int .i64 0, .int .i64 0, .slice none 0 0])
  generalize ((w.alloc (.cells #[.int .i64 0, .int .i64 0, .int .i64 0, .int .i64 0, .int .i64 0, .int .i64 0, .int .i64 0, .int .i64 0, .int .i64 0, .slice none 0 0] 24)).alloc (.cells #[.int .i64 0, .int .i64 0, .int .i64 0, .int .i64 0, .int .i64 0, .int .i64 0, .int .i64 0, .int .i64 0, .int .i64 0, .slice none 0 0] 24)) = w0 at HA ⊢
  have hr0 : Rd w0 w0.heap.size A l := (hr.below HA.out.2.2.1).more HA.out.2.2.1.size
  refine (new_any A cap l w0 hr0 (by omega)).mono ?_
  rintro e w1 ⟨rfl, hg, hsz, hb⟩
  have HB : Hid (Rdr w1 (w0.heap.size + 1) l 0 ∧ RecAt w1 w.heap.size (fun _ => 0) (.slice none 0 0) ∧ RecAt w1 (w.heap.size + 1) (fun _ => 0) (.slice none 0 0) ∧ Below w.heap.size w w1 ∧ w.heap.size + 2 ≤ w0.heap.size + 1) :=
    ⟨hg, RecAt.ofZero (HA.out.1.later hb), RecAt.ofZero (HA.out.2.1.later hb), HA.out.2.2.1.trans (hb.mono HA.out.2.2.1.size), by have := HA.out.2.2.2; omega⟩
  generalize w0.heap.size + 1 = p at HB ⊢
  clear hg hsz hb HA hr0 hr
  go_wp2_with fail
  refine (fields_any (w.heap.size + 1) w1).mono ?_
  rintro e w2 ⟨rfl, hF, hb⟩
  have HC : Hid (ReadSt w w2 p w1.heap.size l 0) := ⟨HB.out.1.below hb HB.out.1.lt, by rw [nK_zero]; exact HB.out.2.2.1.later hb, hF, HB.out.2.1.later hb, HB.out.2.2.2.1.trans (hb.mono HB.out.2.2.2.1.size), HB.out.2.2.2.2⟩
  generalize w1.heap.size = F at HC ⊢
  clear hF hb HB
  go_wp2
  go_loopw [12] (fun i wr => ∃ k : Nat, k ≤ 9 ∧ i = .int .i64 k ∧ ReadSt w wr p F l k) (fun i _ => 9 - (intOf i).toNat)
  case atStart => exact ⟨0, by omega, rfl, HC.out⟩
  case round =>
    clear HC
    obtain ⟨k, hk, rfl, hst⟩ := hrel
    have HS := Lib.hid hst
    clear hst
    by_cases hlt : k < 9
    · obtain ⟨f0, f1, f2⟩ := HS.out.fld.at_ hlt
      go_upto_region 6 with fail
      have HW : Hid (ReadSt w (wr.alloc (.cells #[.pointer (some ⟨w.heap.size + 1, k, none⟩), .int .i64 (loF k), .int .i64 (hiF k)] 54)) p F l k) := HS.out.alloc _
      have HB0 : Hid (Box (wr.alloc (.cells #[.pointer (some ⟨w.heap.size + 1, k, none⟩), .int .i64 (loF k), .int .i64 (hiF k)] 54)) wr.heap.size 54 #[.pointer (some ⟨w.heap.size + 1, k, none⟩), .int .i64 (loF k), .int .i64 (hiF k)]) := Box.fresh wr 54 _
      have HX : Hid (¬ (wr.heap.size = p ∨ wr.heap.size = w.heap.size + 1)) := by
        have h1 := HS.out.rdr.lt
        have h2 := Box.lt HS.out.box
        show ¬ _
        omega
      clear HS f0 f1 f2
      generalize (wr.alloc (.cells #[.pointer (some ⟨w.heap.size + 1, k, none⟩), .int .i64 (loF k), .int .i64 (hiF k)] 54)) = w3 at HW HB0 ⊢
      generalize wr.heap.size = Bx at HB0 HX ⊢
      have HV : Hid (rV l k = (rI (rS l k).1 (rS l k).2 (loF k) (hiF k)).1) := rfl
      have HT : Hid (rS l (k + 1) = ((rI (rS l k).1 (rS l k).2 (loF k) (hiF k)).2.1, (rI (rS l k).1 (rS l k).2 (loF k) (hiF k)).2.2)) := rfl
      generalize loF k = lo at HB0 HV HT ⊢
      generalize hiF k = hi at HB0 HV HT ⊢
      refine wpG_start [p, w.heap.size + 1] (by kernel_rfl) ?_
      have HW1 : Hid (ReadSt w w3.drew p F l k) := HW.out.drew
      have HB1 : Hid (Box w3.drew Bx 54 #[.pointer (some ⟨w.heap.size + 1, k, none⟩), .int .i64 lo, .int .i64 hi]) := HB0.out
      clear HW HB0
      generalize w3.drew = w4 at HW1 HB1 ⊢
      have q0 : ∀ w', Turn [p, w.heap.size + 1] w4 w' → w'.cell? ⟨Bx, 0, none⟩ = some (.pointer (some ⟨w.heap.size + 1, k, none⟩)) := fun w' h => (box3 (HB1.out.turn h (by simpa using HX.out))).1
      have q1 : ∀ w', Turn [p, w.heap.size + 1] w4 w' → w'.cell? ⟨Bx, 1, none⟩ = some (.int .i64 lo) := fun w' h => (box3 (HB1.out.turn h (by simpa using HX.out))).2.1
      have q2 : ∀ w', Turn [p, w.heap.size + 1] w4 w' → w'.cell? ⟨Bx, 2, none⟩ = some (.int .i64 hi) := fun w' h => (box3 (HB1.out.turn h (by simpa using HX.out))).2.2
      refine wpG_take (i := 0) (d := 16) (v := ?v6x0) rfl rfl (by kernel_rfl) (by kernel_rfl) (by kernel_rfl) (fun _ _ _ h => h) (by rfl) ?y6x0 ?r6x0
      case y6x0 => (intro w' hSw; go_simp; try (with_reducible rfl))
      simp only [Act.put, List.setIfInBounds_toArray, List.set_cons_zero, List.set_cons_succ]
      refine wpG_take (i := 1) (d := 17) (v := ?v6x1) rfl rfl (by kernel_rfl) (by kernel_rfl) (by kernel_rfl) (fun _ _ _ h => h) (by rfl) ?y6x1 ?r6x1
      case y6x1 => (intro w' hSw; go_simp; try (with_reducible rfl))
      simp only [Act.put, List.setIfInBounds_toArray, List.set_cons_zero, List.set_cons_succ]
      refine wpG_take (i := 2) (d := 18) (v := ?v6x2) rfl rfl (by kernel_rfl) (by kernel_rfl) (by kernel_rfl) (fun _ _ _ h => h) (by rfl) ?y6x2 ?r6x2
      case y6x2 => (intro w' hSw; go_simp; try (with_reducible rfl))
      simp only [Act.put, List.setIfInBounds_toArray, List.set_cons_zero, List.set_cons_succ]
      refine wpG_take (i := 3) (d := 19) (v := ?v6x3) rfl rfl (by kernel_rfl) (by kernel_rfl) (by kernel_rfl) (fun _ _ _ h => h) (by rfl) ?y6x3 ?r6x3
      case y6x3 => (intro w' hSw; go_simp; try (with_reducible rfl))
      simp only [Act.put, List.setIfInBounds_toArray, List.set_cons_zero, List.set_cons_succ]
      refine wpG_take (i := 4) (d := 20) (v := ?v6x4) rfl rfl (by kernel_rfl) (by kernel_rfl) (by kernel_rfl) (fun _ _ _ h => h) (by rfl) ?y6x4 ?r6x4
      case y6x4 => (intro w' hSw; go_simp; try (with_reducible rfl))
      simp only [Act.put, List.setIfInBounds_toArray, List.set_cons_zero, List.set_cons_succ]
      refine wpG_take (i := 5) (d := 21) (v := ?v6x5) rfl rfl (by kernel_rfl) (by kernel_rfl) (by kernel_rfl) (fun _ _ _ h => h) (by rfl) ?y6x5 ?r6x5
      case y6x5 => (intro w' hSw; go_simp; try (with_reducible rfl))
      simp only [Act.put, List.setIfInBounds_toArray, List.set_cons_zero, List.set_cons_succ]
      refine wpG_take (i := 6) (d := 22) (v := ?v6x6) rfl rfl (by kernel_rfl) (by kernel_rfl) (by kernel_rfl) (fun _ _ _ h => h) (by rfl) ?y6x6 ?r6x6
      case y6x6 => (intro w' hSw; go_simp; try (with_reducible rfl))
      simp only [Act.put, List.setIfInBounds_toArray, List.set_cons_zero, List.set_cons_succ]
      refine wpG_do (i := 7) (by kernel_rfl) rfl (by rfl) (fun K hK => ?_)
      go_simp
      refine (rInt_any (rS l k).1 (rS l k).2 lo hi p w4 HW1.out.rdr).mono ?_
      rintro e w5 ⟨rfl, hr5, hg⟩
      have ht : Turn [p] w4 w5 := turn_of_grown hg
      have HN := Lib.hid (HW1.out.turn (w2 := w5) (by rw [HT.out]; exact hr5) ht hlt)
      have hb5 : RecAt w5 (w.heap.size + 1) (nK l k) (.slice none 0 0) := Box.turn HW1.out.box ht (by have := HW1.out.hp; simp; omega)
      have s0 := hb5.num hlt
      have s1 : w5.frozen? ⟨w.heap.size + 1, k, none⟩ = false := Box.frozen hb5 k
      generalize nK l k k = old at s0
      rw [← HV.out]
      generalize rV l k = n at HN ⊢
      have ht2 : Turn [p, w.heap.size + 1] w4 w5 := ⟨ht.os, ht.tape, ht.output, ht.size, fun i hi hn => ht.block i hi (by simp at hn ⊢; exact hn.1)⟩
      have HB5 : Hid (Box w5 Bx 54 #[.pointer (some ⟨w.heap.size + 1, k, none⟩), .int .i64 lo, .int .i64 hi]) := HB1.out.turn ht (by have := HX.out; simp; omega)
      go_simp
      refine hK.out _ _ ht2 ?_
      clear hK hr5 hg ht ht2 hb5 HW1 HB1 q0 q1 q2
      refine wpG_take (i := 8) (d := 24) (v := ?v6x8) rfl rfl (by kernel_rfl) (by kernel_rfl) (by kernel_rfl) (fun _ _ _ h => h) (by rfl) ?y6x8 ?r6x8
      case y6x8 => (intro w' hSw; go_simp; try (with_reducible rfl))
      simp only [Act.put, List.setIfInBounds_toArray, List.set_cons_zero, List.set_cons_succ]
      refine wpG_do (i := 9) (by kernel_rfl) rfl (by rfl) (fun K hK => ?_)
      go_simp
      refine hK.out _ _ ((Turn.refl _ _).put (by simp) _) ?_
      clear hK
      generalize w5.setCell ⟨w.heap.size + 1, k, none⟩ (.int .i64 n) = w6 at HN ⊢
      clear s0 s1
      refine wpG_done (by kernel_rfl) ?_
      go_wp2
      go_roundw
      case rel => exact ⟨k + 1, by omega, by go_num, HN.out⟩
      case measure => simp [intOf]; omega
    · obtain rfl : k = 9 := by omega
      obtain ⟨q, hq⟩ : ∃ q, rY l = q := ⟨_, rfl⟩
      have HQ := Lib.hid hq
      obtain ⟨d, lf, er⟩ := q
      clear hq
      go_wp2_with fail
      refine (rBytes_any (rS l 9).1 (rS l 9).2 1048576 p wr HS.out.rdr).mono ?_
      rintro e w3 ⟨B, c, rfl, hB, hrd, hg, hfr⟩
      have ht : Turn [p] wr w3 := turn_of_grown hg
      have hx3 : RecAt w3 (w.heap.size + 1) (nK l 9) (.slice none 0 0) := Box.turn HS.out.box ht (by have := HS.out.hp; simp; omega)
      have hz3 : RecAt w3 w.heap.size (fun _ => 0) (.slice none 0 0) := Box.turn HS.out.res ht (by have := HS.out.hp; simp; omega)
      have hoff : Off (w.heap.size + 1) B := fun ad e => by
        have h1 := hfr ad e
        have h2 := Box.lt HS.out.box
        omega
      have eq : rB (rS l 9).1 (rS l 9).2 1048576 = (d, lf, er) := HQ.out
      rw [eq] at hB hrd ⊢
      simp only at hB hrd ⊢
      have HW3 : Hid (Rd w3 w3.heap.size B d ∧ Rdr w3 p lf er ∧ RecAt w3 (w.heap.size + 1) (nK l 9) (.slice none 0 0) ∧ RecAt w3 w.heap.size (fun _ => 0) (.slice none 0 0) ∧ Below w.heap.size w w3) := ⟨hB, hrd, hx3, hz3, HS.out.bel.trans (ht.below (by have := HS.out.hp; simp; omega) HS.out.bel.size)⟩
      have hoff0 : Off w.heap.size B := fun ad e => by
        have h1 := hfr ad e
        have h2 := Box.lt HS.out.res
        omega
      have HP : Hid (Off (w.heap.size + 1) B ∧ Off w.heap.size B ∧ w.heap.size + 2 ≤ p) := ⟨hoff, hoff0, HS.out.hp⟩
      have s0 := hx3.body
      have s1 : w3.frozen? ⟨w.heap.size + 1, 9, none⟩ = false := Box.frozen hx3 9
      clear hB hrd hg hfr ht hx3 hz3 hoff hoff0 eq HS
      go_upto_region 9 with fail
      have HW : Hid (Rd (w3.setCell ⟨w.heap.size + 1, 9, none⟩ (.slice B d.length c)) (w3.setCell ⟨w.heap.size + 1, 9, none⟩ (.slice B d.length c)).heap.size B d ∧ Rdr (w3.setCell ⟨w.heap.size + 1, 9, none⟩ (.slice B d.length c)) p lf er ∧ RecAt (w3.setCell ⟨w.heap.size + 1, 9, none⟩ (.slice B d.length c)) (w.heap.size + 1) (rV l) (.slice B d.length c) ∧ RecAt (w3.setCell ⟨w.heap.size + 1, 9, none⟩ (.slice B d.length c)) w.heap.size (fun _ => 0) (.slice none 0 0) ∧ Below w.heap.size w (w3.setCell ⟨w.heap.size + 1, 9, none⟩ (.slice B d.length c))) := by
        refine ⟨?_, HW3.out.2.1.put HW3.out.2.2.1 (RecAt.noBytes rfl) (by have := HP.out.2.2; omega) _, (HW3.out.2.2.1.putBody _).congr (fun i hi => nK_all l hi), ?_, HW3.out.2.2.2.2.setCell (by simp) _⟩
        · have h := HW3.out.1.put HP.out.1 9 (.slice B d.length c)
          exact h.more (by simp)
        · exact (Below.heap_setCell w3 ⟨w.heap.size + 1, 9, none⟩ _ w.heap.size (by simp)).trans HW3.out.2.2.2.1
      clear HW3 s0 s1
      generalize w3.setCell ⟨w.heap.size + 1, 9, none⟩ (.slice B d.length c) = w4 at HW ⊢
      go_wp2_with fail
      refine (err_any lf er p w4 HW.out.2.1).mono ?_
      rintro e w' ⟨rfl, rfl⟩
      obtain ⟨z0, z1, z2, z3, z4, z5, z6, z7, z8, z9⟩ := box10 HW.out.2.2.2.1
      obtain ⟨f0, f1, f2, f3, f4, f5, f6, f7, f8, f9⟩ := froz10 HW.out.2.2.2.1
      have HB : Hid (readB l = (decide (er = 0) && decide (lf.length = 0))) := by
        show readB l = _
        unfold readB
        rw [HQ.out]
      by_cases he : er = 0
      · subst he
        go_wp2_with fail
        refine (left_any lf 0 p w4 HW.out.2.1).mono ?_
        rintro e w' ⟨rfl, rfl⟩
        by_cases hx : 0 < lf.length
        · have HE : Hid (readB l = false) := by
            show readB l = false
            rw [HB.out, decide_eq_false (show ¬ lf.length = 0 by omega), Bool.and_false]
          go_wp2
          exact bodyPost_ret (v := .tuple #[.agg #[.int .i64 0, .int .i64 0, .int .i64 0, .int .i64 0, .int .i64 0, .int .i64 0, .int .i64 0, .int .i64 0, .int .i64 0, .slice none 0 0], .bool false]) (by simp [results, Try.results34, go_sem, *]) rfl ⟨fun h => absurd (h.symm.trans HE.out) (by decide), fun _ => ⟨none, 0, rfl, Rd.nil, HW.out.2.2.2.2.trans (by repeat (first | with_reducible exact Below.refl _ _ | with_reducible refine Below.drew ?_ | with_reducible refine Below.alloc ?_ (by first | (simp; done) | (simp; omega)) _ | with_reducible refine Below.setCell ?_ (by first | (simp; done) | (simp; omega)) _))⟩⟩
        · have HE : Hid (readB l = true) := by
            show readB l = true
            rw [HB.out, decide_eq_true (show lf.length = 0 by omega)]
            rfl
          obtain ⟨y0, y1, y2, y3, y4, y5, y6, y7, y8, y9⟩ := box10 HW.out.2.2.1
          have HD : Hid ((rY l).1 = d) := by
            show _ = d
            rw [HQ.out]
          have HBO := Lib.hid (HP.out.2.1)
          go_wp2
          refine bodyPost_ret (v := .tuple #[.agg #[.int .i64 (rV l 0), .int .i64 (rV l 1), .int .i64 (rV l 2), .int .i64 (rV l 3), .int .i64 (rV l 4), .int .i64 (rV l 5), .int .i64 (rV l 6), .int .i64 (rV l 7), .int .i64 (rV l 8), .slice B d.length c], .bool true]) (by simp [results, Try.results34, go_sem, *]) rfl ⟨fun _ => ⟨B, c, by rw [HD.out], ?_, HW.out.2.2.2.2.trans (by repeat (first | with_reducible exact Below.refl _ _ | with_reducible refine Below.drew ?_ | with_reducible refine Below.alloc ?_ (by first | (simp; done) | (simp; omega)) _ | with_reducible refine Below.setCell ?_ (by first | (simp; done) | (simp; omega)) _))⟩, fun h => absurd (h.symm.trans HE.out) (by decide)⟩
          rw [HD.out]
          refine Rd.more (B := w4.heap.size) ?_ (by simp)
          repeat (with_reducible refine Rd.put ?_ HBO.out _ _)
          exact HW.out.1
      · have he2 : (er != 0) = true := by simpa using he
        have HE : Hid (readB l = false) := by
          show readB l = false
          rw [HB.out, decide_eq_false he, Bool.false_and]
        clear he
        go_wp2
        exact bodyPost_ret (v := .tuple #[.agg #[.int .i64 0, .int .i64 0, .int .i64 0, .int .i64 0, .int .i64 0, .int .i64 0, .int .i64 0, .int .i64 0, .int .i64 0, .slice none 0 0], .bool false]) (by simp [results, Try.results34, go_sem, *]) rfl ⟨fun h => absurd (h.symm.trans HE.out) (by decide), fun _ => ⟨none, 0, rfl, Rd.nil, HW.out.2.2.2.2.trans (by repeat (first | with_reducible exact Below.refl _ _ | with_reducible refine Below.drew ?_ | with_reducible refine Below.alloc ?_ (by first | (simp; done) | (simp; omega)) _ | with_reducible refine Below.setCell ?_ (by first | (simp; done) | (simp; omega)) _))⟩⟩
end Go.Proofs.Ytmebbggmdfejkaa
