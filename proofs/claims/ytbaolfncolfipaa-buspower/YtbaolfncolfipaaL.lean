/- Contracts of Kill, of a member that is lost, and of Active. -/
import Derived.Test.YtbaolfncolfipaaK
namespace Go.Proofs.Ytbaolfncolfipaa
set_option linter.unusedVariables false
set_option linter.unusedSimpArgs false
open Go.RowKit
open Go.RowKit (wrap64)

set_option maxHeartbeats 400000 in
theorem kill_dev {p : Nat} {Z : Option Addr} {n c : Nat} {limit bad : Int} {lost : Bool} (w : World) (h : DevBox w p Z n c limit bad lost) :
    Calls Try.prog 33 #[.pointer (some ⟨p, 0, none⟩)] w fun e w' => e = .returned (.tuple #[]) ∧ DevBox w' p none 0 0 limit bad true ∧ Turn [p] w w' := by
  obtain ⟨⟨q0, q1, q2, q3⟩, f0, f1, f2, f3⟩ := box4 h
  have H := Lib.hid h
  clear h
  go_enter Try.func33, Try.ntmps33
  go_wp2
  first | go_end0 | refine bodyPost_ret (results_none rfl _ _ _) rfl ?_
  refine ⟨rfl, (Box.store H.out 3 (.bool true)).store 0 (.slice none 0 0), ?_⟩
  repeat (first | with_reducible exact Turn.refl _ _ | with_reducible refine Turn.put ?_ (by simp) _)

set_option maxHeartbeats 400000 in
theorem flush_lost {p : Nat} {Z : Option Addr} {n c : Nat} {limit bad : Int} (w : World) (h : DevBox w p Z n c limit bad true) :
    Calls Try.prog 31 #[.pointer (some ⟨p, 0, none⟩)] w fun e w' => e = .returned (.int .i64 11) ∧ Below w.heap.size w w' := by
  go_enter Try.func31, Try.ntmps31
  go_wp2_with fail
  refine (there_dev w h).mono ?_
  rintro e w' ⟨rfl, rfl⟩
  rw [show thereE true = 11 from rfl]
  go_wp2
  go_ret
  exact ⟨rfl, Below.refl _ _⟩
set_option maxHeartbeats 400000 in
theorem active_lost {p : Nat} {Z : Option Addr} {n c : Nat} {limit bad : Int} (w : World) (h : DevBox w p Z n c limit bad true) :
    Calls Try.prog 68 #[.pointer (some ⟨p, 0, none⟩)] w fun e w' => e = .returned (.int .i64 0) ∧ Below w.heap.size w w' := by
  go_enter Try.func68, Try.ntmps68
  go_wp2_with fail
  refine (dead_dev w h).mono ?_
  rintro e w' ⟨rfl, rfl⟩
  go_wp2
  go_ret
  exact ⟨rfl, Below.refl _ _⟩
set_option maxHeartbeats 1000000 in
theorem append_lost {p : Nat} {Z : Option Addr} {n c : Nat} {limit bad : Int} (z : Int) (B : Value) (w : World) (h : DevBox w p Z n c limit bad true) :
    Calls Try.prog 28 #[.pointer (some ⟨p, 0, none⟩), .int .i64 z, B] w fun e w' => e = .returned (.int .i64 11) ∧ Below w.heap.size w w' := by
  have hmf : ∀ (fn : Fn) (first cap : Array Value) (w : World), (Instr.makeFunc fn first cap).run Try.prog w = .ok (.func fn first cap) w := fun _ _ _ _ => rfl
  have H := Lib.hid h
  clear h
  go_enter_defers Try.func28, Try.ntmps28
  go_wp2_with fail
  refine (reach_dev z _ (Box.later H.out (((Below.refl _ _).alloc (Nat.le_refl _) _).alloc (by simp) _))).mono ?_
  rintro e w' ⟨rfl, rfl⟩
  rw [show reachE true n z = 11 from rfl]
  go_wp2
  refine leaves_cons (f := 46) (args := #[.pointer (some ⟨w.heap.size, 0, none⟩), .pointer (some ⟨w.heap.size + 1, 0, none⟩)]) (by simp) (by simp [go_sem]) ?_
  refine (d22_none w.heap.size (w.heap.size + 1) (some ⟨p, 0, none⟩) 11 .returning _ ?_ ?_ (by decide)).mono ?_
  · simp [go_sem]
  · simp [go_sem]
  rintro e u' w' ⟨rfl, rfl, rfl⟩
  simp only [settle]
  refine ⟨.int .i64 11, by simp [results, Try.results28, go_sem], rfl, ?_⟩
  exact (by repeat (first | with_reducible exact Below.refl _ _ | with_reducible refine Below.drew ?_ | with_reducible refine Below.alloc ?_ (by first | (simp; done) | (simp; omega)) _ | with_reducible refine Below.setCell ?_ (by first | (simp; done) | (simp; omega)) _))

set_option maxHeartbeats 1000000 in
theorem active_dev {p zb cap blk : Nat} {limit : Int} {bad : Nat} {zs : List Zs} (w : World) (h : DevAt w p zb cap blk limit bad zs) :
    Calls Try.prog 68 #[.pointer (some ⟨p, 0, none⟩)] w fun e w' => e = .returned (.int .i64 (nAct cap zs : Nat)) ∧ Below w.heap.size w w' := by
  obtain ⟨⟨q0, q1, q2, q3⟩, f0, f1, f2, f3⟩ := box4 h.bp
  have H := Lib.hid h
  have hl := h.len
  clear h
  go_enter Try.func68, Try.ntmps68
  go_wp2_with fail
  refine (dead_dev w H.out.bp).mono ?_
  rintro e w' ⟨rfl, rfl⟩
  go_wp2
  clear q0 q1 q2 q3 f0 f1 f2 f3
  go_loopw [3, 13] (fun n i wr => ∃ k : Nat, k ≤ zs.length ∧ i = .int .i64 k ∧ n = .int .i64 (nAct cap (zs.take k) : Nat) ∧ Below w.heap.size w wr) (fun _ i _ => zs.length - (intOf i).toNat)
  case atStart => exact ⟨0, by omega, rfl, rfl, Below.refl _ _⟩
  case round =>
    obtain ⟨k, hk, rfl, rfl, hbel⟩ := hrel
    by_cases hlt : k < zs.length
    · have HD := Lib.hid (H.out.later hbel)
      have HB := Lib.hid hbel
      have HN := Lib.hid (nAct_take cap zs k hlt)
      have hn1 := nAct_le cap (zs.take k)
      have hn2 : nAct cap (zs.take k) ≤ 64 := by simp at hn1; omega
      obtain ⟨⟨q0, q1, q2, q3, q4⟩, f0, f1, f2, f3, f4⟩ := HD.out.zone hlt
      have HO := Lib.hid (HD.out.ok zs[k] (List.getElem_mem hlt))
      clear hbel hn1
      generalize nAct cap (zs.take k) = s at HN hn2 ⊢
      generalize zs[k] = z at HN q2 q3 q4 HO
      go_wp2_with fail
      refine (active_any z.A z.done _ HO.out).mono ?_
      rintro e w1 ⟨rfl, hb1⟩
      have HC := Lib.hid (HB.out.trans ((below_of_alloc hb1 (by simp)).mono HB.out.size))
      clear hb1 q0 q1 q2 q3 q4 f0 f1 f2 f3 f4 HD HO
      generalize actB cap z.k z.done = t at HN ⊢
      cases t
      · go_wp2
        go_roundw
        case rel => exact ⟨k + 1, by omega, by go_num, by rw [HN.out]; simp, HC.out⟩
        case measure => simp [intOf]; omega
      · go_wp2
        go_roundw
        case rel => exact ⟨k + 1, by omega, by go_num, by rw [HN.out]; simp, HC.out⟩
        case measure => simp [intOf]; omega
    · obtain rfl : k = zs.length := by omega
      rw [List.take_length]
      have HB := Lib.hid hbel
      clear hbel
      go_wp2
      go_ret
      exact ⟨rfl, HB.out⟩
end Go.Proofs.Ytbaolfncolfipaa
