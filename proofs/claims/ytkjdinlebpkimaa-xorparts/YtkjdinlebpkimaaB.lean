/- Contracts of xor.Of, xor.Into and of the page's example. -/
import Derived.Test.YtkjdinlebpkimaaA
namespace Go.Proofs.Ytkjdinlebpkimaa
set_option linter.unusedVariables false
open Go.RowKit
open Go.RowKit (wrap64)

theorem Try.info5 : (Try.prog.info? 5).map (fun i => (i.zero, i.size, i.bytes)) = some (some (.int .u8 0), 1, 1) := by kernel_rfl
theorem Try.size5 : (Try.prog.info? 5).map (·.size) = some 1 := by kernel_rfl

theorem made_zeros (n : Nat) : madeCells #[.int .u8 0] n = (cBs (zeros n)).toArray := by
  apply Array.toList_inj.1
  rw [toList_madeCells_one]
  simp [cBs, cB, zeros]

theorem set_xor (Y : List UInt8) (j : Nat) (hj : j < Y.length) (b : UInt8) (Z : List UInt8) (h : Y.set j (at0 Y j ^^^ b) = Z) :
    (cBs Y).set j (.int .u8 (bits .xor .u8 (Y[j].toNat : Int) (b.toNat : Int))) = cBs Z := by
  subst h
  rw [cB_xor, at0_in hj]
  simp [cBs]

set_option maxHeartbeats 400000 in
theorem of_any (A : Option Addr) (c : Nat) (ps : List (List UInt8)) (w : World) (hr : Pts w w.heap.size A ps) (hl : ps.length ≤ 1000000) (hm : most ps ≤ 1000000) :
    Calls Try.prog 8 #[.slice A ps.length c] w fun e w' => e = .returned (.slice (some ⟨w.heap.size, 0, none⟩) (most ps) (most ps)) ∧ w.alloc (.cells (cBs (ofL ps)).toArray 5) = w' := by
  have hmk := run_make_row' (P := Try.prog) 23 5 (.int .u8 0) 1 Try.underlying23 Try.info5 rfl .i64 .i64 (most ps) (by omega) (by omega)
  simp only [made_zeros] at hmk
  have HR := Lib.hid hr
  have HM : Hid (∀ k (h : k < ps.length), ps[k].length ≤ most ps) := fun k h => le_most (List.getElem_mem h)
  have HO : Hid (most ps = (ofL ps).length) := rfl
  clear hr
  generalize most ps = M at hmk HM HO hm ⊢
  go_enter Try.func8, Try.ntmps8
  go_wp2_with fail
  refine (longest_any A c _ ps w HR.out hl).mono ?_
  rintro e w' ⟨rfl, rfl⟩
  rw [show most ps = M from HO.out.symm]
  go_wp2
  go_loopw [13] (fun i wr => ∃ k : Nat, k ≤ ps.length ∧ i = .int .i64 k ∧ wr = w.alloc (.cells (cBs (fitL (ofL (ps.take k)) M)).toArray 5)) (fun i _ => ps.length - (intOf i).toNat)
  case atStart => exact ⟨0, by omega, rfl, by rw [show ofL (ps.take 0) = [] from rfl, fitL_nil]⟩
  case round =>
    obtain ⟨k, hk, rfl, rfl⟩ := hrel
    by_cases hlt : k < ps.length
    · obtain ⟨b, off, rfl, hb, hc⟩ := HR.out (by omega)
      obtain ⟨X, cx, hck, hx⟩ := hc k hlt
      have hlk := HM.out k hlt
      have HT := Lib.hid (ofL_take hlt)
      clear hc
      generalize ps[k] = l at hck hx hlk HT
      generalize ofL (ps.take k) = acc at HT ⊢
      generalize hY : fitL acc M = Y
      have HY := Lib.hid hY
      clear hY
      go_wp2
      go_loopw [19] (fun i wr => ∃ j : Nat, j ≤ l.length ∧ i = .int .i64 j ∧ wr = w.alloc (.cells (cBs (fitL (intoL acc (l.take j)) M)).toArray 5)) (fun i _ => l.length - (intOf i).toNat)
      case atStart => exact ⟨0, by omega, rfl, by rw [show l.take 0 = [] from rfl, intoL_nil, HY.out]⟩
      case round =>
        obtain ⟨j, hj, rfl, rfl⟩ := hrel
        by_cases hjl : j < l.length
        · obtain ⟨bx, ox, rfl, hbx, hcx⟩ := hx.at_ (by omega)
          have hcj := hcx j hjl
          have HS := Lib.hid (xor_set acc l M j hjl hlk)
          have hYl := fitL_length (intoL acc (l.take j)) M
          clear hcx hx
          generalize fitL (intoL acc (l.take j)) M = Y at hYl HS ⊢
          have hYj : (cBs Y)[j]? = some (.int .u8 (Y[j].toNat : Int)) := cBs_get Y j (by omega)
          have HS2 := Lib.hid (set_xor Y j (by omega) l[j] _ HS.out)
          clear HS
          go_wp2
          go_roundw
          case rel => exact ⟨j + 1, by omega, by go_num, by rw [← HS2.out]⟩
          case measure => simp [intOf]; omega
        · obtain rfl : j = l.length := by omega
          rw [List.take_length, ← HT.out]
          go_wp2
          go_roundw
          case rel => exact ⟨k + 1, by omega, by go_num, rfl⟩
          case measure => simp [intOf]; omega
    · obtain rfl : k = ps.length := by omega
      have HF := Lib.hid (fitL_self (ofL ps))
      rw [List.take_length]
      go_wp2
      go_ret
      exact ⟨rfl, by rw [HO.out, HF.out]⟩
end Go.Proofs.Ytkjdinlebpkimaa
