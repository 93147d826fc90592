/- Contracts of the reference's Of, of crc.Over, of crc.Of; of xor.Zero. -/
import Derived.Test.YtmebbggmdfejkaaStep
import Derived.Test.YtmebbggmdfejkaaOrg
import Derived.Lib.SlBytesConst
namespace Go.Proofs.Ytmebbggmdfejkaa
set_option linter.unusedVariables false
set_option linter.unusedSimpArgs false
open Go.RowKit
open Go.RowKit (wrap64)

theorem ret_u32 {a b : Int} (h : a = b) : Ending.returned (.int .u32 a) = .returned (.int .u32 b) := by rw [h]
theorem all_xor (s : Nat) (h : s < 4294967296) : bits .xor .u32 IntKind.u32.max (s : Int) = ((4294967295 - s : Nat) : Int) := by
  have hx : 4294967295 ^^^ s = 4294967295 - s := by
    have e := congrArg BitVec.toNat (BitVec.allOnes_xor (x := BitVec.ofNat 32 s))
    rw [BitVec.toNat_xor, BitVec.toNat_not, BitVec.toNat_allOnes, BitVec.toNat_ofNat, Nat.mod_eq_of_lt h] at e
    exact e
  rw [show IntKind.u32.max = ((4294967295 : Nat) : Int) from rfl, u32_xor_nat _ _ (by omega) h, hx]
theorem sta_take (n : Nat) (l : List UInt8) (k : Nat) (h : k < l.length) : sta n (l.take (k + 1)) = stp (sta n (l.take k)) l[k].toNat := by
  rw [List.take_succ_eq_append_getElem h, sta_snoc]
set_option maxHeartbeats 400000 in
theorem rof_any (A : Option Addr) (c B : Nat) (l : List UInt8) (w : World) (hr : Rd w B A l) (hl : l.length ≤ 10000000) :
    Calls Try.prog 30 #[.slice A l.length c] w fun e w' => e = .returned (.int .u32 (crcN l : Nat)) ∧ w = w' := by
  go_enter Try.func30, Try.ntmps30
  go_wp2
  go_loop [3, 4] (fun s i => ∃ k : Nat, k ≤ l.length ∧ i = .int .i64 k ∧ s = .int .u32 (sta 4294967295 (l.take k) : Nat)) (fun _ i => l.length - (intOf i).toNat)
  case atStart => exact ⟨0, by omega, rfl, rfl⟩
  case round =>
    obtain ⟨k, hk, rfl, rfl⟩ := hrel
    by_cases hlt : k < l.length
    · obtain ⟨b, off, rfl, hb, hc⟩ := hr.at_ (by omega)
      have hck := hc k hlt
      have hs := sta_lt (l.take k) (show 4294967295 < 4294967296 by omega)
      have HT := Lib.hid (sta_take 4294967295 l k hlt)
      have hcl := l[k].toNat_lt
      clear hc hr
      generalize sta 4294967295 (l.take k) = s at hs HT ⊢
      go_wp2_with (go_at_call 43; refine (rstep_any _ _ _ (by omega) (by omega)).mono ?_; rintro e w' ⟨rfl, rfl⟩)
      go_round
      case rel => exact ⟨k + 1, by omega, by go_num, by rw [HT.out]⟩
      case measure => simp [intOf]; omega
    · obtain rfl : k = l.length := by omega
      have hs := sta_lt l (show 4294967295 < 4294967296 by omega)
      have HE : Hid (crcN l = 4294967295 - sta 4294967295 l) := rfl
      rw [List.take_length]
      generalize sta 4294967295 l = s at hs HE ⊢
      go_wp2
      go_ret
      refine ⟨ret_u32 ?_, rfl⟩
      rw [HE.out]
      omega
/-- A slice of parts at A, each of which reads as its bytes. -/
def Pts (w : World) (B : Nat) (A : Option Addr) (ps : List (List UInt8)) : Prop :=
  0 < ps.length → ∃ b off, A = some ⟨b, off, none⟩ ∧ ∀ j (hj : j < ps.length), ∃ X c, w.cell? ⟨b, off + j, none⟩ = some (.slice X ps[j].length c) ∧ Rd w B X ps[j]
set_option maxHeartbeats 400000 in
theorem over_any (A : Option Addr) (c B : Nat) (ps : List (List UInt8)) (w : World) (hr : Pts w B A ps) (hl : ps.length ≤ 1000) (hls : ∀ l ∈ ps, l.length ≤ 10000000) :
    Calls Try.prog 42 #[.slice A ps.length c] w fun e w' => e = .returned (.int .u32 (crcN ps.flatten : Nat)) ∧ w = w' := by
  have HLS := Lib.hid hls
  have HR := Lib.hid hr
  clear hls hr
  go_enter Try.func42, Try.ntmps42
  go_wp2
  go_loop [3, 10] (fun s i => ∃ k : Nat, k ≤ ps.length ∧ i = .int .i64 k ∧ s = .int .u32 (sta 4294967295 (ps.take k).flatten : Nat)) (fun _ i => ps.length - (intOf i).toNat)
  case atStart => exact ⟨0, by omega, rfl, rfl⟩
  case round =>
    obtain ⟨k, hk, rfl, rfl⟩ := hrel
    by_cases hlt : k < ps.length
    · obtain ⟨b, off, rfl, hc⟩ := HR.out (by omega)
      obtain ⟨X, cx, hck, hx⟩ := hc k hlt
      have hlk := HLS.out ps[k] (List.getElem_mem hlt)
      have hs := sta_lt (ps.take k).flatten (show 4294967295 < 4294967296 by omega)
      have HT : Hid (sta 4294967295 (ps.take (k + 1)).flatten = sta (sta 4294967295 (ps.take k).flatten) ps[k]) := by
        show _ = _
        rw [List.take_succ_eq_append_getElem hlt, List.flatten_append, sta_append]
        simp
      clear hc
      generalize ps[k] = l at hck hx hlk HT
      generalize sta 4294967295 (ps.take k).flatten = s at hs HT ⊢
      go_wp2
      go_loop [3, 16] (fun t i => ∃ j : Nat, j ≤ l.length ∧ i = .int .i64 j ∧ t = .int .u32 (sta s (l.take j) : Nat)) (fun _ i => l.length - (intOf i).toNat)
      case atStart => exact ⟨0, by omega, rfl, rfl⟩
      case round =>
        obtain ⟨j, hj, rfl, rfl⟩ := hrel
        by_cases hjl : j < l.length
        · obtain ⟨bx, ox, rfl, hbx, hcx⟩ := hx.at_ (by omega)
          have hcj := hcx j hjl
          have hs2 := sta_lt (l.take j) hs
          have HT2 := Lib.hid (sta_take s l j hjl)
          have hcl := l[j].toNat_lt
          clear hcx hx
          generalize sta s (l.take j) = t at hs2 HT2 ⊢
          go_wp2_with (go_at_call 50; refine (step_any _ _ _ (by omega) (by omega)).mono ?_; rintro e w' ⟨rfl, rfl⟩)
          go_round
          case rel => exact ⟨j + 1, by omega, by go_num, by rw [HT2.out]⟩
          case measure => simp [intOf]; omega
        · obtain rfl : j = l.length := by omega
          rw [List.take_length]
          go_wp2
          go_round
          case rel => exact ⟨k + 1, by omega, by go_num, by rw [HT.out]⟩
          case measure => simp [intOf]; omega
    · obtain rfl : k = ps.length := by omega
      have hs := sta_lt ps.flatten (show 4294967295 < 4294967296 by omega)
      have HE : Hid (crcN ps.flatten = 4294967295 - sta 4294967295 ps.flatten) := rfl
      rw [List.take_length]
      generalize sta 4294967295 ps.flatten = s at hs HE ⊢
      go_wp2
      go_ret
      refine ⟨ret_u32 ?_, rfl⟩
      rw [HE.out, all_xor s hs]
theorem Pts.one {w : World} {A : Option Addr} {l : List UInt8} (c : Nat) (t : TypeId) (h : Rd w w.heap.size A l) :
    Pts (w.alloc (.cells #[.slice A l.length c] t)) w.heap.size (some ⟨w.heap.size, 0, none⟩) [l] := fun _ =>
  ⟨_, _, rfl, fun j hj => ⟨A, c, by
    obtain rfl : j = 0 := by simp at hj; omega
    rw [cell_of_row _ _ _ _ t (0, 0) (heap_alloc_new w _)]
    rfl, by
    obtain rfl : j = 0 := by simp at hj; omega
    exact h.alloc (Nat.le_refl _) _⟩⟩
set_option maxHeartbeats 400000 in
theorem of_any (A : Option Addr) (c : Nat) (l : List UInt8) (w : World) (hr : Rd w w.heap.size A l) (hl : l.length ≤ 10000000) :
    Calls Try.prog 24 #[.slice A l.length c] w fun e w' => e = .returned (.int .u32 (crcN l : Nat)) ∧ w.alloc (.cells #[.slice A l.length c] 22) = w' := by
  have hp := Lib.hid (Pts.one c 22 hr)
  have HR := Lib.hid hr
  clear hr
  go_enter Try.func24, Try.ntmps24
  go_wp2_with fail
  refine (over_any _ 1 _ [l] _ hp.out (by simp) (by simpa using hl)).mono ?_
  rintro e w' ⟨rfl, rfl⟩
  go_wp2
  go_ret
  exact ⟨ret_u32 (by simp), rfl⟩
theorem Rd.newMarked (w : World) (l : List UInt8) (t : TypeId) (m : Nat × Nat) : Rd (w.alloc (.cells (cBs l).toArray t m)) (w.heap.size + 1) (some ⟨w.heap.size, 0, none⟩) l := fun _ =>
  ⟨_, rfl, by simp, fun j u hu => by
    have hadd : (⟨w.heap.size, 0, none⟩ : Addr).add j = ⟨w.heap.size, j, none⟩ := by unfold Addr.add; split <;> simp_all
    rw [hadd, cell_of_row _ _ j _ t m (heap_alloc_new w _)]
    simpa using hu⟩
/-- Is each of them 0? -/
def zeroL (l : List UInt8) : Bool := l.all (· == 0)
set_option maxHeartbeats 400000 in
theorem zero_any (A : Option Addr) (c B : Nat) (l : List UInt8) (w : World) (hr : Rd w B A l) (hl : l.length ≤ 10000000) :
    Calls Try.prog 35 #[.slice A l.length c] w fun e w' => e = .returned (.bool (zeroL l)) ∧ w = w' := by
  go_enter Try.func35, Try.ntmps35
  go_wp2
  go_loop [7] (fun i => ∃ k : Nat, k ≤ l.length ∧ i = .int .i64 k ∧ zeroL (l.take k) = true) (fun i => l.length - (intOf i).toNat)
  case atStart => exact ⟨0, by omega, rfl, rfl⟩
  case round =>
    obtain ⟨k, hk, rfl, hz⟩ := hrel
    by_cases hlt : k < l.length
    · obtain ⟨b, off, rfl, hb, hc⟩ := hr.at_ (by omega)
      have hck := hc k hlt
      have HZ := Lib.hid hz
      clear hc hr hz
      by_cases h0 : l[k] = 0
      · have hne : ((l[k].toNat : Int) != 0) = false := by rw [h0]; rfl
        have H0 := Lib.hid h0
        clear h0
        go_wp2
        go_round
        case rel => exact ⟨k + 1, by omega, by go_num, by
          have h1 := HZ.out
          unfold zeroL at h1 ⊢
          rw [List.take_succ_eq_append_getElem hlt, List.all_append, h1]
          simp [H0.out]⟩
        case measure => simp [intOf]; omega
      · have hne : ((l[k].toNat : Int) != 0) = true := by
          have : l[k].toNat ≠ 0 := fun h => h0 (UInt8.toNat_inj.1 h)
          simp; omega
        have H0 : Hid (zeroL l = false) := by
          show zeroL l = false
          unfold zeroL
          rw [List.all_eq_false]
          exact ⟨l[k], List.getElem_mem hlt, by simpa using h0⟩
        clear h0
        go_wp2
        go_ret
        exact ⟨by rw [H0.out]; rfl, rfl⟩
    · obtain rfl : k = l.length := by omega
      rw [List.take_length] at hz
      go_wp2
      go_ret
      exact ⟨rfl, rfl⟩
end Go.Proofs.Ytmebbggmdfejkaa
