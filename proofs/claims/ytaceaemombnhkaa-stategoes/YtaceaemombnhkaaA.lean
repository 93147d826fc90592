/- Contracts of pack.grown, pack.putNumber, pack.Int, pack.Bytes. -/
import Derived.Test.YtaceaemombnhkaaRows
import Derived.Test.YtaceaemombnhkaaOrg
namespace Go.Proofs.Ytaceaemombnhkaa
set_option linter.unusedVariables false
set_option maxRecDepth 100000
set_option linter.unusedSimpArgs false
open Go.RowKit
open Go.RowKit (wrap64)

theorem Try.info5 : (Try.prog.info? 5).map (fun i => (i.zero, i.size, i.bytes)) = some (some (.int .u8 0), 1, 1) := by kernel_rfl
theorem Try.size5 : (Try.prog.info? 5).map (·.size) = some 1 := by kernel_rfl
set_option maxHeartbeats 400000 in
theorem grown_any (A : Option Addr) (c m : Nat) (l : List UInt8) (w : World) (hr : Rd w w.heap.size A l) (hl : l.length ≤ 10000000) (hm : m ≤ 10000000) :
    Calls Try.prog 69 #[.slice A l.length c, .int .i64 m] w fun e w' =>
      e = .returned (.slice (some ⟨w.heap.size, 0, none⟩) (l.length + m) (l.length + m)) ∧ w.alloc (.cells (cBs (l ++ zeros m)).toArray 5) = w' := by
  have hmk := run_make_row' (P := Try.prog) 28 5 (.int .u8 0) 1 Try.underlying28 Try.info5 rfl .i64 .i64 (l.length + m) (by omega) (by omega)
  have hcp := run_copy_new (P := Try.prog) w 28 28 3 5 A c m l Try.underlying28 Try.size5 hr
  rw [Int.natCast_add] at hmk
  go_enter Try.func69, Try.ntmps69
  go_wp2
  go_ret
  exact ⟨rfl, rfl⟩
theorem grown_of (A : Option Addr) (c m : Nat) (mi : Int) (l : List UInt8) (w : World) (hr : Rd w w.heap.size A l) (hl : l.length ≤ 10000000) (hm : m ≤ 10000000) (hmi : mi = (m : Int)) :
    Calls Try.prog 69 #[.slice A l.length c, .int .i64 mi] w fun e w' =>
      e = .returned (.slice (some ⟨w.heap.size, 0, none⟩) (l.length + m) (l.length + m)) ∧ w.alloc (.cells (cBs (l ++ zeros m)).toArray 5) = w' := by
  subst hmi
  exact grown_any A c m l w hr hl hm
set_option maxHeartbeats 400000 in
theorem putNumber_any (off k c : Nat) (v : Int) (l : List UInt8) (W : World) (hoff : off + 8 ≤ l.length) (hk : 8 ≤ k) :
    Calls Try.prog 70 #[.slice (some ⟨W.heap.size, off, none⟩) k c, .int .i64 v] (W.alloc (.cells (cBs l).toArray 5)) fun e w' =>
      e = .returned (.tuple #[]) ∧ W.alloc (.cells (cBs (splice l off (le8 v))).toArray 5) = w' := by
  go_enter Try.func70, Try.ntmps70
  go_wp2
  go_loopw [4, 8] (fun left i wr => ∃ k : Nat, k ≤ 8 ∧ i = .int .i64 k ∧ left = .int .u64 ((u64 v / 256 ^ k : Nat) : Int) ∧ wr = W.alloc (.cells (cBs (splice l off (leK (u64 v) k))).toArray 5))
    (fun _ i _ => 8 - (intOf i).toNat)
  case atStart => exact ⟨0, by omega, rfl, by rw [wrap_u64]; simp, by rw [show leK (u64 v) 0 = [] from rfl, splice_nil]⟩
  case round =>
    obtain ⟨j, hj, rfl, rfl, rfl⟩ := hrel
    by_cases hlt : j < 8
    · have hlen : off + j < (splice l off (leK (u64 v) j)).length := by rw [length_splice _ _ _ (by rw [leK_length]; omega)]; omega
      have hg := cBs_get _ _ hlen
      obtain ⟨u0, hu0⟩ : ∃ u0, cB (splice l off (leK (u64 v) j))[off + j] = u0 := ⟨_, rfl⟩
      rw [hu0] at hg
      clear hu0 hlen
      go_wp2
      go_roundw
      case rel => exact ⟨j + 1, by omega, by go_num, by rw [Nat.pow_succ, ← Nat.div_div_eq_div_mul]; simp, by rw [splice_step l off (u64 v) j (by omega)]⟩
      case measure => simp [intOf]; omega
    · obtain rfl : j = 8 := by omega
      go_wp2
      go_end0
      exact ⟨rfl, rfl⟩
set_option maxHeartbeats 400000 in
theorem int_any (A : Option Addr) (c : Nat) (v : Int) (l : List UInt8) (w : World) (hr : Rd w w.heap.size A l) (hl : l.length ≤ 10000000) :
    Calls Try.prog 32 #[.slice A l.length c, .int .i64 v] w fun e w' =>
      e = .returned (.slice (some ⟨w.heap.size, 0, none⟩) (l.length + 8) (l.length + 8)) ∧ w.alloc (.cells (cBs (l ++ le8 v)).toArray 5) = w' := by
  have hsp := splice_end l (le8 v) 8 (le8_length v)
  have H := Lib.hid hsp
  clear hsp
  go_enter Try.func32, Try.ntmps32
  go_wp2_with fail
  refine (grown_any A c 8 l w hr hl (by omega)).mono ?_
  rintro e w' ⟨rfl, rfl⟩
  go_wp2_with fail
  refine (putNumber_any l.length 8 8 v (l ++ zeros 8) w (by simp [zeros_length]) (by omega)).mono ?_
  rintro e w' ⟨rfl, rfl⟩
  rw [H.out]
  go_wp2
  go_ret
  exact ⟨rfl, rfl⟩
/-- 'string(b)' of a slice that reads as l. -/
theorem conv_any (A : Option Addr) (c B : Nat) (l : List UInt8) (w : World) (hr : Rd w B A l) : (convert 28 9 (.slice A l.length c)).run Try.prog w = .ok (.string ⟨l.toArray⟩) w :=
  run_conv w 28 9 5 Try.underlying28 Try.underlying5 Try.underlying9 A c B l hr
theorem zeros_add (a b : Nat) : zeros (a + b) = zeros a ++ zeros b := by simp [zeros]
theorem splice_mid (l xs : List UInt8) (m k : Nat) (hm : xs.length = m) : splice (l ++ zeros (m + k)) l.length xs = (l ++ xs) ++ zeros k := by
  subst hm
  rw [zeros_add]
  simp [splice, zeros]
set_option maxHeartbeats 400000 in
theorem bytes_any (A X : Option Addr) (c d : Nat) (l x : List UInt8) (w : World) (hr : Rd w w.heap.size A l) (hx : Rd w w.heap.size X x) (hl : l.length ≤ 2000000) (hxl : x.length ≤ 2000000) :
    Calls Try.prog 72 #[.slice A l.length c, .slice X x.length d] w fun e w' =>
      e = .returned (.slice (some ⟨w.heap.size, 0, none⟩) (l.length + (8 + x.length)) (l.length + (8 + x.length))) ∧ w.alloc (.cells (cBs ((l ++ le8 x.length) ++ x)).toArray 5) = w' := by
  have H := Lib.hid (splice_mid l (le8 x.length) 8 x.length (le8_length _))
  have hcp := fun (D : Option Addr) (hD : 0 < x.length → D = some ⟨w.heap.size, (l ++ le8 x.length).length, none⟩) (dk dd : Nat) (hdk : dk = x.length) => run_copy_tail (P := Try.prog) w 28 28 3 5 D X d x.length dk dd (l ++ le8 x.length) x Try.underlying28 Try.size5 hx rfl hdk hD
  have HC := Lib.hid hcp
  clear hcp
  go_enter Try.func72, Try.ntmps72
  go_wp2_with fail
  refine (grown_of A c (8 + x.length) _ l w hr (by omega) (by omega) (by simp)).mono ?_
  rintro e w' ⟨rfl, rfl⟩
  go_wp2_with fail
  refine (putNumber_any l.length _ _ _ (l ++ zeros (8 + x.length)) w (by simp [zeros_length]) (by omega)).mono ?_
  rintro e w' ⟨rfl, rfl⟩
  rw [H.out]
  rcases Nat.eq_zero_or_pos x.length with h0 | h0
  · obtain rfl : x = [] := List.eq_nil_of_length_eq_zero h0
    have h1 := HC.out (some ⟨w.heap.size, 0, none⟩) (by simp) 0 0 rfl
    generalize l ++ le8 (([] : List UInt8).length : Int) ++ zeros ([] : List UInt8).length = L at h1 ⊢
    generalize hM : l ++ le8 (([] : List UInt8).length : Int) ++ [] = M at h1 ⊢
    have HM := Lib.hid hM
    clear hM
    simp only [List.length_nil] at h1
    clear H HC h0
    go_wp2
    go_ret
    exact ⟨rfl, by rw [HM.out]⟩
  · have h1 := HC.out (some ⟨w.heap.size, l.length + 8, none⟩) (by simp [le8_length]) (l.length + (8 + x.length) - (l.length + 8)) (l.length + (8 + x.length) - (l.length + 8)) (by omega)
    generalize l ++ le8 (x.length : Int) ++ zeros x.length = L at h1 ⊢
    generalize hM : l ++ le8 (x.length : Int) ++ x = M at h1 ⊢
    have HM := Lib.hid hM
    clear hM
    clear H HC
    have hne : ¬ x.length = 0 := by omega
    have hlt : 0 < x.length := h0
    go_wp2
    go_ret
    exact ⟨rfl, by rw [HM.out]⟩
theorem flag_any (A : Option Addr) (c : Nat) (is : Bool) (l : List UInt8) (w : World) (hr : Rd w w.heap.size A l) (hl : l.length ≤ 10000000) :
    Calls Try.prog 71 #[.slice A l.length c, .bool is] w fun e w' =>
      e = .returned (.slice (some ⟨w.heap.size, 0, none⟩) (l.length + 1) (l.length + 1)) ∧ w.alloc (.cells (cBs (l ++ [if is then 1 else 0])).toArray 5) = w' := by
  cases is
  · go_enter Try.func71, Try.ntmps71
    go_wp2_with fail
    refine (grown_any A c 1 l w hr hl (by omega)).mono ?_
    rintro e w' ⟨rfl, rfl⟩
    go_wp2
    go_ret
    exact ⟨rfl, rfl⟩
  · go_enter Try.func71, Try.ntmps71
    go_wp2_with fail
    refine (grown_any A c 1 l w hr hl (by omega)).mono ?_
    rintro e w' ⟨rfl, rfl⟩
    have hg : (cBs (l ++ zeros 1))[l.length]? = some (.int .u8 0) := by simp [cBs, zeros, cB]
    have H : Hid ((cBs (l ++ zeros 1)).set l.length (.int .u8 1) = cBs (l ++ [1])) := by
      show (cBs (l ++ zeros 1)).set l.length (.int .u8 1) = cBs (l ++ [1])
      simp [cBs, zeros, cB]
    go_wp2
    go_ret
    exact ⟨rfl, by rw [H.out]⟩
end Go.Proofs.Ytaceaemombnhkaa
