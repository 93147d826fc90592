/- Contracts of the reference's at, of xor.longest and of xor.Zero. -/
import Derived.Test.YtkjdinlebpkimaaRows
import Derived.Test.YtkjdinlebpkimaaPure
namespace Go.Proofs.Ytkjdinlebpkimaa
set_option linter.unusedVariables false
open Go.RowKit
open Go.RowKit (wrap64)

theorem at_any (A : Option Addr) (c B i : Nat) (l : List UInt8) (w : World) (hr : Rd w B A l) (hl : l.length ≤ 1000000) (hi : i ≤ 1000000) :
    Calls Try.prog 19 #[.slice A l.length c, .int .i64 i] w fun e w' => e = .returned (.int .u8 (at0 l i).toNat) ∧ w = w' := by
  by_cases h : i < l.length
  · obtain ⟨b, off, rfl, hb, hc⟩ := hr.at_ (by omega)
    have hci := hc i h
    rw [at0_in h]
    clear hc hr
    go_enter Try.func19, Try.ntmps19
    go_wp2
    go_ret
    exact ⟨rfl, rfl⟩
  · rw [at0_out (by omega)]
    clear hr
    go_enter Try.func19, Try.ntmps19
    go_wp2
    go_ret
    exact ⟨rfl, rfl⟩

/-- A slice of blocks at A, each of which reads as its bytes. -/
def Pts (w : World) (B : Nat) (A : Option Addr) (ps : List (List UInt8)) : Prop :=
  0 < ps.length → ∃ b off, A = some ⟨b, off, none⟩ ∧ b < B ∧ ∀ j (hj : j < ps.length), ∃ X c, w.cell? ⟨b, off + j, none⟩ = some (.slice X ps[j].length c) ∧ Rd w B X ps[j]

theorem Pts.below {w w' : World} {B : Nat} {A : Option Addr} {ps : List (List UInt8)} (h : Pts w B A ps) (hb : Below B w w') : Pts w' B A ps := fun h0 => by
  obtain ⟨b, off, rfl, hB, hc⟩ := h h0
  refine ⟨b, off, rfl, hB, fun j hj => ?_⟩
  obtain ⟨X, c, h1, h2⟩ := hc j hj
  exact ⟨X, c, (hb.cell hB).trans h1, h2.below hb⟩
theorem Pts.more {w : World} {B B' : Nat} {A : Option Addr} {ps : List (List UInt8)} (h : Pts w B A ps) (hb : B ≤ B') : Pts w B' A ps := fun h0 => by
  obtain ⟨b, off, rfl, hB, hc⟩ := h h0
  refine ⟨b, off, rfl, by omega, fun j hj => ?_⟩
  obtain ⟨X, c, h1, h2⟩ := hc j hj
  exact ⟨X, c, h1, h2.more hb⟩
theorem Pts.later {w w' : World} {A : Option Addr} {ps : List (List UInt8)} (h : Pts w w.heap.size A ps) (hb : Below w.heap.size w w') : Pts w' w'.heap.size A ps := (h.below hb).more hb.size

set_option maxHeartbeats 400000 in
theorem longest_any (A : Option Addr) (c B : Nat) (ps : List (List UInt8)) (w : World) (hr : Pts w B A ps) (hl : ps.length ≤ 1000000) :
    Calls Try.prog 18 #[.slice A ps.length c] w fun e w' => e = .returned (.int .i64 (most ps : Nat)) ∧ w = w' := by
  have HR := Lib.hid hr
  clear hr
  go_enter Try.func18, Try.ntmps18
  go_wp2
  go_loop [3, 8] (fun s i => ∃ k : Nat, k ≤ ps.length ∧ i = .int .i64 k ∧ s = .int .i64 (most (ps.take k) : Nat)) (fun _ i => ps.length - (intOf i).toNat)
  case atStart => exact ⟨0, by omega, rfl, rfl⟩
  case round =>
    obtain ⟨k, hk, rfl, rfl⟩ := hrel
    by_cases hlt : k < ps.length
    · obtain ⟨b, off, rfl, hb, hc⟩ := HR.out (by omega)
      obtain ⟨X, cx, hck, hx⟩ := hc k hlt
      have HT := Lib.hid (most_take hlt)
      clear hc hx
      generalize ps[k].length = n at hck HT
      generalize most (ps.take k) = m at HT ⊢
      go_wp2
      go_round
      case rel => exact ⟨k + 1, by omega, by go_num, by rw [HT.out]; congr 1; split <;> omega⟩
      case measure => simp [intOf]; omega
    · obtain rfl : k = ps.length := by omega
      rw [List.take_length]
      go_wp2
      go_ret
      exact ⟨rfl, rfl⟩

/-- Is each of them 0? -/
def zeroL (l : List UInt8) : Bool := l.all (· == 0)
set_option maxHeartbeats 400000 in
theorem zero_any (A : Option Addr) (c B : Nat) (l : List UInt8) (w : World) (hr : Rd w B A l) (hl : l.length ≤ 1000000) :
    Calls Try.prog 12 #[.slice A l.length c] w fun e w' => e = .returned (.bool (zeroL l)) ∧ w = w' := by
  go_enter Try.func12, Try.ntmps12
  go_wp2
  go_loop [7] (fun i => ∃ k : Nat, k ≤ l.length ∧ i = .int .i64 k ∧ zeroL (l.take k) = true) (fun i => l.length - (intOf i).toNat)
  case atStart => exact ⟨0, by omega, rfl, rfl⟩
  case round =>
    obtain ⟨k, hk, rfl, hz⟩ := hrel
    by_cases hlt : k < l.length
    · obtain ⟨b, off, rfl, hb, hc⟩ := hr.at_ (by omega)
      have hck := hc k hlt
      have HZ := Lib.hid hz
      clear hc hr hz
      by_cases h0 : l[k] = 0
      · have hne : ((l[k].toNat : Int) != 0) = false := by rw [h0]; rfl
        have H0 := Lib.hid h0
        clear h0
        go_wp2
        go_round
        case rel => exact ⟨k + 1, by omega, by go_num, by
          have h1 := HZ.out
          unfold zeroL at h1 ⊢
          rw [List.take_succ_eq_append_getElem hlt, List.all_append, h1]
          simp [H0.out]⟩
        case measure => simp [intOf]; omega
      · have hne : ((l[k].toNat : Int) != 0) = true := by
          have : l[k].toNat ≠ 0 := fun h => h0 (UInt8.toNat_inj.1 h)
          simp; omega
        have H0 : Hid (zeroL l = false) := by
          show zeroL l = false
          unfold zeroL
          rw [List.all_eq_false]
          exact ⟨l[k], List.getElem_mem hlt, by simpa using h0⟩
        clear h0
        go_wp2
        go_ret
        exact ⟨by rw [H0.out]; rfl, rfl⟩
    · obtain rfl : k = l.length := by omega
      rw [List.take_length] at hz
      go_wp2
      go_ret
      exact ⟨rfl, rfl⟩
end Go.Proofs.Ytkjdinlebpkimaa
