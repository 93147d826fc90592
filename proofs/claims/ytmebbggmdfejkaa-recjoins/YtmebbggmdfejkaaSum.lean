/-
  The check sum as plain mathematics, of no program: one turn, one step, the state behind bytes; what the bit operations of 32 bits are there.
-/
import Derived.WalkKit
import Derived.Laws.BitsAllLaws
namespace Go.Proofs.Ytmebbggmdfejkaa
set_option linter.unusedVariables false
open Go.RowKit

/-- One turn: by one bit to the right, and, if it was odd, exclusive or the polynomial. -/
def turn (n : Nat) : Nat := if n % 2 = 1 then (n / 2) ^^^ 2197175160 else n / 2
/-- k turns. -/
def turns : Nat → Nat → Nat
  | 0, n => n
  | k + 1, n => turn (turns k n)
/-- The state with a byte more. -/
def stp (n c : Nat) : Nat := turns 8 (n ^^^ c)
/-- The state behind bytes. -/
def sta (n : Nat) (l : List UInt8) : Nat := l.foldl (fun s c => stp s c.toNat) n
/-- The check sum. -/
def crcN (l : List UInt8) : Nat := 4294967295 - sta 4294967295 l

theorem xor_lt32 {a b : Nat} (ha : a < 4294967296) (hb : b < 4294967296) : a ^^^ b < 4294967296 :=
  Nat.xor_lt_two_pow (n := 32) ha hb
theorem turn_lt {n : Nat} (h : n < 4294967296) : turn n < 4294967296 := by
  unfold turn
  split
  · exact xor_lt32 (by omega) (by omega)
  · omega
theorem turns_lt {n : Nat} (h : n < 4294967296) : ∀ k, turns k n < 4294967296
  | 0 => h
  | k + 1 => turn_lt (turns_lt h k)
theorem stp_lt {n c : Nat} (h : n < 4294967296) (hc : c < 256) : stp n c < 4294967296 := turns_lt (xor_lt32 h (by omega)) 8
theorem sta_lt : ∀ (l : List UInt8) {n : Nat}, n < 4294967296 → sta n l < 4294967296
  | [], n, h => h
  | c :: r, n, h => sta_lt r (stp_lt h c.toNat_lt)
theorem sta_snoc (n : Nat) (l : List UInt8) (c : UInt8) : sta n (l ++ [c]) = stp (sta n l) c.toNat := by simp [sta]
theorem sta_append (n : Nat) (l m : List UInt8) : sta n (l ++ m) = sta (sta n l) m := by simp [sta]

/-- The page's example. -/
theorem crcN_example : crcN [49, 50, 51, 52, 53, 54, 55, 56, 57] = 3808858755 := by decide +kernel

/-- The lowest eight bits alone: the reference's way. -/
theorem low_xor (n c : Nat) (hc : c < 256) : n / 256 * 256 + ((n % 256) ^^^ c) = n ^^^ c := by
  have hlt : (n % 256) ^^^ c < 256 := Nat.xor_lt_two_pow (n := 8) (by omega) hc
  apply Nat.eq_of_testBit_eq
  intro i
  have e := Nat.testBit_two_pow_mul_add (i := 8) (n / 256) hlt i
  rw [show (2 : Nat) ^ 8 * (n / 256) + ((n % 256) ^^^ c) = n / 256 * 256 + ((n % 256) ^^^ c) by omega] at e
  rw [e, Nat.testBit_xor]
  split
  · rename_i hi
    rw [Nat.testBit_xor, show (256 : Nat) = 2 ^ 8 from rfl, Nat.testBit_mod_two_pow]
    simp [hi]
  · rename_i hi
    have h1 : c.testBit i = false := Nat.testBit_lt_two_pow (Nat.lt_of_lt_of_le hc (by
      have : (2 : Nat) ^ 8 ≤ 2 ^ i := Nat.pow_le_pow_right (by omega) (by omega)
      simpa using this))
    rw [Nat.testBit_xor, h1, show (256 : Nat) = 2 ^ 8 from rfl, Nat.testBit_div_two_pow]
    simp
    congr 1
    omega
end Go.Proofs.Ytmebbggmdfejkaa
