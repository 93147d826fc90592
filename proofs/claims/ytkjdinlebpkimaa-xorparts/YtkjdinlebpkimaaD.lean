/- Contracts of the reference's Into, Of, Fit. -/
import Derived.Test.YtkjdinlebpkimaaC
namespace Go.Proofs.Ytkjdinlebpkimaa
set_option linter.unusedVariables false
open Go.RowKit
open Go.RowKit (wrap64)

theorem own_alloc {w : World} {base : Nat} {e : TypeId} {v : Value} {l : List UInt8} (h : Own w base e v l) (o : Obj) : Own (w.alloc o) base e v l := World.ownsRow.alloc h o
theorem rd_one (w : World) (n : Int) (b : UInt8) (h : n = (b.toNat : Int)) : Rd (w.alloc (.cells #[.int .u8 n] 5)) (w.heap.size + 1) (some ⟨w.heap.size, 0, none⟩) [b] := by
  subst h
  exact Rd.new w [b] 5
theorem xor_int (a b : UInt8) : bits .xor .u8 (a.toNat : Int) (b.toNat : Int) = ((a ^^^ b).toNat : Int) := by
  rw [u8_xor_nat _ _ a.toNat_lt b.toNat_lt, UInt8.toNat_xor]
theorem gave_of_own {w w' : World} {v : Value} {l : List UInt8} (h : Own w' w.heap.size 5 v l) (hb : Below w.heap.size w w') : Gave w l (.returned v) w' := by
  obtain ⟨A, c, rfl, hr, _, _⟩ := h.rd
  exact ⟨A, c, rfl, hr, hb⟩

set_option maxHeartbeats 400000 in
theorem rinto_gave (A B : Option Addr) (ca cb : Nat) (a b : List UInt8) (w : World) (ha : Rd w w.heap.size A a) (hb : Rd w w.heap.size B b) (hla : a.length ≤ 100000) (hlb : b.length ≤ 100000) :
    Calls Try.prog 11 #[.slice A a.length ca, .slice B b.length cb] w (Gave w (intoL a b)) := by
  obtain ⟨i0, hi, hz0, hz1, hz2⟩ := info_parts Try.info5
  have H1 := Lib.hid hi
  have H2 := Lib.hid hz0
  have H3 := Lib.hid hz1
  have H4 := Lib.hid hz2
  have HA := Lib.hid ha
  have HB := Lib.hid hb
  clear hi hz0 hz1 hz2 ha hb
  go_enter Try.func11, Try.ntmps11
  go_wp2
  go_loopw [5, 6] (fun v i wr => ∃ k : Nat, k ≤ max a.length b.length ∧ i = .int .i64 k ∧ Own wr w.heap.size 5 v (fitL (intoL a b) k) ∧ Below w.heap.size w wr) (fun _ i _ => max a.length b.length - (intOf i).toNat)
  case atStart => exact ⟨0, by omega, rfl, World.ownsRow_nil _ _ _ _, Below.refl _ _⟩
  case round =>
    obtain ⟨k, hk, rfl, ho, hbl⟩ := hrel
    by_cases hlt : k < max a.length b.length
    · have HO := Lib.hid ho
      have HBL := Lib.hid hbl
      have HS := Lib.hid hbl.size
      have HAR := Lib.hid (HA.out.below hbl)
      have HBR := Lib.hid (HB.out.below hbl)
      have HF : Hid (fitL (intoL a b) (k + 1) = fitL (intoL a b) k ++ [at0 a k ^^^ at0 b k]) := by
        show _ = _
        rw [fitL_succ, at0_intoL]
      have HN := Lib.hid (fitL_length (intoL a b) k)
      have HX := Lib.hid (xor_int (at0 a k) (at0 b k))
      have hkl : k ≤ 100000 := by omega
      clear ho hbl
      by_cases hka : k < a.length
      · clear hlt
        go_wp2_with fail
        refine (at_any A ca _ k a _ HAR.out (by omega) (by omega)).mono ?_
        rintro e w' ⟨rfl, rfl⟩
        go_wp2_with fail
        refine (at_any B cb _ k b _ HBR.out (by omega) (by omega)).mono ?_
        rintro e w' ⟨rfl, rfl⟩
        go_wp2_with (first | (at_builtin; refine wpList_app _ rfl (.tmp 19) (.tmp 27) 23 rfl w.heap.size 5 i0 Try.underlying23 H1.out H2.out H3.out H4.out _ (fitL (intoL a b) k) rfl (own_alloc HO.out _) (wr.heap.size + 1) (some ⟨wr.heap.size, 0, none⟩) 1 [at0 a k ^^^ at0 b k] rfl (rd_one _ _ _ HX.out) (by rw [HN.out]; simp; omega) (Nat.le_trans HS.out (by simp)) ?_; intro v' w' ho' hg hb'))
        have R := Lib.hid (And.intro ho' ((HBL.out.alloc HS.out _).grown hg (Nat.le_trans HS.out (by simp)) (fun g hg' => (World.ownsRow.lt HO.out g hg').1)))
        rw [← HF.out] at R
        clear ho' hg hb' HO HBL HS HAR HBR HF HN HX
        go_wp2
        go_roundw
        case rel => exact ⟨k + 1, by omega, by go_num, R.out.1, R.out.2⟩
        case measure => simp [intOf]; omega
      · have hkb : k < b.length := by omega
        clear hlt
        go_wp2_with fail
        refine (at_any A ca _ k a _ HAR.out (by omega) (by omega)).mono ?_
        rintro e w' ⟨rfl, rfl⟩
        go_wp2_with fail
        refine (at_any B cb _ k b _ HBR.out (by omega) (by omega)).mono ?_
        rintro e w' ⟨rfl, rfl⟩
        go_wp2_with (first | (at_builtin; refine wpList_app _ rfl (.tmp 19) (.tmp 27) 23 rfl w.heap.size 5 i0 Try.underlying23 H1.out H2.out H3.out H4.out _ (fitL (intoL a b) k) rfl (own_alloc HO.out _) (wr.heap.size + 1) (some ⟨wr.heap.size, 0, none⟩) 1 [at0 a k ^^^ at0 b k] rfl (rd_one _ _ _ HX.out) (by rw [HN.out]; simp; omega) (Nat.le_trans HS.out (by simp)) ?_; intro v' w' ho' hg hb'))
        have R := Lib.hid (And.intro ho' ((HBL.out.alloc HS.out _).grown hg (Nat.le_trans HS.out (by simp)) (fun g hg' => (World.ownsRow.lt HO.out g hg').1)))
        rw [← HF.out] at R
        clear ho' hg hb' HO HBL HS HAR HBR HF HN HX
        go_wp2
        go_roundw
        case rel => exact ⟨k + 1, by omega, by go_num, R.out.1, R.out.2⟩
        case measure => simp [intOf]; omega
    · obtain rfl : k = max a.length b.length := by omega
      have hka : ¬ max a.length b.length < a.length := by omega
      have hkb : ¬ max a.length b.length < b.length := by omega
      have HE := Lib.hid (fitL_self (intoL a b))
      rw [intoL_length] at HE
      rw [HE.out] at ho
      have HO := Lib.hid ho
      have HBL := Lib.hid hbl
      clear ho hbl HE
      go_wp2
      go_ret
      exact gave_of_own HO.out HBL.out
end Go.Proofs.Ytkjdinlebpkimaa
