/- Contracts of the reference's Int, Bytes, Pad, and of pack.Pad. -/
import Derived.Test.YtaceaemombnhkaaC
namespace Go.Proofs.Ytaceaemombnhkaa
set_option linter.unusedVariables false
set_option maxRecDepth 100000
set_option linter.unusedSimpArgs false
open Go.RowKit
open Go.RowKit (wrap64)

/-- A slice of the call's own is handed back. -/
def GaveO (w : World) (l : List UInt8) (e : Ending) (w' : World) : Prop := ∃ v, e = .returned v ∧ Own w' w.heap.size 5 v l ∧ Below w.heap.size w w'
theorem own_lit (w : World) (base : Nat) (l : List UInt8) (hb : base ≤ w.heap.size) (hl : l.length ≤ 10000000) : Own (w.alloc (.cells (cBs l).toArray 5)) base 5 (.slice (some ⟨w.heap.size, 0, none⟩) l.length l.length) l := by
  have h := World.ownsRow_lit (e := 5) (base := base) (size := 1) w (cBs l).toArray l.length hb (by unfold maxLen; omega) (by simp [cBs_length])
  exact h
/-- The byte that the reference lays in round k. -/
theorem byte_k (u k : Nat) : Value.int .u8 (((u / 256 ^ k : Nat) : Int) % 256) = cB (UInt8.ofNat (u / 256 ^ k)) := by
  unfold cB
  congr 1
theorem own_alloc {w : World} {base : Nat} {e : TypeId} {v : Value} {l : List UInt8} (h : Own w base e v l) (o : Obj) : Own (w.alloc o) base e v l := World.ownsRow.alloc h o
theorem u64_lt (v : Int) : u64 v < 18446744073709551616 := by unfold u64; omega
theorem wrap_div (d : Nat) (h : d < 18446744073709551616) : IntKind.u64.wrap ((d : Int) / 256) = ((d / 256 : Nat) : Int) := by
  have e : IntKind.u64.wrap ((d : Int) / 256) = ((d : Int) / 256) % 18446744073709551616 := rfl
  rw [e]
  omega
theorem rd_one (w : World) (n : Int) (b : UInt8) (h : n = (b.toNat : Int)) : Rd (w.alloc (.cells #[.int .u8 n] 5)) (w.heap.size + 1) (some ⟨w.heap.size, 0, none⟩) [b] := by
  subst h
  exact Rd.new w [b] 5
set_option maxHeartbeats 400000 in
theorem refInt_any (v : Int) (w : World) : Calls Try.prog 35 #[.int .i64 v] w (GaveO w (le8 v)) := by
  obtain ⟨i0, hi, hz0, hz1, hz2⟩ := info_parts Try.info5
  have H1 := Lib.hid hi
  have H2 := Lib.hid hz0
  have H3 := Lib.hid hz1
  have H4 := Lib.hid hz2
  clear hi hz0 hz1 hz2
  go_enter Try.func35, Try.ntmps35
  go_wp2
  go_loopw [3, 4, 5] (fun b n i wr => ∃ k : Nat, k ≤ 8 ∧ i = .int .i64 k ∧ n = .int .u64 ((u64 v / 256 ^ k : Nat) : Int) ∧ Own wr w.heap.size 5 b (leK (u64 v) k) ∧ Below w.heap.size w wr)
    (fun _ _ i _ => 8 - (intOf i).toNat)
  case atStart => exact ⟨0, by omega, rfl, by rw [wrap_u64]; simp, World.ownsRow_nil _ _ _ _, Below.refl _ _⟩
  case round =>
    obtain ⟨k, hk, rfl, rfl, ho, hb⟩ := hrel
    by_cases hlt : k < 8
    · have HO := Lib.hid ho
      have hs := hb.size
      clear ho
      have hdn : Hid (u64 v / 256 ^ (k + 1) = u64 v / 256 ^ k / 256) := by
        show u64 v / 256 ^ (k + 1) = _
        rw [Nat.pow_succ, ← Nat.div_div_eq_div_mul]
      have hll : Hid (leK (u64 v) k ++ [UInt8.ofNat (u64 v / 256 ^ k)] = leK (u64 v) (k + 1)) := (leK_succ _ _).symm
      have hkl := Lib.hid (leK_length (u64 v) k)
      have hdl : Hid (u64 v / 256 ^ k < 18446744073709551616) := Nat.lt_of_le_of_lt (Nat.div_le_self _ _) (u64_lt v)
      generalize u64 v / 256 ^ k = d at hdn hll hdl ⊢
      have hby : Hid ((d : Int) % 256 = ((UInt8.ofNat d).toNat : Int)) := by
        show (d : Int) % 256 = ((UInt8.ofNat d).toNat : Int)
        simp
      go_wp2_with (at_builtin; refine wpList_app _ rfl (.tmp 12) (.tmp 16) 28 rfl w.heap.size 5 i0 Try.underlying28 H1.out H2.out H3.out H4.out _ (leK (u64 v) k) rfl (own_alloc HO.out _) (wr.heap.size + 1) (some ⟨wr.heap.size, 0, none⟩) 1 [UInt8.ofNat d] rfl (rd_one _ _ _ hby.out) (by rw [hkl.out]; simp; omega) (by simp; omega) ?_; intro v' w' ho' hg hb')
      have R : Own w' w.heap.size 5 v' (leK (u64 v) (k + 1)) ∧ Below w.heap.size w w' := by
        rw [← hll.out]
        exact ⟨ho', (hb.alloc hs _).grown hg (by simp; omega) (fun g hg' => (World.ownsRow.lt HO.out g hg').1)⟩
      clear ho' hg hb' hb HO hll hby
      go_wp2
      go_roundw
      case rel => exact ⟨k + 1, by omega, by go_num, by rw [hdn.out, wrap_div d hdl.out], R.1, R.2⟩
      case measure => simp [intOf]; omega
    · obtain rfl : k = 8 := by omega
      go_wp2
      go_ret
      exact ⟨_, rfl, ho, hb⟩
set_option maxHeartbeats 400000 in
theorem refBytes_any (X : Option Addr) (c : Nat) (x : List UInt8) (w : World) (hx : Rd w w.heap.size X x) (hl : x.length ≤ 2000000) : Calls Try.prog 37 #[.slice X x.length c] w (GaveO w (le8 x.length ++ x)) := by
  obtain ⟨i0, hi, hz0, hz1, hz2⟩ := info_parts Try.info5
  have H1 := Lib.hid hi
  have H2 := Lib.hid hz0
  have H3 := Lib.hid hz1
  have H4 := Lib.hid hz2
  clear hi hz0 hz1 hz2
  go_enter Try.func37, Try.ntmps37
  go_wp2_with fail
  refine (refInt_any x.length w).mono ?_
  rintro e w1 ⟨v, rfl, ho, hb⟩
  have HO := Lib.hid ho
  have hs := hb.size
  have h8 := Lib.hid (le8_length x.length)
  have hx1 := hx.below hb
  clear ho
  go_wp2_with (at_builtin; refine wpList_app _ rfl (.tmp 5) (.tmp 6) 28 rfl w.heap.size 5 i0 Try.underlying28 H1.out H2.out H3.out H4.out _ (le8 x.length) rfl HO.out w.heap.size X c x rfl hx1 (by rw [h8.out]; omega) hs ?_; intro v' w' ho' hg hb')
  go_ret
  exact ⟨_, rfl, ho', hb.grown hg hs (fun g hg' => (World.ownsRow.lt HO.out g hg').1)⟩
theorem gave_back {w w' : World} {l : List UInt8} {A : Option Addr} {c n : Nat} (hn : n = l.length) (h : Rd w' w'.heap.size A l) (hc : l.length ≤ c) (hb : Below w.heap.size w w') (hf : Fresh w.heap.size A) : Gave w l (.returned (.slice A n c)) w' := ⟨A, c, by rw [hn], h, hc, hb, hf⟩
/-- The length in a slot. -/
def lenOf : Value → Nat | .slice _ n _ => n | _ => 0
set_option maxHeartbeats 400000 in
theorem refFlag_any (is : Bool) (w : World) : Calls Try.prog 36 #[.bool is] w (GaveO w [if is then 1 else 0]) := by
  cases is
  · go_enter Try.func36, Try.ntmps36
    go_wp2
    go_ret
    exact ⟨_, rfl, own_lit w w.heap.size [0] (Nat.le_refl _) (by simp), (Below.refl _ _).alloc (Nat.le_refl _) _⟩
  · go_enter Try.func36, Try.ntmps36
    go_wp2
    go_ret
    exact ⟨_, rfl, own_lit w w.heap.size [1] (Nat.le_refl _) (by simp), (Below.refl _ _).alloc (Nat.le_refl _) _⟩
end Go.Proofs.Ytaceaemombnhkaa
