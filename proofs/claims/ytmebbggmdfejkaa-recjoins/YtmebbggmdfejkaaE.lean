/- Contracts of the reference's Int, Bytes, Pad, and of pack.Pad. -/
import Derived.Test.YtmebbggmdfejkaaC
namespace Go.Proofs.Ytmebbggmdfejkaa
set_option linter.unusedVariables false
set_option linter.unusedSimpArgs false
open Go.RowKit
open Go.RowKit (wrap64)

/-- A slice of the call's own is handed back. -/
def GaveO (w : World) (l : List UInt8) (e : Ending) (w' : World) : Prop := ∃ v, e = .returned v ∧ Own w' w.heap.size 5 v l ∧ Below w.heap.size w w'
theorem own_lit (w : World) (base : Nat) (l : List UInt8) (hb : base ≤ w.heap.size) (hl : l.length ≤ 10000000) : Own (w.alloc (.cells (cBs l).toArray 5)) base 5 (.slice (some ⟨w.heap.size, 0, none⟩) l.length l.length) l := by
  have h := World.ownsRow_lit (e := 5) (base := base) (size := 1) w (cBs l).toArray l.length hb (by unfold maxLen; omega) (by simp [cBs_length])
  exact h
/-- The byte that the reference lays in round k. -/
theorem byte_k (u k : Nat) : Value.int .u8 (((u / 256 ^ k : Nat) : Int) % 256) = cB (UInt8.ofNat (u / 256 ^ k)) := by
  unfold cB
  congr 1
theorem own_alloc {w : World} {base : Nat} {e : TypeId} {v : Value} {l : List UInt8} (h : Own w base e v l) (o : Obj) : Own (w.alloc o) base e v l := World.ownsRow.alloc h o
theorem u64_lt (v : Int) : u64 v < 18446744073709551616 := by unfold u64; omega
theorem wrap_div (d : Nat) (h : d < 18446744073709551616) : IntKind.u64.wrap ((d : Int) / 256) = ((d / 256 : Nat) : Int) := by
  have e : IntKind.u64.wrap ((d : Int) / 256) = ((d : Int) / 256) % 18446744073709551616 := rfl
  rw [e]
  omega
theorem rd_one (w : World) (n : Int) (b : UInt8) (h : n = (b.toNat : Int)) : Rd (w.alloc (.cells #[.int .u8 n] 5)) (w.heap.size + 1) (some ⟨w.heap.size, 0, none⟩) [b] := by
  subst h
  exact Rd.new w [b] 5
set_option maxHeartbeats 400000 in
theorem refInt_any (v : Int) (w : World) : Calls Try.prog 28 #[.int .i64 v] w (GaveO w (le8 v)) := by
  obtain ⟨i0, hi, hz0, hz1, hz2⟩ := info_parts Try.info5
  have H1 := Lib.hid hi
  have H2 := Lib.hid hz0
  have H3 := Lib.hid hz1
  have H4 := Lib.hid hz2
  clear hi hz0 hz1 hz2
  go_enter Try.func28, Try.ntmps28
  go_wp2
  go_loopw [3, 4, 5] (fun b n i wr => ∃ k : Nat, k ≤ 8 ∧ i = .int .i64 k ∧ n = .int .u64 ((u64 v / 256 ^ k : Nat) : Int) ∧ Own wr w.heap.size 5 b (leK (u64 v) k) ∧ Below w.heap.size w wr)
    (fun _ _ i _ => 8 - (intOf i).toNat)
  case atStart => exact ⟨0, by omega, rfl, by rw [wrap_u64]; simp, World.ownsRow_nil _ _ _ _, Below.refl _ _⟩
  case round =>
    obtain ⟨k, hk, rfl, rfl, ho, hb⟩ := hrel
    by_cases hlt : k < 8
    · have HO := Lib.hid ho
      have hs := hb.size
      clear ho
      have hdn : Hid (u64 v / 256 ^ (k + 1) = u64 v / 256 ^ k / 256) := by
        show u64 v / 256 ^ (k + 1) = _
        rw [Nat.pow_succ, ← Nat.div_div_eq_div_mul]
      have hll : Hid (leK (u64 v) k ++ [UInt8.ofNat (u64 v / 256 ^ k)] = leK (u64 v) (k + 1)) := (leK_succ _ _).symm
      have hkl := Lib.hid (leK_length (u64 v) k)
      have hdl : Hid (u64 v / 256 ^ k < 18446744073709551616) := Nat.lt_of_le_of_lt (Nat.div_le_self _ _) (u64_lt v)
      generalize u64 v / 256 ^ k = d at hdn hll hdl ⊢
      have hby : Hid ((d : Int) % 256 = ((UInt8.ofNat d).toNat : Int)) := by
        show (d : Int) % 256 = ((UInt8.ofNat d).toNat : Int)
        simp
      go_wp2_with (at_builtin; refine wpList_app _ rfl (.tmp 12) (.tmp 16) 22 rfl w.heap.size 5 i0 Try.underlying22 H1.out H2.out H3.out H4.out _ (leK (u64 v) k) rfl (own_alloc HO.out _) (wr.heap.size + 1) (some ⟨wr.heap.size, 0, none⟩) 1 [UInt8.ofNat d] rfl (rd_one _ _ _ hby.out) (by rw [hkl.out]; simp; omega) (by simp; omega) ?_; intro v' w' ho' hg hb')
      have R : Own w' w.heap.size 5 v' (leK (u64 v) (k + 1)) ∧ Below w.heap.size w w' := by
        rw [← hll.out]
        exact ⟨ho', (hb.alloc hs _).grown hg (by simp; omega) (fun g hg' => (World.ownsRow.lt HO.out g hg').1)⟩
      clear ho' hg hb' hb HO hll hby
      go_wp2
      go_roundw
      case rel => exact ⟨k + 1, by omega, by go_num, by rw [hdn.out, wrap_div d hdl.out], R.1, R.2⟩
      case measure => simp [intOf]; omega
    · obtain rfl : k = 8 := by omega
      go_wp2
      go_ret
      exact ⟨_, rfl, ho, hb⟩
set_option maxHeartbeats 400000 in
theorem refBytes_any (X : Option Addr) (c : Nat) (x : List UInt8) (w : World) (hx : Rd w w.heap.size X x) (hl : x.length ≤ 2000000) : Calls Try.prog 29 #[.slice X x.length c] w (GaveO w (le8 x.length ++ x)) := by
  obtain ⟨i0, hi, hz0, hz1, hz2⟩ := info_parts Try.info5
  have H1 := Lib.hid hi
  have H2 := Lib.hid hz0
  have H3 := Lib.hid hz1
  have H4 := Lib.hid hz2
  clear hi hz0 hz1 hz2
  go_enter Try.func29, Try.ntmps29
  go_wp2_with fail
  refine (refInt_any x.length w).mono ?_
  rintro e w1 ⟨v, rfl, ho, hb⟩
  have HO := Lib.hid ho
  have hs := hb.size
  have h8 := Lib.hid (le8_length x.length)
  have hx1 := hx.below hb
  clear ho
  go_wp2_with (at_builtin; refine wpList_app _ rfl (.tmp 5) (.tmp 6) 22 rfl w.heap.size 5 i0 Try.underlying22 H1.out H2.out H3.out H4.out _ (le8 x.length) rfl HO.out w.heap.size X c x rfl hx1 (by rw [h8.out]; omega) hs ?_; intro v' w' ho' hg hb')
  go_ret
  exact ⟨_, rfl, ho', hb.grown hg hs (fun g hg' => (World.ownsRow.lt HO.out g hg').1)⟩
/-- The unit that holds. -/
def unitOf (n : Int) : Nat := if n < 1 then 1 else if 65536 < n then 65536 else n.toNat
/-- How many bytes 0 fill up. -/
def padN (k u : Nat) : Nat := (u - k % u) % u
theorem unitOf_pos (n : Int) : 1 ≤ unitOf n ∧ unitOf n ≤ 65536 := by
  unfold unitOf
  split
  · omega
  · split <;> omega
theorem grown_gave (A : Option Addr) (c m : Nat) (mi : Int) (l : List UInt8) (w : World) (hr : Rd w w.heap.size A l) (hl : l.length ≤ 10000000) (hm : m ≤ 10000000) (hmi : mi = (m : Int)) :
    Calls Try.prog 40 #[.slice A l.length c, .int .i64 mi] w (Gave w (l ++ zeros m)) := by
  refine (grown_of A c m mi l w hr hl hm hmi).mono ?_
  rintro e w' ⟨rfl, rfl⟩
  exact ⟨_, _, by rw [List.length_append, zeros_length], (Rd.new w _ 5).more (by simp), by rw [List.length_append, zeros_length]; omega, (Below.refl _ _).alloc (Nat.le_refl _) _, Fresh.some (Nat.le_refl _)⟩
theorem gave_back {w w' : World} {l : List UInt8} {A : Option Addr} {c n : Nat} (hn : n = l.length) (h : Rd w' w'.heap.size A l) (hc : l.length ≤ c) (hb : Below w.heap.size w w') (hf : Fresh w.heap.size A) : Gave w l (.returned (.slice A n c)) w' := ⟨A, c, by rw [hn], h, hc, hb, hf⟩
theorem padN_zero {k u : Nat} (h : k % u = 0) : padN k u = 0 := by simp [padN, h]
theorem padN_pos {k u : Nat} (hu : 1 ≤ u) (h : ¬ k % u = 0) : padN k u = u - k % u := by
  have := Nat.mod_lt k (show u > 0 by omega)
  exact Nat.mod_eq_of_lt (by omega)
set_option maxHeartbeats 400000 in
theorem pad_mid (A : Option Addr) (c n : Nat) (l : List UInt8) (w : World) (hr : Rd w w.heap.size A l) (hl : l.length ≤ 2000000) (hn1 : 1 ≤ n) (hn2 : n ≤ 65536) :
    Calls Try.prog 25 #[.slice A l.length c, .int .i64 (n : Int)] w (Gave w (l ++ zeros (padN l.length n))) := by
  have hlt : l.length % n < n := Nat.mod_lt _ (by omega)
  have b1 : 0 ≤ (l.length : Int) % (n : Int) := by omega
  have b2 : (l.length : Int) % (n : Int) < (n : Int) := by omega
  have c1 : ¬ (n : Int) < 1 := by omega
  have c2 : ¬ 65536 < (n : Int) := by omega
  by_cases h0 : l.length % n = 0
  · have ht : ((l.length : Int) % (n : Int) == 0) = true := by simp; omega
    rw [padN_zero h0]
    clear h0
    go_enter Try.func25, Try.ntmps25
    go_wp2_with fail
    refine (grown_gave A c 0 0 l w hr (by omega) (by omega) rfl).mono ?_
    rintro e w' ⟨A', c', rfl, h1, h2, h3, h4⟩
    generalize hL : l ++ zeros 0 = L at h1 h2 ⊢
    have HL := Lib.hid hL
    clear hL
    go_wp2
    go_ret
    rw [HL.out]
    exact gave_back rfl h1 h2 h3 h4
  · have ht : ((l.length : Int) % (n : Int) == 0) = false := by simp; omega
    rw [padN_pos hn1 h0]
    have hm : Hid ((n : Int) - (l.length : Int) % (n : Int) = ((n - l.length % n : Nat) : Int)) := by
      show (n : Int) - (l.length : Int) % (n : Int) = ((n - l.length % n : Nat) : Int)
      omega
    have hm2 : Hid (n - l.length % n ≤ 10000000) := by
      show n - l.length % n ≤ 10000000
      omega
    clear h0
    go_enter Try.func25, Try.ntmps25
    go_wp2_with fail
    refine (grown_gave A c (n - l.length % n) _ l w hr (by omega) hm2.out hm.out).mono ?_
    rintro e w' ⟨A', c', rfl, h1, h2, h3, h4⟩
    generalize hL : l ++ zeros (n - l.length % n) = L at h1 h2 ⊢
    have HL := Lib.hid hL
    clear hL
    go_wp2
    go_ret
    rw [HL.out]
    exact gave_back rfl h1 h2 h3 h4
set_option maxHeartbeats 400000 in
theorem pad_low (A : Option Addr) (c : Nat) (u : Int) (l : List UInt8) (w : World) (hr : Rd w w.heap.size A l) (hl : l.length ≤ 2000000) (hu : u < 1) :
    Calls Try.prog 25 #[.slice A l.length c, .int .i64 u] w (Gave w (l ++ zeros (padN l.length 1))) := by
  rw [padN_zero (Nat.mod_one _)]
  go_enter Try.func25, Try.ntmps25
  go_wp2_with fail
  refine (grown_gave A c 0 0 l w hr (by omega) (by omega) rfl).mono ?_
  rintro e w' ⟨A', c', rfl, h1, h2, h3, h4⟩
  generalize hL : l ++ zeros 0 = L at h1 h2 ⊢
  have HL := Lib.hid hL
  clear hL
  go_wp2
  go_ret
  rw [HL.out]
  exact gave_back rfl h1 h2 h3 h4
set_option maxHeartbeats 400000 in
theorem pad_high (A : Option Addr) (c : Nat) (u : Int) (l : List UInt8) (w : World) (hr : Rd w w.heap.size A l) (hl : l.length ≤ 2000000) (hu : 65536 < u) :
    Calls Try.prog 25 #[.slice A l.length c, .int .i64 u] w (Gave w (l ++ zeros (padN l.length 65536))) := by
  have c1 : ¬ u < 1 := by omega
  have b1 : 0 ≤ (l.length : Int) % 65536 := by omega
  have b2 : (l.length : Int) % 65536 < 65536 := by omega
  by_cases h0 : l.length % 65536 = 0
  · have ht : ((l.length : Int) % 65536 == 0) = true := by simp; omega
    rw [padN_zero h0]
    clear h0
    go_enter Try.func25, Try.ntmps25
    go_wp2_with fail
    refine (grown_gave A c 0 0 l w hr (by omega) (by omega) rfl).mono ?_
    rintro e w' ⟨A', c', rfl, h1, h2, h3, h4⟩
    generalize hL : l ++ zeros 0 = L at h1 h2 ⊢
    have HL := Lib.hid hL
    clear hL
    go_wp2
    go_ret
    rw [HL.out]
    exact gave_back rfl h1 h2 h3 h4
  · have ht : ((l.length : Int) % 65536 == 0) = false := by simp; omega
    rw [padN_pos (by omega) h0]
    have hm : Hid (65536 - (l.length : Int) % 65536 = ((65536 - l.length % 65536 : Nat) : Int)) := by
      show 65536 - (l.length : Int) % 65536 = ((65536 - l.length % 65536 : Nat) : Int)
      omega
    have hm2 : Hid (65536 - l.length % 65536 ≤ 10000000) := by
      show 65536 - l.length % 65536 ≤ 10000000
      omega
    clear h0
    go_enter Try.func25, Try.ntmps25
    go_wp2_with fail
    refine (grown_gave A c (65536 - l.length % 65536) _ l w hr (by omega) hm2.out hm.out).mono ?_
    rintro e w' ⟨A', c', rfl, h1, h2, h3, h4⟩
    generalize hL : l ++ zeros (65536 - l.length % 65536) = L at h1 h2 ⊢
    have HL := Lib.hid hL
    clear hL
    go_wp2
    go_ret
    rw [HL.out]
    exact gave_back rfl h1 h2 h3 h4
theorem pad_any (A : Option Addr) (c : Nat) (u : Int) (l : List UInt8) (w : World) (hr : Rd w w.heap.size A l) (hl : l.length ≤ 2000000) :
    Calls Try.prog 25 #[.slice A l.length c, .int .i64 u] w (Gave w (l ++ zeros (padN l.length (unitOf u)))) := by
  unfold unitOf
  split
  · exact pad_low A c u l w hr hl (by assumption)
  · split
    · exact pad_high A c u l w hr hl (by assumption)
    · have e : u = (u.toNat : Int) := by omega
      have h := pad_mid A c u.toNat l w hr hl (by omega) (by omega)
      rwa [← e] at h
theorem pad_done {k u j : Nat} (hu : 1 ≤ u) (hj : j ≤ padN k u) (h : (k + j) % u = 0) : j = padN k u := by
  have hlt := Nat.mod_lt k (show u > 0 by omega)
  by_cases h0 : k % u = 0
  · rw [padN_zero h0] at hj ⊢
    omega
  · rw [padN_pos hu h0] at hj ⊢
    rcases Nat.lt_or_ge j (u - k % u) with h1 | h1
    · have e : (k + j) % u = (k % u + j) % u := by simp
      rw [e, Nat.mod_eq_of_lt (by omega)] at h
      omega
    · omega
theorem pad_more {k u j : Nat} (hu : 1 ≤ u) (hj : j ≤ padN k u) (h : ¬ (k + j) % u = 0) : j + 1 ≤ padN k u := by
  rcases Nat.lt_or_ge j (padN k u) with h1 | h1
  · exact h1
  · exfalso
    apply h
    have e : j = padN k u := by omega
    have hlt := Nat.mod_lt k (show u > 0 by omega)
    by_cases h0 : k % u = 0
    · rw [e, padN_zero h0]; exact h0
    · rw [e, padN_pos hu h0]
      have e2 : (k + (u - k % u)) % u = (k % u + (u - k % u)) % u := by simp
      rw [e2, show k % u + (u - k % u) = u by omega, Nat.mod_self]
theorem padN_le (k u : Nat) (hu : 1 ≤ u) : padN k u ≤ u := Nat.le_of_lt (Nat.mod_lt _ (by omega))
theorem zeros_one (j : Nat) : zeros j ++ [0] = zeros (j + 1) := by simp [zeros, List.replicate_succ']
/-- The length in a slot. -/
def lenOf : Value → Nat | .slice _ n _ => n | _ => 0
set_option maxHeartbeats 400000 in
/-- The reference's Pad, the unit clamped: from the loop on. -/
theorem refPad_mid (A : Option Addr) (c n : Nat) (l : List UInt8) (w : World) (hr : Rd w w.heap.size A l) (hl : l.length ≤ 2000000) (hn1 : 1 ≤ n) (hn2 : n ≤ 65536) :
    Calls Try.prog 31 #[.slice A l.length c, .int .i64 (n : Int)] w (GaveO w (l ++ zeros (padN l.length n))) := by
  obtain ⟨i0, hi, hz0, hz1, hz2⟩ := info_parts Try.info5
  have H1 := Lib.hid hi
  have H2 := Lib.hid hz0
  have H3 := Lib.hid hz1
  have H4 := Lib.hid hz2
  clear hi hz0 hz1 hz2
  have c1 : ¬ (n : Int) < 1 := by omega
  have c2 : ¬ 65536 < (n : Int) := by omega
  have H0 := Lib.hid (own_lit w w.heap.size [] (Nat.le_refl _) (by simp))
  have hra := hr.alloc (Nat.le_refl _) (.cells #[] 5)
  have hP := padN_le l.length n hn1
  go_enter Try.func31, Try.ntmps31
  go_wp2_with (at_builtin; refine wpList_app _ rfl (.tmp 10) (.tmp 11) 22 rfl w.heap.size 5 i0 Try.underlying22 H1.out H2.out H3.out H4.out _ [] rfl H0.out w.heap.size A c l rfl hra (by simp; omega) (by simp) ?_; intro v' w1 ho' hg hb')
  have R : Own w1 w.heap.size 5 v' l ∧ Below w.heap.size w w1 := ⟨ho', ((Below.refl _ _).alloc (Nat.le_refl _) _).grown hg (by simp) (fun k hk => Nat.le_of_eq (Option.some.inj hk))⟩
  clear ho' hg hb' H0 hra
  go_wp2
  go_loopw [5] (fun b wr => ∃ j : Nat, j ≤ padN l.length n ∧ Own wr w.heap.size 5 b (l ++ zeros j) ∧ Below w.heap.size w wr)
    (fun b _ => padN l.length n - (lenOf b - l.length))
  case atStart => exact ⟨0, by omega, by simpa [zeros] using R.1, R.2⟩
  case round =>
    obtain ⟨j, hj, ho, hb⟩ := hrel
    obtain ⟨A', c', rfl, hrd, hc', hfr⟩ := ho.rd
    have hN : (l ++ zeros j).length = l.length + j := by rw [List.length_append, zeros_length]
    have HO := Lib.hid ho
    have hs := hb.size
    obtain ⟨N, hNe⟩ : ∃ N, N = l.length + j := ⟨_, rfl⟩
    have hNl : N ≤ 5000000 := by omega
    rw [hN, ← hNe] at HO ⊢
    have HN : Hid (N = l.length + j) := hNe
    clear hrd hc' hfr ho
    have b1 : 0 ≤ (N : Int) % (n : Int) := by
      have := Nat.mod_lt N (show n > 0 by omega)
      omega
    by_cases h0 : N % n = 0
    · have ht : ((N : Int) % (n : Int) != 0) = false := by simp; omega
      have hd := pad_done hn1 hj (by rw [← hNe]; exact h0)
      rw [hd] at HO
      clear hN hNe h0 hd
      go_wp2
      go_ret
      exact ⟨_, rfl, HO.out, hb⟩
    · have ht : ((N : Int) % (n : Int) != 0) = true := by simp; omega
      have hm := pad_more hn1 hj (by rw [← hNe]; exact h0)
      have hll : Hid ((l ++ zeros j) ++ [0] = l ++ zeros (j + 1)) := by
        show (l ++ zeros j) ++ [0] = l ++ zeros (j + 1)
        rw [List.append_assoc, zeros_one]
      have hlen : Hid ((l ++ zeros j).length = N) := by rw [hNe]; exact hN
      clear hN hNe h0
      go_wp2_with (at_builtin; refine wpList_app _ rfl (.tmp 18) (.tmp 19) 22 rfl w.heap.size 5 i0 Try.underlying22 H1.out H2.out H3.out H4.out _ (l ++ zeros j) rfl (own_alloc HO.out _) (wr.heap.size + 1) (some ⟨wr.heap.size, 0, none⟩) 1 [0] rfl (rd_one _ _ _ rfl) (by rw [hlen.out]; simp; omega) (by simp; omega) ?_; intro v2 w2 ho2 hg2 hb2)
      have R2 : Own w2 w.heap.size 5 v2 (l ++ zeros (j + 1)) ∧ Below w.heap.size w w2 := by
        rw [← hll.out]
        exact ⟨ho2, (hb.alloc hs _).grown hg2 (by simp; omega) (fun g hg' => (World.ownsRow.lt HO.out g hg').1)⟩
      obtain ⟨A2, c2, rfl, _, _, _⟩ := R2.1.rd
      have hN2 : (l ++ zeros (j + 1)).length = N + 1 := by rw [List.length_append, zeros_length, HN.out]; omega
      rw [hN2] at R2 ⊢
      clear ho2 hg2 hb2 hb HO hll hlen hN2
      go_wp2
      go_roundw
      case rel => exact ⟨j + 1, hm, R2.1, R2.2⟩
      case measure => simp [lenOf]; have := HN.out; omega
set_option maxHeartbeats 400000 in
theorem refPad_high (A : Option Addr) (c : Nat) (u : Int) (l : List UInt8) (w : World) (hr : Rd w w.heap.size A l) (hl : l.length ≤ 2000000) (hu : 65536 < u) :
    Calls Try.prog 31 #[.slice A l.length c, .int .i64 u] w (GaveO w (l ++ zeros (padN l.length 65536))) := by
  obtain ⟨i0, hi, hz0, hz1, hz2⟩ := info_parts Try.info5
  have H1 := Lib.hid hi
  have H2 := Lib.hid hz0
  have H3 := Lib.hid hz1
  have H4 := Lib.hid hz2
  clear hi hz0 hz1 hz2
  have c1 : ¬ u < 1 := by omega
  have H0 := Lib.hid (own_lit w w.heap.size [] (Nat.le_refl _) (by simp))
  have hra := hr.alloc (Nat.le_refl _) (.cells #[] 5)
  have hP := padN_le l.length 65536 (by omega)
  go_enter Try.func31, Try.ntmps31
  go_wp2_with (at_builtin; refine wpList_app _ rfl (.tmp 10) (.tmp 11) 22 rfl w.heap.size 5 i0 Try.underlying22 H1.out H2.out H3.out H4.out _ [] rfl H0.out w.heap.size A c l rfl hra (by simp; omega) (by simp) ?_; intro v' w1 ho' hg hb')
  have R : Own w1 w.heap.size 5 v' l ∧ Below w.heap.size w w1 := ⟨ho', ((Below.refl _ _).alloc (Nat.le_refl _) _).grown hg (by simp) (fun k hk => Nat.le_of_eq (Option.some.inj hk))⟩
  clear ho' hg hb' H0 hra
  go_wp2
  go_loopw [5] (fun b wr => ∃ j : Nat, j ≤ padN l.length 65536 ∧ Own wr w.heap.size 5 b (l ++ zeros j) ∧ Below w.heap.size w wr)
    (fun b _ => padN l.length 65536 - (lenOf b - l.length))
  case atStart => exact ⟨0, by omega, by simpa [zeros] using R.1, R.2⟩
  case round =>
    obtain ⟨j, hj, ho, hb⟩ := hrel
    obtain ⟨A', c', rfl, hrd, hc', hfr⟩ := ho.rd
    have hN : (l ++ zeros j).length = l.length + j := by rw [List.length_append, zeros_length]
    have HO := Lib.hid ho
    have hs := hb.size
    obtain ⟨N, hNe⟩ : ∃ N, N = l.length + j := ⟨_, rfl⟩
    have hNl : N ≤ 5000000 := by omega
    rw [hN, ← hNe] at HO ⊢
    have HN : Hid (N = l.length + j) := hNe
    clear hrd hc' hfr ho
    have b1 : 0 ≤ (N : Int) % 65536 := by
      omega
    by_cases h0 : N % 65536 = 0
    · have ht : ((N : Int) % 65536 != 0) = false := by simp; omega
      have hd := pad_done (by omega) hj (by rw [← hNe]; exact h0)
      rw [hd] at HO
      clear hN hNe h0 hd
      go_wp2
      go_ret
      exact ⟨_, rfl, HO.out, hb⟩
    · have ht : ((N : Int) % 65536 != 0) = true := by simp; omega
      have hm := pad_more (by omega) hj (by rw [← hNe]; exact h0)
      have hll : Hid ((l ++ zeros j) ++ [0] = l ++ zeros (j + 1)) := by
        show (l ++ zeros j) ++ [0] = l ++ zeros (j + 1)
        rw [List.append_assoc, zeros_one]
      have hlen : Hid ((l ++ zeros j).length = N) := by rw [hNe]; exact hN
      clear hN hNe h0
      go_wp2_with (at_builtin; refine wpList_app _ rfl (.tmp 18) (.tmp 19) 22 rfl w.heap.size 5 i0 Try.underlying22 H1.out H2.out H3.out H4.out _ (l ++ zeros j) rfl (own_alloc HO.out _) (wr.heap.size + 1) (some ⟨wr.heap.size, 0, none⟩) 1 [0] rfl (rd_one _ _ _ rfl) (by rw [hlen.out]; simp; omega) (by simp; omega) ?_; intro v2 w2 ho2 hg2 hb2)
      have R2 : Own w2 w.heap.size 5 v2 (l ++ zeros (j + 1)) ∧ Below w.heap.size w w2 := by
        rw [← hll.out]
        exact ⟨ho2, (hb.alloc hs _).grown hg2 (by simp; omega) (fun g hg' => (World.ownsRow.lt HO.out g hg').1)⟩
      obtain ⟨A2, c2, rfl, _, _, _⟩ := R2.1.rd
      have hN2 : (l ++ zeros (j + 1)).length = N + 1 := by rw [List.length_append, zeros_length, HN.out]; omega
      rw [hN2] at R2 ⊢
      clear ho2 hg2 hb2 hb HO hll hlen hN2
      go_wp2
      go_roundw
      case rel => exact ⟨j + 1, hm, R2.1, R2.2⟩
      case measure => simp [lenOf]; have := HN.out; omega
set_option maxHeartbeats 400000 in
theorem refPad_low (A : Option Addr) (c : Nat) (u : Int) (l : List UInt8) (w : World) (hr : Rd w w.heap.size A l) (hl : l.length ≤ 2000000) (hu : u < 1) :
    Calls Try.prog 31 #[.slice A l.length c, .int .i64 u] w (GaveO w (l ++ zeros (padN l.length 1))) := by
  obtain ⟨i0, hi, hz0, hz1, hz2⟩ := info_parts Try.info5
  have H1 := Lib.hid hi
  have H2 := Lib.hid hz0
  have H3 := Lib.hid hz1
  have H4 := Lib.hid hz2
  clear hi hz0 hz1 hz2
  have H0 := Lib.hid (own_lit w w.heap.size [] (Nat.le_refl _) (by simp))
  have hra := hr.alloc (Nat.le_refl _) (.cells #[] 5)
  have hP := padN_le l.length 1 (by omega)
  go_enter Try.func31, Try.ntmps31
  go_wp2_with (at_builtin; refine wpList_app _ rfl (.tmp 10) (.tmp 11) 22 rfl w.heap.size 5 i0 Try.underlying22 H1.out H2.out H3.out H4.out _ [] rfl H0.out w.heap.size A c l rfl hra (by simp; omega) (by simp) ?_; intro v' w1 ho' hg hb')
  have R : Own w1 w.heap.size 5 v' l ∧ Below w.heap.size w w1 := ⟨ho', ((Below.refl _ _).alloc (Nat.le_refl _) _).grown hg (by simp) (fun k hk => Nat.le_of_eq (Option.some.inj hk))⟩
  clear ho' hg hb' H0 hra
  go_wp2
  go_loopw [5] (fun b wr => ∃ j : Nat, j ≤ padN l.length 1 ∧ Own wr w.heap.size 5 b (l ++ zeros j) ∧ Below w.heap.size w wr)
    (fun b _ => padN l.length 1 - (lenOf b - l.length))
  case atStart => exact ⟨0, by omega, by simpa [zeros] using R.1, R.2⟩
  case round =>
    obtain ⟨j, hj, ho, hb⟩ := hrel
    obtain ⟨A', c', rfl, hrd, hc', hfr⟩ := ho.rd
    have hN : (l ++ zeros j).length = l.length + j := by rw [List.length_append, zeros_length]
    have HO := Lib.hid ho
    have hs := hb.size
    obtain ⟨N, hNe⟩ : ∃ N, N = l.length + j := ⟨_, rfl⟩
    have hNl : N ≤ 5000000 := by omega
    rw [hN, ← hNe] at HO ⊢
    have HN : Hid (N = l.length + j) := hNe
    clear hrd hc' hfr ho
    have b1 : 0 ≤ (N : Int) % 1 := by
      omega
    by_cases h0 : N % 1 = 0
    · have hd := pad_done (by omega) hj (by rw [← hNe]; exact h0)
      rw [hd] at HO
      clear hN hNe h0 hd
      go_wp2
      go_ret
      exact ⟨_, rfl, HO.out, hb⟩
    · exact absurd (Nat.mod_one N) h0
theorem refPad_any (A : Option Addr) (c : Nat) (u : Int) (l : List UInt8) (w : World) (hr : Rd w w.heap.size A l) (hl : l.length ≤ 2000000) :
    Calls Try.prog 31 #[.slice A l.length c, .int .i64 u] w (GaveO w (l ++ zeros (padN l.length (unitOf u)))) := by
  unfold unitOf
  split
  · exact refPad_low A c u l w hr hl (by assumption)
  · split
    · exact refPad_high A c u l w hr hl (by assumption)
    · have e : u = (u.toNat : Int) := by omega
      have h := refPad_mid A c u.toNat l w hr hl (by omega) (by omega)
      rwa [← e] at h
end Go.Proofs.Ytmebbggmdfejkaa
