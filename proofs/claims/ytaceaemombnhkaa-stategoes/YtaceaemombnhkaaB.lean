/- Contracts of pack's Reader. -/
import Derived.Test.YtaceaemombnhkaaA
namespace Go.Proofs.Ytaceaemombnhkaa
set_option linter.unusedVariables false
set_option maxRecDepth 100000
set_option linter.unusedSimpArgs false
open Go.RowKit
open Go.RowKit (wrap64)

set_option maxHeartbeats 400000 in
theorem number_any (A : Option Addr) (c B : Nat) (l : List UInt8) (w : World) (hr : Rd w B A l) (h8 : l.length = 8) :
    Calls Try.prog 100 #[.slice A 8 c] w fun e w' => e = .returned (.int .i64 (wrap64 (numLE l : Nat))) ∧ w = w' := by
  obtain ⟨b, off, rfl, hb, hc⟩ := hr.at_ (by omega)
  have HC := Lib.hid hc
  have H8 := Lib.hid h8
  have hl8 : 8 ≤ l.length := by omega
  clear hc h8
  go_enter Try.func100, Try.ntmps100
  go_wp2
  go_loop [3, 5] (fun n i => ∃ k : Nat, k ≤ 8 ∧ i = .int .i64 k ∧ n = .int .u64 (numLE (l.take k) : Nat)) (fun _ i => 8 - (intOf i).toNat)
  case atStart => exact ⟨0, by omega, rfl, rfl⟩
  case round =>
    obtain ⟨k, hk, rfl, rfl⟩ := hrel
    by_cases hlt : k < 8
    · have hck := HC.out k (by omega)
      have hn : numLE (l.take k) < 256 ^ k := by
        have h := numLE_lt (l.take k)
        rwa [List.length_take, Nat.min_eq_left (by omega)] at h
      have HN := Lib.hid hn
      have hs : numLE (l.take (k + 1)) = numLE (l.take k) + l[k].toNat * 256 ^ k := by
        rw [List.take_succ_eq_append_getElem (by omega), numLE_snoc, List.length_take, Nat.min_eq_left (by omega)]
      have HS := Lib.hid hs
      clear hn hs
      go_wp2
      go_round
      case rel => exact ⟨k + 1, by omega, by go_num, by rw [or_step _ _ k hlt HN.out l[k].toNat_lt, HS.out]⟩
      case measure => simp [intOf]; omega
    · obtain rfl : k = 8 := by omega
      have ht : l.take 8 = l := List.take_of_length_le (by rw [H8.out]; omega)
      rw [ht]
      go_wp2
      go_ret
      exact ⟨rfl, rfl⟩
/-- The slice behind a cut 'b[n:]'. -/
def cutS (A : Option Addr) (k c n : Nat) : Value := .slice (if c = n then A else A.map (·.add n)) (k - n) (c - n)
theorem take_nil (n : Int) (w : World) : Calls Try.prog 99 #[.pointer none, .int .i64 n] w fun e w' => e = .returned (.tuple #[.slice none 0 0, .bool false]) ∧ w = w' := by
  go_enter Try.func99, Try.ntmps99
  go_wp2
  go_ret2
  exact ⟨rfl, rfl⟩
theorem take_err (n er : Int) (p : Nat) (a : Value) (w : World) (hb : Box w p 115 #[a, .int .i64 er]) (he : (er == 0) = false) :
    Calls Try.prog 99 #[.pointer (some ⟨p, 0, none⟩), .int .i64 n] w fun e w' => e = .returned (.tuple #[.slice none 0 0, .bool false]) ∧ w = w' := by
  have h1 : w.cell? ⟨p, 1, none⟩ = some (.int .i64 er) := hb.cell 1
  go_enter Try.func99, Try.ntmps99
  go_wp2
  go_ret2
  exact ⟨rfl, rfl⟩
theorem take_short (n : Nat) (ni : Int) (hni : ni = (n : Int)) (p : Nat) (A : Option Addr) (k c : Nat) (w : World) (hb : Box w p 115 #[.slice A k c, .int .i64 0]) (hn : k < n) :
    Calls Try.prog 99 #[.pointer (some ⟨p, 0, none⟩), .int .i64 ni] w fun e w' => e = .returned (.tuple #[.slice none 0 0, .bool false]) ∧ w.setCell ⟨p, 1, none⟩ (.int .i64 14) = w' := by
  subst hni
  have h0 : w.cell? ⟨p, 0, none⟩ = some (.slice A k c) := hb.cell 0
  have h1 : w.cell? ⟨p, 1, none⟩ = some (.int .i64 0) := hb.cell 1
  have f1 : w.frozen? ⟨p, 1, none⟩ = false := hb.frozen 1
  go_enter Try.func99, Try.ntmps99
  go_wp2
  go_ret2
  exact ⟨rfl, rfl⟩
theorem take_ok (n : Nat) (ni : Int) (hni : ni = (n : Int)) (p : Nat) (A : Option Addr) (k c : Nat) (w : World) (hb : Box w p 115 #[.slice A k c, .int .i64 0]) (hn : n ≤ k) (hk : k ≤ c) (_hc : c ≤ 10000000) :
    Calls Try.prog 99 #[.pointer (some ⟨p, 0, none⟩), .int .i64 ni] w fun e w' => e = .returned (.tuple #[.slice A n c, .bool true]) ∧
      w.setCell ⟨p, 0, none⟩ (cutS A k c n) = w' := by
  subst hni
  have h0 : w.cell? ⟨p, 0, none⟩ = some (.slice A k c) := hb.cell 0
  have h1 : w.cell? ⟨p, 1, none⟩ = some (.int .i64 0) := hb.cell 1
  have f0 : w.frozen? ⟨p, 0, none⟩ = false := hb.frozen 0
  have hnot : ¬ (k < n) := by omega
  unfold cutS
  go_enter Try.func99, Try.ntmps99
  go_wp2
  all_goals
    go_ret2
    exact ⟨rfl, rfl⟩
/-- A reader at block p: what is left, its error. -/
def Rdr (w : World) (p : Nat) (l : List UInt8) (er : Int) : Prop :=
  ∃ A c, Box w p 115 #[.slice A l.length c, .int .i64 er] ∧ Rd w p A l ∧ l.length ≤ c ∧ c ≤ 10000000
/-- What Int reads: the number, what is left, the error. -/
def rI (l : List UInt8) (er lo hi : Int) : Int × List UInt8 × Int :=
  if er = 0 then
    if l.length < 8 then (0, l, 14)
    else if wrap64 (numLE (l.take 8) : Nat) < lo ∨ hi < wrap64 (numLE (l.take 8) : Nat) then (0, l.drop 8, 13) else (wrap64 (numLE (l.take 8) : Nat), l.drop 8, 0)
  else (0, l, er)
theorem rInt_nil (lo hi : Int) (w : World) : Calls Try.prog 90 #[.pointer none, .int .i64 lo, .int .i64 hi] w fun e w' => e = .returned (.int .i64 0) ∧ w = w' := by
  go_enter Try.func90, Try.ntmps90
  go_wp2_with (go_at_call 99; refine (take_nil _ _).mono ?_; rintro e w' ⟨rfl, rfl⟩)
  go_ret
  exact ⟨rfl, rfl⟩
theorem rInt_err (lo hi er : Int) (p : Nat) (a : Value) (w : World) (hb : Box w p 115 #[a, .int .i64 er]) (he : (er == 0) = false) :
    Calls Try.prog 90 #[.pointer (some ⟨p, 0, none⟩), .int .i64 lo, .int .i64 hi] w fun e w' => e = .returned (.int .i64 0) ∧ w = w' := by
  go_enter Try.func90, Try.ntmps90
  go_wp2_with (go_at_call 99; refine (take_err _ er _ a _ hb he).mono ?_; rintro e w' ⟨rfl, rfl⟩)
  go_ret
  exact ⟨rfl, rfl⟩
theorem rInt_short (lo hi : Int) (p : Nat) (A : Option Addr) (k c : Nat) (w : World) (hb : Box w p 115 #[.slice A k c, .int .i64 0]) (hn : k < 8) :
    Calls Try.prog 90 #[.pointer (some ⟨p, 0, none⟩), .int .i64 lo, .int .i64 hi] w fun e w' => e = .returned (.int .i64 0) ∧ w.setCell ⟨p, 1, none⟩ (.int .i64 14) = w' := by
  go_enter Try.func90, Try.ntmps90
  go_wp2_with (go_at_call 99; refine (take_short 8 8 rfl _ A k c _ hb hn).mono ?_; rintro e w' ⟨rfl, rfl⟩)
  go_ret
  exact ⟨rfl, rfl⟩
set_option maxHeartbeats 400000 in
theorem rInt_ok (lo hi : Int) (p : Nat) (A : Option Addr) (c : Nat) (l : List UInt8) (w : World) (hb : Box w p 115 #[.slice A l.length c, .int .i64 0]) (hr : Rd w p A l) (hn : 8 ≤ l.length) (hk : l.length ≤ c) (hc : c ≤ 10000000)
    (n : Int) (hN : Hid (wrap64 (numLE (l.take 8) : Nat) = n)) (h1 : lo ≤ n) (h2 : n ≤ hi) :
    Calls Try.prog 90 #[.pointer (some ⟨p, 0, none⟩), .int .i64 lo, .int .i64 hi] w fun e w' => e = .returned (.int .i64 n) ∧
      w.setCell ⟨p, 0, none⟩ (cutS A l.length c 8) = w' := by
  go_enter Try.func90, Try.ntmps90
  go_wp2_with fail
  refine (take_ok 8 8 rfl _ A l.length c _ hb hn hk hc).mono ?_
  rintro e w' ⟨rfl, rfl⟩
  have hr' := (hr.take 8).setCell (p := ⟨p, 0, none⟩) (Nat.le_refl p) (cutS A l.length c 8)
  go_wp2_with fail
  refine (number_any A c p (l.take 8) _ hr' (by rw [List.length_take]; omega)).mono ?_
  rintro e w' ⟨rfl, rfl⟩
  rw [hN.out]
  go_wp2
  go_ret
  exact ⟨rfl, rfl⟩
set_option maxHeartbeats 400000 in
theorem rInt_form (lo hi : Int) (p : Nat) (A : Option Addr) (c : Nat) (l : List UInt8) (w : World) (hb : Box w p 115 #[.slice A l.length c, .int .i64 0]) (hr : Rd w p A l) (hn : 8 ≤ l.length) (hk : l.length ≤ c) (hc : c ≤ 10000000)
    (n : Int) (hN : Hid (wrap64 (numLE (l.take 8) : Nat) = n)) (h1 : n < lo ∨ hi < n) :
    Calls Try.prog 90 #[.pointer (some ⟨p, 0, none⟩), .int .i64 lo, .int .i64 hi] w fun e w' => e = .returned (.int .i64 0) ∧
      (w.setCell ⟨p, 0, none⟩ (cutS A l.length c 8)).setCell ⟨p, 1, none⟩ (.int .i64 13) = w' := by
  go_enter Try.func90, Try.ntmps90
  go_wp2_with fail
  refine (take_ok 8 8 rfl _ A l.length c _ hb hn hk hc).mono ?_
  rintro e w' ⟨rfl, rfl⟩
  have hr' := (hr.take 8).setCell (p := ⟨p, 0, none⟩) (Nat.le_refl p) (cutS A l.length c 8)
  go_wp2_with fail
  refine (number_any A c p (l.take 8) _ hr' (by rw [List.length_take]; omega)).mono ?_
  rintro e w' ⟨rfl, rfl⟩
  rw [hN.out]
  have hb2 := hb.store 0 (cutS A l.length c 8)
  have c1 : (w.setCell ⟨p, 0, none⟩ (cutS A l.length c 8)).cell? ⟨p, 1, none⟩ = some (.int .i64 0) := hb2.cell 1
  have f1 : (w.setCell ⟨p, 0, none⟩ (cutS A l.length c 8)).frozen? ⟨p, 1, none⟩ = false := hb2.frozen 1
  clear hb2 hb hr hr'
  by_cases hlt : n < lo
  · go_wp2
    go_ret
    exact ⟨rfl, rfl⟩
  · have hgt : hi < n := by omega
    go_wp2
    go_ret
    exact ⟨rfl, rfl⟩
theorem Rdr.cut {w' : World} {p : Nat} {A : Option Addr} {l : List UInt8} {c n : Nat} {er : Int} (hb : Box w' p 115 #[cutS A l.length c n, .int .i64 er]) (hr : Rd w' p A l) (hn : n ≤ l.length) (hk : l.length ≤ c) (hc : c ≤ 10000000) : Rdr w' p (l.drop n) er :=
  ⟨_, _, by unfold cutS at hb; rw [List.length_drop]; exact hb, hr.cut hn hk, by rw [List.length_drop]; omega, by omega⟩
theorem rInt_any (l : List UInt8) (er lo hi : Int) (p : Nat) (w : World) (h : Rdr w p l er) :
    Calls Try.prog 90 #[.pointer (some ⟨p, 0, none⟩), .int .i64 lo, .int .i64 hi] w fun e w' => e = .returned (.int .i64 (rI l er lo hi).1) ∧ Rdr w' p (rI l er lo hi).2.1 (rI l er lo hi).2.2 ∧ w.grownBy w' (some p) := by
  have h' := h
  obtain ⟨A, c, hb, hr, hk, hc⟩ := h'
  by_cases he : er = 0
  · subst he
    by_cases h8 : l.length < 8
    · have e1 : rI l 0 lo hi = (0, l, 14) := by simp [rI, h8]
      rw [e1]
      refine (rInt_short lo hi p A l.length c w hb h8).mono ?_
      rintro e w' ⟨rfl, rfl⟩
      exact ⟨rfl, ⟨A, c, hb.store 1 _, hr.setCell (p := ⟨p, 1, none⟩) (Nat.le_refl p) _, hk, hc⟩, turned_store (World.grownBy.refl w _) (.inl rfl) _⟩
    · by_cases hf : wrap64 (numLE (l.take 8) : Nat) < lo ∨ hi < wrap64 (numLE (l.take 8) : Nat)
      · have e1 : rI l 0 lo hi = (0, l.drop 8, 13) := by simp [rI, h8, hf]
        rw [e1]
        refine (rInt_form lo hi p A c l w hb hr (by omega) hk hc _ (Lib.hid rfl) hf).mono ?_
        rintro e w' ⟨rfl, rfl⟩
        have hR : Rdr ((w.setCell ⟨p, 0, none⟩ (cutS A l.length c 8)).setCell ⟨p, 1, none⟩ (.int .i64 13)) p (l.drop 8) 13 :=
          Rdr.cut (A := A) (c := c) (n := 8) ((hb.store 0 _).store 1 _) ((hr.setCell (p := ⟨p, 0, none⟩) (Nat.le_refl p) _).setCell (p := ⟨p, 1, none⟩) (Nat.le_refl p) _) (by omega) hk hc
        have g1 : w.grownBy (w.setCell ⟨p, 0, none⟩ (cutS A l.length c 8)) (some p) := turned_store (World.grownBy.refl w _) (.inl rfl) _
        have g2 : w.grownBy ((w.setCell ⟨p, 0, none⟩ (cutS A l.length c 8)).setCell ⟨p, 1, none⟩ (.int .i64 13)) (some p) := turned_store g1 (.inl rfl) _
        exact ⟨rfl, hR, g2⟩
      · have e1 : rI l 0 lo hi = (wrap64 (numLE (l.take 8) : Nat), l.drop 8, 0) := by simp only [rI, if_pos, if_neg h8, if_neg hf]
        rw [e1]
        refine (rInt_ok lo hi p A c l w hb hr (by omega) hk hc _ (Lib.hid rfl) (by omega) (by omega)).mono ?_
        rintro e w' ⟨rfl, rfl⟩
        have hR : Rdr (w.setCell ⟨p, 0, none⟩ (cutS A l.length c 8)) p (l.drop 8) 0 :=
          Rdr.cut (A := A) (c := c) (n := 8) (hb.store 0 _) (hr.setCell (p := ⟨p, 0, none⟩) (Nat.le_refl p) _) (by omega) hk hc
        have g1 : w.grownBy (w.setCell ⟨p, 0, none⟩ (cutS A l.length c 8)) (some p) := turned_store (World.grownBy.refl w _) (.inl rfl) _
        exact ⟨rfl, hR, g1⟩
  · have e1 : rI l er lo hi = (0, l, er) := by simp [rI, he]
    rw [e1]
    refine (rInt_err lo hi er p _ w hb (by simpa using he)).mono ?_
    rintro e w' ⟨rfl, rfl⟩
    exact ⟨rfl, h, World.grownBy.refl w _⟩
end Go.Proofs.Ytaceaemombnhkaa
