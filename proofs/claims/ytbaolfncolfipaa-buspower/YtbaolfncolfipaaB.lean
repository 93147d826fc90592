/- Contracts of slices.Grow and slices.Concat over bytes. -/
import Derived.Test.YtbaolfncolfipaaA
namespace Go.Proofs.Ytbaolfncolfipaa
set_option linter.unusedVariables false
open Go.RowKit
open Go.RowKit (wrap64)

theorem Try.info5 : (Try.prog.info? 5).map (fun i => (i.zero, i.size, i.bytes)) = some (some (.int .u8 0), 1, 1) := by kernel_rfl

theorem own_grow (w : World) (n : Nat) (h63 : n ≤ 100000000) (h0 : 0 < n) :
    Own (w.drew.alloc (.cells (Builtin.zeroCells (Value.int .u8 0).cells n ++ Builtin.zeroCells (Value.int .u8 0).cells (grownCap w n 0 5 - n)) 5)) w.heap.size 5 (.slice (some ⟨w.heap.size, 0, none⟩) 0 (grownCap w n 0 5)) [] := by
  refine World.ownsRow_made w.drew _ _ (Nat.le_refl _) (grownCap_le_maxLen w n 0 5 (by unfold maxLen; omega)) ?_
  have hge := grownCap_ge w n 0 5
  simp only [Array.size_append, size_zeroCells]
  show n * 1 + (grownCap w n 0 5 - n) * 1 = grownCap w n 0 5 * 1
  omega

set_option maxHeartbeats 400000 in
theorem grow_any (n : Nat) (w : World) (hn : n ≤ 100000000) :
    Calls Try.prog 71 #[.slice none 0 0, .int .i64 (n : Int)] w fun e w' => ∃ v, e = .returned v ∧ Own w' w.heap.size 5 v [] ∧ Below w.heap.size w w' := by
  obtain ⟨i0, hi, hz0, hz1, hz2⟩ := info_parts Try.info5
  by_cases h0 : n = 0
  · subst h0
    go_enter Try.func71, Try.ntmps71
    go_wp2
    go_ret
    exact ⟨_, rfl, World.ownsRow_nil _ _ _ _, Below.refl _ _⟩
  · have hrun : ∀ ty, (Builtin.append_ #[31, 3] ty #[.slice none 0 0, .int .i64 (n : Int)]).run Try.prog w = _ := fun ty => Lib.run_append_nil_zeros (P := Try.prog) w 31 3 ty 5 i0 (.int .u8 0) .i64 .i64 Try.underlying31 Try.underlying3 hi hz0 n (by omega) (by omega) (by omega) (by rw [hz2]; omega)
    have HO := Lib.hid (own_grow w n hn (by omega))
    have HB : Hid (∀ o, Below w.heap.size w (w.drew.alloc o)) := fun o => (Below.refl _ _).drew.alloc (Nat.le_refl _) _
    have hge := grownCap_ge w n 0 5
    clear hi hz0 hz1 hz2
    go_enter Try.func71, Try.ntmps71
    go_wp2_with (at_builtin; refine Lib.wpList_append_run _ rfl _ _ _ _ rfl _ _ rfl rfl _ _ (hrun _) ?_)
    go_ret
    exact ⟨_, rfl, HO.out, HB.out _⟩

/-- Slices of bytes at an address. -/
def Pts (w : World) (B : Nat) (A : Option Addr) (ps : List (List UInt8)) : Prop :=
  0 < ps.length → ∃ b off, A = some ⟨b, off, none⟩ ∧ b < B ∧ ∀ j (hj : j < ps.length), ∃ X c, w.cell? ⟨b, off + j, none⟩ = some (.slice X ps[j].length c) ∧ Rd w B X ps[j]
theorem Pts.below {w w' : World} {B : Nat} {A : Option Addr} {ps : List (List UInt8)} (h : Pts w B A ps) (hb : Below B w w') : Pts w' B A ps := fun h0 => by
  obtain ⟨b, off, e, hb1, hc⟩ := h h0
  refine ⟨b, off, e, hb1, fun j hj => ?_⟩
  obtain ⟨X, c, h1, h2⟩ := hc j hj
  exact ⟨X, c, (hb.cell hb1).trans h1, h2.below hb⟩

/-- How many bytes they are. -/
def sumLen (ps : List (List UInt8)) : Nat := ps.flatten.length
theorem flat_step {ps : List (List UInt8)} {k : Nat} (h : k < ps.length) : (ps.take k).flatten ++ ps[k] = (ps.take (k + 1)).flatten := by
  rw [List.take_succ_eq_append_getElem h, List.flatten_append]; simp
theorem sum_step {ps : List (List UInt8)} {k : Nat} (h : k < ps.length) : sumLen (ps.take k) + ps[k].length = sumLen (ps.take (k + 1)) := by
  unfold sumLen; rw [← flat_step h, List.length_append]
theorem sum_le (ps : List (List UInt8)) (k : Nat) : sumLen (ps.take k) ≤ sumLen ps := by
  unfold sumLen
  have h : ps.flatten = (ps.take k).flatten ++ (ps.drop k).flatten := by rw [← List.flatten_append, List.take_append_drop]
  rw [h, List.length_append]; omega

/-- Cells us at A, in memory of type T. -/
def Mem (T : TypeId) (w : World) (A : Option Addr) (us : List Value) : Prop :=
  0 < us.length → ∃ ad cs m, A = some ad ∧ w.heap[ad.block]? = some (.cells cs T m) ∧ ∀ j u, us[j]? = some u → w.cell? (ad.add j) = some u
theorem Mem.nil {T : TypeId} {w : World} {A : Option Addr} : Mem T w A [] := fun h => by simp at h
theorem Mem.rd {w : World} {A : Option Addr} {l : List UInt8} (h : Mem 5 w A (cBs l)) : Rd w w.heap.size A l := fun h0 => by
  obtain ⟨ad, cs, m, e, hh, hc⟩ := h (by rw [cBs_length]; exact h0)
  exact ⟨ad, e, (Array.getElem?_eq_some_iff.1 hh).1, hc⟩
theorem Mem.take {T : TypeId} {w : World} {A : Option Addr} {us : List Value} (h : Mem T w A us) (n : Nat) : Mem T w A (us.take n) := fun h0 => by
  rw [List.length_take] at h0
  obtain ⟨ad, cs, m, e, hh, hc⟩ := h (by omega)
  refine ⟨ad, cs, m, e, hh, fun j u hu => hc j u ?_⟩
  rw [List.getElem?_take] at hu
  split at hu
  · exact hu
  · cases hu
theorem cBs_take (l : List UInt8) (n : Nat) : cBs (l.take n) = (cBs l).take n := by simp [cBs, List.map_take]
theorem Mem.of_own {T : TypeId} {w : World} {base n : Nat} {v : Value} {us : List Value} (h : w.ownsRow base T 1 v n us) : ∃ A c, v = .slice A n c ∧ Mem T w A us ∧ n ≤ c := by
  rcases h.2 with ⟨rfl, h0⟩ | ⟨g, cap, cur, rfl, hbg, hh, hc, _⟩
  · have hl := h.1
    subst h0
    obtain rfl : us = [] := List.eq_nil_of_length_eq_zero (by simpa using hl)
    exact ⟨none, 0, rfl, Mem.nil, Nat.le_refl _⟩
  · exact ⟨_, cap, rfl, fun _ => ⟨⟨g, 0, none⟩, cur, _, rfl, hh, World.ownsRow.cells h rfl⟩, hc⟩

/-- Only the blocks gs, and what is new, have turned. -/
structure Turn (gs : List Nat) (w w' : World) : Prop where
  os : w'.os = w.os
  tape : w'.tape = w.tape
  output : w'.output = w.output
  size : w.heap.size ≤ w'.heap.size
  block : ∀ k, k < w.heap.size → k ∉ gs → w'.heap[k]? = w.heap[k]?
theorem Turn.refl (gs : List Nat) (w : World) : Turn gs w w := ⟨rfl, rfl, rfl, Nat.le_refl _, fun _ _ _ => rfl⟩
theorem Turn.put {gs : List Nat} {a w : World} (h : Turn gs a w) {p : Addr} (hp : p.block ∈ gs ∨ a.heap.size ≤ p.block) (u : Value) : Turn gs a (w.setCell p u) where
  os := h.os
  tape := h.tape
  output := h.output
  size := by simpa [World.setCell] using h.size
  block := fun k hk hne => by
    have hkp : k ≠ p.block := by
      rintro rfl
      rcases hp with hp | hp
      · exact hne hp
      · omega
    rw [Below.heap_setCell w p u k hkp]
    exact h.block k hk hne
theorem Turn.alloc {gs : List Nat} {a w : World} (h : Turn gs a w) (o : Obj) : Turn gs a (w.alloc o) where
  os := h.os
  tape := h.tape
  output := h.output
  size := by have := h.size; simp; omega
  block := fun k hk hne => (Below.heap_alloc w o k (by have := h.size; omega)).trans (h.block k hk hne)
theorem Turn.drew {gs : List Nat} {a w : World} (h : Turn gs a w) : Turn gs a w.drew := ⟨h.os, h.tape, h.output, h.size, h.block⟩
theorem Turn.below {gs : List Nat} {a w : World} {B : Nat} (h : Turn gs a w) (hg : ∀ g ∈ gs, B ≤ g) (hB : B ≤ a.heap.size) : Below B a w :=
  ⟨h.os, h.tape, h.output, h.size, fun k hk => h.block k (by omega) (fun hm => by have := hg k hm; omega)⟩
theorem Turn.of_below {gs : List Nat} {a w : World} {B : Nat} (h : Below B a w) (hB : a.heap.size ≤ B) : Turn gs a w := ⟨h.os, h.tape, h.output, h.size, fun k hk _ => h.block k (by omega)⟩
theorem Turn.trans {gs : List Nat} {a b c : World} (h : Turn gs a b) (k : Turn gs b c) : Turn gs a c :=
  ⟨k.os.trans h.os, k.tape.trans h.tape, k.output.trans h.output, Nat.le_trans h.size k.size, fun i hi hn => (k.block i (Nat.lt_of_lt_of_le hi h.size) hn).trans (h.block i hi hn)⟩
/-- Block g holds cells of another type than T. -/
def Else (T : TypeId) (w : World) (g : Nat) : Prop := ∃ t cs m, t ≠ T ∧ w.heap[g]? = some (.cells cs t m)
theorem Box.else_ {w : World} {g : Nat} {t T : TypeId} {cs : Array Value} (h : Box w g t cs) (hne : t ≠ T) : Else T w g := ⟨t, cs, _, hne, h⟩
theorem Mem.turn {T : TypeId} {gs : List Nat} {w w' : World} {A : Option Addr} {us : List Value} (h : Mem T w A us) (ht : Turn gs w w') (hg : ∀ g ∈ gs, Else T w g) : Mem T w' A us := fun h0 => by
  obtain ⟨ad, cs, m, e, hh, hc⟩ := h h0
  have hlt := (Array.getElem?_eq_some_iff.1 hh).1
  have hne : ad.block ∉ gs := fun hm => by
    obtain ⟨t, cs2, m2, hn, h2⟩ := hg _ hm
    rw [h2] at hh
    injection hh with hh
    injection hh with _ hh
    exact hn hh
  have hb := ht.block _ hlt hne
  exact ⟨ad, cs, m, e, hb.trans hh, fun j u hu => by rw [← hc j u hu]; exact World.cell?_of_block (by rw [step_block]; exact hb)⟩
theorem Mem.later {T : TypeId} {w w' : World} {A : Option Addr} {us : List Value} (h : Mem T w A us) (hb : Below w.heap.size w w') : Mem T w' A us :=
  h.turn (gs := []) (Turn.of_below hb (Nat.le_refl _)) (fun g hg => by cases hg)
theorem Box.later {w w' : World} {g : Nat} {t : TypeId} {cs : Array Value} (h : Box w g t cs) (hb : Below w.heap.size w w') : Box w' g t cs := h.under hb h.lt
theorem Box.turn {gs : List Nat} {w w' : World} {g : Nat} {t : TypeId} {cs : Array Value} (h : Box w g t cs) (ht : Turn gs w w') (hg : g ∉ gs) : Box w' g t cs := (ht.block g h.lt hg).trans h

/-- Bytes of the call's own are handed back. -/
def GaveC (w : World) (l : List UInt8) (e : Ending) (w' : World) : Prop := ∃ A c, e = .returned (.slice A l.length c) ∧ Mem 5 w' A (cBs l) ∧ l.length ≤ c ∧ Below w.heap.size w w'

set_option maxHeartbeats 1000000 in
theorem concat_any (A : Option Addr) (c : Nat) (ps : List (List UInt8)) (w : World) (hr : Pts w w.heap.size A ps) (hl : ps.length ≤ 100) (hm : sumLen ps ≤ 100000000) :
    Calls Try.prog 53 #[.slice A ps.length c] w (GaveC w ps.flatten) := by
  obtain ⟨i0, hi, hz0, hz1, hz2⟩ := info_parts Try.info5
  have HI := Lib.hid (And.intro hi (And.intro hz0 (And.intro hz1 hz2)))
  have HR := Lib.hid hr
  clear hr hi hz0 hz1 hz2
  go_enter Try.func53, Try.ntmps53
  go_wp2
  go_loop [3, 11] (fun n i => ∃ k : Nat, k ≤ ps.length ∧ i = .int .i64 k ∧ n = .int .i64 (sumLen (ps.take k) : Nat)) (fun _ i => ps.length - (intOf i).toNat)
  case atStart => exact ⟨0, by omega, rfl, rfl⟩
  case round =>
    obtain ⟨k, hk, rfl, rfl⟩ := hrel
    by_cases hlt : k < ps.length
    · obtain ⟨b, off, rfl, hb, hc⟩ := HR.out (by omega)
      obtain ⟨X, cx, hck, hx⟩ := hc k hlt
      have HS := Lib.hid (sum_step hlt)
      have hs1 := sum_le ps (k + 1)
      have hs2 := sum_step hlt
      clear hc hx
      generalize sumLen (ps.take k) = s0 at HS hs2 ⊢
      generalize ps[k].length = m at hck hs2 HS
      have hsm : s0 + m ≤ 100000000 := by omega
      clear hs2 hs1
      go_wp2
      go_round
      case rel => exact ⟨k + 1, by omega, by go_num, by rw [← HS.out]; simp⟩
      case measure => simp [intOf]; omega
    · obtain rfl : k = ps.length := by omega
      rw [List.take_length]
      generalize hM : sumLen ps = M at hm ⊢
      have HM := Lib.hid hM
      clear hM
      go_wp2_with fail
      refine (grow_any M w hm).mono ?_
      rintro e w1 ⟨v0, rfl, ho, hb1⟩
      have HO := Lib.hid ho
      have HB := Lib.hid hb1
      clear ho hb1
      go_wp2
      go_loopw [6, 27] (fun v i wr => ∃ j : Nat, j ≤ ps.length ∧ i = .int .i64 j ∧ Own wr w.heap.size 5 v (ps.take j).flatten ∧ Below w.heap.size w wr) (fun _ i _ => ps.length - (intOf i).toNat)
      case atStart => exact ⟨0, by omega, rfl, HO.out, HB.out⟩
      case round =>
        obtain ⟨j, hj, rfl, hown, hbel⟩ := hrel
        by_cases hjl : j < ps.length
        · obtain ⟨b, off, rfl, hb, hc⟩ := (HR.out.below hbel) (by omega)
          obtain ⟨X, cx, hck, hx⟩ := hc j hjl
          have HF := Lib.hid (flat_step hjl)
          have hs1 := sum_le ps (j + 1)
          have HL : Hid ((ps.take j).flatten.length + ps[j].length ≤ 100000000) := by
            show (ps.take j).flatten.length + ps[j].length ≤ 100000000
            have := sum_step hjl
            have := HM.out
            unfold sumLen at *
            omega
          have HOW := Lib.hid hown
          have HBE := Lib.hid hbel
          have HX := Lib.hid hx
          clear hc hx hs1 hown hbel
          generalize (ps.take j).flatten = l0 at HF HOW HL
          generalize ps[j] = y at HF hck HX HL
          go_wp2_with (at_builtin; refine wpList_app _ rfl (.tmp 31) (.tmp 32) 31 rfl w.heap.size 5 i0 Try.underlying31 HI.out.1 HI.out.2.1 HI.out.2.2.1 HI.out.2.2.2 _ l0 rfl HOW.out _ X cx y rfl HX.out HL.out HBE.out.size ?_; intro v' w2 h1 h2 h3; have HA := Lib.hid (And.intro h1 (HBE.out.grown h2 HBE.out.size (fun g hg => (World.ownsRow.lt HOW.out g hg).1))); clear h1 h2 h3 HOW HBE HX HL)
          go_roundw
          case rel => exact ⟨j + 1, by omega, by go_num, by rw [← HF.out]; exact HA.out.1, HA.out.2⟩
          case measure => simp [intOf]; omega
        · obtain rfl : j = ps.length := by omega
          rw [List.take_length] at hown
          obtain ⟨A', c', rfl, h1, h2⟩ := Mem.of_own hown
          have HA := Lib.hid (And.intro h1 (And.intro h2 hbel))
          clear h1 h2 hown hbel
          go_wp2
          go_ret
          exact ⟨_, _, rfl, HA.out.1, HA.out.2.1, HA.out.2.2⟩
end Go.Proofs.Ytbaolfncolfipaa
