/- What each call of a member keeps: no more zones in use than limit; the contract of 'much'. -/
import Derived.Test.YtcongcnoeklpjaaR
namespace Go.Proofs.Ytcongcnoeklpjaa
set_option linter.unusedVariables false
set_option linter.unusedSimpArgs false
open Go.RowKit
open Go.RowKit (wrap64)

/-- Behind a call no more zones are in use than limit. -/
def StepD (p zb cap blk : Nat) (limit : Int) (bad : Nat) (w : World) (e : Ending) (w' : World) : Prop :=
  ∃ x : Int, e = .returned (.int .i64 x) ∧ ∃ bad' zs', bad' ≤ bad + 1 ∧ DevAt w' p zb cap blk limit bad' zs' ∧ (nAct cap zs' : Int) ≤ limit ∧ Turn [p, zb] w w'

section
variable {p zb cap blk : Nat} {limit : Int} {bad : Nat} {zs : List Zs}
theorem ErrD.step {x : Int} {w w' : World} {e : Ending} (hn : (nAct cap zs : Int) ≤ limit) (h : ErrD p zb cap blk limit bad zs x w e w') : StepD p zb cap blk limit bad w e w' :=
  ⟨x, h.1, bad + 1, zs, Nat.le_refl _, h.2.1, hn, h.2.2⟩
theorem PutD.step {i k safe : Nat} {done : Bool} {D : List UInt8} {w w' : World} {e : Ending} (hi : i < zs.length) (hn : (nAct cap zs : Int) ≤ limit)
    (ha : actB cap k done = true → actB cap zs[i].k zs[i].done = false → (nAct cap zs : Int) < limit) (h : PutD p zb cap blk limit bad zs i k safe done D w e w') : StepD p zb cap blk limit bad w e w' := by
  obtain ⟨A, c, rfl, h1, h2⟩ := h
  refine ⟨0, rfl, bad, _, by omega, h1, ?_, h2⟩
  have hs := nAct_set cap ⟨k, safe, done, D, A, c⟩ zs i hi
  simp only at hs
  cases e1 : actB cap k done <;> cases e2 : actB cap zs[i].k zs[i].done <;> simp only [e1, e2, Bool.false_eq_true, if_true, if_false] at hs
  · omega
  · omega
  · have := ha e1 e2
    omega
  · omega

theorem append_step (z : Int) (B : Option Addr) (cb : Nat) (b : List UInt8) (w : World) (h : DevAt w p zb cap blk limit bad zs) (hbad : bad ≤ 1000000) (hm : b.length ≤ maxLen) (hr : Rd w w.heap.size B b) (hn : (nAct cap zs : Int) ≤ limit) :
    Calls Try.prog 9 #[.pointer (some ⟨p, 0, none⟩), .int .i64 z, .slice B b.length cb] w (StepD p zb cap blk limit bad w) := by
  by_cases hz : z < 0 ∨ (zs.length : Int) ≤ z
  · exact (append_range z _ w h hbad hz).mono fun e w' he => he.step hn
  · obtain ⟨i, rfl⟩ : ∃ i : Nat, z = (i : Int) := ⟨z.toNat, by omega⟩
    have hi : i < zs.length := by omega
    by_cases hE : appE cap blk zs[i].k b.length zs[i].done = 0
    · cases ht : tooB cap limit zs (zs[i].k + b.length / blk) zs[i].done zs[i]
      · refine (append_fits i hi B cb b w h hm hr hE ht).mono fun e w' he => he.step hi hn fun h1 h2 => ?_
        simp [tooB, h1, h2] at ht
        exact ht
      · exact (append_many i hi B cb b w h hbad hm hr hE ht).mono fun e w' he => he.step hn
    · exact (append_zone i hi B cb b w h hbad hm hE).mono fun e w' he => he.step hn
theorem reset_step (z : Int) (w : World) (h : DevAt w p zb cap blk limit bad zs) (hbad : bad ≤ 1000000) (hn : (nAct cap zs : Int) ≤ limit) :
    Calls Try.prog 11 #[.pointer (some ⟨p, 0, none⟩), .int .i64 z] w (StepD p zb cap blk limit bad w) := by
  by_cases hz : z < 0 ∨ (zs.length : Int) ≤ z
  · exact (reset_range z w h hbad hz).mono fun e w' he => he.step hn
  · obtain ⟨i, rfl⟩ : ∃ i : Nat, z = (i : Int) := ⟨z.toNat, by omega⟩
    have hi : i < zs.length := by omega
    exact (reset_fits i hi w h).mono fun e w' he => he.step hi hn fun h1 _ => by simp [actB] at h1
theorem finish_step (z : Int) (w : World) (h : DevAt w p zb cap blk limit bad zs) (hbad : bad ≤ 1000000) (hn : (nAct cap zs : Int) ≤ limit) :
    Calls Try.prog 12 #[.pointer (some ⟨p, 0, none⟩), .int .i64 z] w (StepD p zb cap blk limit bad w) := by
  by_cases hz : z < 0 ∨ (zs.length : Int) ≤ z
  · exact (finish_range z w h hbad hz).mono fun e w' he => he.step hn
  · obtain ⟨i, rfl⟩ : ∃ i : Nat, z = (i : Int) := ⟨z.toNat, by omega⟩
    have hi : i < zs.length := by omega
    exact (finish_fits i hi w h).mono fun e w' he => he.step hi hn fun h1 _ => by simp [actB] at h1
theorem flush_step (w : World) (h : DevAt w p zb cap blk limit bad zs) (hn : (nAct cap zs : Int) ≤ limit) :
    Calls Try.prog 10 #[.pointer (some ⟨p, 0, none⟩)] w (StepD p zb cap blk limit bad w) :=
  (flush_dev w h).mono fun e w' ⟨h1, zs', h2, h3, h4⟩ => ⟨0, h1, bad, zs', by omega, h3, by rw [h2.act cap]; exact hn, h4⟩
end

/-- One act: what, at which zone, with which bytes. -/
structure Ac where
  d : Int
  z : Int
  b : List UInt8
/-- Acts at an address. -/
def Acts (w : World) (B : Nat) (A : Option Addr) (acs : List Ac) : Prop :=
  0 < acs.length → ∃ g off, A = some ⟨g, off, none⟩ ∧ g < B ∧ ∀ j (hj : j < acs.length), ∃ X c, w.cell? ⟨g, off + j * 5, none⟩ = some (.int .i64 acs[j].d) ∧ w.cell? ⟨g, off + j * 5 + 1, none⟩ = some (.int .i64 acs[j].z) ∧ w.cell? ⟨g, off + j * 5 + 2, none⟩ = some (.slice X acs[j].b.length c) ∧ Rd w B X acs[j].b ∧ acs[j].b.length ≤ c ∧ acs[j].b.length ≤ 140737488351232
theorem Acts.below {w w' : World} {B : Nat} {A : Option Addr} {acs : List Ac} (h : Acts w B A acs) (hb : Below B w w') : Acts w' B A acs := fun h0 => by
  obtain ⟨g, off, e, hg, hc⟩ := h h0
  refine ⟨g, off, e, hg, fun j hj => ?_⟩
  obtain ⟨X, c, h1, h2, h3, h4, h5⟩ := hc j hj
  exact ⟨X, c, (hb.cell hg).trans h1, (hb.cell hg).trans h2, (hb.cell hg).trans h3, h4.below hb, h5⟩

/-- Some bool is handed back: false of at most 30. -/
def SaysB (n : Nat) (w : World) (e : Ending) (w' : World) : Prop := (∃ big, e = .returned (.bool big) ∧ (big = false → n ≤ 30)) ∧ w = w'
set_option maxHeartbeats 1000000 in
theorem much_any (A : Option Addr) (c B : Nat) (acs : List Ac) (w : World) (hr : Acts w B A acs) (hl : acs.length ≤ maxLen) :
    Calls Try.prog 6 #[.slice A acs.length c] w (SaysB acs.length w) := by
  unfold maxLen at hl
  have HR := Lib.hid hr
  clear hr
  go_enter Try.func6, Try.ntmps6
  go_wp2
  go_loop [3, 4] (fun n i => ∃ k s : Nat, k ≤ acs.length ∧ i = .int .i64 k ∧ n = .int .i64 s ∧ s ≤ 2000) (fun _ i => acs.length - (intOf i).toNat)
  case atStart => exact ⟨0, 0, by omega, rfl, rfl, by omega⟩
  case round =>
    obtain ⟨k, s, hk, rfl, rfl, hs⟩ := hrel
    by_cases hlt : k < acs.length
    · by_cases h40 : k < 40
      · obtain ⟨g, off, rfl, hg, hc⟩ := HR.out (by omega)
        obtain ⟨X, cx, h1, h2, h3, h4, h5, h6⟩ := hc k hlt
        clear hc h4 h5
        generalize acs[k].b.length = m at h3 h6
        by_cases hb : 2000 < s + m
        · go_wp2
          all_goals
            go_ret
            exact ⟨⟨_, rfl, fun h => by cases h⟩, rfl⟩
        · go_wp2
          go_round
          case rel => exact ⟨k + 1, s + m, by omega, by go_num, by go_num, by omega⟩
          case measure => simp [intOf]; omega
      · go_wp2
        go_ret
        exact ⟨⟨_, rfl, fun h => by simp at h; omega⟩, rfl⟩
    · go_wp2
      go_ret
      exact ⟨⟨_, rfl, fun h => by simp at h; omega⟩, rfl⟩
end Go.Proofs.Ytcongcnoeklpjaa
