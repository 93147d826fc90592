/- One act of the law BusPower as plain data; the contract of 'much'. -/
import Derived.Test.YtbaolfncolfipaaLive
namespace Go.Proofs.Ytbaolfncolfipaa
set_option linter.unusedVariables false
set_option linter.unusedSimpArgs false
open Go.RowKit
open Go.RowKit (wrap64)

/-- One act: what, to which member, at which zone, with which bytes, and two numbers more. -/
structure Ac where
  d : Int
  m : Int
  z : Int
  b : List UInt8
  at_ : Int
  n : Int
/-- Acts at an address. -/
def Acts (w : World) (B : Nat) (A : Option Addr) (acs : List Ac) : Prop :=
  0 < acs.length → ∃ g off, A = some ⟨g, off, none⟩ ∧ g < B ∧ ∀ j (hj : j < acs.length), ∃ X c, w.cell? ⟨g, off + j * 6, none⟩ = some (.int .i64 acs[j].d) ∧ w.cell? ⟨g, off + j * 6 + 1, none⟩ = some (.int .i64 acs[j].m) ∧ w.cell? ⟨g, off + j * 6 + 2, none⟩ = some (.int .i64 acs[j].z) ∧ w.cell? ⟨g, off + j * 6 + 3, none⟩ = some (.slice X acs[j].b.length c) ∧ w.cell? ⟨g, off + j * 6 + 4, none⟩ = some (.int .i64 acs[j].at_) ∧ w.cell? ⟨g, off + j * 6 + 5, none⟩ = some (.int .i64 acs[j].n) ∧ Rd w B X acs[j].b ∧ acs[j].b.length ≤ c ∧ acs[j].b.length ≤ 140737488351232
theorem Acts.below {w w' : World} {B : Nat} {A : Option Addr} {acs : List Ac} (h : Acts w B A acs) (hb : Below B w w') : Acts w' B A acs := fun h0 => by
  obtain ⟨g, off, e, hg, hc⟩ := h h0
  refine ⟨g, off, e, hg, fun j hj => ?_⟩
  obtain ⟨X, c, h1, h2, h3, h4, h5, h6, h7, h8⟩ := hc j hj
  exact ⟨X, c, (hb.cell hg).trans h1, (hb.cell hg).trans h2, (hb.cell hg).trans h3, (hb.cell hg).trans h4, (hb.cell hg).trans h5, (hb.cell hg).trans h6, h7.below hb, h8⟩

theorem AppM.at_ {cap blk : Nat} {limit : Int} {m m' : Mb} {z x : Int} {b : List UInt8} (h : AppM cap blk limit m z b x m') : m'.p = m.p ∧ m'.zb = m.zb := by
  cases h <;> simp
/-- Some bool is handed back: false of at most 30. -/
def SaysB (n : Nat) (w : World) (e : Ending) (w' : World) : Prop := (∃ big, e = .returned (.bool big) ∧ (big = false → n ≤ 30)) ∧ w = w'
set_option maxHeartbeats 1000000 in
theorem much_any (A : Option Addr) (c B : Nat) (acs : List Ac) (w : World) (hr : Acts w B A acs) (hl : acs.length ≤ maxLen) :
    Calls Try.prog 5 #[.slice A acs.length c] w (SaysB acs.length w) := by
  unfold maxLen at hl
  have HR := Lib.hid hr
  clear hr
  go_enter Try.func5, Try.ntmps5
  go_wp2
  go_loop [3, 4] (fun n i => ∃ k s : Nat, k ≤ acs.length ∧ i = .int .i64 k ∧ n = .int .i64 s ∧ s ≤ 2000) (fun _ i => acs.length - (intOf i).toNat)
  case atStart => exact ⟨0, 0, by omega, rfl, rfl, by omega⟩
  case round =>
    obtain ⟨k, s, hk, rfl, rfl, hs⟩ := hrel
    by_cases hlt : k < acs.length
    · by_cases h40 : k < 40
      · obtain ⟨g, off, rfl, hg, hc⟩ := HR.out (by omega)
        obtain ⟨X, cx, h1, h2, h3, h4, h5, h6, h7, h8, h9⟩ := hc k hlt
        clear hc h7 h8 h1 h2 h3 h5 h6
        generalize acs[k].b.length = m at h4 h9
        by_cases hb : 2000 < s + m
        · go_wp2
          all_goals
            go_ret
            exact ⟨⟨_, rfl, fun h => by cases h⟩, rfl⟩
        · go_wp2
          go_round
          case rel => exact ⟨k + 1, s + m, by omega, by go_num, by go_num, by omega⟩
          case measure => simp [intOf]; omega
      · go_wp2
        go_ret
        exact ⟨⟨_, rfl, fun h => by simp at h; omega⟩, rfl⟩
    · go_wp2
      go_ret
      exact ⟨⟨_, rfl, fun h => by simp at h; omega⟩, rfl⟩
end Go.Proofs.Ytbaolfncolfipaa
