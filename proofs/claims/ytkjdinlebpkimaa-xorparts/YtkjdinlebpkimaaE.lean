/- Contracts of the reference's Of, Fit. -/
import Derived.Test.YtkjdinlebpkimaaD
namespace Go.Proofs.Ytkjdinlebpkimaa
set_option linter.unusedVariables false
open Go.RowKit
open Go.RowKit (wrap64)

/-- A slot holds a slice that reads as l. -/
def Holds (w : World) (v : Value) (l : List UInt8) : Prop := ∃ A c, v = .slice A l.length c ∧ Rd w w.heap.size A l
theorem most_take_le {ps : List (List UInt8)} {M : Nat} (h : ∀ l ∈ ps, l.length ≤ M) (k : Nat) : (ofL (ps.take k)).length ≤ M := most_le fun l hl => h l (List.mem_of_mem_take hl)

set_option maxHeartbeats 400000 in
theorem rof_gave (A : Option Addr) (c : Nat) (ps : List (List UInt8)) (w : World) (hr : Pts w w.heap.size A ps) (hl : ps.length ≤ 1000) (hls : ∀ l ∈ ps, l.length ≤ 100000) :
    Calls Try.prog 9 #[.slice A ps.length c] w (Gave w (ofL ps)) := by
  have HR := Lib.hid hr
  have HL := Lib.hid hls
  have HM : Hid (∀ k, (ofL (ps.take k)).length ≤ 100000) := most_take_le hls
  clear hr hls
  go_enter Try.func9, Try.ntmps9
  go_wp2
  go_loopw [3, 4] (fun v i wr => ∃ k : Nat, k ≤ ps.length ∧ i = .int .i64 k ∧ Holds wr v (ofL (ps.take k)) ∧ Below w.heap.size w wr) (fun _ i _ => ps.length - (intOf i).toNat)
  case atStart => exact ⟨0, by omega, rfl, ⟨none, 0, rfl, Rd.nil⟩, Below.refl _ _⟩
  case round =>
    obtain ⟨k, hk, rfl, ⟨X, cx, rfl, hx⟩, hbl⟩ := hrel
    by_cases hlt : k < ps.length
    · obtain ⟨b, off, rfl, hb, hc⟩ := (HR.out.below hbl) (by omega)
      obtain ⟨Y, cy, hck, hy⟩ := hc k hlt
      have hlk := HL.out ps[k] (List.getElem_mem hlt)
      have hlm := HM.out k
      have HT := Lib.hid (ofL_take hlt)
      have HX := Lib.hid hx
      have HY := Lib.hid (hy.more hbl.size)
      have HBL := Lib.hid hbl
      clear hc hx hy hbl
      generalize ps[k] = l at hck HY hlk HT
      generalize ofL (ps.take k) = acc at HT HX hlm ⊢
      go_wp2_with fail
      refine (rinto_gave X Y cx cy acc l _ HX.out HY.out (by omega) (by omega)).mono ?_
      rintro e w' ⟨Z, cz, rfl, h1, h2⟩
      rw [← HT.out] at h1 ⊢
      have R := Lib.hid (And.intro h1 (HBL.out.trans (h2.mono HBL.out.size)))
      clear h1 h2 HX HY HBL HT
      go_wp2
      go_roundw
      case rel => exact ⟨k + 1, by omega, by go_num, ⟨_, _, rfl, R.out.1⟩, R.out.2⟩
      case measure => simp [intOf]; omega
    · obtain rfl : k = ps.length := by omega
      rw [List.take_length] at hx ⊢
      have R := Lib.hid (And.intro hx hbl)
      clear hx hbl
      go_wp2
      go_ret
      exact ⟨_, _, rfl, R.out.1, R.out.2⟩

set_option maxHeartbeats 400000 in
theorem rfit_gave (A : Option Addr) (c n : Nat) (l : List UInt8) (w : World) (hr : Rd w w.heap.size A l) (hl : l.length ≤ 100000) (hn : n ≤ 100000) :
    Calls Try.prog 13 #[.slice A l.length c, .int .i64 n] w (Gave w (fitL l n)) := by
  obtain ⟨i0, hi, hz0, hz1, hz2⟩ := info_parts Try.info5
  have H1 := Lib.hid hi
  have H2 := Lib.hid hz0
  have H3 := Lib.hid hz1
  have H4 := Lib.hid hz2
  have HA := Lib.hid hr
  clear hi hz0 hz1 hz2 hr
  go_enter Try.func13, Try.ntmps13
  go_wp2
  go_loopw [5, 6] (fun v i wr => ∃ k : Nat, k ≤ n ∧ i = .int .i64 k ∧ Own wr w.heap.size 5 v (fitL l k) ∧ Below w.heap.size w wr) (fun _ i _ => n - (intOf i).toNat)
  case atStart => exact ⟨0, by omega, rfl, World.ownsRow_nil _ _ _ _, Below.refl _ _⟩
  case round =>
    obtain ⟨k, hk, rfl, ho, hbl⟩ := hrel
    by_cases hlt : k < n
    · have HO := Lib.hid ho
      have HBL := Lib.hid hbl
      have HS := Lib.hid hbl.size
      have HAR := Lib.hid (HA.out.below hbl)
      have HF := Lib.hid (fitL_succ l k)
      have HN := Lib.hid (fitL_length l k)
      clear ho hbl
      go_wp2_with fail
      refine (at_any A c _ k l _ HAR.out (by omega) (by omega)).mono ?_
      rintro e w' ⟨rfl, rfl⟩
      go_wp2_with (first | (at_builtin; refine wpList_app _ rfl (.tmp 12) (.tmp 16) 23 rfl w.heap.size 5 i0 Try.underlying23 H1.out H2.out H3.out H4.out _ (fitL l k) rfl (own_alloc HO.out _) (wr.heap.size + 1) (some ⟨wr.heap.size, 0, none⟩) 1 [at0 l k] rfl (rd_one _ _ _ rfl) (by rw [HN.out]; simp; omega) (Nat.le_trans HS.out (by simp)) ?_; intro v' w' ho' hg hb'))
      have R := Lib.hid (And.intro ho' ((HBL.out.alloc HS.out _).grown hg (Nat.le_trans HS.out (by simp)) (fun g hg' => (World.ownsRow.lt HO.out g hg').1)))
      rw [← HF.out] at R
      clear ho' hg hb' HO HBL HS HAR HF HN
      go_wp2
      go_roundw
      case rel => exact ⟨k + 1, by omega, by go_num, R.out.1, R.out.2⟩
      case measure => simp [intOf]; omega
    · obtain rfl : k = n := by omega
      have HO := Lib.hid ho
      have HBL := Lib.hid hbl
      clear ho hbl
      go_wp2
      go_ret
      exact gave_of_own HO.out HBL.out
end Go.Proofs.Ytkjdinlebpkimaa
