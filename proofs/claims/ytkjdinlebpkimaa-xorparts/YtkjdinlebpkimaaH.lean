/- Contracts of xor.Fit, of bytes.Clone and of the reference's Same. -/
import Derived.Test.YtkjdinlebpkimaaG
import Derived.Lib.SmallJoins
import Derived.Test.YtkjdinlebpkimaaOrb
import Derived.Deep.CutBlock
import Derived.Deep.LoopGhost
namespace Go.Proofs.Ytkjdinlebpkimaa
set_option linter.unusedVariables false
set_option linter.unusedSimpArgs false
open Go.RowKit
open Go.RowKit (wrap64)

theorem fit_cut (l : List UInt8) (n : Nat) : l.take n ++ (zeros n).drop (min l.length n) = fitL l n := by
  refine ext0 (by simp [fitL_length, zeros_length]; omega) fun i => ?_
  rw [at0_fitL]
  have e : at0 (l.take n ++ (zeros n).drop (min l.length n)) i = if i < n then at0 l i else 0 := by
    simp only [at0, List.getD, List.getElem?_append, List.length_take, zeros, List.drop_replicate, List.getElem?_take, List.getElem?_replicate]
    by_cases h1 : i < n
    · by_cases h2 : i < l.length
      · simp [h1, h2, show i < min n l.length by omega]
      · have h3 : ¬ i < min n l.length := by omega
        have h4 : i - min n l.length < n - min l.length n := by omega
        simp [h1, h2, h3, h4]
    · have h3 : ¬ i < min n l.length := by omega
      have h4 : ¬ i - min n l.length < n - min l.length n := by omega
      simp [h1, h3, h4]
  exact e

/-- 'make' and 'copy' together, whichever is longer. -/
theorem run_copy_fit {P : Program} (w : World) (dT sT ty e : TypeId) (A : Option Addr) (c n : Nat) (l : List UInt8) (hu : P.underlying dT = some (.slice e)) (hs : (P.info? e).map (·.size) = some 1) (hr : Rd w w.heap.size A l) :
    ∃ m, (Builtin.copy_ #[dT, sT] ty #[.slice (some ⟨w.heap.size, 0, none⟩) n n, .slice A l.length c]).run P (w.alloc (.cells (cBs (zeros n)).toArray e)) =
      .ok (goInt m) (w.alloc (.cells (cBs (fitL l n)).toArray e)) := by
  rcases Nat.eq_zero_or_pos l.length with h0 | h0
  · obtain rfl : l = [] := List.eq_nil_of_length_eq_zero h0
    have hrun := run_copy_none (P := P) (w.alloc (.cells (cBs (zeros n)).toArray e)) dT sT ty e (some ⟨w.heap.size, 0, none⟩) A n n 0 c hu hs (by simp)
    refine ⟨0, ?_⟩
    rw [fitL_nil]
    simpa using hrun
  · obtain ⟨ad, rfl, hb, hc⟩ := hr h0
    have hg := heap_alloc_new w (.cells (cBs (zeros n)).toArray e)
    have hrun := run_copy_row P (w.alloc (.cells (cBs (zeros n)).toArray e)) dT sT ty e w.heap.size 0 n n ad l.length c _ e (cBs (l.take n)) hu hs hg (by rw [cBs_length, List.length_take, Nat.min_comm])
      (fun j v hv => by
        rw [World.cell?_alloc_lt w _ _ (by rw [step_block]; exact hb)]
        refine hc j v ?_
        simp [cBs, List.getElem?_take] at hv ⊢
        exact hv.2) (by simp [cBs_length, zeros_length]; omega) (cBs_one _)
    refine ⟨(cBs (l.take n)).length, ?_⟩
    rw [hrun]
    congr 1
    have e1 : ((cBs (zeros n)).toArray.toList.take 0 ++ cBs (l.take n) ++ (cBs (zeros n)).toArray.toList.drop (0 + (cBs (l.take n)).length)) = cBs (fitL l n) := by
      rw [← fit_cut, cBs_append]
      simp only [List.take_zero, List.nil_append, Nat.zero_add, cBs_length, List.length_take]
      rw [Nat.min_comm]
      simp [cBs]
    rw [e1]
    exact setRow_alloc_new w _ _ e

set_option maxHeartbeats 400000 in
theorem fit_gave (A : Option Addr) (c : Nat) (ni : Int) (n : Nat) (l : List UInt8) (w : World) (hr : Rd w w.heap.size A l) (hn : n = ni.toNat) (hl : ni ≤ 100000) :
    Calls Try.prog 17 #[.slice A l.length c, .int .i64 ni] w (Gave w (fitL l n)) := by
  have hmk := run_make_row' (P := Try.prog) 23 5 (.int .u8 0) 1 Try.underlying23 Try.info5 rfl .i64 .i64 n (by omega) (by omega)
  simp only [made_zeros] at hmk
  obtain ⟨m, hcp⟩ := run_copy_fit (P := Try.prog) w 23 23 3 5 A c n l Try.underlying23 Try.size5 hr
  have hfl := Lib.hid (fitL_length l n)
  clear hr
  by_cases h0 : ni < 0
  · obtain rfl : n = 0 := by omega
    simp only [show ((0 : Nat) : Int) = 0 from rfl] at hmk
    clear hn
    go_enter Try.func17, Try.ntmps17
    go_wp2
    go_ret
    exact ⟨_, _, by rw [hfl.out]; rfl, (Rd.new w _ 5).more (by simp), (Below.refl _ _).alloc (Nat.le_refl _) _⟩
  · obtain rfl : ni = (n : Int) := by omega
    clear hn
    go_enter Try.func17, Try.ntmps17
    go_wp2
    go_ret
    exact ⟨_, _, by rw [hfl.out]; rfl, (Rd.new w _ 5).more (by simp), (Below.refl _ _).alloc (Nat.le_refl _) _⟩

/-- bytes.Clone: a block of the call's own. -/
theorem clone_blk (A : Option Addr) (c n : Nat) (l : List UInt8) (w : World) (hn : l.length = n) (hr : Rd w w.heap.size A l) (hl : l.length ≤ 1000000) :
    Calls Try.prog 20 #[.slice A n c] w (GaveB w l) := by
  subst hn
  rcases A with _ | ad
  · obtain rfl : l = [] := by
      rcases Nat.eq_zero_or_pos l.length with h0 | h0
      · exact List.eq_nil_of_length_eq_zero h0
      · obtain ⟨ad, h, _⟩ := hr h0
        cases h
    have hnil := fun w => Lib.run_eql_slice_nil (P := Try.prog) w 23 5 none 0 c 0 0 Try.underlying23
    go_enter Try.func20, Try.ntmps20
    go_wp2
    go_ret
    exact ⟨_, rfl, ⟨none, 0, rfl, Rd.nil, fun ad e => by cases e⟩, Below.refl _ _⟩
  · obtain ⟨i0, hi, hz0, hz1, hz2⟩ := info_parts Try.info5
    have hnil := fun w => Lib.run_eql_slice_nil (P := Try.prog) w 23 5 (some ad) l.length c 0 0 Try.underlying23
    have ho : Own (w.alloc (.cells #[] 5)) w.heap.size 5 (.slice (some ⟨w.heap.size, 0, none⟩) 0 0) [] := World.ownsRow_lit w #[] 0 (Nat.le_refl _) (by simp [maxLen]) rfl
    have H0 := Lib.hid ho
    have H1 := Lib.hid hi
    have H2 := Lib.hid hz0
    have H3 := Lib.hid hz1
    have H4 := Lib.hid hz2
    have HR := Lib.hid hr
    clear ho hi hz0 hz1 hz2 hr
    go_enter Try.func20, Try.ntmps20
    go_wp2_with (at_builtin; refine wpList_app _ rfl (.tmp 5) (.tmp 6) 23 rfl w.heap.size 5 i0 Try.underlying23 H1.out H2.out H3.out H4.out _ [] rfl H0.out w.heap.size (some ad) c l rfl (HR.out.alloc (Nat.le_refl _) _) (by simp; omega) (by simp) ?_; intro v' w' ho' hg hb')
    go_ret
    exact ⟨_, rfl, blk_of_own ho', ((Below.refl _ _).alloc (Nat.le_refl _) _).grown hg (by simp) (fun k hk => Nat.le_of_eq (Option.some.inj hk))⟩

set_option maxHeartbeats 400000 in
/-- The same parts twice are the same. -/
theorem same_any (A B : Option Addr) (ca cb : Nat) (ps : List (List UInt8)) (w : World) (ha : Pts w w.heap.size A ps) (hb : Pts w w.heap.size B ps) (hl : ps.length ≤ 1000000) :
    Calls Try.prog 14 #[.slice A ps.length ca, .slice B ps.length cb] w fun e w' => e = .returned (.bool true) ∧ Below w.heap.size w w' := by
  have HA := Lib.hid ha
  have HB := Lib.hid hb
  clear ha hb
  go_enter Try.func14, Try.ntmps14
  go_wp2
  go_loopw [5] (fun i wr => ∃ k : Nat, k ≤ ps.length ∧ i = .int .i64 k ∧ Below w.heap.size w wr) (fun i _ => ps.length - (intOf i).toNat)
  case atStart => exact ⟨0, by omega, rfl, Below.refl _ _⟩
  case round =>
    obtain ⟨k, hk, rfl, hbl⟩ := hrel
    by_cases hlt : k < ps.length
    · obtain ⟨a, oa, rfl, hga, hca⟩ := (HA.out.later hbl) (by omega)
      obtain ⟨X, cx, hcx, hrx⟩ := hca k hlt
      obtain ⟨b, ob, rfl, hgb, hcb⟩ := (HB.out.later hbl) (by omega)
      obtain ⟨Y, cy, hcy, hry⟩ := hcb k hlt
      generalize ps[k] = f at hcx hrx hcy hry
      clear hca hcb
      have q0 : Hid (∀ w', Below wr.drew.heap.size wr.drew w' → w'.cell? ⟨a, oa + k, none⟩ = some (.slice X f.length cx)) := fun w' h => (h.cell (by exact hga)).trans hcx
      have q1 : Hid (∀ w', Below wr.drew.heap.size wr.drew w' → w'.cell? ⟨b, ob + k, none⟩ = some (.slice Y f.length cy)) := fun w' h => (h.cell (by exact hgb)).trans hcy
      have hcv0 : Hid (∀ w', Below wr.drew.heap.size wr.drew w' → (convert 23 9 (.slice X f.length cx)).run Try.prog w' = .ok (.string ⟨f.toArray⟩) w') := fun w' h => conv_any X cx _ f w' ((show Rd wr.drew wr.drew.heap.size X f from hrx).below h)
      have hcv1 : Hid (∀ w', Below wr.drew.heap.size wr.drew w' → (convert 23 9 (.slice Y f.length cy)).run Try.prog w' = .ok (.string ⟨f.toArray⟩) w') := fun w' h => conv_any Y cy _ f w' ((show Rd wr.drew wr.drew.heap.size Y f from hry).below h)
      have hB0 : Hid (Below w.heap.size w wr.drew) := hbl.drew
      clear hcx hrx hcy hry hga hgb hbl
      go_upto_region 6 with fail
      refine wpB_start wr.heap.size (by kernel_rfl) ?_
      have hS : wr.heap.size = wr.drew.heap.size := rfl
      rw [hS]
      clear hS
      generalize wr.drew = w0 at q0 q1 hcv0 hcv1 hB0 ⊢
      have q0 := q0.out
      have q1 := q1.out
      have hcv0 := hcv0.out
      have hcv1 := hcv1.out
      refine wpB_take (i := 0) (d := 17) (v := ?v6x0) rfl rfl (by kernel_rfl) (by kernel_rfl) (by kernel_rfl) (fun _ _ _ h => h) (by rfl) ?y6x0 ?r6x0
      case y6x0 => (intro w' hSw; go_simp; try (with_reducible rfl))
      simp only [Act.put, List.setIfInBounds_toArray, List.set_cons_zero, List.set_cons_succ]
      refine wpB_take (i := 1) (d := 18) (v := ?v6x1) rfl rfl (by kernel_rfl) (by kernel_rfl) (by kernel_rfl) (fun _ _ _ h => h) (by rfl) ?y6x1 ?r6x1
      case y6x1 => (intro w' hSw; go_simp; try (with_reducible rfl))
      simp only [Act.put, List.setIfInBounds_toArray, List.set_cons_zero, List.set_cons_succ]
      refine wpB_take (i := 2) (d := 19) (v := ?v6x2) rfl rfl (by kernel_rfl) (by kernel_rfl) (by kernel_rfl) (fun _ _ _ h => h) (by rfl) ?y6x2 ?r6x2
      case y6x2 => (intro w' hSw; go_simp; try (with_reducible rfl))
      simp only [Act.put, List.setIfInBounds_toArray, List.set_cons_zero, List.set_cons_succ]
      refine wpB_take (i := 3) (d := 20) (v := ?v6x3) rfl rfl (by kernel_rfl) (by kernel_rfl) (by kernel_rfl) (fun _ _ _ h => h) (by rfl) ?y6x3 ?r6x3
      case y6x3 => (intro w' hSw; go_simp; try (with_reducible rfl))
      simp only [Act.put, List.setIfInBounds_toArray, List.set_cons_zero, List.set_cons_succ]
      refine wpB_take (i := 4) (d := 21) (v := ?v6x4) rfl rfl (by kernel_rfl) (by kernel_rfl) (by kernel_rfl) (fun _ _ _ h => h) (by rfl) ?y6x4 ?r6x4
      case y6x4 => (intro w' hSw; go_simp; try (with_reducible rfl))
      simp only [Act.put, List.setIfInBounds_toArray, List.set_cons_zero, List.set_cons_succ]
      refine wpB_take (i := 5) (d := 22) (v := ?v6x5) rfl rfl (by kernel_rfl) (by kernel_rfl) (by kernel_rfl) (fun _ _ _ h => h) (by rfl) ?y6x5 ?r6x5
      case y6x5 => (intro w' hSw; go_simp; try (with_reducible rfl))
      simp only [Act.put, List.setIfInBounds_toArray, List.set_cons_zero, List.set_cons_succ]
      refine wpB_take (i := 6) (d := 23) (v := ?v6x6) rfl rfl (by kernel_rfl) (by kernel_rfl) (by kernel_rfl) (fun _ _ _ h => h) (by rfl) ?y6x6 ?r6x6
      case y6x6 => (intro w' hSw; go_simp; try (with_reducible rfl))
      simp only [Act.put, List.setIfInBounds_toArray, List.set_cons_zero, List.set_cons_succ]
      refine wpB_take (i := 7) (d := 24) (v := ?v6x7) rfl rfl (by kernel_rfl) (by kernel_rfl) (by kernel_rfl) (fun _ _ _ h => h) (by rfl) ?y6x7 ?r6x7
      case y6x7 => (intro w' hSw; go_simp; try (with_reducible rfl))
      simp only [Act.put, List.setIfInBounds_toArray, List.set_cons_zero, List.set_cons_succ]
      refine wpB_take (i := 8) (d := 25) (v := ?v6x8) rfl rfl (by kernel_rfl) (by kernel_rfl) (by kernel_rfl) (fun _ _ _ h => h) (by rfl) ?y6x8 ?r6x8
      case y6x8 => (intro w' hSw; go_simp; try (with_reducible rfl))
      simp only [Act.put, List.setIfInBounds_toArray, List.set_cons_zero, List.set_cons_succ]
      refine wpB_take (i := 9) (d := 26) (v := ?v6x9) rfl rfl (by kernel_rfl) (by kernel_rfl) (by kernel_rfl) (fun _ _ _ h => h) (by rfl) ?y6x9 ?r6x9
      case y6x9 => (intro w' hSw; go_simp; try (with_reducible rfl))
      simp only [Act.put, List.setIfInBounds_toArray, List.set_cons_zero, List.set_cons_succ]
      refine wpB_take (i := 10) (d := 27) (v := ?v6x10) rfl rfl (by kernel_rfl) (by kernel_rfl) (by kernel_rfl) (fun _ _ _ h => h) (by rfl) ?y6x10 ?r6x10
      case y6x10 => (intro w' hSw; go_simp; try (with_reducible rfl))
      simp only [Act.put, List.setIfInBounds_toArray, List.set_cons_zero, List.set_cons_succ]
      refine wpB_done (by kernel_rfl) ?_
      clear q0 q1 hcv0 hcv1
      go_wp2
      go_roundw
      case rel => exact ⟨k + 1, by omega, by go_num, hB0.out⟩
      case measure => simp [intOf]; omega
    · obtain rfl : k = ps.length := by omega
      have hB0 := Lib.hid hbl
      clear hbl
      go_wp2
      go_ret
      exact ⟨rfl, hB0.out⟩
end Go.Proofs.Ytkjdinlebpkimaa
