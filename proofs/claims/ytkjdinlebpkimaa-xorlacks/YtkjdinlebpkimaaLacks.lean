/- For every l, size and which the law XorLacks returns true, and each of them reads behind the call as it read before: the walk. -/
import Derived.Test.YtkjdinlebpkimaaG
import Derived.Test.YtkjdinlebpkimaaOrb
import Derived.Deep.CutBlock
import Derived.Deep.LoopGhost
namespace Go.Proofs.Ytkjdinlebpkimaa.xorLacks
set_option linter.unusedVariables false
set_option linter.unusedSimpArgs false
open Go.RowKit
open Go.RowKit (wrap64)

theorem OwnB.typed {w : World} {base : Nat} {v : Value} {ps : List (List UInt8)} (h : OwnB w base v ps) : ∀ g, v.ownBlock = some g → ∃ cs m, w.heap[g]? = some (.cells cs 23 m) := by
  obtain ⟨us, h1, _⟩ := h
  exact own_typed h1

/-- Two rows of the call's own, apart from each other. -/
def Two (w wr : World) (va vr : Value) (P Q : List (List UInt8)) : Prop := OwnB wr w.heap.size va P ∧ OwnB wr w.heap.size vr Q ∧ (vr.ownBlock = none ∨ vr.ownBlock ≠ va.ownBlock) ∧ Below w.heap.size w wr
theorem Two.later {w wr w' : World} {va vr : Value} {P Q : List (List UInt8)} (h : Two w wr va vr P Q) (hb : Below wr.heap.size wr w') : Two w w' va vr P Q :=
  ⟨h.1.later hb, h.2.1.later hb, h.2.2.1, h.2.2.2.trans (hb.mono h.2.2.2.size)⟩
/-- The first has grown. -/
theorem Two.first {w wr w' : World} {va vr va' : Value} {P Q P' : List (List UInt8)} (h : Two w wr va vr P Q) (ho : OwnB w' w.heap.size va' P') (hg : wr.grownBy w' va.ownBlock) (hb : va'.ownBlock = va.ownBlock ∨ va'.ownBlock = some wr.heap.size) : Two w w' va' vr P' Q := by
  refine ⟨ho, h.2.1.kept hg h.2.2.1 (OwnB.typed h.1), ?_, h.2.2.2.grown hg h.2.2.2.size (fun g hg' => (h.1.lt g hg').1)⟩
  rcases hb with hb | hb
  · rw [hb]; exact h.2.2.1
  · cases hv : vr.ownBlock with
    | none => exact .inl rfl
    | some g =>
      refine .inr fun e => ?_
      have := (h.2.1.lt g hv).2
      rw [hb] at e
      injection e with e
      omega
theorem Two.flip {w wr : World} {va vr : Value} {P Q : List (List UInt8)} (h : Two w wr va vr P Q) : va.ownBlock = none ∨ va.ownBlock ≠ vr.ownBlock := by
  rcases h.2.2.1 with h0 | h0
  · cases ha : va.ownBlock with
    | none => exact .inl rfl
    | some g => exact .inr (by rw [h0]; simp)
  · exact .inr (fun e => h0 e.symm)
theorem OwnB.pts {w : World} {base : Nat} {A : Option Addr} {n c : Nat} {ps : List (List UInt8)} (h : OwnB w base (.slice A n c) ps) : Pts w w.heap.size A ps := by
  obtain ⟨A', c', e, hp⟩ := h.form
  injection e with e1 e2 e3
  rw [e1]
  exact hp
/-- The second is a new one, or has grown. -/
theorem Two.second {w wr w' : World} {va vr v vr' : Value} {P Q Q0 Q' : List (List UInt8)} (h : Two w wr va vr P Q) (hv : OwnB wr w.heap.size v Q0) (hne : va.ownBlock = none ∨ va.ownBlock ≠ v.ownBlock) (ho : OwnB w' w.heap.size vr' Q') (hg : wr.grownBy w' v.ownBlock) (hb : vr'.ownBlock = v.ownBlock ∨ vr'.ownBlock = some wr.heap.size) : Two w w' va vr' P Q' := by
  refine ⟨h.1.kept hg hne (OwnB.typed hv), ho, ?_, h.2.2.2.grown hg h.2.2.2.size (fun g hg' => (hv.lt g hg').1)⟩
  cases ha : va.ownBlock with
  | none =>
    cases hr : vr'.ownBlock with
    | none => exact .inl rfl
    | some g => exact .inr (by simp)
  | some g =>
    refine .inr fun e => ?_
    rcases hb with hb | hb
    · rcases hne with h0 | h0
      · rw [ha] at h0; cases h0
      · exact h0 (by rw [ha, ← hb, e])
    · have := (h.1.lt g ha).2
      rw [hb] at e
      injection e with e
      omega

theorem take_fits {ps : List (List UInt8)} {s j : Nat} (h : j < ps.length) : (ps.map (fitL · s)).take j ++ [fitL ps[j] s] = (ps.map (fitL · s)).take (j + 1) := by
  rw [List.take_succ_eq_append_getElem (by simpa using h)]
  simp
theorem rest_more {ps : List (List UInt8)} {s j k : Nat} (h : j < ps.length) (hk : j ≠ k) : [fitL ps[j] s] ++ restL (ps.map (fitL · s)) k j = restL (ps.map (fitL · s)) k (j + 1) := by
  rw [restL, if_neg hk]
  simp [List.getD, h]
theorem rest_same {ps : List (List UInt8)} {s k : Nat} : restL (ps.map (fitL · s)) k (k + 1) = restL (ps.map (fitL · s)) k k := by
  rw [restL, if_pos rfl]

set_option maxRecDepth 100000 in
set_option maxHeartbeats 4000000 in
theorem walk (a0 : Option Addr) (cap0 s q : Nat) (ps : List (List UInt8)) (w : World) (hp : Pts w w.heap.size a0 ps) (hlp : ps.length ≤ maxLen) (hlps : ∀ l ∈ ps, l.length ≤ 140737488351232) (hs : s < 256) (hq : q < 256) :
    Calls Try.prog 4 #[.slice a0 ps.length cap0, .int .u8 (s : Int), .int .u8 (q : Int)] w fun e w' => e = .returned (.bool true) ∧ Below w.heap.size w w' := by
  have HM := Lib.hid (much_any a0 cap0 _ ps w hp hlp hlps)
  have dp := Lib.hid hp
  unfold maxLen at hlp
  clear hp hlps
  go_enter Try.func4, Try.ntmps4
  go_wp2_with fail
  refine HM.out.mono ?_
  rintro e w' ⟨big, rfl, rfl, hbig⟩
  clear HM
  cases big
  · obtain ⟨hl20, hls0⟩ := hbig rfl
    have hls : Hid (∀ l ∈ ps, l.length ≤ 100000) := fun l hl => Nat.le_trans (hls0 l hl) (by omega)
    clear hbig hls0 hlp
    by_cases h0 : ps.length = 0
    · obtain rfl : ps = [] := List.eq_nil_of_length_eq_zero h0
      simp only [List.length_nil]
      go_wp2_with (go_at_call 7; refine (live_any _).mono ?_; rintro e w' ⟨rfl, hb⟩)
      go_ret
      exact ⟨rfl, hb⟩
    · have hne0 : ((ps.length : Int) == 0) = false := beq_eq_false_iff_ne.2 (by omega)
      have hpos : 0 < ps.length := by omega
      obtain ⟨k, hkk, hkl⟩ : ∃ k : Nat, (q : Int) % (ps.length : Int) = (k : Int) ∧ k < ps.length := ⟨q % ps.length, (Int.natCast_emod _ _).symm, Nat.mod_lt _ hpos⟩
      clear h0
      have HT0 : Hid (Two w w (.slice none 0 0) (.slice none 0 0) ((ps.map (fitL · s)).take 0) (restL (ps.map (fitL · s)) k 0)) := ⟨OwnB.nil _ _, OwnB.nil _ _, .inl rfl, Below.refl _ _⟩
      go_wp2
      rw [hkk]
      clear hkk hne0
      go_loopw [8, 9, 10] (fun va vr i wr => ∃ j : Nat, j ≤ ps.length ∧ i = .int .i64 j ∧ Two w wr va vr ((ps.map (fitL · s)).take j) (restL (ps.map (fitL · s)) k j)) (fun _ _ i _ => ps.length - (intOf i).toNat)
      case atStart => exact ⟨0, by omega, rfl, HT0.out⟩
      case round =>
        clear HT0
        obtain ⟨j, hj, rfl, ht⟩ := hrel
        by_cases hlt : j < ps.length
        · obtain ⟨b, off, rfl, hb, hc⟩ := (dp.out.below ht.2.2.2) (by omega)
          obtain ⟨Y, cy, hck, hy⟩ := hc j hlt
          have hlk := hls.out ps[j] (List.getElem_mem hlt)
          have HY := Lib.hid (hy.more ht.2.2.2.size)
          have HT := Lib.hid ht
          have H1 := Lib.hid (take_fits (s := s) hlt)
          have HLA : Hid (((ps.map (fitL · s)).take j).length ≤ 100) := by
            show ((ps.map (fitL · s)).take j).length ≤ 100
            simp; omega
          have HLR : Hid ((restL (ps.map (fitL · s)) k j).length ≤ 100) := Nat.le_trans (restL_len _ _ _) (by omega)
          clear hc hy ht hb
          by_cases hjk : j = k
          · have hne : ((j : Int) != (k : Int)) = false := by simp; omega
            have H2 : Hid (restL (ps.map (fitL · s)) k j = restL (ps.map (fitL · s)) k (j + 1)) := by subst hjk; exact rest_same.symm
            clear hjk
            generalize (ps.map (fitL · s)).take j = P at HT H1 HLA
            generalize restL (ps.map (fitL · s)) k j = Q at HT H2 HLR
            generalize ps[j] = l at hck hlk HY H1
            go_wp2_with fail
            refine (rfit_blk Y cy s l wr HY.out (by omega) (by omega)).mono ?_
            rintro e w1 ⟨u, rfl, hu, hb1⟩
            obtain ⟨Z, cz, rfl, _⟩ := id hu
            have T1 := Lib.hid ((HT.out.later hb1).later ((Below.refl _ _).alloc (Nat.le_refl _) (.cells #[.slice Z (fitL l s).length cz] 23)))
            have U1 := Lib.hid (Lst.one hu)
            clear HT HY hu hb1
            go_wp2_with (first | (at_builtin; refine wpList_appB _ rfl (.tmp 38) (.tmp 40) rfl w.heap.size _ P rfl T1.out.1 (some ⟨w1.heap.size, 0, none⟩) 1 [fitL l s] rfl U1.out (by have := HLA.out; simp; omega) T1.out.2.2.2.size ?_; intro va' w2 ho hg hb'; have T2 := Lib.hid (T1.out.first ho hg hb'); clear ho hg hb' T1 U1 HLA HLR))
            rw [H1.out, H2.out] at T2
            clear H1 H2
            go_roundw
            case rel => exact ⟨j + 1, by omega, by go_num, T2.out⟩
            case measure => simp [intOf]; omega
          · have hne : ((j : Int) != (k : Int)) = true := by simp; omega
            have H2 := Lib.hid (rest_more (s := s) hlt hjk)
            clear hjk
            generalize (ps.map (fitL · s)).take j = P at HT H1 HLA
            generalize restL (ps.map (fitL · s)) k j = Q at HT H2 HLR
            generalize ps[j] = l at hck hlk HY H1 H2
            obtain ⟨A, cA, rfl, _⟩ := HT.out.2.1.form
            go_wp2_with fail
            refine (rfit_blk Y cy s l wr HY.out (by omega) (by omega)).mono ?_
            rintro e w1 ⟨u, rfl, hu, hb1⟩
            obtain ⟨Z, cz, rfl, _⟩ := id hu
            have T1 := Lib.hid ((HT.out.later hb1).later ((Below.refl _ _).alloc (Nat.le_refl _) (.cells #[.slice Z (fitL l s).length cz] 23)))
            have U1 := Lib.hid (Lst.one hu)
            have UB := Lib.hid (hu.later ((Below.refl _ _).alloc (Nat.le_refl _) (.cells #[.slice Z (fitL l s).length cz] 23)))
            clear HT HY hu hb1
            go_wp2_with (first
              | (at_builtin; refine wpList_appB _ rfl (.tmp 38) (.tmp 40) rfl w.heap.size _ P rfl T1.out.1 (some ⟨w1.heap.size, 0, none⟩) 1 [fitL l s] rfl U1.out (by have := HLA.out; simp; omega) T1.out.2.2.2.size ?_; intro va' w2 ho hg hb'; have T2 := Lib.hid (T1.out.first ho hg hb'); have U2 := Lib.hid (UB.out.grown hg (OwnB.typed T1.out.1)); have T3 := Lib.hid (T2.out.later ((Below.refl _ _).alloc (Nat.le_refl _) (.cells #[.slice Z (fitL l s).length cz] 23))); have O3 := Lib.hid (own_one U2.out T2.out.2.2.2.size); clear ho hg hb' T1 U1 HLA UB)
              | (at_builtin; refine wpList_appB _ rfl (.tmp 46) (.tmp 47) rfl w.heap.size (.slice (some ⟨w2.heap.size, 0, none⟩) 1 1) [fitL l s] rfl O3.out A cA Q rfl (OwnB.lst T3.out.2.1) (by have := HLR.out; simp; omega) T3.out.2.2.2.size ?_; intro vr' w3 ho hg hb'; have T4 := Lib.hid (T3.out.second O3.out (by
                  cases ha : va'.ownBlock with
                  | none => exact .inl rfl
                  | some g =>
                    refine .inr fun e => ?_
                    have := (T2.out.1.lt g ha).2
                    injection e with e
                    have e : g = w2.heap.size := e
                    omega) ho hg hb'); clear ho hg hb' T3 T2 U2 O3 HLR))
            rw [H1.out, H2.out] at T4
            clear H1 H2
            go_roundw
            case rel => exact ⟨j + 1, by omega, by go_num, T4.out⟩
            case measure => simp [intOf]; omega
        · obtain rfl : j = ps.length := by omega
          have HF : Hid (∀ l ∈ ps.map (fitL · s), l.length = s) := fun l hl => by
            obtain ⟨p, _, rfl⟩ := List.mem_map.1 hl
            exact fitL_length p s
          have HFl : Hid ((ps.map (fitL · s)).length = ps.length) := List.length_map ..
          rw [← HFl.out, List.take_length] at ht
          generalize ps.map (fitL · s) = F at ht HF HFl
          have hkF : k < F.length := by rw [HFl.out]; exact hkl
          have HX := Lib.hid (lacks F k s hkF HF.out)
          have hRl : (restL F k F.length).length ≤ 20 := Nat.le_trans (restL_len _ _ _) (by rw [HFl.out]; exact hl20)
          have hFl : F.length ≤ 20 := by rw [HFl.out]; exact hl20
          have hmF : most F ≤ 1000000 := most_le fun l hl => by rw [HF.out l hl]; omega
          have hoF : (ofL F).length = s := ofL_len HF.out (by omega)
          have HMR : Hid (most (restL F k F.length ++ [ofL F]) ≤ 1000000) := most_le fun l hl => by
            rcases List.mem_append.1 hl with hl | hl
            · rw [HF.out l (restL_mem (Nat.le_refl _) l hl)]; omega
            · simp at hl; rw [hl, hoF]; omega
          have hkl' : (k : Int) < (F.length : Int) := by omega
          generalize restL F k F.length = R at ht HX hRl HMR
          obtain ⟨A, cA, rfl, hpa⟩ := ht.1.form
          obtain ⟨C, cC, rfl, _⟩ := ht.2.1.form
          have HT := Lib.hid ht
          clear ht HF HFl hls dp hj hlt
          go_wp2_with fail
          refine (of_blk A cA F wr hpa (by omega) hmF).mono ?_
          rintro e w1 ⟨u, rfl, hu, hb1⟩
          obtain ⟨Z, cz, rfl, _⟩ := id hu
          have T1 := Lib.hid ((HT.out.later hb1).later ((Below.refl _ _).alloc (Nat.le_refl _) (.cells #[.slice Z (ofL F).length cz] 23)))
          have U1 := Lib.hid (Lst.one hu)
          clear HT hu hb1 hpa hmF hoF
          go_upto_region 13 with (first | (at_builtin; refine wpList_appB _ rfl (.tmp 49) (.tmp 52) rfl w.heap.size _ R rfl T1.out.2.1 (some ⟨w1.heap.size, 0, none⟩) 1 [ofL F] rfl U1.out (by simp; omega) T1.out.2.2.2.size ?_; intro vr' w2 ho hg hb'; have T2 := Lib.hid (T1.out.second T1.out.2.1 T1.out.flip ho hg hb'); clear ho hg hb' T1 U1))
          obtain ⟨B2, cB2, rfl, hq⟩ := T2.out.2.1.form
          have hall := OwnB.pts T2.out.1
          have hBw := Lib.hid T2.out.2.2.2
          obtain ⟨ga, oa, rfl, hga, hca⟩ := hall (by omega)
          obtain ⟨X, cx, hcell, hrx⟩ := hca k hkF
          have HQ := Lib.hid hq
          have hQl : (R ++ [ofL F]).length ≤ 100 := by simp; omega
          clear T2 hall hca hq
          generalize F[k] = f at HX hcell hrx
          generalize R ++ [ofL F] = L at HX HQ HMR hQl ⊢
          refine wpB_start w2.heap.size (by kernel_rfl) ?_
          have q0 : ∀ w', Below w2.drew.heap.size w2.drew w' → w'.cell? ⟨ga, oa + k, none⟩ = some (.slice X f.length cx) := fun w' h => (h.cell (by exact hga)).trans hcell
          have hcv0 : ∀ w', Below w2.drew.heap.size w2.drew w' → (convert 23 9 (.slice X f.length cx)).run Try.prog w' = .ok (.string ⟨f.toArray⟩) w' := fun w' h => conv_any X cx _ f w' ((show Rd w2.drew w2.drew.heap.size X f from hrx).below h)
          have dq0 : Hid (Pts w2.drew w2.drew.heap.size B2 L) := HQ.out
          have hB0 : Hid (Below w.heap.size w w2.drew) := hBw.out.drew
          have hS : w2.heap.size = w2.drew.heap.size := rfl
          rw [hS]
          clear hS HQ hBw hga hcell hrx
          generalize w2.drew = w0 at q0 hcv0 dq0 hB0 ⊢
          refine wpB_take (i := 0) (d := 54) (v := ?v13x0) rfl rfl (by kernel_rfl) (by kernel_rfl) (by kernel_rfl) (fun _ _ _ h => h) (by rfl) ?y13x0 ?r13x0
          case y13x0 => (intro w' hSw; go_simp; try (with_reducible rfl))
          simp only [Act.put, List.setIfInBounds_toArray, List.set_cons_zero, List.set_cons_succ]
          refine wpB_take (i := 3) (d := 57) (v := ?v13x3) rfl rfl (by kernel_rfl) (by kernel_rfl) (by kernel_rfl) (fun _ _ _ h => h) (by rfl) ?y13x3 ?r13x3
          case y13x3 => (intro w' hSw; go_simp; try (with_reducible rfl))
          simp only [Act.put, List.setIfInBounds_toArray, List.set_cons_zero, List.set_cons_succ]
          refine wpB_take (i := 4) (d := 58) (v := ?v13x4) rfl rfl (by kernel_rfl) (by kernel_rfl) (by kernel_rfl) (fun _ _ _ h => h) (by rfl) ?y13x4 ?r13x4
          case y13x4 => (intro w' hSw; go_simp; try (with_reducible rfl))
          simp only [Act.put, List.setIfInBounds_toArray, List.set_cons_zero, List.set_cons_succ]
          refine wpB_take (i := 5) (d := 59) (v := ?v13x5) rfl rfl (by kernel_rfl) (by kernel_rfl) (by kernel_rfl) (fun _ _ _ h => h) (by rfl) ?y13x5 ?r13x5
          case y13x5 => (intro w' hSw; go_simp; try (with_reducible rfl))
          simp only [Act.put, List.setIfInBounds_toArray, List.set_cons_zero, List.set_cons_succ]
          refine wpB_take (i := 6) (d := 60) (v := ?v13x6) rfl rfl (by kernel_rfl) (by kernel_rfl) (by kernel_rfl) (fun _ _ _ h => h) (by rfl) ?y13x6 ?r13x6
          case y13x6 => (intro w' hSw; go_simp; try (with_reducible rfl))
          simp only [Act.put, List.setIfInBounds_toArray, List.set_cons_zero, List.set_cons_succ]
          refine wpB_take (i := 7) (d := 61) (v := ?v13x7) rfl rfl (by kernel_rfl) (by kernel_rfl) (by kernel_rfl) (fun _ _ _ h => h) (by rfl) ?y13x7 ?r13x7
          case y13x7 => (intro w' hSw; go_simp; try (with_reducible rfl))
          simp only [Act.put, List.setIfInBounds_toArray, List.set_cons_zero, List.set_cons_succ]
          clear q0 hcv0
          refine wpB_do (i := 1) (by kernel_rfl) rfl (by rfl) (fun K hK => ?_)
          go_simp
          refine (of_gave B2 cB2 L w0 dq0.out (by omega) HMR.out).mono ?_
          rintro e w3 ⟨A3, c3, rfl, hr3, hb3⟩
          rw [HX.out] at hr3 ⊢
          have hcv3 : ∀ w', Below w3.heap.size w3 w' → (convert 23 9 (.slice A3 f.length c3)).run Try.prog w' = .ok (.string ⟨f.toArray⟩) w' := fun w' h => conv_any A3 c3 _ f w' (hr3.below h)
          have hB3 := Lib.hid (hB0.out.trans (hb3.mono hB0.out.size))
          refine hK.out _ _ _ hb3.size hb3 ?_
          clear hK K hr3 hb3 hB0 dq0
          refine wpB_take (i := 2) (d := 56) (v := ?v13x2) rfl rfl (by kernel_rfl) (by kernel_rfl) (by kernel_rfl) (fun _ _ _ h => h) (by rfl) ?y13x2 ?r13x2
          case y13x2 => (intro w' hSw; go_simp; try (with_reducible rfl))
          simp only [Act.put, List.setIfInBounds_toArray, List.set_cons_zero, List.set_cons_succ]
          clear hcv3
          refine wpB_take (i := 8) (d := 62) (v := ?v13x8) rfl rfl (by kernel_rfl) (by kernel_rfl) (by kernel_rfl) (fun _ _ _ h => h) (by rfl) ?y13x8 ?r13x8
          case y13x8 => (intro w' hSw; go_simp; try (with_reducible rfl))
          simp only [Act.put, List.setIfInBounds_toArray, List.set_cons_zero, List.set_cons_succ]
          refine wpB_take (i := 9) (d := 63) (v := ?v13x9) rfl rfl (by kernel_rfl) (by kernel_rfl) (by kernel_rfl) (fun _ _ _ h => h) (by rfl) ?y13x9 ?r13x9
          case y13x9 => (intro w' hSw; go_simp; try (with_reducible rfl))
          simp only [Act.put, List.setIfInBounds_toArray, List.set_cons_zero, List.set_cons_succ]
          refine wpB_do (i := 10) (by kernel_rfl) rfl (by rfl) (fun K hK => ?_)
          go_simp
          refine (live_any w3).mono ?_
          rintro e w7 ⟨rfl, hb7⟩
          have hB7 := Lib.hid (hB3.out.trans (hb7.mono hB3.out.size))
          refine hK.out _ _ _ hb7.size hb7 ?_
          clear hK K hb7 hB3
          refine wpB_take (i := 11) (d := 65) (v := ?v13x11) rfl rfl (by kernel_rfl) (by kernel_rfl) (by kernel_rfl) (fun _ _ _ h => h) (by rfl) ?y13x11 ?r13x11
          case y13x11 => (intro w' hSw; go_simp; try (with_reducible rfl))
          simp only [Act.put, List.setIfInBounds_toArray, List.set_cons_zero, List.set_cons_succ]
          refine wpB_take (i := 12) (d := 6) (v := ?v13x12) rfl rfl (by kernel_rfl) (by kernel_rfl) (by kernel_rfl) (fun _ _ _ h => h) (by rfl) ?y13x12 ?r13x12
          case y13x12 => (intro w' hSw; go_simp; try (with_reducible rfl))
          simp only [Act.put, List.setIfInBounds_toArray, List.set_cons_zero, List.set_cons_succ]
          refine wpB_done (by kernel_rfl) ?_
          go_wp2
          go_ret
          exact ⟨rfl, hB7.out⟩
  · clear hbig dp
    go_wp2_with (go_at_call 7; refine (live_any _).mono ?_; rintro e w' ⟨rfl, hb⟩)
    go_ret
    exact ⟨rfl, hb⟩
end Go.Proofs.Ytkjdinlebpkimaa.xorLacks
