/- For any records, block and bytes the law RecJoins returns true: the walk. -/
import Derived.Test.YtmebbggmdfejkaaRg
import Derived.Test.YtmebbggmdfejkaaRq
import Derived.Test.YtmebbggmdfejkaaRt
import Derived.Deep.DeepCutAuto
namespace Go.Proofs.Ytmebbggmdfejkaa
set_option linter.unusedVariables false
set_option linter.unusedSimpArgs false
open Go.RowKit
open Go.RowKit (wrap64)

theorem Recs.more {w : World} {B B' : Nat} {A : Option Addr} {xs : List ((Nat → Int) × List UInt8)} (h : Recs w B A xs) (hB : B ≤ B') : Recs w B' A xs := fun h0 => by
  obtain ⟨g, off, rfl, hg, hc⟩ := h h0
  refine ⟨g, off, rfl, by omega, fun j hj => ?_⟩
  obtain ⟨X, c, h1, h2, h3, h4, h5⟩ := hc j hj
  exact ⟨X, c, h1, h2, h3.more hB, h4, h5⟩
theorem bytes_append (a b c : List UInt8) (h : a ++ b = c) : (⟨a.toArray⟩ : ByteArray) ++ ⟨b.toArray⟩ = ⟨c.toArray⟩ := by
  subst h
  apply ByteArray.ext
  simp
set_option maxRecDepth 100000 in
set_option maxHeartbeats 4000000 in
theorem recJoins_big1 (A : Option Addr) (c : Nat) (xs : List ((Nat → Int) × List UInt8)) (bl : Int) (M : Option Addr) (cm : Nat) (mo : List UInt8) (w : World) (hr : Recs w w.heap.size A xs) (hn : xs.length ≤ maxLen) (hm : Rd w w.heap.size M mo) (hmc : mo.length ≤ cm) (hm1 : mo.length ≤ 140737488351232) (h : 10 < xs.length) : Calls Try.prog 7 #[.slice A xs.length c, .int .i64 bl, .slice M mo.length cm] w (Says w (.bool true)) := by
  unfold maxLen at hn
  clear hr hm
  go_enter Try.func7, Try.ntmps7
  go_wp2_with fail
  refine (live_any w).mono ?_
  rintro e wl ⟨rfl, hb⟩
  have HB := Lib.hid hb
  clear hb
  go_wp2
  go_ret
  exact ⟨rfl, HB.out⟩
set_option maxRecDepth 100000 in
set_option maxHeartbeats 4000000 in
theorem recJoins_big2 (A : Option Addr) (c : Nat) (xs : List ((Nat → Int) × List UInt8)) (bl : Int) (M : Option Addr) (cm : Nat) (mo : List UInt8) (w : World) (hr : Recs w w.heap.size A xs) (hn : xs.length ≤ maxLen) (hm : Rd w w.heap.size M mo) (hmc : mo.length ≤ cm) (hm1 : mo.length ≤ 140737488351232) (h : ¬ 10 < xs.length) (h2 : 300 < mo.length) : Calls Try.prog 7 #[.slice A xs.length c, .int .i64 bl, .slice M mo.length cm] w (Says w (.bool true)) := by
  unfold maxLen at hn
  clear hr hm
  go_enter Try.func7, Try.ntmps7
  go_wp2_with fail
  refine (live_any w).mono ?_
  rintro e wl ⟨rfl, hb⟩
  have HB := Lib.hid hb
  clear hb
  go_wp2
  go_ret
  exact ⟨rfl, HB.out⟩
set_option maxRecDepth 100000 in
set_option maxHeartbeats 4000000 in
theorem recJoins_go (A : Option Addr) (c : Nat) (xs : List ((Nat → Int) × List UInt8)) (bl : Int) (M : Option Addr) (cm : Nat) (mo : List UInt8) (w : World) (hr : Recs w w.heap.size A xs) (hn : xs.length ≤ maxLen) (hm : Rd w w.heap.size M mo) (hmc : mo.length ≤ cm) (hm1 : mo.length ≤ 140737488351232) (h : ¬ 10 < xs.length) (h2 : ¬ 300 < mo.length) : Calls Try.prog 7 #[.slice A xs.length c, .int .i64 bl, .slice M mo.length cm] w (Says w (.bool true)) := by
  have HA : Hid (∀ w', Below w.heap.size w w' → Recs w' w.heap.size A xs ∧ Rd w' w.heap.size M mo) := fun w' h => ⟨hr.below h, hm.below h⟩
  clear hr hm hn
  go_enter Try.func7, Try.ntmps7
  go_wp2
  go_loopw [7, 10] (fun s i wr => ∃ k : Nat, k ≤ xs.length ∧ i = .int .i64 k ∧ s = .string ⟨(putsL bl (xs.take k)).toArray⟩ ∧ (∀ x ∈ xs.take k, x.2.length ≤ 300) ∧ Below w.heap.size w wr) (fun _ i _ => xs.length - (intOf i).toNat)
  case atStart => exact ⟨0, by omega, rfl, by simp [putsL], by simp, Below.refl _ _⟩
  case round =>
    obtain ⟨k, hk, rfl, rfl, h300, hb⟩ := hrel
    have HW := Lib.hid hb
    have H3 := Lib.hid h300
    clear hb h300
    by_cases hlt : k < xs.length
    · obtain ⟨g, off, rfl, hg, hcc⟩ := (HA.out wr HW.out).1 (by omega)
      obtain ⟨X, cx, hnn, hbd, hX, hcx, hlx⟩ := hcc k hlt
      have HPT := Lib.hid (putsL_take bl xs k hlt)
      have HPS := Lib.hid (putsL_small bl (xs.take k) H3.out)
      have HTL : Hid ((xs.take k).length = k) := by
        show _ = k
        rw [List.length_take]
        omega
      have H3N : Hid (xs[k].2.length ≤ 300 → ∀ x ∈ xs.take (k + 1), x.2.length ≤ 300) := fun h x hx => by
        rw [List.take_succ_eq_append_getElem hlt] at hx
        rcases List.mem_append.1 hx with h4 | h4
        · exact H3.out x h4
        · obtain rfl : x = xs[k] := by simpa using h4
          exact h
      obtain ⟨n, hn9⟩ : ∃ n, xs[k].1 = n := ⟨_, rfl⟩
      obtain ⟨l, hl9⟩ : ∃ l, xs[k].2 = l := ⟨_, rfl⟩
      rw [hn9] at hnn HPT
      rw [hl9] at hbd hX hcx hlx HPT H3N
      have y0 : wr.cell? ⟨g, off + k * 10, none⟩ = some (.int .i64 (n 0)) := hnn 0 (by omega)
      have y1 : wr.cell? ⟨g, off + k * 10 + 1, none⟩ = some (.int .i64 (n 1)) := hnn 1 (by omega)
      have y2 : wr.cell? ⟨g, off + k * 10 + 2, none⟩ = some (.int .i64 (n 2)) := hnn 2 (by omega)
      have y3 : wr.cell? ⟨g, off + k * 10 + 3, none⟩ = some (.int .i64 (n 3)) := hnn 3 (by omega)
      have y4 : wr.cell? ⟨g, off + k * 10 + 4, none⟩ = some (.int .i64 (n 4)) := hnn 4 (by omega)
      have y5 : wr.cell? ⟨g, off + k * 10 + 5, none⟩ = some (.int .i64 (n 5)) := hnn 5 (by omega)
      have y6 : wr.cell? ⟨g, off + k * 10 + 6, none⟩ = some (.int .i64 (n 6)) := hnn 6 (by omega)
      have y7 : wr.cell? ⟨g, off + k * 10 + 7, none⟩ = some (.int .i64 (n 7)) := hnn 7 (by omega)
      have y8 : wr.cell? ⟨g, off + k * 10 + 8, none⟩ = some (.int .i64 (n 8)) := hnn 8 (by omega)
      have HX := Lib.hid (hX.more HW.out.size)
      clear hn9 hl9 hcc hnn hX
      generalize putsL bl (xs.take k) = L at HPT HPS ⊢
      by_cases h5 : 300 < l.length
      · go_wp2_with fail
        refine (live_any wr).mono ?_
        rintro e wl ⟨rfl, hb⟩
        have HB := Lib.hid (HW.out.trans (hb.mono HW.out.size))
        clear hb hbd HX y0 y1 y2 y3 y4 y5 y6 y7 y8
        go_wp2
        go_ret
        exact ⟨rfl, HB.out⟩
      · go_wp2_with fail
        refine (rput_any n X cx l bl wr HX.out (by unfold maxLen; omega)).mono ?_
        rintro e w3 ⟨E, ce, rfl, hE, hce, hb⟩
        have HP1 := Lib.hid (putL_le n l bl).1
        obtain ⟨Q, hQ⟩ : ∃ Q, putL n l bl = Q := ⟨_, rfl⟩
        rw [hQ] at hE hce HPT HP1 ⊢
        obtain ⟨L2, hL2⟩ : ∃ L2, L ++ Q = L2 := ⟨_, rfl⟩
        have HL2 := Lib.hid hL2
        have hcv : (convert 22 9 (.slice E Q.length ce)).run Try.prog w3 = .ok (.string ⟨Q.toArray⟩) w3 := conv_any E ce _ Q w3 hE
        have hccL : (⟨L.toArray⟩ : ByteArray) ++ ⟨Q.toArray⟩ = ⟨L2.toArray⟩ := bytes_append _ _ _ hL2
        have hct : ¬ 9223372036854775807 < L.length + Q.length := by
          have h6 := HPS.out
          have h7 := HP1.out
          rw [HTL.out] at h6
          omega
        have HV3 := Lib.hid (HW.out.trans (hb.mono HW.out.size))
        have H3K := Lib.hid (H3N.out (by omega))
        clear hQ hL2 hE hce hb hbd HX y0 y1 y2 y3 y4 y5 y6 y7 y8 HW H3 H3N HPS HP1 HTL
        go_wp2
        go_roundw
        case rel => exact ⟨k + 1, by omega, by go_num, by rw [HPT.out, HL2.out], H3K.out, HV3.out⟩
        case measure => simp [intOf]; omega
    · obtain rfl : k = xs.length := by omega
      obtain ⟨L, hL⟩ : ∃ L, putsL bl xs = L := ⟨_, rfl⟩
      have HPL := Lib.hid hL
      have hls := putsL_small bl xs (fun x hx => H3.out x (by rw [List.take_length]; exact hx))
      rw [List.take_length, hL]
      rw [hL] at hls
      have HLS : Hid (L.length ≤ 46000) := by
        show _ ≤ _
        omega
      obtain ⟨cap, w2, hrun, hmk, hbm⟩ := conv_row L wr
      have HW2 := Lib.hid (HW.out.trans (hbm.mono HW.out.size))
      have HMO : Hid (Rd w2 w2.heap.size M mo) := (HA.out w2 HW2.out).2.more HW2.out.size
      have HMK := Lib.hid hmk
      have HWS := Lib.hid (And.intro HW.out.size hbm.size)
      clear hL hls hmk hbm H3
      go_upto_region 12 with (at_builtin; refine wpList_appM _ rfl (.tmp 51) (.tmp 52) rfl wr.heap.size wr.heap.size cap cm L mo M rfl rfl HMK.out (Nat.le_refl _) HMO.out (by have := HLS.out; omega) ?_; intro X cx w3 hX hcx hb3)
      have HW3 : Hid (Below w.heap.size w w3 ∧ Rd w3 w3.heap.size X (L ++ mo)) := ⟨HW2.out.trans (hb3.mono HWS.out.1), hX⟩
      have hTl : (L ++ mo).length ≤ 100000 := by
        have := HLS.out
        rw [List.length_append]
        omega
      obtain ⟨T, hT⟩ : ∃ T, L ++ mo = T := ⟨_, rfl⟩
      have hTL : L.length + mo.length = T.length := by rw [← hT, List.length_append]
      rw [hT] at HW3 hcx hTl
      rw [hTL]
      clear hTL
      have HTc := Lib.hid (And.intro hcx hTl)
      have HGP : Hid (∀ j, good T bl j → j ≤ xs.length + 18) := fun j hj => by
        rw [← hT, ← HPL.out] at hj
        exact good_puts (by omega) xs hj
      clear hX hcx hb3 hTl hT HLS HMK HMO HWS HW2 HW hrun
      go_wp2
      go_loopw [8, 9, 12] (fun ka na ia wr => ∃ j : Nat, ka = .int .i64 j ∧ ia = .int .i64 j ∧ na = .int .i64 (blk T bl j : Nat) ∧ good T bl j ∧ Below w3.heap.size w3 wr) (fun _ _ ia _ => xs.length + 22 - (intOf ia).toNat)
      case atStart => exact ⟨0, rfl, rfl, rfl, fun i hi => absurd hi (Nat.not_lt_zero i), Below.refl _ _⟩
      case round =>
        obtain ⟨j, rfl, rfl, rfl, hgj, hbj⟩ := hrel
        have hj18 := HGP.out j hgj
        have HG := Lib.hid hgj
        have HL2 : Hid (Below w.heap.size w wr ∧ w3.heap.size ≤ wr.heap.size ∧ Rd wr w3.heap.size X T) := ⟨HW3.out.1.trans (hbj.mono HW3.out.1.size), hbj.size, HW3.out.2.below hbj⟩
        have HBJ := Lib.hid hbj
        have HGL := Lib.hid (good_len hgj)
        clear hgj hbj
        obtain ⟨kk, hkk⟩ : ∃ kk, blk T bl j = kk := ⟨_, rfl⟩
        rw [hkk] at HGL ⊢
        have HKK := Lib.hid hkk
        have c1 : (j : Int) ≤ (xs.length : Int) + 20 := by omega
        clear hkk
        by_cases hbl : 1 ≤ bl
        · obtain ⟨S, rfl⟩ : ∃ S : Nat, bl = (S : Int) := ⟨bl.toNat, by omega⟩
          rw [Int.toNat_natCast] at HGL
          have hks := HGL.out.2
          have hwr : wrap64 ((kk : Int) * (S : Int)) = ((kk * S : Nat) : Int) := by
            have e : (kk : Int) * (S : Int) = ((kk * S : Nat) : Int) := by simp
            rw [e]
            have := HTc.out.2
            clear e
            generalize kk * S = y at hks
            unfold wrap64
            omega
          obtain ⟨X2, hX2, hsl⟩ := slice_suf X cx T (kk * S) (wrap64 ((kk : Int) * (S : Int))) hks HTc.out.1 hwr
          obtain ⟨U, hU⟩ : ∃ U, T.drop (kk * S) = U := ⟨_, rfl⟩
          rw [hU] at hX2
          have HUL : Hid (U.length = T.length - kk * S ∧ U.length ≤ cx - kk * S ∧ U.length ≤ 10000000) := by
            have h1 : U.length = T.length - kk * S := by rw [← hU, List.length_drop]
            refine ⟨h1, by rw [h1]; exact Nat.sub_le_sub_right HTc.out.1 _, ?_⟩
            rw [h1]
            exact Nat.le_trans (Nat.sub_le _ _) (Nat.le_trans HTc.out.2 (by omega))
          have HGE : Hid (getE (T.drop (blk T (S : Int) j * (S : Int).toNat)) (S : Int) = getE U (S : Int)) := by
            show _ = _
            rw [HKK.out, Int.toNat_natCast, hU]
          have HB2 : Hid (blk T (S : Int) (j + 1) = kk + getK U (S : Int)) := by
            show blk T (S : Int) j + getK (T.drop (blk T (S : Int) j * (S : Int).toNat)) (S : Int) = _
            rw [HKK.out, Int.toNat_natCast, hU]
          obtain ⟨n, hn⟩ : ∃ n, getN U (S : Int) = n := ⟨_, rfl⟩
          obtain ⟨d, hd⟩ : ∃ d, getD U (S : Int) = d := ⟨_, rfl⟩
          obtain ⟨k, hk2⟩ : ∃ k, getK U (S : Int) = k := ⟨_, rfl⟩
          obtain ⟨er, he⟩ : ∃ er, getE U (S : Int) = er := ⟨_, rfl⟩
          have HGT : Hid (Calls Try.prog 17 #[.slice X2 (T.length - kk * S) (cx - kk * S), .int .i64 (S : Int)] wr (GetG wr n d k er)) := by
            have h := rget_any X2 (cx - kk * S) U (S : Int) wr ((hX2 _ _ HL2.out.2.2).more HL2.out.2.1) HUL.out.2.1 HUL.out.2.2
            rw [hn, hd, hk2, he, HUL.out.1] at h
            exact h
          rw [he] at HGE
          rw [hk2] at HB2
          clear hn hd hk2 he hX2 hU hwr hks HUL
          go_wp2_with fail
          with_reducible refine HGT.out.mono ?_
          rintro e w4 ⟨D, cd, rfl, hD, hb⟩
          have HV4 : Hid (Below w.heap.size w w4 ∧ w3.heap.size ≤ w4.heap.size ∧ Rd w4 w3.heap.size X T ∧ Below w3.heap.size w3 w4) := ⟨HL2.out.1.trans (hb.mono HL2.out.1.size), Nat.le_trans HL2.out.2.1 hb.size, HL2.out.2.2.below (hb.mono HL2.out.2.1), HBJ.out.trans (hb.mono HL2.out.2.1)⟩
          clear hb hD HGT HL2 HBJ hsl
          go_upto_region 16 with fail
          have HV5 : Hid (Below w.heap.size w (w4.alloc (.cells #[.int .i64 (n 0), .int .i64 (n 1), .int .i64 (n 2), .int .i64 (n 3), .int .i64 (n 4), .int .i64 (n 5), .int .i64 (n 6), .int .i64 (n 7), .int .i64 (n 8), .slice D d.length cd] 24)) ∧ w3.heap.size ≤ (w4.alloc (.cells #[.int .i64 (n 0), .int .i64 (n 1), .int .i64 (n 2), .int .i64 (n 3), .int .i64 (n 4), .int .i64 (n 5), .int .i64 (n 6), .int .i64 (n 7), .int .i64 (n 8), .slice D d.length cd] 24)).heap.size ∧ Rd (w4.alloc (.cells #[.int .i64 (n 0), .int .i64 (n 1), .int .i64 (n 2), .int .i64 (n 3), .int .i64 (n 4), .int .i64 (n 5), .int .i64 (n 6), .int .i64 (n 7), .int .i64 (n 8), .slice D d.length cd] 24)) w3.heap.size X T ∧ Below w3.heap.size w3 (w4.alloc (.cells #[.int .i64 (n 0), .int .i64 (n 1), .int .i64 (n 2), .int .i64 (n 3), .int .i64 (n 4), .int .i64 (n 5), .int .i64 (n 6), .int .i64 (n 7), .int .i64 (n 8), .slice D d.length cd] 24))) := by
            have hb : Below w4.heap.size w4 (w4.alloc (.cells #[.int .i64 (n 0), .int .i64 (n 1), .int .i64 (n 2), .int .i64 (n 3), .int .i64 (n 4), .int .i64 (n 5), .int .i64 (n 6), .int .i64 (n 7), .int .i64 (n 8), .slice D d.length cd] 24)) := (Below.refl _ _).alloc (Nat.le_refl _) _
            exact ⟨HV4.out.1.trans (hb.mono HV4.out.1.size), Nat.le_trans HV4.out.2.1 hb.size, HV4.out.2.2.1.below (hb.mono HV4.out.2.1), HV4.out.2.2.2.trans (hb.mono HV4.out.2.1)⟩
          generalize (w4.alloc (.cells #[.int .i64 (n 0), .int .i64 (n 1), .int .i64 (n 2), .int .i64 (n 3), .int .i64 (n 4), .int .i64 (n 5), .int .i64 (n 6), .int .i64 (n 7), .int .i64 (n 8), .slice D d.length cd] 24)) = wz at HV5 ⊢
          clear HV4
          by_cases h0 : er = 0
          · subst h0
            have HG2 : Hid (good T (S : Int) (j + 1)) := good_next HG.out HGE.out
            have hln := good_len HG2.out
            rw [HB2.out, Int.toNat_natCast] at hln
            have hkb : kk + k ≤ 100000 := by
              have h1 : (kk + k) * 1 ≤ (kk + k) * S := Nat.mul_le_mul_left _ (by omega)
              have := HTc.out.2
              omega
            clear hln HGL
            go_wp2
            go_roundw
            case rel => exact ⟨j + 1, by go_num, by go_num, by rw [HB2.out]; go_num, HG2.out, HV5.out.2.2.2⟩
            case measure => simp [intOf]; omega
          · have h1 : (er != 0) = true := by simpa using h0
            have HST : Hid (¬ getE (T.drop (blk T (S : Int) j * (S : Int).toNat)) (S : Int) = 0) := by
              show ¬ _
              rw [HGE.out]
              exact h0
            have HL2 : Hid (Below w.heap.size w wz ∧ w3.heap.size ≤ wz.heap.size ∧ Rd wz w3.heap.size X T) := ⟨HV5.out.1, HV5.out.2.1, HV5.out.2.2.1⟩
            clear h0 HV5 HGL HGE HB2
            go_wp2_with fail
            refine (all_any X cx T (S : Int) wz (HL2.out.2.2.more HL2.out.2.1) HTc.out.1 (Nat.le_trans HTc.out.2 (by omega))).mono ?_
            rintro e w5 ⟨j2, v, hg2, hs2, rfl, hown, hb⟩
            obtain rfl : j2 = j := good_stop hg2 HG.out hs2 HST.out
            obtain ⟨A4, c4, rfl⟩ := hown.form
            have HV5 := Lib.hid (HL2.out.1.trans (hb.mono HL2.out.1.size))
            clear hg2 hs2 hown hb HL2
            rw [HKK.out]
            go_wp2_with fail
            refine (join_any A c xs (S : Int) w5 ((HA.out w5 HV5.out).1.more HV5.out.size) (by omega)).mono ?_
            rintro e w6 ⟨E, ce, rfl, hE, hce, hb⟩
            rw [HPL.out] at hE hce ⊢
            have hcv : (convert 22 9 (.slice E L.length ce)).run Try.prog w6 = .ok (.string ⟨L.toArray⟩) w6 := conv_any E ce _ L w6 hE
            have HV6 := Lib.hid (HV5.out.trans (hb.mono HV5.out.size))
            clear hE hce hb HV5
            go_wp2_with fail
            refine (live_any w6).mono ?_
            rintro e w7 ⟨rfl, hb⟩
            have HV7 := Lib.hid (HV6.out.trans (hb.mono HV6.out.size))
            clear hb HV6 hcv
            go_wp2
            go_ret
            exact ⟨rfl, HV7.out⟩
        · have HST : Hid (¬ getE (T.drop (blk T bl j * bl.toNat)) bl = 0) := fun h => absurd (mayB_iff.1 (getE_ok h).1).1 hbl
          clear HBJ HGL
          go_wp2_with fail
          refine (all_any X cx T bl wr (HL2.out.2.2.more HL2.out.2.1) HTc.out.1 (Nat.le_trans HTc.out.2 (by omega))).mono ?_
          rintro e w5 ⟨j2, v, hg2, hs2, rfl, hown, hb⟩
          obtain rfl : j2 = j := good_stop hg2 HG.out hs2 HST.out
          obtain ⟨A4, c4, rfl⟩ := hown.form
          have HV5 := Lib.hid (HL2.out.1.trans (hb.mono HL2.out.1.size))
          clear hg2 hs2 hown hb HL2
          rw [HKK.out]
          go_wp2_with fail
          refine (join_any A c xs bl w5 ((HA.out w5 HV5.out).1.more HV5.out.size) (by omega)).mono ?_
          rintro e w6 ⟨E, ce, rfl, hE, hce, hb⟩
          rw [HPL.out] at hE hce ⊢
          have hcv : (convert 22 9 (.slice E L.length ce)).run Try.prog w6 = .ok (.string ⟨L.toArray⟩) w6 := conv_any E ce _ L w6 hE
          have HV6 := Lib.hid (HV5.out.trans (hb.mono HV5.out.size))
          clear hE hce hb HV5
          go_wp2_with fail
          refine (live_any w6).mono ?_
          rintro e w7 ⟨rfl, hb⟩
          have HV7 := Lib.hid (HV6.out.trans (hb.mono HV6.out.size))
          clear hb HV6 hcv
          go_wp2
          go_ret
          exact ⟨rfl, HV7.out⟩
theorem recJoins_walk (A : Option Addr) (c : Nat) (xs : List ((Nat → Int) × List UInt8)) (bl : Int) (M : Option Addr) (cm : Nat) (mo : List UInt8) (w : World) (hr : Recs w w.heap.size A xs) (hn : xs.length ≤ maxLen) (hm : Rd w w.heap.size M mo) (hmc : mo.length ≤ cm) (hm1 : mo.length ≤ 140737488351232) : Calls Try.prog 7 #[.slice A xs.length c, .int .i64 bl, .slice M mo.length cm] w (Says w (.bool true)) := by
  by_cases h : 10 < xs.length
  · exact recJoins_big1 A c xs bl M cm mo w hr hn hm hmc hm1 h
  · by_cases h2 : 300 < mo.length
    · exact recJoins_big2 A c xs bl M cm mo w hr hn hm hmc hm1 h h2
    · exact recJoins_go A c xs bl M cm mo w hr hn hm hmc hm1 h h2
end Go.Proofs.Ytmebbggmdfejkaa
