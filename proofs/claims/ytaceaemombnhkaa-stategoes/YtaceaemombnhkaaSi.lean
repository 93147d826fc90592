/- The contract of the reference's Right. -/
import Derived.Test.YtaceaemombnhkaaSh
namespace Go.Proofs.Ytaceaemombnhkaa
set_option linter.unusedVariables false
set_option maxRecDepth 100000
set_option linter.unusedSimpArgs false
open Go.RowKit
open Go.RowKit (wrap64)

theorem cellB {w : World} {p : Addr} {v : Value} {B : Nat} (h : w.cell? p = some v) (hp : p.block < B) : ∀ w', Below B w w' → w'.cell? p = some v := fun w' hb => (hb.cell hp).trans h
set_option maxHeartbeats 4000000 in
theorem rright_any (c : Cf) (ep sq : Int) (A : Option Addr) (st : List Int) (k : Nat) (D : Option Addr) (zs : List Zn) (d : Nat) (w : World) (h : StAt w (LT w.heap.size) A st k D zs d) (hl1 : st.length ≤ 1000000) (hl2 : zs.length ≤ 1000000) :
    Calls Try.prog 16 #[(.agg #[.int .i64 c.id, .int .i64 c.m, .int .i64 c.u, .int .i64 c.b, .int .i64 c.cp, .int .i64 c.z, .int .i64 c.s, .int .i64 c.mt, .int .i64 c.o, .int .i64 c.a, .int .i64 c.l, .int .i64 ep, .int .i64 sq, .slice A st.length k, .slice D zs.length d])] w (SaysP w (RightS ⟨c, ep, sq, st, zs⟩)) := by
  go_enter Try.func16, Try.ntmps16
  go_upto_region 1 with fail
  have HV := Lib.hid (StIn.new (c := c) (ep := ep) (sq := sq) h)
  generalize (w.alloc (.cells #[.int .i64 c.id, .int .i64 c.m, .int .i64 c.u, .int .i64 c.b, .int .i64 c.cp, .int .i64 c.z, .int .i64 c.s, .int .i64 c.mt, .int .i64 c.o, .int .i64 c.a, .int .i64 c.l, .int .i64 ep, .int .i64 sq, .slice A st.length k, .slice D zs.length d] 27)) = w0 at HV ⊢
  clear h
  obtain ⟨y0, y1, y2, y3, y4, y5, y6, y7, y8, y9, y10, y11, y12, y13, y14⟩ := box15 HV.out.1
  go_wp2_with fail
  refine (refCheck_any c w0).mono ?_
  rintro e w1 ⟨rfl, hb⟩
  have HV1 := Lib.hid (HV.out.later hb)
  clear hb HV y0 y1 y2 y3 y4 y5 y6 y7 y8 y9 y10 y11 y12 y13 y14
  obtain ⟨y0, y1, y2, y3, y4, y5, y6, y7, y8, y9, y10, y11, y12, y13, y14⟩ := box15 HV1.out.1
  by_cases hc : checkC c = 0
  case neg =>
    have hcb : (checkC c != 0) = true := by simpa using hc
    have HC := Lib.hid hc
    clear hc
    go_wp2
    go_ret
    exact SaysP.no (fun h => HC.out h.conf) HV1.out.2.2
  have hcb : (checkC c != 0) = false := by simp [hc]
  have HC := Lib.hid hc
  clear hc
  by_cases k0 : ep < 1
  · have HK := Lib.hid k0
    go_wp2
    go_ret
    exact SaysP.no (fun h => by have h1 := h.ep.1; have h2 := HK.out; dsimp only at h1; omega) HV1.out.2.2
  by_cases k1 : 1099511627776 < ep
  · have k0 := k1
    have HK := Lib.hid k0
    go_wp2
    go_ret
    exact SaysP.no (fun h => by have h1 := h.ep.2; have h2 := HK.out; dsimp only at h1; omega) HV1.out.2.2
  by_cases k2 : sq < 0
  · have HK := Lib.hid k2
    go_wp2
    go_ret
    exact SaysP.no (fun h => by have h1 := h.sq.1; have h2 := HK.out; dsimp only at h1; omega) HV1.out.2.2
  by_cases k3 : 1099511627776 < sq
  · have HK := Lib.hid k3
    go_wp2
    go_ret
    exact SaysP.no (fun h => by have h1 := h.sq.2; have h2 := HK.out; dsimp only at h1; omega) HV1.out.2.2
  have HEP : Hid ((1 ≤ ep ∧ ep ≤ 1099511627776) ∧ (0 ≤ sq ∧ sq ≤ 1099511627776)) := ⟨by omega, by omega⟩
  by_cases h1 : (st.length : Int) = c.m
  case neg =>
    have h1b : ((st.length : Int) != c.m) = true := by simpa using h1
    have H1 := Lib.hid h1
    clear h1
    go_wp2
    go_ret
    exact SaysP.no (fun h => H1.out h.stat) HV1.out.2.2
  have h1b : ((st.length : Int) != c.m) = false := by simp [h1]
  have H1 := Lib.hid h1
  clear h1
  by_cases h2 : (zs.length : Int) = c.z
  case neg =>
    have h2b : ((zs.length : Int) != c.z) = true := by simpa using h2
    have H2 := Lib.hid h2
    clear h2
    go_wp2
    go_ret
    exact SaysP.no (fun h => H2.out h.zone) HV1.out.2.2
  have h2b : ((zs.length : Int) != c.z) = false := by simp [h2]
  have H2 := Lib.hid h2
  clear h2
  go_wp2
  clear hcb h1b h2b k0 k1 k2 k3
  go_loop [3, 4] (fun o i => ∃ q : Nat, q ≤ st.length ∧ i = .int .i64 q ∧ o = .int .i64 (oddN (st.take q) : Nat) ∧ (∀ j (hj : j < st.length), j < q → 0 ≤ st[j] ∧ st[j] ≤ 2)) (fun _ i => st.length - (intOf i).toNat)
  case atStart => exact ⟨0, by omega, rfl, rfl, fun j _ hj => absurd hj (Nat.not_lt_zero j)⟩
  case round =>
    obtain ⟨q, hq, rfl, rfl, hall⟩ := hrel
    by_cases hlt : q < st.length
    · obtain ⟨g, off, rfl, hg, hc⟩ := HV1.out.2.1.1 (by omega)
      have hcq := hc q hlt
      have HN : Hid (0 ≤ st[q] ∧ st[q] ≤ 2 → ∀ j (hj : j < st.length), j < q + 1 → 0 ≤ st[j] ∧ st[j] ≤ 2) := fun hx j hj hjk => by
        rcases Nat.lt_or_ge j q with h1 | h1
        · exact hall j hj h1
        · obtain rfl : j = q := by omega
          exact hx
      have HT := Lib.hid (oddN_take hlt)
      have HO := Lib.hid (oddN_mid (Nat.le_of_lt hlt))
      have HM : Hid (st[q] ∈ st) := List.getElem_mem hlt
      clear hall hc hg
      generalize st[q] = m at hcq HN HT HM
      generalize oddN (st.take q) = o at HT HO ⊢
      have ho := HO.out
      by_cases m1 : m < 0
      · have HK := Lib.hid m1
        go_wp2
        go_ret
        exact SaysP.no (fun h => by have h1 := h.stand.1 m HM.out; have h2 := HK.out; omega) HV1.out.2.2
      by_cases m2 : 2 < m
      · have HK := Lib.hid m2
        go_wp2
        go_ret
        exact SaysP.no (fun h => by have h1 := h.stand.1 m HM.out; have h2 := HK.out; omega) HV1.out.2.2
      have HN2 := Lib.hid (HN.out ⟨by omega, by omega⟩)
      by_cases m3 : 0 < m
      · have HT2 : Hid (oddN (st.take (q + 1)) = o + 1) := by
          show _ = _
          rw [HT.out, if_neg (by omega)]
        go_wp2
        go_round
        case rel => exact ⟨q + 1, by omega, by go_num, by rw [HT2.out]; go_num, HN2.out⟩
        case measure => simp [intOf]; omega
      · have HT2 : Hid (oddN (st.take (q + 1)) = o) := by
          show _ = _
          rw [HT.out, if_pos (by omega), Nat.add_zero]
        go_wp2
        go_round
        case rel => exact ⟨q + 1, by omega, by go_num, by rw [HT2.out], HN2.out⟩
        case measure => simp [intOf]; omega
    · obtain rfl : q = st.length := by omega
      rw [List.take_length]
      have HST : Hid (oddN st < 2 ↔ StandR st) := ⟨fun ho => ⟨fun n hn => by
        obtain ⟨j, hj, e⟩ := List.getElem_of_mem hn
        rw [← e]
        exact hall j hj hj, by omega⟩, fun h => by have := h.2; omega⟩
      clear hall hlt hq
      generalize oddN st = o at HST ⊢
      go_wp2
      clear y0 y1 y2 y3 y4 y5 y6 y7 y8 y9 y10 y11 y12 y13 y14
      go_loopw [5, 6] (fun i _ wr => ∃ q : Nat, q ≤ zs.length ∧ i = .int .i64 q ∧ (∀ j (hj : j < zs.length), j < q → ZoneR c (2 ∈ st) zs[j]) ∧ (∀ j (hj : j < zs.length), j < q → ∀ m (hm : m < j), zs[m].slot = zs[j].slot → zs[j].slot = -1) ∧ StIn c ep sq A st k D zs d w wr) (fun i _ _ => zs.length - (intOf i).toNat)
      case atStart => exact ⟨0, by omega, rfl, fun j _ hj => absurd hj (Nat.not_lt_zero j), fun j _ hj => absurd hj (Nat.not_lt_zero j), HV1.out⟩
      case round =>
        clear HV1
        obtain ⟨q, hq, rfl, hall, hap, hst⟩ := hrel
        have HS := Lib.hid hst
        have HALL := Lib.hid (And.intro hall hap)
        clear hst hall hap
        by_cases hlt : q < zs.length
        · obtain ⟨y0, y1, y2, y3, y4, y5, y6, y7, y8, y9, y10, y11, y12, y13, y14⟩ := box15 HS.out.1
          obtain ⟨g, off, rfl, hg, hc⟩ := HS.out.2.1.2.1 (by omega)
          obtain ⟨Y, y, c0, c1, c2, c3, c4, c5, hps, hpy, hpl⟩ := hc q hlt
          have HPS := Lib.hid hps
          have HM : Hid (zs[q] ∈ zs) := List.getElem_mem hlt
          have HNZ : Hid (ZoneR c (2 ∈ st) zs[q] → ∀ j (hj : j < zs.length), j < q + 1 → ZoneR c (2 ∈ st) zs[j]) := fun hx j hj hjk => by
            rcases Nat.lt_or_ge j q with h1 | h1
            · exact HALL.out.1 j hj h1
            · obtain rfl : j = q := by omega
              exact hx
          have HNA : Hid ((∀ m (hm : m < q), zs[m].slot = zs[q].slot → zs[q].slot = -1) → ∀ j (hj : j < zs.length), j < q + 1 → ∀ m (hm : m < j), zs[m].slot = zs[j].slot → zs[j].slot = -1) := fun hx j hj hjk => by
            rcases Nat.lt_or_ge j q with h1 | h1
            · exact HALL.out.2 j hj h1
            · obtain rfl : j = q := by omega
              exact hx
          have HNB : Hid (∀ m (hm : m < q), zs[m].slot = zs[q].slot → zs[q].slot ≠ -1 → ¬ ApartR zs) := fun m hm he hn ha => hn (apart_at.1 ha q hlt m hm he)
          clear hc hps HALL
          obtain ⟨s0, hs0⟩ : ∃ s0, zs[q].slot = s0 := ⟨_, rfl⟩
          have HSQ := Lib.hid hs0
          rw [hs0] at HNA HNB
          generalize hz : zs[q] = p at c0 c1 c2 c3 c4 c5 HPS HM HNZ hpl hs0
          clear hz
          obtain ⟨gen, slot, full, zw, whole, ps⟩ := p
          dsimp only at c0 c1 c2 c3 c4 c5 hpl hs0
          subst hs0
          have HPS : Hid (PrsAt wr (LT wr.heap.size) Y ps) := HPS.out
          go_upto_region 14 with fail
          clear y0 y1 y2 y3 y4 y5 y6 y7 y8 y9 y10 y11 y12 y13 y14
          refine wpB_start wr.heap.size (by kernel_rfl) ?_
          have HS1 : Hid (StIn c ep sq A st k (some ⟨g, off, none⟩) zs d w wr.drew ∧ wr.drew.heap.size = wr.heap.size ∧ w.heap.size < wr.heap.size ∧ PrsAt wr.drew (LT wr.drew.heap.size) Y ps) := ⟨HS.out.later (Below.refl _ _).drew, rfl, HS.out.1.lt, HPS.out.later (Below.refl _ _).drew⟩
          have x0 := cellB c0 hg
          have x1 := cellB c1 hg
          have x2 := cellB c2 hg
          have x3 := cellB c3 hg
          have x4 := cellB c4 hg
          have x5 := cellB c5 hg
          have hdd : ∀ w', Below wr.heap.size wr.drew w' → Below wr.heap.size wr w' := fun w' h => ⟨h.os, h.tape, h.output, h.size, h.block⟩
          have x0 := fun w' h => x0 w' (hdd w' h)
          have x1 := fun w' h => x1 w' (hdd w' h)
          have x2 := fun w' h => x2 w' (hdd w' h)
          have x3 := fun w' h => x3 w' (hdd w' h)
          have x4 := fun w' h => x4 w' (hdd w' h)
          have x5 := fun w' h => x5 w' (hdd w' h)
          generalize hB : wr.heap.size = B at HS1 x0 x1 x2 x3 x4 x5 ⊢
          generalize wr.drew = w2 at HS1 x0 x1 x2 x3 x4 x5 ⊢
          clear hdd hB HPS HS c0 c1 c2 c3 c4 c5 hg
          have y0 := Box.at_ (B := B) HS1.out.1.1 HS1.out.2.2.1 (i := 0) rfl
          have y1 := Box.at_ (B := B) HS1.out.1.1 HS1.out.2.2.1 (i := 1) rfl
          have y2 := Box.at_ (B := B) HS1.out.1.1 HS1.out.2.2.1 (i := 2) rfl
          have y3 := Box.at_ (B := B) HS1.out.1.1 HS1.out.2.2.1 (i := 3) rfl
          have y4 := Box.at_ (B := B) HS1.out.1.1 HS1.out.2.2.1 (i := 4) rfl
          have y5 := Box.at_ (B := B) HS1.out.1.1 HS1.out.2.2.1 (i := 5) rfl
          have y6 := Box.at_ (B := B) HS1.out.1.1 HS1.out.2.2.1 (i := 6) rfl
          have y7 := Box.at_ (B := B) HS1.out.1.1 HS1.out.2.2.1 (i := 7) rfl
          have y8 := Box.at_ (B := B) HS1.out.1.1 HS1.out.2.2.1 (i := 8) rfl
          have y9 := Box.at_ (B := B) HS1.out.1.1 HS1.out.2.2.1 (i := 9) rfl
          have y10 := Box.at_ (B := B) HS1.out.1.1 HS1.out.2.2.1 (i := 10) rfl
          have y11 := Box.at_ (B := B) HS1.out.1.1 HS1.out.2.2.1 (i := 11) rfl
          have y12 := Box.at_ (B := B) HS1.out.1.1 HS1.out.2.2.1 (i := 12) rfl
          have y13 := Box.at_ (B := B) HS1.out.1.1 HS1.out.2.2.1 (i := 13) rfl
          have y14 := Box.at_ (B := B) HS1.out.1.1 HS1.out.2.2.1 (i := 14) rfl
          refine wpB_take (i := 0) (d := 85) (v := ?v14x0) rfl rfl (by kernel_rfl) (by kernel_rfl) (by kernel_rfl) (fun _ _ _ h => h) (by rfl) ?y14x0 ?r14x0
          case y14x0 => (intro w' hSw; go_simp; try (with_reducible rfl))
          simp only [Act.put, List.setIfInBounds_toArray, List.set_cons_zero, List.set_cons_succ]
          refine wpB_take (i := 1) (d := 86) (v := ?v14x1) rfl rfl (by kernel_rfl) (by kernel_rfl) (by kernel_rfl) (fun _ _ _ h => h) (by rfl) ?y14x1 ?r14x1
          case y14x1 => (intro w' hSw; go_simp; try (with_reducible rfl))
          simp only [Act.put, List.setIfInBounds_toArray, List.set_cons_zero, List.set_cons_succ]
          refine wpB_take (i := 2) (d := 87) (v := ?v14x2) rfl rfl (by kernel_rfl) (by kernel_rfl) (by kernel_rfl) (fun _ _ _ h => h) (by rfl) ?y14x2 ?r14x2
          case y14x2 => (intro w' hSw; go_simp; try (with_reducible rfl))
          simp only [Act.put, List.setIfInBounds_toArray, List.set_cons_zero, List.set_cons_succ]
          refine wpB_take (i := 3) (d := 88) (v := ?v14x3) rfl rfl (by kernel_rfl) (by kernel_rfl) (by kernel_rfl) (fun _ _ _ h => h) (by rfl) ?y14x3 ?r14x3
          case y14x3 => (intro w' hSw; go_simp; try (with_reducible rfl))
          simp only [Act.put, List.setIfInBounds_toArray, List.set_cons_zero, List.set_cons_succ]
          refine wpB_take (i := 4) (d := 89) (v := ?v14x4) rfl rfl (by kernel_rfl) (by kernel_rfl) (by kernel_rfl) (fun _ _ _ h => h) (by rfl) ?y14x4 ?r14x4
          case y14x4 => (intro w' hSw; go_simp; try (with_reducible rfl))
          simp only [Act.put, List.setIfInBounds_toArray, List.set_cons_zero, List.set_cons_succ]
          refine wpB_take (i := 5) (d := 90) (v := ?v14x5) rfl rfl (by kernel_rfl) (by kernel_rfl) (by kernel_rfl) (fun _ _ _ h => h) (by rfl) ?y14x5 ?r14x5
          case y14x5 => (intro w' hSw; go_simp; try (with_reducible rfl))
          simp only [Act.put, List.setIfInBounds_toArray, List.set_cons_zero, List.set_cons_succ]
          refine wpB_do (i := 6) (by kernel_rfl) rfl (by rfl) (fun K hK => ?_)
          go_simp
          refine (rzone_any c ep sq A st k (some ⟨g, off, none⟩) zs d gen slot full zw whole Y ps y w2 HS1.out.1.2.1 HS1.out.2.2.2 hl1 (check_good0 HC.out) hpl).mono ?_
          rintro e w3 ⟨b, rfl, hbb, hb⟩
          have HS3 := Lib.hid (HS1.out.1.later hb)
          have HE := Lib.hid hbb
          have hbk := hb.mono (Nat.le_of_eq HS1.out.2.1.symm)
          go_simp
          refine hK.out B _ _ (Nat.le_refl _) hbk ?_
          clear hK hb hbb hbk HS1 y0 y1 y2 y3 y4 y5 y6 y7 y8 y9 y10 y11 y12 y13 y14 x0 x1 x2 x3 x4 x5
          refine wpB_take (i := 7) (d := 92) (v := ?v14x7) rfl rfl (by kernel_rfl) (by kernel_rfl) (by kernel_rfl) (fun _ _ _ h => h) (by rfl) ?y14x7 ?r14x7
          case y14x7 => (intro w' hSw; go_simp; try (with_reducible rfl))
          simp only [Act.put, List.setIfInBounds_toArray, List.set_cons_zero, List.set_cons_succ]
          refine wpB_done (by kernel_rfl) ?_
          cases b with
          | false =>
            go_wp2
            go_ret
            exact SaysP.no (fun h => by have h1 := HE.out.2 (h.be _ HM.out); simp at h1) HS3.out.2.2
          | true =>
            have HNZ2 := Lib.hid (HNZ.out (HE.out.1 rfl))
            have HSG : Hid (-1 ≤ slot) := (HE.out.1 rfl).slot.1
            clear HE HNZ
            go_wp2
            go_loopw [6] (fun i wx => ∃ m : Nat, m ≤ q ∧ i = .int .i64 m ∧ (∀ j (hj : j < m) (hjq : j < q), zs[j].slot = slot → slot = -1) ∧ StIn c ep sq A st k (some ⟨g, off, none⟩) zs d w wx) (fun i _ => q - (intOf i).toNat)
            case atStart => exact ⟨0, by omega, rfl, fun j hj _ => absurd hj (Nat.not_lt_zero j), HS3.out⟩
            case round =>
              clear HS3
              obtain ⟨m, hm, rfl, hcl, hst⟩ := hrel
              have HX := Lib.hid hst
              have HCL := Lib.hid hcl
              clear hst hcl
              by_cases hmq : m < q
              · obtain ⟨y0, y1, y2, y3, y4, y5, y6, y7, y8, y9, y10, y11, y12, y13, y14⟩ := box15 HX.out.1
                obtain ⟨g', off', hD, hg, hc⟩ := HX.out.2.1.2.1 (by omega)
                simp only [Option.some.injEq, Addr.mk.injEq, and_true] at hD
                obtain ⟨rfl, rfl⟩ := hD
                obtain ⟨_, _, c0, c1, _⟩ := hc q hlt
                obtain ⟨_, _, d0, d1, _⟩ := hc m (by omega)
                rw [HSQ.out] at c1
                have HNX : Hid (zs[m].slot ≠ slot ∨ slot = -1 → ∀ j (hj : j < m + 1) (hjq : j < q), zs[j].slot = slot → slot = -1) := fun hx j hj hjq he => by
                  rcases Nat.lt_or_ge j m with h1 | h1
                  · exact HCL.out j h1 hjq he
                  · obtain rfl : j = m := by omega
                    rcases hx with hx | hx
                    · exact absurd he hx
                    · exact hx
                have HBA := Lib.hid (HNB.out m hmq)
                clear hc hg c0 d0
                generalize zs[m].slot = t at d1 HNX HBA
                by_cases he : t = slot
                · have heb : (t == slot) = true := by simpa using he
                  by_cases h0 : 0 ≤ slot
                  · have hd0 : decide (0 ≤ slot) = true := decide_eq_true h0
                    have HQ := Lib.hid (HBA.out he (by omega))
                    clear HBA HNX he h0
                    go_upto_region 19 with fail
                    go_quiet (fail)
                    have HW4 : Hid (Below w.heap.size w (wr.drewN nq)) := below_drewN HX.out.2.2 nq
                    generalize wr.drewN nq = w5 at HW4 ⊢
                    clear HX c1 d1 y0 y1 y2 y3 y4 y5 y6 y7 y8 y9 y10 y11 y12 y13 y14
                    go_wp2
                    go_ret
                    exact SaysP.no (fun h => HQ.out h.apart) HW4.out
                  · have hd0 : decide (0 ≤ slot) = false := decide_eq_false h0
                    have HNX2 := Lib.hid (HNX.out (Or.inr (by have := HSG.out; omega)))
                    clear HBA HNX he h0
                    go_upto_region 19 with fail
                    go_quiet (fail)
                    have HX5 := Lib.hid (HX.out.later (below_drewN (Below.refl _ _) nq))
                    generalize wr.drewN nq = w5 at HX5 ⊢
                    clear HX c1 d1 y0 y1 y2 y3 y4 y5 y6 y7 y8 y9 y10 y11 y12 y13 y14
                    go_wp2
                    go_roundw
                    case rel => exact ⟨m + 1, by omega, by go_num, HNX2.out, HX5.out⟩
                    case measure => simp [intOf]; omega
                · have heb : (t == slot) = false := by simpa using he
                  have HNX2 := Lib.hid (HNX.out (Or.inl he))
                  clear HBA HNX he
                  go_upto_region 19 with fail
                  go_quiet (fail)
                  have HX5 := Lib.hid (HX.out.later (below_drewN (Below.refl _ _) nq))
                  generalize wr.drewN nq = w5 at HX5 ⊢
                  clear HX c1 d1 y0 y1 y2 y3 y4 y5 y6 y7 y8 y9 y10 y11 y12 y13 y14
                  go_wp2
                  go_roundw
                  case rel => exact ⟨m + 1, by omega, by go_num, HNX2.out, HX5.out⟩
                  case measure => simp [intOf]; omega
              · obtain rfl : m = q := by omega
                go_wp2
                go_roundw
                case rel => exact ⟨m + 1, by omega, by go_num, HNZ2.out, HNA.out (fun j hj => HCL.out j hj hj), HX.out⟩
                case measure => simp [intOf]; omega
        · obtain rfl : q = zs.length := by omega
          have HZZ : Hid (∀ z ∈ zs, ZoneR c (2 ∈ st) z) := fun p hp => by
            obtain ⟨j, hj, e⟩ := List.getElem_of_mem hp
            rw [← e]
            exact HALL.out.1 j hj hj
          have HAA : Hid (ApartR zs) := apart_at.2 fun i hi k hk he => HALL.out.2 i hi hi k hk he
          clear HALL
          obtain ⟨y0, y1, y2, y3, y4, y5, y6, y7, y8, y9, y10, y11, y12, y13, y14⟩ := box15 HS.out.1
          go_wp2
          go_ret
          refine ⟨_, rfl, ?_, HS.out.2.2⟩
          rw [decide_eq_true_eq]
          exact ⟨fun h => ⟨HC.out, H1.out, H2.out, HEP.out.1, HEP.out.2, HST.out.1 (by omega), HZZ.out, HAA.out⟩, fun h => by have := HST.out.2 h.stand; omega⟩
end Go.Proofs.Ytaceaemombnhkaa
