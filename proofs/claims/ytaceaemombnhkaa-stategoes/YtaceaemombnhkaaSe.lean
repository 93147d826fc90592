/- The contract of mayBe. -/
import Derived.Test.YtaceaemombnhkaaSd
namespace Go.Proofs.Ytaceaemombnhkaa
set_option linter.unusedVariables false
set_option maxRecDepth 100000
set_option linter.unusedSimpArgs false
open Go.RowKit
open Go.RowKit (wrap64)

set_option maxHeartbeats 4000000 in
theorem be_any (c : Cf) (D : Option Addr) (zs : List Zn) (d : Nat) (reb : Bool) (w : World) (h : ZnsAt w (LT w.heap.size) D zs) (hl : zs.length ≤ 1000000) :
    Calls Try.prog 54 #[(.agg #[.int .i64 1, .int .i64 1099511627776, .int .i64 0, .int .i64 1099511627776, .int .i64 0, .int .i64 2, .int .i64 0, .int .i64 1099511627776, .int .i64 (-1), .int .i64 (slotsC c - 1), .int .i64 0, .int .i64 (sizeC c), .int .i64 0, .int .i64 2, .int .i64 1, .int .i64 (sizeC c), .int .i64 (c.u * c.b)]), .slice D zs.length d, .bool reb] w (SaysP w (∀ z ∈ zs, ZoneR c (reb = true) z)) := by
  go_enter Try.func54, Try.ntmps54
  go_upto_region 1 with fail
  have HV : Hid (∀ w1, Below (w.alloc (.cells #[.int .i64 1, .int .i64 1099511627776, .int .i64 0, .int .i64 1099511627776, .int .i64 0, .int .i64 2, .int .i64 0, .int .i64 1099511627776, .int .i64 (-1), .int .i64 (slotsC c - 1), .int .i64 0, .int .i64 (sizeC c), .int .i64 0, .int .i64 2, .int .i64 1, .int .i64 (sizeC c), .int .i64 (c.u * c.b)] 81)).heap.size (w.alloc (.cells #[.int .i64 1, .int .i64 1099511627776, .int .i64 0, .int .i64 1099511627776, .int .i64 0, .int .i64 2, .int .i64 0, .int .i64 1099511627776, .int .i64 (-1), .int .i64 (slotsC c - 1), .int .i64 0, .int .i64 (sizeC c), .int .i64 0, .int .i64 2, .int .i64 1, .int .i64 (sizeC c), .int .i64 (c.u * c.b)] 81)) w1 → Box w1 w.heap.size 81 #[.int .i64 1, .int .i64 1099511627776, .int .i64 0, .int .i64 1099511627776, .int .i64 0, .int .i64 2, .int .i64 0, .int .i64 1099511627776, .int .i64 (-1), .int .i64 (slotsC c - 1), .int .i64 0, .int .i64 (sizeC c), .int .i64 0, .int .i64 2, .int .i64 1, .int .i64 (sizeC c), .int .i64 (c.u * c.b)] ∧ ZnsAt w1 (LT w1.heap.size) D zs ∧ Below w.heap.size w w1) := fun w1 hb => ⟨(Box.fresh w 81 #[.int .i64 1, .int .i64 1099511627776, .int .i64 0, .int .i64 1099511627776, .int .i64 0, .int .i64 2, .int .i64 0, .int .i64 1099511627776, .int .i64 (-1), .int .i64 (slotsC c - 1), .int .i64 0, .int .i64 (sizeC c), .int .i64 0, .int .i64 2, .int .i64 1, .int .i64 (sizeC c), .int .i64 (c.u * c.b)]).later hb, h.later (below_trans (below_one w _) hb), below_trans (below_one w _) hb⟩
  generalize (w.alloc (.cells #[.int .i64 1, .int .i64 1099511627776, .int .i64 0, .int .i64 1099511627776, .int .i64 0, .int .i64 2, .int .i64 0, .int .i64 1099511627776, .int .i64 (-1), .int .i64 (slotsC c - 1), .int .i64 0, .int .i64 (sizeC c), .int .i64 0, .int .i64 2, .int .i64 1, .int .i64 (sizeC c), .int .i64 (c.u * c.b)] 81)) = w0 at HV ⊢
  clear h
  go_wp2
  go_loopw [8, 9, 12] (fun _ _ i wr => ∃ q : Nat, q ≤ zs.length ∧ i = .int .i64 q ∧ (∀ j (hj : j < zs.length), j < q → ZoneR c (reb = true) zs[j]) ∧ Below w0.heap.size w0 wr) (fun _ _ i _ => zs.length - (intOf i).toNat)
  case atStart => exact ⟨0, by omega, rfl, fun j _ hj => absurd hj (Nat.not_lt_zero j), Below.refl _ _⟩
  case round =>
    obtain ⟨q, hq, rfl, hall, hb0⟩ := hrel
    have HB := Lib.hid hb0
    obtain ⟨h1, h2, h3⟩ := HV.out wr hb0
    by_cases hlt : q < zs.length
    · obtain ⟨g, off, rfl, hg, hc⟩ := h2 (by omega)
      obtain ⟨Y, y, c0, c1, c2, c3, c4, c5, hps, hpy⟩ := hc q hlt
      have HN : Hid (ZoneR c (reb = true) zs[q] → ∀ j (hj : j < zs.length), j < q + 1 → ZoneR c (reb = true) zs[j]) := fun hx j hj hjk => by
        rcases Nat.lt_or_ge j q with h1 | h1
        · exact hall j hj h1
        · obtain rfl : j = q := by omega
          exact hx
      have HM : Hid (zs[q] ∈ zs) := List.getElem_mem hlt
      clear hall hc h1 h2 h3 hg hb0
      generalize zs[q] = p at c0 c1 c2 c3 c4 c5 HN HM hps hpy
      obtain ⟨gen, slot, full, zw, whole, ps⟩ := p
      dsimp only at c0 c1 c2 c3 c4 c5 hps hpy
      go_upto_region 4 with fail
      have HP := Lib.hid (Box.fresh wr 51 #[.int .i64 gen, .int .i64 slot, .bool full, .int .i64 zw, .bool whole, .slice Y ps.length y])
      have HB2 : Hid (Below w0.heap.size w0 (wr.alloc (.cells #[.int .i64 gen, .int .i64 slot, .bool full, .int .i64 zw, .bool whole, .slice Y ps.length y] 51))) := below_trans HB.out (below_one _ _)
      have HPS : Hid (PrsAt (wr.alloc (.cells #[.int .i64 gen, .int .i64 slot, .bool full, .int .i64 zw, .bool whole, .slice Y ps.length y] 51)) (LT (wr.alloc (.cells #[.int .i64 gen, .int .i64 slot, .bool full, .int .i64 zw, .bool whole, .slice Y ps.length y] 51)).heap.size) Y ps) := hps.later (below_one _ _)
      generalize (wr.alloc (.cells #[.int .i64 gen, .int .i64 slot, .bool full, .int .i64 zw, .bool whole, .slice Y ps.length y] 51)) = w2 at HP HB2 HPS ⊢
      generalize wr.heap.size = g2 at HP ⊢
      clear c0 c1 c2 c3 c4 c5 HB hps
      obtain ⟨y0, y1, y2, y3, y4, y5, y6, y7, y8, y9, y10, y11, y12, y13, y14, y15, y16⟩ := box17 (HV.out w2 HB2.out).1
      obtain ⟨z0, z1, z2, z3, z4, z5⟩ := box6 HP.out
      go_wp2_with fail
      refine (has_any 0 1099511627776 gen w2).mono ?_
      rintro e w3 ⟨b, rfl, hbb, hb1⟩
      have HPS3 := Lib.hid (HPS.out.later hb1)
      have HB3 := Lib.hid (below_trans HB2.out hb1)
      have HZ3 := Lib.hid (HP.out.later hb1)
      clear hb1 HB2 HP HPS y0 y1 y2 y3 y4 y5 y6 y7 y8 y9 y10 y11 y12 y13 y14 y15 y16 z0 z1 z2 z3 z4 z5
      obtain ⟨y0, y1, y2, y3, y4, y5, y6, y7, y8, y9, y10, y11, y12, y13, y14, y15, y16⟩ := box17 (HV.out w3 HB3.out).1
      obtain ⟨z0, z1, z2, z3, z4, z5⟩ := box6 HZ3.out
      cases b with
      | false =>
        have hn : ¬ (0 ≤ gen ∧ gen ≤ 1099511627776) := fun h => by have := hbb.2 h; simp at this
        clear hbb
        go_wp2
        go_ret
        exact SaysP.no (fun h => hn (h _ HM.out).gen) (HV.out _ HB3.out).2.2
      | true =>
        have HG := Lib.hid (hbb.1 rfl)
        clear hbb
        go_wp2_with fail
        refine (has_any (-1) (slotsC c - 1) slot w3).mono ?_
        rintro e w4 ⟨b, rfl, hbb, hb1⟩
        have HPS4 := Lib.hid (HPS3.out.later hb1)
        have HB4 := Lib.hid (below_trans HB3.out hb1)
        have HZ4 := Lib.hid (HZ3.out.later hb1)
        clear hb1 HB3 HZ3 HPS3 y0 y1 y2 y3 y4 y5 y6 y7 y8 y9 y10 y11 y12 y13 y14 y15 y16 z0 z1 z2 z3 z4 z5
        obtain ⟨y0, y1, y2, y3, y4, y5, y6, y7, y8, y9, y10, y11, y12, y13, y14, y15, y16⟩ := box17 (HV.out w4 HB4.out).1
        obtain ⟨z0, z1, z2, z3, z4, z5⟩ := box6 HZ4.out
        cases b with
        | false =>
          have hn : ¬ (-1 ≤ slot ∧ slot ≤ slotsC c - 1) := fun h => by have := hbb.2 h; simp at this
          have HNN := Lib.hid hn
          clear hbb hn
          go_wp2
          go_ret
          exact SaysP.no (fun h => HNN.out (h _ HM.out).slot) (HV.out _ HB4.out).2.2
        | true =>
          have HS := Lib.hid (hbb.1 rfl)
          clear hbb
          go_wp2_with fail
          refine (have_any c Y ps y w4 HPS4.out hpy.2).mono ?_
          rintro e w6 ⟨b, rfl, hbb, hb1⟩
          have HB6 := Lib.hid (below_trans HB4.out hb1)
          have HZ6 := Lib.hid (HZ4.out.later hb1)
          clear hb1 HB4 HZ4 HPS4 y0 y1 y2 y3 y4 y5 y6 y7 y8 y9 y10 y11 y12 y13 y14 y15 y16 z0 z1 z2 z3 z4 z5
          obtain ⟨y0, y1, y2, y3, y4, y5, y6, y7, y8, y9, y10, y11, y12, y13, y14, y15, y16⟩ := box17 (HV.out w6 HB6.out).1
          obtain ⟨z0, z1, z2, z3, z4, z5⟩ := box6 HZ6.out
          cases b with
          | false =>
            have hn : ¬ HaveR c ps := fun h => by have := hbb.2 h; simp at this
            have HNN := Lib.hid hn
            clear hbb hn
            go_wp2
            go_ret
            exact SaysP.no (fun h => HNN.out (h _ HM.out).have_) (HV.out _ HB6.out).2.2
          | true =>
            have HH := Lib.hid (hbb.1 rfl)
            clear hbb
            by_cases hs : slot = -1
            · as_aux_lemma =>
              have hsb : (slot != -1) = false := by simp [hs]
              have HSL := Lib.hid hs
              clear hs
              by_cases hp : 0 < ps.length
              · have hp2 : (0 : Int) < (ps.length : Int) := by omega
                have HP0 := Lib.hid hp
                clear hp
                go_wp2
                go_ret
                exact SaysP.no (fun h => (h _ HM.out).pars HP0.out HSL.out) (HV.out _ HB6.out).2.2
              · have hp2 : ¬ (0 : Int) < (ps.length : Int) := by omega
                have HP0 := Lib.hid hp
                clear hp
                cases whole with
                | true =>
                  go_wp2
                  go_ret
                  exact SaysP.no (fun h => ((h _ HM.out).whole rfl).1 HSL.out) (HV.out _ HB6.out).2.2
                | false =>
                  as_aux_lemma =>
                  go_wp2_with fail
                  refine (end_any c zw false w6).mono ?_
                  rintro e w7 ⟨b, rfl, hbb, hb1⟩
                  have HB7 := Lib.hid (below_trans HB6.out hb1)
                  have HZ7 := Lib.hid (HZ6.out.later hb1)
                  have HE := Lib.hid hbb
                  clear hb1 hbb HB6 HZ6 y0 y1 y2 y3 y4 y5 y6 y7 y8 y9 y10 y11 y12 y13 y14 y15 y16 z0 z1 z2 z3 z4 z5
                  obtain ⟨z0, z1, z2, z3, z4, z5⟩ := box6 HZ7.out
                  cases b with
                  | false =>
                    go_wp2
                    go_ret
                    exact SaysP.no (fun h => by have h1 := (h _ HM.out).end_; have h2 := HE.out.2 (by rcases h1 with ⟨a, b⟩; exact ⟨a, Or.inl (b.resolve_right (fun x => x HSL.out))⟩); simp at h2) (HV.out _ HB7.out).2.2
                  | true =>
                    have he := HE.out.1 rfl
                    by_cases h0 : zw = 0
                    · have h0b : (zw != 0) = false := by simpa using h0
                      have HN2 := Lib.hid (HN.out ⟨HG.out, HS.out, HH.out, fun h => absurd h HP0.out, fun h => absurd h (by simp), by exact ⟨he.1, Or.inl (he.2.resolve_right (by simp))⟩, fun h => absurd h0 h⟩)
                      clear h0 he
                      go_wp2
                      go_roundw
                      case rel => exact ⟨q + 1, by omega, by go_num, HN2.out, HB7.out⟩
                      case measure => simp [intOf]; omega
                    · have h0b : (zw != 0) = true := by simpa using h0
                      cases full with
                      | false =>
                        have H0 := Lib.hid h0
                        clear h0 he
                        go_wp2
                        go_ret
                        exact SaysP.no (fun h => by have h1 := (h _ HM.out).full H0.out; simp at h1) (HV.out _ HB7.out).2.2
                      | true =>
                        have HN2 := Lib.hid (HN.out ⟨HG.out, HS.out, HH.out, fun h => absurd h HP0.out, fun h => absurd h (by simp), by exact ⟨he.1, Or.inl (he.2.resolve_right (by simp))⟩, fun _ => rfl⟩)
                        clear h0 he
                        go_wp2
                        go_roundw
                        case rel => exact ⟨q + 1, by omega, by go_num, HN2.out, HB7.out⟩
                        case measure => simp [intOf]; omega
            · as_aux_lemma =>
              have hsb : (slot != -1) = true := by simpa using hs
              have HSL := Lib.hid hs
              clear hs
              have hp3 : (0 : Int) < (ps.length : Int) ∨ ¬ (0 : Int) < (ps.length : Int) := Classical.em _
              rcases hp3 with hp2 | hp2
              · as_aux_lemma =>
                cases whole with
                | true =>
                  cases reb with
                  | false =>
                    go_wp2
                    go_ret
                    exact SaysP.no (fun h => by have h1 := ((h _ HM.out).whole rfl).2; simp at h1) (HV.out _ HB6.out).2.2
                  | true =>
                    as_aux_lemma =>
                    go_wp2_with fail
                    refine (end_any c zw true w6).mono ?_
                    rintro e w7 ⟨b, rfl, hbb, hb1⟩
                    have HB7 := Lib.hid (below_trans HB6.out hb1)
                    have HZ7 := Lib.hid (HZ6.out.later hb1)
                    have HE := Lib.hid hbb
                    clear hb1 hbb HB6 HZ6 y0 y1 y2 y3 y4 y5 y6 y7 y8 y9 y10 y11 y12 y13 y14 y15 y16 z0 z1 z2 z3 z4 z5
                    obtain ⟨z0, z1, z2, z3, z4, z5⟩ := box6 HZ7.out
                    cases b with
                    | false =>
                      go_wp2
                      go_ret
                      exact SaysP.no (fun h => by have h1 := (h _ HM.out).end_; have h2 := HE.out.2 (by exact ⟨h1.1, Or.inr trivial⟩); simp at h2) (HV.out _ HB7.out).2.2
                    | true =>
                      have he := HE.out.1 rfl
                      by_cases h0 : zw = 0
                      · have h0b : (zw != 0) = false := by simpa using h0
                        have HN2 := Lib.hid (HN.out ⟨HG.out, HS.out, HH.out, fun h => HSL.out, fun h => ⟨HSL.out, trivial⟩, by exact ⟨he.1, Or.inr HSL.out⟩, fun h => absurd h0 h⟩)
                        clear h0 he
                        go_wp2
                        go_roundw
                        case rel => exact ⟨q + 1, by omega, by go_num, HN2.out, HB7.out⟩
                        case measure => simp [intOf]; omega
                      · have h0b : (zw != 0) = true := by simpa using h0
                        cases full with
                        | false =>
                          have H0 := Lib.hid h0
                          clear h0 he
                          go_wp2
                          go_ret
                          exact SaysP.no (fun h => by have h1 := (h _ HM.out).full H0.out; simp at h1) (HV.out _ HB7.out).2.2
                        | true =>
                          have HN2 := Lib.hid (HN.out ⟨HG.out, HS.out, HH.out, fun h => HSL.out, fun h => ⟨HSL.out, trivial⟩, by exact ⟨he.1, Or.inr HSL.out⟩, fun _ => rfl⟩)
                          clear h0 he
                          go_wp2
                          go_roundw
                          case rel => exact ⟨q + 1, by omega, by go_num, HN2.out, HB7.out⟩
                          case measure => simp [intOf]; omega
                | false =>
                  as_aux_lemma =>
                  go_wp2_with fail
                  refine (end_any c zw true w6).mono ?_
                  rintro e w7 ⟨b, rfl, hbb, hb1⟩
                  have HB7 := Lib.hid (below_trans HB6.out hb1)
                  have HZ7 := Lib.hid (HZ6.out.later hb1)
                  have HE := Lib.hid hbb
                  clear hb1 hbb HB6 HZ6 y0 y1 y2 y3 y4 y5 y6 y7 y8 y9 y10 y11 y12 y13 y14 y15 y16 z0 z1 z2 z3 z4 z5
                  obtain ⟨z0, z1, z2, z3, z4, z5⟩ := box6 HZ7.out
                  cases b with
                  | false =>
                    go_wp2
                    go_ret
                    exact SaysP.no (fun h => by have h1 := (h _ HM.out).end_; have h2 := HE.out.2 (by exact ⟨h1.1, Or.inr trivial⟩); simp at h2) (HV.out _ HB7.out).2.2
                  | true =>
                    have he := HE.out.1 rfl
                    by_cases h0 : zw = 0
                    · have h0b : (zw != 0) = false := by simpa using h0
                      have HN2 := Lib.hid (HN.out ⟨HG.out, HS.out, HH.out, fun h => HSL.out, fun h => absurd h (by simp), by exact ⟨he.1, Or.inr HSL.out⟩, fun h => absurd h0 h⟩)
                      clear h0 he
                      go_wp2
                      go_roundw
                      case rel => exact ⟨q + 1, by omega, by go_num, HN2.out, HB7.out⟩
                      case measure => simp [intOf]; omega
                    · have h0b : (zw != 0) = true := by simpa using h0
                      cases full with
                      | false =>
                        have H0 := Lib.hid h0
                        clear h0 he
                        go_wp2
                        go_ret
                        exact SaysP.no (fun h => by have h1 := (h _ HM.out).full H0.out; simp at h1) (HV.out _ HB7.out).2.2
                      | true =>
                        have HN2 := Lib.hid (HN.out ⟨HG.out, HS.out, HH.out, fun h => HSL.out, fun h => absurd h (by simp), by exact ⟨he.1, Or.inr HSL.out⟩, fun _ => rfl⟩)
                        clear h0 he
                        go_wp2
                        go_roundw
                        case rel => exact ⟨q + 1, by omega, by go_num, HN2.out, HB7.out⟩
                        case measure => simp [intOf]; omega
              · as_aux_lemma =>
                cases whole with
                | true =>
                  cases reb with
                  | false =>
                    go_wp2
                    go_ret
                    exact SaysP.no (fun h => by have h1 := ((h _ HM.out).whole rfl).2; simp at h1) (HV.out _ HB6.out).2.2
                  | true =>
                    as_aux_lemma =>
                    go_wp2_with fail
                    refine (end_any c zw true w6).mono ?_
                    rintro e w7 ⟨b, rfl, hbb, hb1⟩
                    have HB7 := Lib.hid (below_trans HB6.out hb1)
                    have HZ7 := Lib.hid (HZ6.out.later hb1)
                    have HE := Lib.hid hbb
                    clear hb1 hbb HB6 HZ6 y0 y1 y2 y3 y4 y5 y6 y7 y8 y9 y10 y11 y12 y13 y14 y15 y16 z0 z1 z2 z3 z4 z5
                    obtain ⟨z0, z1, z2, z3, z4, z5⟩ := box6 HZ7.out
                    cases b with
                    | false =>
                      go_wp2
                      go_ret
                      exact SaysP.no (fun h => by have h1 := (h _ HM.out).end_; have h2 := HE.out.2 (by exact ⟨h1.1, Or.inr trivial⟩); simp at h2) (HV.out _ HB7.out).2.2
                    | true =>
                      have he := HE.out.1 rfl
                      by_cases h0 : zw = 0
                      · have h0b : (zw != 0) = false := by simpa using h0
                        have HN2 := Lib.hid (HN.out ⟨HG.out, HS.out, HH.out, fun h => HSL.out, fun h => ⟨HSL.out, trivial⟩, by exact ⟨he.1, Or.inr HSL.out⟩, fun h => absurd h0 h⟩)
                        clear h0 he
                        go_wp2
                        go_roundw
                        case rel => exact ⟨q + 1, by omega, by go_num, HN2.out, HB7.out⟩
                        case measure => simp [intOf]; omega
                      · have h0b : (zw != 0) = true := by simpa using h0
                        cases full with
                        | false =>
                          have H0 := Lib.hid h0
                          clear h0 he
                          go_wp2
                          go_ret
                          exact SaysP.no (fun h => by have h1 := (h _ HM.out).full H0.out; simp at h1) (HV.out _ HB7.out).2.2
                        | true =>
                          have HN2 := Lib.hid (HN.out ⟨HG.out, HS.out, HH.out, fun h => HSL.out, fun h => ⟨HSL.out, trivial⟩, by exact ⟨he.1, Or.inr HSL.out⟩, fun _ => rfl⟩)
                          clear h0 he
                          go_wp2
                          go_roundw
                          case rel => exact ⟨q + 1, by omega, by go_num, HN2.out, HB7.out⟩
                          case measure => simp [intOf]; omega
                | false =>
                  as_aux_lemma =>
                  go_wp2_with fail
                  refine (end_any c zw true w6).mono ?_
                  rintro e w7 ⟨b, rfl, hbb, hb1⟩
                  have HB7 := Lib.hid (below_trans HB6.out hb1)
                  have HZ7 := Lib.hid (HZ6.out.later hb1)
                  have HE := Lib.hid hbb
                  clear hb1 hbb HB6 HZ6 y0 y1 y2 y3 y4 y5 y6 y7 y8 y9 y10 y11 y12 y13 y14 y15 y16 z0 z1 z2 z3 z4 z5
                  obtain ⟨z0, z1, z2, z3, z4, z5⟩ := box6 HZ7.out
                  cases b with
                  | false =>
                    go_wp2
                    go_ret
                    exact SaysP.no (fun h => by have h1 := (h _ HM.out).end_; have h2 := HE.out.2 (by exact ⟨h1.1, Or.inr trivial⟩); simp at h2) (HV.out _ HB7.out).2.2
                  | true =>
                    have he := HE.out.1 rfl
                    by_cases h0 : zw = 0
                    · have h0b : (zw != 0) = false := by simpa using h0
                      have HN2 := Lib.hid (HN.out ⟨HG.out, HS.out, HH.out, fun h => HSL.out, fun h => absurd h (by simp), by exact ⟨he.1, Or.inr HSL.out⟩, fun h => absurd h0 h⟩)
                      clear h0 he
                      go_wp2
                      go_roundw
                      case rel => exact ⟨q + 1, by omega, by go_num, HN2.out, HB7.out⟩
                      case measure => simp [intOf]; omega
                    · have h0b : (zw != 0) = true := by simpa using h0
                      cases full with
                      | false =>
                        have H0 := Lib.hid h0
                        clear h0 he
                        go_wp2
                        go_ret
                        exact SaysP.no (fun h => by have h1 := (h _ HM.out).full H0.out; simp at h1) (HV.out _ HB7.out).2.2
                      | true =>
                        have HN2 := Lib.hid (HN.out ⟨HG.out, HS.out, HH.out, fun h => HSL.out, fun h => absurd h (by simp), by exact ⟨he.1, Or.inr HSL.out⟩, fun _ => rfl⟩)
                        clear h0 he
                        go_wp2
                        go_roundw
                        case rel => exact ⟨q + 1, by omega, by go_num, HN2.out, HB7.out⟩
                        case measure => simp [intOf]; omega
    · obtain rfl : q = zs.length := by omega
      have HA : Hid (∀ z ∈ zs, ZoneR c (reb = true) z) := fun p hp => by
        obtain ⟨j, hj, e⟩ := List.getElem_of_mem hp
        rw [← e]
        exact hall j hj hj
      have H3 := Lib.hid h3
      clear hall h1 h2 h3 hb0
      go_wp2
      go_ret
      exact SaysP.yes HA.out H3.out
end Go.Proofs.Ytaceaemombnhkaa
