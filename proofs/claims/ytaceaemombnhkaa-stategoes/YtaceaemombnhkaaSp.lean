/- The contract of Much. -/
import Derived.Test.YtaceaemombnhkaaSi
import Derived.Deep.DeepCutAuto
namespace Go.Proofs.Ytaceaemombnhkaa
set_option linter.unusedVariables false
set_option maxRecDepth 100000
set_option linter.unusedSimpArgs false
open Go.RowKit
open Go.RowKit (wrap64)

def SmallZ (z : Zn) : Prop := z.ps.length ≤ 5 ∧ ∀ p ∈ z.ps, p.b.length ≤ 4000
def MuchG (w : World) (st : List Int) (zs : List Zn) (e : Ending) (w' : World) : Prop := ∃ b : Bool, e = .returned (.bool b) ∧ (b = false → zs.length ≤ 70 ∧ st.length ≤ 30 ∧ ∀ z ∈ zs, SmallZ z) ∧ Below w.heap.size w w'
set_option maxHeartbeats 8000000 in
theorem much_any (c : Cf) (ep sq : Int) (A : Option Addr) (st : List Int) (k : Nat) (D : Option Addr) (zs : List Zn) (d : Nat) (w : World) (h : StAt w (LT w.heap.size) A st k D zs d) (hl1 : st.length ≤ maxLen) (hl2 : zs.length ≤ maxLen) :
    Calls Try.prog 7 #[(.agg #[.int .i64 c.id, .int .i64 c.m, .int .i64 c.u, .int .i64 c.b, .int .i64 c.cp, .int .i64 c.z, .int .i64 c.s, .int .i64 c.mt, .int .i64 c.o, .int .i64 c.a, .int .i64 c.l, .int .i64 ep, .int .i64 sq, .slice A st.length k, .slice D zs.length d])] w (MuchG w st zs) := by
  go_enter Try.func7, Try.ntmps7
  go_upto_region 1 with fail
  have HV := Lib.hid (StIn.new (c := c) (ep := ep) (sq := sq) h)
  generalize (w.alloc (.cells #[.int .i64 c.id, .int .i64 c.m, .int .i64 c.u, .int .i64 c.b, .int .i64 c.cp, .int .i64 c.z, .int .i64 c.s, .int .i64 c.mt, .int .i64 c.o, .int .i64 c.a, .int .i64 c.l, .int .i64 ep, .int .i64 sq, .slice A st.length k, .slice D zs.length d] 27)) = w0 at HV ⊢
  clear h
  obtain ⟨y0, y1, y2, y3, y4, y5, y6, y7, y8, y9, y10, y11, y12, y13, y14⟩ := box15 HV.out.1
  go_wp2
  go_loop [3, 4, 5] (fun n i _ => ∃ q nn : Nat, q ≤ zs.length ∧ q ≤ 80 ∧ i = .int .i64 q ∧ n = .int .i64 nn ∧ nn ≤ 4000 ∧ (∀ j (hj : j < zs.length), j < q → SmallZ zs[j])) (fun _ i _ => 80 - (intOf i).toNat)
  case atStart => exact ⟨0, 0, by omega, by omega, rfl, rfl, by omega, fun j _ hj => absurd hj (Nat.not_lt_zero j)⟩
  case round =>
    obtain ⟨q, nn, hq, hq8, rfl, rfl, hnn, hall⟩ := hrel
    have HALL := Lib.hid hall
    clear hall
    by_cases hlt : q < zs.length
    · by_cases h80 : q < 80
      · obtain ⟨g, off, rfl, hg, hc⟩ := HV.out.2.1.2.1 (by omega)
        obtain ⟨Y, y, c0, c1, c2, c3, c4, c5, hps, _, hpl⟩ := hc q hlt
        have HN : Hid (SmallZ zs[q] → ∀ j (hj : j < zs.length), j < q + 1 → SmallZ zs[j]) := fun hx j hj hjk => by
          rcases Nat.lt_or_ge j q with h1 | h1
          · exact HALL.out j hj h1
          · obtain rfl : j = q := by omega
            exact hx
        have HP : Hid (PrsAt w0 (LT w0.heap.size) Y zs[q].ps) := hps
        clear hc hg hps HALL c0 c1 c2 c3 c4
        generalize zs[q] = p at c5 HN HP hpl
        obtain ⟨gen, slot, full, zw, whole, ps⟩ := p
        dsimp only at c5 hpl
        have HP : Hid (PrsAt w0 (LT w0.heap.size) Y ps) := HP.out
        by_cases h5 : (5 : Int) < (ps.length : Int)
        · go_wp2
          go_ret
          exact ⟨true, rfl, fun h => by simp at h, HV.out.2.2⟩
        · have HP5 : Hid (ps.length ≤ 5) := by show _ ≤ _; omega
          go_wp2
          clear h5
          go_loop [3, 5] (fun n i => ∃ m n2 : Nat, m ≤ ps.length ∧ i = .int .i64 m ∧ n = .int .i64 n2 ∧ n2 ≤ 4000 + m * 140737488351232 ∧ (∀ j (hj : j < ps.length), j < m → ps[j].b.length ≤ n2)) (fun _ i => ps.length - (intOf i).toNat)
          case atStart => exact ⟨0, nn, by omega, rfl, rfl, by omega, fun j _ hj => absurd hj (Nat.not_lt_zero j)⟩
          case round =>
            obtain ⟨m, n2, hm, rfl, rfl, hn2, hal⟩ := hrel
            have hp5 := HP5.out
            by_cases hlm : m < ps.length
            · obtain ⟨g', off', hY, hg', hc⟩ := HP.out (by omega)
              subst hY
              obtain ⟨V, v, d0, d1, _, _, hbl⟩ := hc m hlm
              have HA2 : Hid (∀ j (hj : j < ps.length), j < m + 1 → ps[j].b.length ≤ n2 + ps[m].b.length) := fun j hj hjm => by
                rcases Nat.lt_or_ge j m with h1 | h1
                · have := hal j hj h1; omega
                · obtain rfl : j = m := by omega
                  omega
              clear hal hc d0 hg'
              generalize ps[m].b.length = bl at d1 hbl HA2
              go_wp2
              go_round
              case rel => exact ⟨m + 1, n2 + bl, by omega, by go_num, by go_num, by omega, HA2.out⟩
              case measure => simp [intOf]; omega
            · obtain rfl : m = ps.length := by omega
              have HS : Hid (n2 ≤ 4000 → SmallZ ⟨gen, slot, full, zw, whole, ps⟩) := fun h4 => ⟨HP5.out, fun p hp => by
                obtain ⟨j, hj, e⟩ := List.getElem_of_mem hp
                rw [← e]
                exact Nat.le_trans (hal j hj hj) h4⟩
              clear hal
              by_cases h4 : (4000 : Int) < (n2 : Int)
              · go_wp2
                go_ret
                exact ⟨true, rfl, fun h => by simp at h, HV.out.2.2⟩
              · have HNZ := Lib.hid (HN.out (HS.out (by omega)))
                go_wp2
                go_round
                case rel => exact ⟨q + 1, n2, by omega, by omega, by go_num, rfl, by omega, HNZ.out⟩
                case measure => simp [intOf]; omega
      · obtain rfl : q = 80 := by omega
        have h70 : (70 : Int) < (zs.length : Int) := by omega
        go_wp2
        go_ret
        exact ⟨true, rfl, fun h => by simp at h, HV.out.2.2⟩
    · obtain rfl : q = zs.length := by omega
      have HA : Hid (∀ z ∈ zs, SmallZ z) := fun p hp => by
        obtain ⟨j, hj, e⟩ := List.getElem_of_mem hp
        rw [← e]
        exact HALL.out j hj hj
      clear HALL
      by_cases h70 : (70 : Int) < (zs.length : Int)
      · go_wp2
        go_ret
        exact ⟨true, rfl, fun h => by simp at h, HV.out.2.2⟩
      · by_cases h30 : (30 : Int) < (st.length : Int)
        · go_wp2
          go_ret
          exact ⟨true, rfl, fun h => by simp at h, HV.out.2.2⟩
        · have HB : Hid (zs.length ≤ 70 ∧ st.length ≤ 30) := ⟨by omega, by omega⟩
          go_wp2
          go_ret
          exact ⟨false, rfl, fun _ => ⟨HB.out.1, HB.out.2, HA.out⟩, HV.out.2.2⟩
end Go.Proofs.Ytaceaemombnhkaa
