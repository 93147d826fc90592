/- Contracts of conf.Put, of the reference's Put. -/
import Derived.Test.YtaceaemombnhkaaK
import Derived.Test.YtaceaemombnhkaaE
import Derived.Test.YtaceaemombnhkaaD
namespace Go.Proofs.Ytaceaemombnhkaa
set_option linter.unusedVariables false
set_option maxRecDepth 100000
set_option linter.unusedSimpArgs false
open Go.RowKit
open Go.RowKit (wrap64)

/-- The bytes of the first k numbers. -/
def les (c : Cf) (k : Nat) : List UInt8 := ((c.list.take k).map le8).flatten
theorem les_succ (c : Cf) (k : Nat) (hk : k < c.list.length) : les c (k + 1) = les c k ++ le8 c.list[k] := by
  unfold les
  rw [List.take_succ_eq_append_getElem hk]
  simp only [List.map_append, List.map_cons, List.map_nil, List.flatten_append, List.flatten_cons, List.flatten_nil, List.append_nil]
theorem les_length (c : Cf) : ∀ k, k ≤ 11 → (les c k).length = 8 * k
  | 0, _ => rfl
  | k + 1, h => by
    rw [les_succ c k (by show k < 11; omega), List.length_append, le8_length, les_length c k (by omega)]
    omega
theorem put_any (c : Cf) (w : World) : Calls Try.prog 31 #[(.agg #[.int .i64 c.id, .int .i64 c.m, .int .i64 c.u, .int .i64 c.b, .int .i64 c.cp, .int .i64 c.z, .int .i64 c.s, .int .i64 c.mt, .int .i64 c.o, .int .i64 c.a, .int .i64 c.l])] w (GaveB w (les c 11)) := by
  go_enter Try.func31, Try.ntmps31
  go_wp2_with fail
  refine (numbers_any w.heap.size _).mono ?_
  rintro e w1 ⟨rfl, hq, hb⟩
  have hx := (Box.fresh w 23 #[.int .i64 c.id, .int .i64 c.m, .int .i64 c.u, .int .i64 c.b, .int .i64 c.cp, .int .i64 c.z, .int .i64 c.s, .int .i64 c.mt, .int .i64 c.o, .int .i64 c.a, .int .i64 c.l]).later hb
  have hB := below_of_alloc hb (by simp)
  simp only [World.alloc, Array.size_push] at hq ⊢
  generalize w.heap.size + 1 = q at hq ⊢
  have HS : Hid (PtsAt w1 w.heap.size q ∧ Box w1 w.heap.size 23 #[.int .i64 c.id, .int .i64 c.m, .int .i64 c.u, .int .i64 c.b, .int .i64 c.cp, .int .i64 c.z, .int .i64 c.s, .int .i64 c.mt, .int .i64 c.o, .int .i64 c.a, .int .i64 c.l] ∧ Below w.heap.size w w1) := ⟨hq, hx, hB⟩
  clear hq hx hB hb
  go_wp2
  go_loopw [3, 8] (fun b i wr => ∃ k : Nat, k ≤ 11 ∧ i = .int .i64 k ∧ ∃ A cp, b = .slice A (les c k).length cp ∧ Rd wr wr.heap.size A (les c k) ∧ (les c k).length ≤ cp ∧ PtsAt wr w.heap.size q ∧ Box wr w.heap.size 23 #[.int .i64 c.id, .int .i64 c.m, .int .i64 c.u, .int .i64 c.b, .int .i64 c.cp, .int .i64 c.z, .int .i64 c.s, .int .i64 c.mt, .int .i64 c.o, .int .i64 c.a, .int .i64 c.l] ∧ Below w.heap.size w wr) (fun _ i _ => 11 - (intOf i).toNat)
  case atStart => exact ⟨0, by omega, rfl, none, 0, rfl, Rd.nil, Nat.le_refl _, HS.out.1, HS.out.2.1, HS.out.2.2⟩
  case round =>
    clear HS
    obtain ⟨k, hk, rfl, A, cp, rfl, hrd, hcp, hq, hbx, hbel⟩ := hrel
    have HS := Lib.hid (And.intro hrd (And.intro hcp (And.intro hq (And.intro hbx hbel))))
    clear hrd hcp hq hbx hbel
    by_cases hlt : k < 11
    · have hkl : k < c.list.length := hlt
      obtain ⟨ad, h1, h2⟩ := ptrs_list HS.out.2.2.1 HS.out.2.2.2.1 k hkl
      rw [Nat.zero_add] at h1
      have HL := Lib.hid (And.intro (les_succ c k hkl) (les_length c k hk))
      generalize c.list[k] = n at h2 HL
      clear hkl
      generalize les c k = L at HS HL ⊢
      go_wp2_with fail
      refine (int_gave A cp n L wr HS.out.1 (by rw [HL.out.2]; omega)).mono ?_
      rintro e w3 ⟨A3, c3, rfl, hr3, hc3, hb3, _⟩
      rw [← HL.out.1] at hr3 hc3 ⊢
      have HN : Hid (Rd w3 w3.heap.size A3 (les c (k + 1)) ∧ (les c (k + 1)).length ≤ c3 ∧ PtsAt w3 w.heap.size q ∧ Box w3 w.heap.size 23 #[.int .i64 c.id, .int .i64 c.m, .int .i64 c.u, .int .i64 c.b, .int .i64 c.cp, .int .i64 c.z, .int .i64 c.s, .int .i64 c.mt, .int .i64 c.o, .int .i64 c.a, .int .i64 c.l] ∧ Below w.heap.size w w3) := ⟨hr3, hc3, Box.later HS.out.2.2.1 hb3, HS.out.2.2.2.1.later hb3, HS.out.2.2.2.2.trans (hb3.mono HS.out.2.2.2.2.size)⟩
      clear hr3 hc3 hb3 HS HL h1 h2
      generalize hL3 : les c (k + 1) = L3 at HN ⊢
      have HL3 := Lib.hid hL3
      clear hL3
      go_wp2
      go_roundw
      case rel => exact ⟨k + 1, by omega, by go_num, A3, c3, by rw [HL3.out], by rw [HL3.out]; exact HN.out.1, by rw [HL3.out]; exact HN.out.2.1, HN.out.2.2.1, HN.out.2.2.2.1, HN.out.2.2.2.2⟩
      case measure => simp [intOf]; omega
    · obtain rfl : k = 11 := by omega
      generalize hL : les c 11 = L at HS ⊢
      have HL := Lib.hid hL
      clear hL
      go_wp2
      go_ret
      exact ⟨A, cp, by rw [HL.out]; rfl, by rw [HL.out]; exact HS.out.1, by rw [HL.out]; exact HS.out.2.1, HS.out.2.2.2.2⟩
theorem les_one (c : Cf) : les c 1 = le8 c.id := by simp [les, Cf.list]
theorem rest_at (c : Cf) (k : Nat) (hk : k < c.rest.length) : c.list[k + 1]'(by show k + 1 < 11; have : k < 10 := hk; omega) = c.rest[k] := rfl
set_option maxHeartbeats 2000000 in
theorem refPut_any (c : Cf) (w : World) : Calls Try.prog 34 #[(.agg #[.int .i64 c.id, .int .i64 c.m, .int .i64 c.u, .int .i64 c.b, .int .i64 c.cp, .int .i64 c.z, .int .i64 c.s, .int .i64 c.mt, .int .i64 c.o, .int .i64 c.a, .int .i64 c.l])] w (GaveO w (les c 11)) := by
  obtain ⟨i0, hi, hz0, hz1, hz2⟩ := info_parts Try.info5
  have H1 := Lib.hid hi
  have H2 := Lib.hid hz0
  have H3 := Lib.hid hz1
  have H4 := Lib.hid hz2
  clear hi hz0 hz1 hz2
  go_enter Try.func34, Try.ntmps34
  go_wp2_with fail
  have HV0 := Lib.hid (And.intro (Box.fresh w 23 #[.int .i64 c.id, .int .i64 c.m, .int .i64 c.u, .int .i64 c.b, .int .i64 c.cp, .int .i64 c.z, .int .i64 c.s, .int .i64 c.mt, .int .i64 c.o, .int .i64 c.a, .int .i64 c.l]) ((Below.refl w.heap.size w).alloc (Nat.le_refl _) (.cells #[.int .i64 c.id, .int .i64 c.m, .int .i64 c.u, .int .i64 c.b, .int .i64 c.cp, .int .i64 c.z, .int .i64 c.s, .int .i64 c.mt, .int .i64 c.o, .int .i64 c.a, .int .i64 c.l] 23)))
  generalize (w.alloc (.cells #[.int .i64 c.id, .int .i64 c.m, .int .i64 c.u, .int .i64 c.b, .int .i64 c.cp, .int .i64 c.z, .int .i64 c.s, .int .i64 c.mt, .int .i64 c.o, .int .i64 c.a, .int .i64 c.l] 23)) = w0 at HV0 ⊢
  refine (refInt_any c.id w0).mono ?_
  rintro e w1 ⟨b, rfl, ho, hb⟩
  have HV1 : Hid (Box w1 w.heap.size 23 #[.int .i64 c.id, .int .i64 c.m, .int .i64 c.u, .int .i64 c.b, .int .i64 c.cp, .int .i64 c.z, .int .i64 c.s, .int .i64 c.mt, .int .i64 c.o, .int .i64 c.a, .int .i64 c.l] ∧ Below w.heap.size w w1 ∧ Own w1 w.heap.size 5 b (les c 1)) := ⟨HV0.out.1.later hb, HV0.out.2.trans (hb.mono HV0.out.2.size), by rw [les_one]; exact ho.mono HV0.out.2.size⟩
  clear ho hb HV0
  obtain ⟨y0, y1, y2, y3, y4, y5, y6, y7, y8, y9, y10⟩ := box11 HV1.out.1
  go_wp2_with fail
  refine (list_any c w1).mono ?_
  rintro e w2 ⟨rfl, hq, hb⟩
  have HV2 : Hid (ListAt w2 (w1.heap.size + 1) c ∧ Below w.heap.size w w2 ∧ Own w2 w.heap.size 5 b (les c 1)) := ⟨hq, HV1.out.2.1.trans (hb.mono HV1.out.2.1.size), HV1.out.2.2.later hb⟩
  generalize w1.heap.size + 1 = q at HV2 ⊢
  clear hq hb HV1 y0 y1 y2 y3 y4 y5 y6 y7 y8 y9 y10
  go_wp2
  go_loopw [3, 5] (fun v i wr => ∃ k : Nat, k ≤ 10 ∧ i = .int .i64 k ∧ Own wr w.heap.size 5 v (les c (k + 1)) ∧ ListAt wr q c ∧ Below w.heap.size w wr) (fun _ i _ => 10 - (intOf i).toNat)
  case atStart => exact ⟨0, by omega, rfl, HV2.out.2.2, HV2.out.1, HV2.out.2.1⟩
  case round =>
    clear HV2
    obtain ⟨k, hk, rfl, ho, hq, hbel⟩ := hrel
    by_cases hlt : k < 10
    · have h1 := hq.at_ k hlt
      have HL : Hid (les c (k + 1 + 1) = les c (k + 1) ++ le8 (c.rest[k]'hlt) ∧ (les c (k + 1)).length = 8 * (k + 1)) := by
        refine ⟨?_, les_length c (k + 1) (by omega)⟩
        rw [les_succ c (k + 1) (by show k + 1 < 11; omega), rest_at c k hlt]
      have HS := Lib.hid (And.intro ho (And.intro hq hbel))
      clear ho hq hbel
      generalize c.rest[k]'hlt = n at h1 HL
      generalize les c (k + 1) = L at HS HL
      go_wp2_with fail
      refine (refInt_any n wr).mono ?_
      rintro e w3 ⟨v2, rfl, ho2, hb3⟩
      obtain ⟨A2, c2, rfl, hr2, _, _⟩ := ho2.rd
      have HN := Lib.hid (And.intro (HS.out.1.later hb3) (And.intro (show ListAt w3 q c from Box.later HS.out.2.1 hb3) (And.intro (HS.out.2.2.trans (hb3.mono HS.out.2.2.size)) hr2)))
      have h8 := Lib.hid (le8_length n)
      have hsz := HN.out.2.2.1.size
      clear ho2 hb3 HS hr2 h1
      generalize hy : le8 n = y at HN HL h8 ⊢
      clear hy
      go_wp2_with (at_builtin; refine wpList_app _ rfl (.tmp 17) (.tmp 22) 28 rfl w.heap.size 5 i0 Try.underlying28 H1.out H2.out H3.out H4.out _ L rfl HN.out.1 w3.heap.size A2 c2 y rfl HN.out.2.2.2 (by rw [HL.out.2, h8.out]; omega) hsz ?_; intro v' w' ho' hg hb')
      have R : Hid (Own w' w.heap.size 5 v' (les c (k + 1 + 1)) ∧ ListAt w' q c ∧ Below w.heap.size w w') := by
        rw [HL.out.1]
        exact ⟨ho', (hg.block q (Box.lt HN.out.2.1) (own_apart HN.out.1 HN.out.2.1)).trans HN.out.2.1, HN.out.2.2.1.grown hg hsz (fun g hg' => (World.ownsRow.lt HN.out.1 g hg').1)⟩
      clear ho' hg hb' HN HL h8
      go_wp2
      go_roundw
      case rel => exact ⟨k + 1, by omega, by go_num, R.out.1, R.out.2.1, R.out.2.2⟩
      case measure => simp [intOf]; omega
    · obtain rfl : k = 10 := by omega
      have HS := Lib.hid (And.intro ho hbel)
      clear ho hq hbel
      go_wp2
      go_ret
      exact ⟨_, rfl, HS.out.1, HS.out.2⟩
end Go.Proofs.Ytaceaemombnhkaa
