/- Contracts of lacks, Missing. -/
import Derived.Test.YteglgopbagefcaaRb
namespace Go.Proofs.Yteglgopbagefcaa
set_option linter.unusedVariables false
set_option linter.unusedSimpArgs false
open Go.RowKit Go.Shelf
open Go.RowKit (wrap64)

/-- lacks handed back its iterator. -/
def GaveLk (c : Cf) (fr : Nat → Int) (f : Int → Int) (A : Option Addr) (cap M : Nat) (w : World) (e : Ending) (w' : World) : Prop := ∃ g Bd Bf Bc, e = .returned (.func (.func 44) #[] #[.pointer (some ⟨Bd, 0, none⟩), .pointer (some ⟨Bf, 0, none⟩), .pointer (some ⟨Bc, 0, none⟩)]) ∧ AtL c fr f A cap M g Bd Bf Bc w'.heap.size w' ∧ Below w.heap.size w w'
theorem ned_in {c : Cf} (hc : checkC c = 0) {m k : Int} (m0 : 0 ≤ m) (m1 : m < c.m) (h0 : 0 ≤ k) (h1 : k ≤ stripesC c * (dataC c * c.u)) : 0 ≤ nedC c m k ∧ nedC c m k ≤ c.cp := by
  have ho := ok_of hc
  have o1 := ho.r1
  have o3 := ho.u1
  unfold nedC
  generalize dataC c * c.u = R at o1 h1 ⊢
  have d0 := Int.ediv_nonneg h0 (show 0 ≤ R by omega)
  have d1 := Int.mul_ediv_add_emod k R
  have d2 := Int.emod_nonneg k (show R ≠ 0 by omega)
  have hp := part_in (c := c) o3 (k / R) m (k % R)
  have hz := Int.mul_nonneg d0 (show 0 ≤ c.u by omega)
  refine ⟨by omega, ?_⟩
  rw [← ho.s]
  rcases Int.lt_or_le (k / R) (stripesC c) with h | h
  · have h2 : (k / R + 1) * c.u ≤ stripesC c * c.u := Int.mul_le_mul_of_nonneg_right (by omega) (by omega)
    rw [Int.add_mul] at h2
    omega
  · have h2 : stripesC c * R ≤ k / R * R := Int.mul_le_mul_of_nonneg_right h (by omega)
    rw [Int.mul_comm (k / R)] at h2
    have h3 : k % R = 0 := by omega
    have h4 : k / R ≤ stripesC c := by
      rcases Int.lt_or_le (stripesC c) (k / R) with h5 | h5
      · have h6 : (stripesC c + 1) * R ≤ k / R * R := Int.mul_le_mul_of_nonneg_right (by omega) (by omega)
        rw [Int.add_mul, Int.mul_comm (k / R)] at h6
        omega
      · exact h5
    rw [h3, part_zero hc m0 m1]
    have h5 : k / R = stripesC c := by omega
    rw [h5]
    omega
set_option maxHeartbeats 2000000 in
theorem lacks_any (c : Cf) (fr : Nat → Int) (f : Int → Int) (A : Option Addr) (cap M : Nat) (n : Int) (w : World) (hf : (fun m => nedC c m (wriC c n)) = f) (hc : checkC c = 0) (hM : c.m = (M : Int)) (hi : Ints w w.heap.size A fr M) : Calls Try.prog 31 #[(.agg #[.int .i64 c.id, .int .i64 c.m, .int .i64 c.u, .int .i64 c.b, .int .i64 c.cp, .int .i64 c.z, .int .i64 c.s, .int .i64 c.mt, .int .i64 c.o, .int .i64 c.a, .int .i64 c.l]), .slice A M cap, .int .i64 n] w (GaveLk c fr f A cap M w) := by
  have hm := hmf
  have HI := Lib.hid hi
  have HF := Lib.hid hf
  have HC := Lib.hid hc
  have HM := Lib.hid hM
  clear hi hf hc hM
  go_enter Try.func31, Try.ntmps31
  go_wp2_with fail
  have HV0 : Hid (At c w ((w.alloc (.cells #[.int .i64 c.id, .int .i64 c.m, .int .i64 c.u, .int .i64 c.b, .int .i64 c.cp, .int .i64 c.z, .int .i64 c.s, .int .i64 c.mt, .int .i64 c.o, .int .i64 c.a, .int .i64 c.l] 23)).alloc (.cells #[.slice A M cap] 37))) := (At.new c w).alloc _
  have HB0 : Hid (Boxed ((w.alloc (.cells #[.int .i64 c.id, .int .i64 c.m, .int .i64 c.u, .int .i64 c.b, .int .i64 c.cp, .int .i64 c.z, .int .i64 c.s, .int .i64 c.mt, .int .i64 c.o, .int .i64 c.a, .int .i64 c.l] 23)).alloc (.cells #[.slice A M cap] 37)) (w.heap.size + 1) 37 (.slice A M cap)) := by
    have h := Boxed.new (w.alloc (.cells #[.int .i64 c.id, .int .i64 c.m, .int .i64 c.u, .int .i64 c.b, .int .i64 c.cp, .int .i64 c.z, .int .i64 c.s, .int .i64 c.mt, .int .i64 c.o, .int .i64 c.a, .int .i64 c.l] 23)) 37 (.slice A M cap)
    rw [World.size_alloc] at h
    exact h
  generalize ((w.alloc (.cells #[.int .i64 c.id, .int .i64 c.m, .int .i64 c.u, .int .i64 c.b, .int .i64 c.cp, .int .i64 c.z, .int .i64 c.s, .int .i64 c.mt, .int .i64 c.o, .int .i64 c.a, .int .i64 c.l] 23)).alloc (.cells #[.slice A M cap] 37)) = w0 at HV0 HB0 ⊢
  obtain ⟨y0, y1, y2, y3, y4, y5, y6, y7, y8, y9, y10⟩ := box11 HV0.out.1
  refine (needs_yes c n M w0 HC.out HM.out).mono ?_
  rintro e w1 ⟨g, rfl, hg, hb⟩
  rw [HF.out] at hg
  have HG := Lib.hid hg
  have HV1 := Lib.hid (HV0.out.later hb)
  have HB1 : Hid (Boxed w1 (w.heap.size + 1) 37 (.slice A M cap)) := Box.later HB0.out hb
  clear hg hb HV0 HB0 y0 y1 y2 y3 y4 y5 y6 y7 y8 y9 y10
  go_wp2
  go_ret
  have hb : Below w1.heap.size w1 (w1.alloc (.cells #[.slice (some ⟨g, 0, none⟩) M M] 37)) := (Below.refl _ w1).alloc (Nat.le_refl _) _
  have hd := Boxed.new w1 37 (.slice (some ⟨g, 0, none⟩) M M)
  have hv := HV1.out.later hb
  have hbf : Boxed _ (w.heap.size + 1) 37 (.slice A M cap) := Box.later HB1.out hb
  have hbg := HG.out.later hb
  exact ⟨g, w1.heap.size, w.heap.size + 1, w.heap.size, rfl, ⟨hd, hbf, hv.1, hbg, HI.out.later hv.2.1, hd.lt, hbf.lt, hv.1.lt, hbg.lt⟩, hv.2.1⟩
/-- P9.3: Missing. -/
def missA (c : Cf) (fr : Nat → Int) (len : Nat) (n : Int) : List St := if rightC c 0 n = true ∧ (len : Int) = c.m then missL c fr (fun m => nedC c m (wriC c n)) len c.cp.toNat else []
theorem missA_len (c : Cf) (fr : Nat → Int) (len : Nat) (n : Int) : (missA c fr len n).length ≤ 65536 := by
  unfold missA
  split
  · rename_i h
    have ho := ok_of (rightC_iff.1 h.1).1
    have o1 := ho.m2
    have o2 := ho.cp
    have h1 := missL_len (c := c) (fr := fr) (f := fun m => nedC c m (wriC c n)) (M := len) (K := c.cp.toNat)
    have h2 : c.cp.toNat * len ≤ 4096 * 16 := Nat.mul_le_mul (by omega) (by omega)
    omega
  · simp
/-- The greatest need, and what it has to do with the rest. -/
theorem need_row {c : Cf} {n : Int} {f : Int → Int} {N M : Nat} (fr : Nat → Int) (hf : (fun m => nedC c m (wriC c n)) = f) (hc : checkC c = 0) (hM : c.m = (M : Int)) (hN : M = N + 1) :
    ∃ K : Nat, mxN f N = (K : Int) ∧ K ≤ 4096 ∧ missL c fr f M c.cp.toNat = missL c fr f M K := by
  have ho := ok_of hc
  have o1 := ho.cp
  have hw := wri_in hc n
  have hi : ∀ j : Nat, j ≤ N → 0 ≤ f j ∧ f j ≤ c.cp := fun j hj => by
    rw [← hf]
    exact ned_in hc (by omega) (by omega) hw.1 hw.2.2
  obtain ⟨j, hj, he⟩ := mxN_is f N
  have h1 := hi j hj
  refine ⟨(f j).toNat, by rw [he]; omega, by omega, missL_end (by omega) fun m hm => ?_⟩
  have h2 := mxN_ge f N m (by omega)
  rw [he] at h2
  omega
set_option maxHeartbeats 2000000 in
theorem missing_any (c : Cf) (fr : Nat → Int) (A : Option Addr) (cap len : Nat) (n : Int) (w : World) (hn : n ≤ 9223372036854775807) (hi : Ints w w.heap.size A fr len) : Calls Try.prog 16 #[(.agg #[.int .i64 c.id, .int .i64 c.m, .int .i64 c.u, .int .i64 c.b, .int .i64 c.cp, .int .i64 c.z, .int .i64 c.s, .int .i64 c.mt, .int .i64 c.o, .int .i64 c.a, .int .i64 c.l]), .slice A len cap, .int .i64 n] w (GaveS w (missA c fr len n)) := by
  by_cases hr : rightC c 0 n = true
  · by_cases hl : (len : Int) = c.m
    · have HR := Lib.hid hr
      have hc := (rightC_iff.1 hr).1
      have o1 := (ok_of hc).m1
      have o2 := (ok_of hc).m2
      have HI := Lib.hid hi
      have HC := Lib.hid hc
      have HM := Lib.hid hl.symm
      have hM : len ≤ 16 := by omega
      obtain ⟨N, hN⟩ : ∃ N, len = N + 1 := ⟨len - 1, by omega⟩
      have HN := Lib.hid hN
      have HA : Hid (missA c fr len n = missL c fr (fun m => nedC c m (wriC c n)) len c.cp.toNat) := by
        show missA c fr len n = _
        unfold missA
        rw [if_pos ⟨hr, hl⟩]
      have HL : Hid ((missA c fr len n).length ≤ 65536) := missA_len c fr len n
      rw [HA.out] at HL ⊢
      clear HA
      obtain ⟨f, hf⟩ : ∃ f, (fun m => nedC c m (wriC c n)) = f := ⟨_, rfl⟩
      rw [hf] at HL ⊢
      obtain ⟨K, hK1, hK2, hK3⟩ := need_row fr hf hc hl.symm hN
      rw [hK3] at HL ⊢
      have HF := Lib.hid hf
      have HK := Lib.hid hK1
      have t1 : ((len : Int) == c.m) = true := by simpa using hl
      clear hr hc hf hK1 hK3 hi hN hl
      go_enter Try.func16, Try.ntmps16
      go_wp2_with fail
      have HV0 := Lib.hid (At.new c w)
      generalize (w.alloc (.cells #[.int .i64 c.id, .int .i64 c.m, .int .i64 c.u, .int .i64 c.b, .int .i64 c.cp, .int .i64 c.z, .int .i64 c.s, .int .i64 c.mt, .int .i64 c.o, .int .i64 c.a, .int .i64 c.l] 23)) = w0 at HV0 ⊢
      obtain ⟨y0, y1, y2, y3, y4, y5, y6, y7, y8, y9, y10⟩ := box11 HV0.out.1
      refine (pwithin_any c 0 n w0 hn (by omega)).mono ?_
      rintro e w1 ⟨rfl, hb⟩
      rw [HR.out]
      have HV1 := Lib.hid (HV0.out.later hb)
      clear hb HV0 y0 y1 y2 y3 y4 y5 y6 y7 y8 y9 y10
      obtain ⟨y0, y1, y2, y3, y4, y5, y6, y7, y8, y9, y10⟩ := box11 HV1.out.1
      go_wp2_with fail
      refine (lacks_any c fr f A cap len n w1 HF.out HC.out HM.out ((HI.out.later HV1.out.2.1))).mono ?_
      rintro e w2 ⟨g, Bd, Bf, Bc, rfl, hat, hb⟩
      have HV2 := Lib.hid (HV1.out.later hb)
      have HW := Lib.hid hat
      clear hb hat HV1 y0 y1 y2 y3 y4 y5 y6 y7 y8 y9 y10
      go_wp2_with fail
      have HH : Hid (Hands 44 #[.pointer (some ⟨Bd, 0, none⟩), .pointer (some ⟨Bf, 0, none⟩), .pointer (some ⟨Bc, 0, none⟩)] (missL c fr f len K) w2) := hands_lacks c fr f A cap N len K g Bd Bf Bc w2 HN.out hM HK.out (by omega) HW.out
      refine (gather_any 44 _ _ w2 enters44 (Nat.le_trans HL.out (by omega)) HH.out).mono ?_
      rintro e w3 ⟨v, rfl, hrw, hb⟩
      have HV3 := Lib.hid (HV2.out.later hb)
      have HX : Hid (Rw St.cs 41 w3 w.heap.size v (missL c fr f len K)) := hrw.mono HV2.out.2.1.size
      clear hb hrw HV2 HW HH
      go_wp2
      go_ret
      exact ⟨v, rfl, HX.out, HV3.out.2.1⟩
    · have HA : Hid (missA c fr len n = []) := by
        show missA c fr len n = _
        unfold missA
        rw [if_neg (fun h => hl h.2)]
      rw [HA.out]
      have HR := Lib.hid hr
      have t1 : ((len : Int) == c.m) = false := by simpa using hl
      clear hr hi HA
      go_enter Try.func16, Try.ntmps16
      go_wp2_with fail
      have HV0 := Lib.hid (At.new c w)
      generalize (w.alloc (.cells #[.int .i64 c.id, .int .i64 c.m, .int .i64 c.u, .int .i64 c.b, .int .i64 c.cp, .int .i64 c.z, .int .i64 c.s, .int .i64 c.mt, .int .i64 c.o, .int .i64 c.a, .int .i64 c.l] 23)) = w0 at HV0 ⊢
      obtain ⟨y0, y1, y2, y3, y4, y5, y6, y7, y8, y9, y10⟩ := box11 HV0.out.1
      refine (pwithin_any c 0 n w0 hn (by omega)).mono ?_
      rintro e w1 ⟨rfl, hb⟩
      rw [HR.out]
      have HV1 := Lib.hid (HV0.out.later hb)
      clear hb HV0 y0 y1 y2 y3 y4 y5 y6 y7 y8 y9 y10
      obtain ⟨y0, y1, y2, y3, y4, y5, y6, y7, y8, y9, y10⟩ := box11 HV1.out.1
      go_wp2
      go_ret
      exact gaveS_nil HV1.out.2.1
  · have hf : rightC c 0 n = false := by simpa using hr
    have HA : Hid (missA c fr len n = []) := by
      show missA c fr len n = _
      unfold missA
      rw [if_neg (fun h => hr h.1)]
    rw [HA.out]
    have HR := Lib.hid hf
    clear hr hf hi HA
    go_enter Try.func16, Try.ntmps16
    go_wp2_with fail
    have HV0 := Lib.hid (At.new c w)
    generalize (w.alloc (.cells #[.int .i64 c.id, .int .i64 c.m, .int .i64 c.u, .int .i64 c.b, .int .i64 c.cp, .int .i64 c.z, .int .i64 c.s, .int .i64 c.mt, .int .i64 c.o, .int .i64 c.a, .int .i64 c.l] 23)) = w0 at HV0 ⊢
    obtain ⟨y0, y1, y2, y3, y4, y5, y6, y7, y8, y9, y10⟩ := box11 HV0.out.1
    refine (pwithin_any c 0 n w0 hn (by omega)).mono ?_
    rintro e w1 ⟨rfl, hb⟩
    rw [HR.out]
    have HV1 := Lib.hid (HV0.out.later hb)
    clear hb HV0 y0 y1 y2 y3 y4 y5 y6 y7 y8 y9 y10
    obtain ⟨y0, y1, y2, y3, y4, y5, y6, y7, y8, y9, y10⟩ := box11 HV1.out.1
    go_wp2
    go_ret
    exact gaveS_nil HV1.out.2.1
end Go.Proofs.Yteglgopbagefcaa
