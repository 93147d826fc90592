/- The contract of follows. -/
import Derived.Test.YtaceaemombnhkaaUb
import Derived.Test.YtaceaemombnhkaaSg
namespace Go.Proofs.Ytaceaemombnhkaa
set_option linter.unusedVariables false
set_option maxRecDepth 100000
set_option linter.unusedSimpArgs false
open Go.RowKit
open Go.RowKit (wrap64)

/-- Is the record's zone one, and does the record fit it? -/
def ZoneFits (c : Cf) (st : List Int) (zs : List Zn) (n : Nat → Int) (b : List UInt8) : Prop := ∃ (q : Nat) (z : Zn), n 3 = (q : Int) ∧ zs[q]? = some z ∧ FitsR c st zs z n b
/-- May a record come behind a state? -/
def FollowR (c : Cf) (ep sq : Int) (st : List Int) (zs : List Zn) (n : Nat → Int) (b : List UInt8) : Prop :=
  n 1 = ep ∧ n 2 = sq + 1 ∧ (0 ≤ n 2 ∧ n 2 ≤ 1099511627776) ∧ ((n 0 = 6 ∧ TurnR st (n 7) ∧ (0 ≤ n 8 ∧ n 8 ≤ 2)) ∨ (n 0 ≠ 6 ∧ ZoneFits c st zs n b))
/-- The two values boxed, and the bounds. -/
def FolIn (c : Cf) (ep sq : Int) (A : Option Addr) (st : List Int) (k : Nat) (D : Option Addr) (zs : List Zn) (d : Nat) (n : Nat → Int) (X : Option Addr) (b : List UInt8) (x : Nat) (g : Nat) (w w0 : World) : Prop :=
  Box w0 w.heap.size 27 #[.int .i64 c.id, .int .i64 c.m, .int .i64 c.u, .int .i64 c.b, .int .i64 c.cp, .int .i64 c.z, .int .i64 c.s, .int .i64 c.mt, .int .i64 c.o, .int .i64 c.a, .int .i64 c.l, .int .i64 ep, .int .i64 sq, .slice A st.length k, .slice D zs.length d] ∧ Box w0 (w.heap.size + 1) 30 #[.int .i64 (n 0), .int .i64 (n 1), .int .i64 (n 2), .int .i64 (n 3), .int .i64 (n 4), .int .i64 (n 5), .int .i64 (n 6), .int .i64 (n 7), .int .i64 (n 8), .slice X b.length x] ∧ Box w0 g 81 #[.int .i64 1, .int .i64 1099511627776, .int .i64 0, .int .i64 1099511627776, .int .i64 0, .int .i64 2, .int .i64 0, .int .i64 1099511627776, .int .i64 (-1), .int .i64 (slotsC c - 1), .int .i64 0, .int .i64 (sizeC c), .int .i64 0, .int .i64 2, .int .i64 1, .int .i64 (sizeC c), .int .i64 (c.u * c.b)] ∧ StAt w0 (LT w0.heap.size) A st k D zs d ∧ Below w.heap.size w w0 ∧ w.heap.size + 2 ≤ w0.heap.size
section
variable {c : Cf} {ep sq : Int} {A : Option Addr} {st : List Int} {k : Nat} {D : Option Addr} {zs : List Zn} {d : Nat} {n : Nat → Int} {X : Option Addr} {b : List UInt8} {x : Nat} {g : Nat} {w w0 w1 : World}
theorem FolIn.later (h : FolIn c ep sq A st k D zs d n X b x g w w0) (hb : Below w0.heap.size w0 w1) : FolIn c ep sq A st k D zs d n X b x g w w1 :=
  ⟨h.1.later hb, h.2.1.later hb, h.2.2.1.later hb, h.2.2.2.1.later hb, h.2.2.2.2.1.trans (hb.mono (by have := h.2.2.2.2.2; omega)), Nat.le_trans h.2.2.2.2.2 hb.size⟩
end
set_option maxHeartbeats 4000000 in
theorem follows_any (c : Cf) (ep sq : Int) (A : Option Addr) (st : List Int) (k : Nat) (D : Option Addr) (zs : List Zn) (d : Nat) (n : Nat → Int) (X : Option Addr) (b : List UInt8) (x : Nat) (w : World) (h : StAt w (LT w.heap.size) A st k D zs d) (hr : RightS ⟨c, ep, sq, st, zs⟩) :
    Calls Try.prog 25 #[(.agg #[.int .i64 c.id, .int .i64 c.m, .int .i64 c.u, .int .i64 c.b, .int .i64 c.cp, .int .i64 c.z, .int .i64 c.s, .int .i64 c.mt, .int .i64 c.o, .int .i64 c.a, .int .i64 c.l, .int .i64 ep, .int .i64 sq, .slice A st.length k, .slice D zs.length d]), (.agg #[.int .i64 (n 0), .int .i64 (n 1), .int .i64 (n 2), .int .i64 (n 3), .int .i64 (n 4), .int .i64 (n 5), .int .i64 (n 6), .int .i64 (n 7), .int .i64 (n 8), .slice X b.length x])] w (SaysP w (FollowR c ep sq st zs n b)) := by
  have HR := Lib.hid hr
  have HSZ : Hid (st.length ≤ 1000000 ∧ zs.length ≤ 1000000) := by
    have h1 := check_good0 hr.conf
    have h2 := hr.stat
    have h3 := hr.zone
    dsimp only at h1 h2 h3
    unfold Good at h1
    exact ⟨by omega, by omega⟩
  clear hr
  go_enter Try.func25, Try.ntmps25
  go_upto_region 1 with fail
  obtain ⟨h1, h2, h3, h4⟩ := two_boxes' w 27 30 #[.int .i64 c.id, .int .i64 c.m, .int .i64 c.u, .int .i64 c.b, .int .i64 c.cp, .int .i64 c.z, .int .i64 c.s, .int .i64 c.mt, .int .i64 c.o, .int .i64 c.a, .int .i64 c.l, .int .i64 ep, .int .i64 sq, .slice A st.length k, .slice D zs.length d] #[.int .i64 (n 0), .int .i64 (n 1), .int .i64 (n 2), .int .i64 (n 3), .int .i64 (n 4), .int .i64 (n 5), .int .i64 (n 6), .int .i64 (n 7), .int .i64 (n 8), .slice X b.length x]
  have HV : Hid (Box ((w.alloc (.cells #[.int .i64 c.id, .int .i64 c.m, .int .i64 c.u, .int .i64 c.b, .int .i64 c.cp, .int .i64 c.z, .int .i64 c.s, .int .i64 c.mt, .int .i64 c.o, .int .i64 c.a, .int .i64 c.l, .int .i64 ep, .int .i64 sq, .slice A st.length k, .slice D zs.length d] 27)).alloc (.cells #[.int .i64 (n 0), .int .i64 (n 1), .int .i64 (n 2), .int .i64 (n 3), .int .i64 (n 4), .int .i64 (n 5), .int .i64 (n 6), .int .i64 (n 7), .int .i64 (n 8), .slice X b.length x] 30)) w.heap.size 27 #[.int .i64 c.id, .int .i64 c.m, .int .i64 c.u, .int .i64 c.b, .int .i64 c.cp, .int .i64 c.z, .int .i64 c.s, .int .i64 c.mt, .int .i64 c.o, .int .i64 c.a, .int .i64 c.l, .int .i64 ep, .int .i64 sq, .slice A st.length k, .slice D zs.length d] ∧ Box ((w.alloc (.cells #[.int .i64 c.id, .int .i64 c.m, .int .i64 c.u, .int .i64 c.b, .int .i64 c.cp, .int .i64 c.z, .int .i64 c.s, .int .i64 c.mt, .int .i64 c.o, .int .i64 c.a, .int .i64 c.l, .int .i64 ep, .int .i64 sq, .slice A st.length k, .slice D zs.length d] 27)).alloc (.cells #[.int .i64 (n 0), .int .i64 (n 1), .int .i64 (n 2), .int .i64 (n 3), .int .i64 (n 4), .int .i64 (n 5), .int .i64 (n 6), .int .i64 (n 7), .int .i64 (n 8), .slice X b.length x] 30)) (w.heap.size + 1) 30 #[.int .i64 (n 0), .int .i64 (n 1), .int .i64 (n 2), .int .i64 (n 3), .int .i64 (n 4), .int .i64 (n 5), .int .i64 (n 6), .int .i64 (n 7), .int .i64 (n 8), .slice X b.length x] ∧ Below w.heap.size w ((w.alloc (.cells #[.int .i64 c.id, .int .i64 c.m, .int .i64 c.u, .int .i64 c.b, .int .i64 c.cp, .int .i64 c.z, .int .i64 c.s, .int .i64 c.mt, .int .i64 c.o, .int .i64 c.a, .int .i64 c.l, .int .i64 ep, .int .i64 sq, .slice A st.length k, .slice D zs.length d] 27)).alloc (.cells #[.int .i64 (n 0), .int .i64 (n 1), .int .i64 (n 2), .int .i64 (n 3), .int .i64 (n 4), .int .i64 (n 5), .int .i64 (n 6), .int .i64 (n 7), .int .i64 (n 8), .slice X b.length x] 30)) ∧ ((w.alloc (.cells #[.int .i64 c.id, .int .i64 c.m, .int .i64 c.u, .int .i64 c.b, .int .i64 c.cp, .int .i64 c.z, .int .i64 c.s, .int .i64 c.mt, .int .i64 c.o, .int .i64 c.a, .int .i64 c.l, .int .i64 ep, .int .i64 sq, .slice A st.length k, .slice D zs.length d] 27)).alloc (.cells #[.int .i64 (n 0), .int .i64 (n 1), .int .i64 (n 2), .int .i64 (n 3), .int .i64 (n 4), .int .i64 (n 5), .int .i64 (n 6), .int .i64 (n 7), .int .i64 (n 8), .slice X b.length x] 30)).heap.size = w.heap.size + 2) := ⟨h1, h2, h3, h4⟩
  clear h1 h2 h3 h4
  generalize ((w.alloc (.cells #[.int .i64 c.id, .int .i64 c.m, .int .i64 c.u, .int .i64 c.b, .int .i64 c.cp, .int .i64 c.z, .int .i64 c.s, .int .i64 c.mt, .int .i64 c.o, .int .i64 c.a, .int .i64 c.l, .int .i64 ep, .int .i64 sq, .slice A st.length k, .slice D zs.length d] 27)).alloc (.cells #[.int .i64 (n 0), .int .i64 (n 1), .int .i64 (n 2), .int .i64 (n 3), .int .i64 (n 4), .int .i64 (n 5), .int .i64 (n 6), .int .i64 (n 7), .int .i64 (n 8), .slice X b.length x] 30)) = w0 at HV ⊢
  obtain ⟨s0, s1, s2, s3, s4, s5, s6, s7, s8, s9, s10, s11, s12, s13, s14⟩ := box15 HV.out.1
  go_wp2_with fail
  refine (bounds_any c w0 (check_good0 HR.out.conf)).mono ?_
  rintro e w1 ⟨rfl, hb⟩
  have HV1 : Hid (Box w1 w.heap.size 27 #[.int .i64 c.id, .int .i64 c.m, .int .i64 c.u, .int .i64 c.b, .int .i64 c.cp, .int .i64 c.z, .int .i64 c.s, .int .i64 c.mt, .int .i64 c.o, .int .i64 c.a, .int .i64 c.l, .int .i64 ep, .int .i64 sq, .slice A st.length k, .slice D zs.length d] ∧ Box w1 (w.heap.size + 1) 30 #[.int .i64 (n 0), .int .i64 (n 1), .int .i64 (n 2), .int .i64 (n 3), .int .i64 (n 4), .int .i64 (n 5), .int .i64 (n 6), .int .i64 (n 7), .int .i64 (n 8), .slice X b.length x] ∧ Below w.heap.size w w1 ∧ w.heap.size + 2 ≤ w1.heap.size) := ⟨HV.out.1.later hb, HV.out.2.1.later hb, HV.out.2.2.1.trans (hb.mono HV.out.2.2.1.size), by have := HV.out.2.2.2; have := hb.size; omega⟩
  clear hb HV s0 s1 s2 s3 s4 s5 s6 s7 s8 s9 s10 s11 s12 s13 s14
  go_upto_region 2 with fail
  have HX : Hid (FolIn c ep sq A st k D zs d n X b x w1.heap.size w (w1.alloc (.cells #[.int .i64 1, .int .i64 1099511627776, .int .i64 0, .int .i64 1099511627776, .int .i64 0, .int .i64 2, .int .i64 0, .int .i64 1099511627776, .int .i64 (-1), .int .i64 (slotsC c - 1), .int .i64 0, .int .i64 (sizeC c), .int .i64 0, .int .i64 2, .int .i64 1, .int .i64 (sizeC c), .int .i64 (c.u * c.b)] 81))) := by
    have hb := below_one w1 (.cells #[.int .i64 1, .int .i64 1099511627776, .int .i64 0, .int .i64 1099511627776, .int .i64 0, .int .i64 2, .int .i64 0, .int .i64 1099511627776, .int .i64 (-1), .int .i64 (slotsC c - 1), .int .i64 0, .int .i64 (sizeC c), .int .i64 0, .int .i64 2, .int .i64 1, .int .i64 (sizeC c), .int .i64 (c.u * c.b)] 81)
    exact ⟨HV1.out.1.later hb, HV1.out.2.1.later hb, Box.fresh w1 81 #[.int .i64 1, .int .i64 1099511627776, .int .i64 0, .int .i64 1099511627776, .int .i64 0, .int .i64 2, .int .i64 0, .int .i64 1099511627776, .int .i64 (-1), .int .i64 (slotsC c - 1), .int .i64 0, .int .i64 (sizeC c), .int .i64 0, .int .i64 2, .int .i64 1, .int .i64 (sizeC c), .int .i64 (c.u * c.b)], (h.later HV1.out.2.2.1).later hb, HV1.out.2.2.1.trans (hb.mono HV1.out.2.2.1.size), by have := HV1.out.2.2.2; simp; omega⟩
  generalize w1.alloc (.cells #[.int .i64 1, .int .i64 1099511627776, .int .i64 0, .int .i64 1099511627776, .int .i64 0, .int .i64 2, .int .i64 0, .int .i64 1099511627776, .int .i64 (-1), .int .i64 (slotsC c - 1), .int .i64 0, .int .i64 (sizeC c), .int .i64 0, .int .i64 2, .int .i64 1, .int .i64 (sizeC c), .int .i64 (c.u * c.b)] 81) = w2 at HX ⊢
  generalize w1.heap.size = g at HX ⊢
  clear HV1 h
  obtain ⟨s0, s1, s2, s3, s4, s5, s6, s7, s8, s9, s10, s11, s12, s13, s14⟩ := box15 HX.out.1
  obtain ⟨r0, r1, r2, r3, r4, r5, r6, r7, r8, r9⟩ := box10 HX.out.2.1
  obtain ⟨y0, y1, y2, y3, y4, y5, y6, y7, y8, y9, y10, y11, y12, y13, y14, y15, y16⟩ := box17 HX.out.2.2.1
  have hsq := HR.out.sq
  dsimp only at hsq
  by_cases k1 : n 1 = ep
  · have K1 := Lib.hid k1
    have k1b : (n 1 != ep) = false := by simpa using k1
    clear k1
    by_cases k2 : n 2 = sq + 1
    · have K2 := Lib.hid k2
      have k2b : (n 2 != sq + 1) = false := by simpa using k2
      clear k2
      go_wp2_with fail
      refine (has_any 0 1099511627776 (n 2) w2).mono ?_
      rintro e w3 ⟨b3, rfl, hr3, hb⟩
      have HE := Lib.hid hr3
      clear hr3
      have HX3 := Lib.hid (HX.out.later hb)
      clear HX hb s0 s1 s2 s3 s4 s5 s6 s7 s8 s9 s10 s11 s12 s13 s14 r0 r1 r2 r3 r4 r5 r6 r7 r8 r9 y0 y1 y2 y3 y4 y5 y6 y7 y8 y9 y10 y11 y12 y13 y14 y15 y16
      obtain ⟨s0, s1, s2, s3, s4, s5, s6, s7, s8, s9, s10, s11, s12, s13, s14⟩ := box15 HX3.out.1
      obtain ⟨r0, r1, r2, r3, r4, r5, r6, r7, r8, r9⟩ := box10 HX3.out.2.1
      obtain ⟨y0, y1, y2, y3, y4, y5, y6, y7, y8, y9, y10, y11, y12, y13, y14, y15, y16⟩ := box17 HX3.out.2.2.1
      cases b3 with
      | false =>
        have HNO : Hid (¬ FollowR c ep sq st zs n b) := fun hf => by have := HE.out.2 hf.2.2.1; simp at this
        clear HE
        go_wp2
        go_ret
        exact SaysP.no HNO.out HX3.out.2.2.2.2.1
      | true =>
        have HE2 := Lib.hid (HE.out.1 rfl)
        clear HE
        by_cases k6 : n 0 = 6
        · have HF : Hid (FollowR c ep sq st zs n b ↔ (TurnR st (n 7) ∧ (0 ≤ n 8 ∧ n 8 ≤ 2))) := ⟨fun hf => hf.2.2.2.elim (fun h => h.2) (fun h => absurd k6 h.1), fun hf => ⟨K1.out, K2.out, HE2.out, Or.inl ⟨k6, hf⟩⟩⟩
          rw [k6] at r0
          clear k6
          go_wp2_with fail
          refine (mayTurn_any c ep sq A st k D zs d (n 7) w3 HX3.out.2.2.2.1 HSZ.out.1).mono ?_
          rintro e w4 ⟨b4, rfl, hr4, hb⟩
          have HE4 := Lib.hid hr4
          clear hr4
          have HX4 := Lib.hid (HX3.out.later hb)
          clear HX3 hb s0 s1 s2 s3 s4 s5 s6 s7 s8 s9 s10 s11 s12 s13 s14 r0 r1 r2 r3 r4 r5 r6 r7 r8 r9 y0 y1 y2 y3 y4 y5 y6 y7 y8 y9 y10 y11 y12 y13 y14 y15 y16
          obtain ⟨s0, s1, s2, s3, s4, s5, s6, s7, s8, s9, s10, s11, s12, s13, s14⟩ := box15 HX4.out.1
          obtain ⟨r0, r1, r2, r3, r4, r5, r6, r7, r8, r9⟩ := box10 HX4.out.2.1
          obtain ⟨y0, y1, y2, y3, y4, y5, y6, y7, y8, y9, y10, y11, y12, y13, y14, y15, y16⟩ := box17 HX4.out.2.2.1
          cases b4 with
          | false =>
            have HNO : Hid (¬ FollowR c ep sq st zs n b) := fun hf => by have := HE4.out.2 (HF.out.1 hf).1; simp at this
            clear HE4 HF
            go_wp2
            go_ret
            exact SaysP.no HNO.out HX4.out.2.2.2.2.1
          | true =>
            go_wp2_with fail
            refine (has_any 0 2 (n 8) w4).mono ?_
            rintro e w5 ⟨b5, rfl, hr5, hb⟩
            have HE5 : Hid (b5 = true ↔ FollowR c ep sq st zs n b) := hr5.trans ⟨fun h => HF.out.2 ⟨HE4.out.1 (by trivial), h⟩, fun h => (HF.out.1 h).2⟩
            clear hr5 HF HE4
            have HX5 := Lib.hid (HX4.out.later hb)
            clear HX4 hb s0 s1 s2 s3 s4 s5 s6 s7 s8 s9 s10 s11 s12 s13 s14 r0 r1 r2 r3 r4 r5 r6 r7 r8 r9 y0 y1 y2 y3 y4 y5 y6 y7 y8 y9 y10 y11 y12 y13 y14 y15 y16
            obtain ⟨s0, s1, s2, s3, s4, s5, s6, s7, s8, s9, s10, s11, s12, s13, s14⟩ := box15 HX5.out.1
            obtain ⟨r0, r1, r2, r3, r4, r5, r6, r7, r8, r9⟩ := box10 HX5.out.2.1
            obtain ⟨y0, y1, y2, y3, y4, y5, y6, y7, y8, y9, y10, y11, y12, y13, y14, y15, y16⟩ := box17 HX5.out.2.2.1
            go_wp2
            go_ret
            exact ⟨b5, rfl, HE5.out, HX5.out.2.2.2.2.1⟩
        · have HF : Hid (FollowR c ep sq st zs n b ↔ ZoneFits c st zs n b) := ⟨fun hf => hf.2.2.2.elim (fun h => absurd h.1 k6) (fun h => h.2), fun hf => ⟨K1.out, K2.out, HE2.out, Or.inr ⟨k6, hf⟩⟩⟩
          have k6b : (n 0 == 6) = false := by simpa using k6
          clear k6
          by_cases z1 : 0 ≤ n 3
          · by_cases z2 : n 3 < (zs.length : Int)
            · obtain ⟨q, hq⟩ : ∃ q : Nat, n 3 = (q : Int) := ⟨(n 3).toNat, by omega⟩
              have hq2 : q < zs.length := by omega
              have HFI : Hid (∀ w, StAt w (LT w.heap.size) A st k D zs d → Calls Try.prog 58 #[(.agg #[.int .i64 1, .int .i64 1099511627776, .int .i64 0, .int .i64 1099511627776, .int .i64 0, .int .i64 2, .int .i64 0, .int .i64 1099511627776, .int .i64 (-1), .int .i64 (slotsC c - 1), .int .i64 0, .int .i64 (sizeC c), .int .i64 0, .int .i64 2, .int .i64 1, .int .i64 (sizeC c), .int .i64 (c.u * c.b)]), (.agg #[.int .i64 c.id, .int .i64 c.m, .int .i64 c.u, .int .i64 c.b, .int .i64 c.cp, .int .i64 c.z, .int .i64 c.s, .int .i64 c.mt, .int .i64 c.o, .int .i64 c.a, .int .i64 c.l, .int .i64 ep, .int .i64 sq, .slice A st.length k, .slice D zs.length d]), (.agg #[.int .i64 (n 0), .int .i64 (n 1), .int .i64 (n 2), .int .i64 (n 3), .int .i64 (n 4), .int .i64 (n 5), .int .i64 (n 6), .int .i64 (n 7), .int .i64 (n 8), .slice X b.length x])] w (SaysP w (FollowR c ep sq st zs n b))) := fun w hw => by
                have hz := HR.out.be zs[q] (List.getElem_mem hq2)
                refine (fits_any c ep sq A st k D zs d n X b x q w hw HSZ.out.1 HSZ.out.2 hq2 hq hz.gen (check_good0 HR.out.conf)).mono ?_
                rintro e w' ⟨b1, rfl, h1, h2⟩
                refine ⟨b1, rfl, h1.trans ⟨fun h => HF.out.2 ⟨q, _, hq, List.getElem?_eq_getElem hq2, h⟩, fun h => ?_⟩, h2⟩
                obtain ⟨q', z, e1, e2, e3⟩ := HF.out.1 h
                obtain rfl : q = q' := by omega
                rw [List.getElem?_eq_getElem hq2] at e2
                obtain rfl := Option.some.inj e2
                exact e3
              clear hq hq2 HF
              go_wp2_with fail
              refine (HFI.out w3 HX3.out.2.2.2.1).mono ?_
              rintro e w4 ⟨b4, rfl, hr4, hb⟩
              have HE4 := Lib.hid hr4
              clear hr4
              have HX4 := Lib.hid (HX3.out.later hb)
              clear HX3 hb s0 s1 s2 s3 s4 s5 s6 s7 s8 s9 s10 s11 s12 s13 s14 r0 r1 r2 r3 r4 r5 r6 r7 r8 r9 y0 y1 y2 y3 y4 y5 y6 y7 y8 y9 y10 y11 y12 y13 y14 y15 y16
              obtain ⟨s0, s1, s2, s3, s4, s5, s6, s7, s8, s9, s10, s11, s12, s13, s14⟩ := box15 HX4.out.1
              obtain ⟨r0, r1, r2, r3, r4, r5, r6, r7, r8, r9⟩ := box10 HX4.out.2.1
              obtain ⟨y0, y1, y2, y3, y4, y5, y6, y7, y8, y9, y10, y11, y12, y13, y14, y15, y16⟩ := box17 HX4.out.2.2.1
              go_wp2
              go_ret
              exact ⟨b4, rfl, HE4.out, HX4.out.2.2.2.2.1⟩
            · have HNO : Hid (¬ FollowR c ep sq st zs n b) := fun hf => by
                obtain ⟨q', z, e1, e2, e3⟩ := HF.out.1 hf
                have := (List.getElem?_eq_some_iff.1 e2).1
                omega
              clear HF
              go_wp2
              go_ret
              exact SaysP.no HNO.out HX3.out.2.2.2.2.1
          · have HNO : Hid (¬ FollowR c ep sq st zs n b) := fun hf => by
              obtain ⟨q', z, e1, e2, e3⟩ := HF.out.1 hf
              omega
            clear HF
            go_wp2
            go_ret
            exact SaysP.no HNO.out HX3.out.2.2.2.2.1
    · have HNO : Hid (¬ FollowR c ep sq st zs n b) := fun hf => k2 hf.2.1
      have k2b : (n 2 != sq + 1) = true := by simpa using k2
      clear k2
      go_wp2
      go_ret
      exact SaysP.no HNO.out HX.out.2.2.2.2.1
  · have HNO : Hid (¬ FollowR c ep sq st zs n b) := fun hf => k1 hf.1
    have k1b : (n 1 != ep) = true := by simpa using k1
    clear k1
    go_wp2
    go_ret
    exact SaysP.no HNO.out HX.out.2.2.2.2.1
end Go.Proofs.Ytaceaemombnhkaa
