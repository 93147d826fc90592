/- Contracts of mayTurn. -/
import Derived.Test.YtaceaemombnhkaaSf
namespace Go.Proofs.Ytaceaemombnhkaa
set_option linter.unusedVariables false
set_option maxRecDepth 100000
set_option linter.unusedSimpArgs false
open Go.RowKit
open Go.RowKit (wrap64)

/-- May member m turn, the members being as st says? -/
def TurnR (st : List Int) (m : Int) : Prop := 0 ≤ m ∧ m < st.length ∧ (oddL st 0 = none ∨ ∃ n, oddL st 0 = some (m.toNat, n))
set_option maxHeartbeats 2000000 in
theorem mayTurn_any (c : Cf) (ep sq : Int) (A : Option Addr) (st : List Int) (k : Nat) (D : Option Addr) (zs : List Zn) (d : Nat) (m : Int) (w : World) (h : StAt w (LT w.heap.size) A st k D zs d) (hl : st.length ≤ 1000000) :
    Calls Try.prog 57 #[(.agg #[.int .i64 c.id, .int .i64 c.m, .int .i64 c.u, .int .i64 c.b, .int .i64 c.cp, .int .i64 c.z, .int .i64 c.s, .int .i64 c.mt, .int .i64 c.o, .int .i64 c.a, .int .i64 c.l, .int .i64 ep, .int .i64 sq, .slice A st.length k, .slice D zs.length d]), .int .i64 m] w (SaysP w (TurnR st m)) := by
  go_enter Try.func57, Try.ntmps57
  go_upto_region 1 with fail
  have HV := Lib.hid (StIn.new (c := c) (ep := ep) (sq := sq) h)
  generalize (w.alloc (.cells #[.int .i64 c.id, .int .i64 c.m, .int .i64 c.u, .int .i64 c.b, .int .i64 c.cp, .int .i64 c.z, .int .i64 c.s, .int .i64 c.mt, .int .i64 c.o, .int .i64 c.a, .int .i64 c.l, .int .i64 ep, .int .i64 sq, .slice A st.length k, .slice D zs.length d] 27)) = w0 at HV ⊢
  clear h
  obtain ⟨y0, y1, y2, y3, y4, y5, y6, y7, y8, y9, y10, y11, y12, y13, y14⟩ := box15 HV.out.1
  go_wp2_with fail
  refine (odd_any c ep sq A st k D zs d w0 HV.out.2.1 hl).mono ?_
  rintro e w1 ⟨hb, hr⟩
  have HV1 := Lib.hid (HV.out.later hb)
  clear hb HV y0 y1 y2 y3 y4 y5 y6 y7 y8 y9 y10 y11 y12 y13 y14
  obtain ⟨y0, y1, y2, y3, y4, y5, y6, y7, y8, y9, y10, y11, y12, y13, y14⟩ := box15 HV1.out.1
  by_cases h1 : 0 ≤ m
  · by_cases h2 : m < (st.length : Int)
    · rcases hr with ⟨ho, rfl⟩ | ⟨m0, n0, ho, rfl⟩
      · go_wp2
        go_ret
        exact SaysP.yes ⟨h1, h2, Or.inl ho⟩ HV1.out.2.2
      · by_cases h3 : (m0 : Int) = m
        · have h3b : ((m0 : Int) == m) = true := by simpa using h3
          have HT : Hid (TurnR st m) := ⟨h1, h2, Or.inr ⟨n0, by rw [ho, ← h3]; rfl⟩⟩
          generalize (m0 : Int) = m1 at h3 h3b ⊢
          clear h3
          go_wp2
          go_ret
          exact SaysP.yes HT.out HV1.out.2.2
        · have h3b : ((m0 : Int) == m) = false := by simpa using h3
          have HT : Hid (¬ TurnR st m) := fun ⟨_, _, h4⟩ => by
            rw [ho] at h4
            rcases h4 with h4 | ⟨n, h4⟩
            · simp at h4
            · simp only [Option.some.injEq, Prod.mk.injEq] at h4
              omega
          generalize (m0 : Int) = m1 at h3 h3b ⊢
          go_wp2
          go_ret
          exact SaysP.no HT.out HV1.out.2.2
    · rcases hr with ⟨ho, rfl⟩ | ⟨m0, n0, ho, rfl⟩
      · go_wp2
        go_ret
        exact SaysP.no (fun h => absurd h.2.1 (by omega)) HV1.out.2.2
      · go_wp2
        go_ret
        exact SaysP.no (fun h => absurd h.2.1 (by omega)) HV1.out.2.2
  · rcases hr with ⟨ho, rfl⟩ | ⟨m0, n0, ho, rfl⟩
    · go_wp2
      go_ret
      exact SaysP.no (fun h => absurd h.1 (by omega)) HV1.out.2.2
    · go_wp2
      go_ret
      exact SaysP.no (fun h => absurd h.1 (by omega)) HV1.out.2.2
end Go.Proofs.Ytaceaemombnhkaa
