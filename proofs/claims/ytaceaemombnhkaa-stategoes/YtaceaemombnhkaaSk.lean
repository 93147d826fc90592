/- The contract of the example; New of settings that are refused. -/
import Derived.Test.YtaceaemombnhkaaSj
import Derived.Test.YtaceaemombnhkaaSg
namespace Go.Proofs.Ytaceaemombnhkaa
set_option linter.unusedVariables false
set_option maxRecDepth 100000
set_option linter.unusedSimpArgs false
open Go.RowKit
open Go.RowKit (wrap64)

/-- What the call New answers, of any settings. -/
def GotZ (w : World) (er : Int) (e : Ending) (w' : World) : Prop := e = .returned (.tuple #[.agg #[.int .i64 0, .int .i64 0, .int .i64 0, .int .i64 0, .int .i64 0, .int .i64 0, .int .i64 0, .int .i64 0, .int .i64 0, .int .i64 0, .int .i64 0, .int .i64 0, .int .i64 0, .slice none 0 0, .slice none 0 0], .int .i64 er]) ∧ Below w.heap.size w w'
theorem plain_free : (freeL plainC (newS plainC).zs).length = 4 := by decide +kernel
set_option maxHeartbeats 2000000 in
theorem live_any (w : World) : Calls Try.prog 8 #[] w (Says w (.bool true)) := by
  obtain ⟨s, hs⟩ : ∃ s, newS plainC = s := ⟨_, rfl⟩
  have HN : Hid (∀ w, Calls Try.prog 18 #[.agg #[.int .i64 7, .int .i64 4, .int .i64 2, .int .i64 64, .int .i64 24, .int .i64 3, .int .i64 1, .int .i64 3, .int .i64 2, .int .i64 3, .int .i64 7]] w (GotS w s 0)) := fun w => by
    rw [← hs]
    exact new_ok plainC w plain_check
  have HR : Hid (RightS s) := by rw [← hs]; exact new_right plain_check
  have HF : Hid ((freeL s.c s.zs).length = 4) := by rw [← hs]; exact plain_free
  have HL : Hid (s.st.length ≤ 1000000 ∧ s.zs.length ≤ 1000000) := by
    rw [← hs]
    exact ⟨by show (List.replicate (4 : Int).toNat (0 : Int)).length ≤ 1000000; rw [List.length_replicate]; decide, by show (List.replicate (3 : Int).toNat (_ : Zn)).length ≤ 1000000; rw [List.length_replicate]; decide⟩
  clear hs
  obtain ⟨c, ep, sq, st, zs⟩ := s
  go_enter Try.func8, Try.ntmps8
  go_wp2_with fail
  refine (plain_any w).mono ?_
  rintro e w1 ⟨rfl, hb⟩
  have HB1 := Lib.hid hb
  clear hb
  go_wp2_with fail
  refine (HN.out w1).mono ?_
  rintro e w2 ⟨A, k, D, d, rfl, hst, hb⟩
  have HB2 : Hid (StAt w2 (LT w2.heap.size) A st k D zs d ∧ Below w.heap.size w w2) := ⟨hst, HB1.out.trans (hb.mono HB1.out.size)⟩
  dsimp only
  clear hb hst HB1 HN
  go_upto_region 2 with fail
  have h := HB2.out.1
  have HV := Lib.hid (StIn.new (c := c) (ep := ep) (sq := sq) h)
  have HV0 : Hid (Below w.heap.size w (w2.alloc (.cells #[.int .i64 c.id, .int .i64 c.m, .int .i64 c.u, .int .i64 c.b, .int .i64 c.cp, .int .i64 c.z, .int .i64 c.s, .int .i64 c.mt, .int .i64 c.o, .int .i64 c.a, .int .i64 c.l, .int .i64 ep, .int .i64 sq, .slice A st.length k, .slice D zs.length d] 27))) := HB2.out.2.alloc HB2.out.2.size _
  generalize (w2.alloc (.cells #[.int .i64 c.id, .int .i64 c.m, .int .i64 c.u, .int .i64 c.b, .int .i64 c.cp, .int .i64 c.z, .int .i64 c.s, .int .i64 c.mt, .int .i64 c.o, .int .i64 c.a, .int .i64 c.l, .int .i64 ep, .int .i64 sq, .slice A st.length k, .slice D zs.length d] 27)) = w3 at HV HV0 ⊢
  clear h HB2
  obtain ⟨y0, y1, y2, y3, y4, y5, y6, y7, y8, y9, y10, y11, y12, y13, y14⟩ := box15 HV.out.1
  go_wp2_with fail
  refine (code_any 0 w3).mono ?_
  rintro e w' ⟨rfl, rfl⟩
  go_wp2_with fail
  refine (free_any c ep sq A st k D zs d w3 HV.out.2.1 HL.out.2).mono ?_
  rintro e w4 ⟨X, cp, rfl, hX, hcp, hb⟩
  have hf : (freeL c zs).length = 4 := HF.out
  rw [hf]
  have HV4 := Lib.hid (HV.out.later hb)
  have HV5 := Lib.hid (HV0.out.trans (hb.mono HV0.out.size))
  clear hX hcp hb HV HV0 y0 y1 y2 y3 y4 y5 y6 y7 y8 y9 y10 y11 y12 y13 y14 hf
  obtain ⟨y0, y1, y2, y3, y4, y5, y6, y7, y8, y9, y10, y11, y12, y13, y14⟩ := box15 HV4.out.1
  go_wp2_with fail
  refine (right_any c ep sq A st k D zs d w4 HV4.out.2.1 HL.out.1 HL.out.2).mono ?_
  rintro e w5 ⟨b, rfl, hbb, hb⟩
  have hbt : b = true := hbb.2 HR.out
  subst hbt
  have HV6 := Lib.hid (HV5.out.trans (hb.mono HV5.out.size))
  clear hb hbb HV4 HV5 y0 y1 y2 y3 y4 y5 y6 y7 y8 y9 y10 y11 y12 y13 y14
  go_wp2
  go_ret
  exact ⟨rfl, HV6.out⟩
end Go.Proofs.Ytaceaemombnhkaa
