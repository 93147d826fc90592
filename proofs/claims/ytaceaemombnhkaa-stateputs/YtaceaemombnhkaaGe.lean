/- The contract of settings. -/
import Derived.Test.YtaceaemombnhkaaGb
import Derived.Test.YtaceaemombnhkaaJ
import Derived.Test.YtaceaemombnhkaaR
import Derived.Test.YtaceaemombnhkaaSb
namespace Go.Proofs.Ytaceaemombnhkaa
set_option linter.unusedVariables false
set_option maxRecDepth 100000
set_option linter.unusedSimpArgs false
open Go.RowKit
open Go.RowKit (wrap64)

/-- What settings answers. -/
def zeroC : Cf := ⟨0, 0, 0, 0, 0, 0, 0, 0, 0, 0, 0⟩
def setK (b : List UInt8) : Cf × (List UInt8 × Int) :=
  if (getC (b.take (min 88 b.length))).2 = 0 then (if checkC (getC (b.take (min 88 b.length))).1 = 0 then ((getC (b.take (min 88 b.length))).1, b.drop (min 88 b.length), 0) else (zeroC, [], 13)) else (zeroC, [], (getC (b.take (min 88 b.length))).2)
def GotK (w : World) (q : Cf × (List UInt8 × Int)) (e : Ending) (w' : World) : Prop :=
  ∃ X cx, e = .returned (.tuple #[(.agg #[.int .i64 q.1.id, .int .i64 q.1.m, .int .i64 q.1.u, .int .i64 q.1.b, .int .i64 q.1.cp, .int .i64 q.1.z, .int .i64 q.1.s, .int .i64 q.1.mt, .int .i64 q.1.o, .int .i64 q.1.a, .int .i64 q.1.l]), .slice X q.2.1.length cx, .int .i64 q.2.2]) ∧ Rd w' w'.heap.size X q.2.1 ∧ q.2.1.length ≤ cx ∧ Below w.heap.size w w'
/-- A cut 'b[:hi]', as a run equation. -/
theorem slice_pre (A : Option Addr) (len c hi : Nat) (hj : Int) (h2 : hi ≤ c) (e2 : hj = (hi : Int)) :
    ∀ w, (Instr.slice 28 (.slice A len c) none (some (.int .i64 hj)) none).run Try.prog w = .ok (.slice A hi c) w := fun w => by
  subst e2
  have he : Try.prog.elem 28 = 5 := by kernel_rfl
  rw [run_slice_h w 28 A len c (by rw [he]; exact Try.underlying28) .i64 (hi : Int) (by omega) (by omega)]
  rw [he]
  have ht5 : Try.t5.size = 1 := by kernel_rfl
  simp [sizeOf, ht5, sliced, go_sem]
/-- A cut 'b[lo:]', as a run equation. -/
theorem slice_suf (A : Option Addr) (c : Nat) (b : List UInt8) (lo : Nat) (li : Int) (h1 : lo ≤ b.length) (hc : b.length ≤ c) (e1 : li = (lo : Int)) :
    ∃ X, (∀ w B, Rd w B A b → Rd w B X (b.drop lo)) ∧ ∀ w, (Instr.slice 28 (.slice A b.length c) (some (.int .i64 li)) none none).run Try.prog w = .ok (.slice X (b.length - lo) (c - lo)) w := by
  subst e1
  refine ⟨if c = lo then A else A.map (·.add lo), fun w B h => h.cut (by omega) hc, fun w => ?_⟩
  have he : Try.prog.elem 28 = 5 := by kernel_rfl
  rw [run_slice_l w 28 A b.length c (by rw [he]; exact Try.underlying28) .i64 (lo : Int) (by omega) (by omega)]
  rw [he]
  have ht5 : Try.t5.size = 1 := by kernel_rfl
  simp [sizeOf, ht5, sliced, go_sem]
theorem put11 {w w0 : World} {g n : Nat} {t : TypeId} {cs : Array Value} (c : Cf) (h : Box w g t cs) (hn : cs.size = 11) (hb : Below n w0 w) (hg : n ≤ g) : Box (((((((((((w.setCell ⟨g, 0, none⟩ (.int .i64 c.id)).setCell ⟨g, 1, none⟩ (.int .i64 c.m)).setCell ⟨g, 2, none⟩ (.int .i64 c.u)).setCell ⟨g, 3, none⟩ (.int .i64 c.b)).setCell ⟨g, 4, none⟩ (.int .i64 c.cp)).setCell ⟨g, 5, none⟩ (.int .i64 c.z)).setCell ⟨g, 6, none⟩ (.int .i64 c.s)).setCell ⟨g, 7, none⟩ (.int .i64 c.mt)).setCell ⟨g, 8, none⟩ (.int .i64 c.o)).setCell ⟨g, 9, none⟩ (.int .i64 c.a)).setCell ⟨g, 10, none⟩ (.int .i64 c.l)) g t #[.int .i64 c.id, .int .i64 c.m, .int .i64 c.u, .int .i64 c.b, .int .i64 c.cp, .int .i64 c.z, .int .i64 c.s, .int .i64 c.mt, .int .i64 c.o, .int .i64 c.a, .int .i64 c.l] ∧ Below n w0 (((((((((((w.setCell ⟨g, 0, none⟩ (.int .i64 c.id)).setCell ⟨g, 1, none⟩ (.int .i64 c.m)).setCell ⟨g, 2, none⟩ (.int .i64 c.u)).setCell ⟨g, 3, none⟩ (.int .i64 c.b)).setCell ⟨g, 4, none⟩ (.int .i64 c.cp)).setCell ⟨g, 5, none⟩ (.int .i64 c.z)).setCell ⟨g, 6, none⟩ (.int .i64 c.s)).setCell ⟨g, 7, none⟩ (.int .i64 c.mt)).setCell ⟨g, 8, none⟩ (.int .i64 c.o)).setCell ⟨g, 9, none⟩ (.int .i64 c.a)).setCell ⟨g, 10, none⟩ (.int .i64 c.l)) := by
  have h1 := sets_box0 [.int .i64 c.id, .int .i64 c.m, .int .i64 c.u, .int .i64 c.b, .int .i64 c.cp, .int .i64 c.z, .int .i64 c.s, .int .i64 c.mt, .int .i64 c.o, .int .i64 c.a, .int .i64 c.l] h hn
  have h2 := sets_below (g := g) [.int .i64 c.id, .int .i64 c.m, .int .i64 c.u, .int .i64 c.b, .int .i64 c.cp, .int .i64 c.z, .int .i64 c.s, .int .i64 c.mt, .int .i64 c.o, .int .i64 c.a, .int .i64 c.l] 0 w hb hg
  simp only [sets, Nat.zero_add, Nat.reduceAdd] at h1 h2
  exact ⟨h1, h2⟩
set_option maxHeartbeats 2000000 in
theorem settings_any (A : Option Addr) (cap : Nat) (b : List UInt8) (w : World) (hr : Rd w w.heap.size A b) (hcap : b.length ≤ cap) (hl : b.length ≤ 1000000) :
    Calls Try.prog 42 #[.slice A b.length cap] w (GotK w (setK b)) := by
  have HP : Hid (∀ w, Calls Try.prog 31 #[(.agg #[.int .i64 zeroC.id, .int .i64 zeroC.m, .int .i64 zeroC.u, .int .i64 zeroC.b, .int .i64 zeroC.cp, .int .i64 zeroC.z, .int .i64 zeroC.s, .int .i64 zeroC.mt, .int .i64 zeroC.o, .int .i64 zeroC.a, .int .i64 zeroC.l])] w (GaveB w (les zeroC 11))) := fun w => put_any zeroC w
  obtain ⟨E0, hE0⟩ : ∃ E, les zeroC 11 = E := ⟨_, rfl⟩
  have hn0 : E0.length = 88 := by rw [← hE0, les_length zeroC 11 (by omega)]
  rw [hE0] at HP
  clear hE0
  obtain ⟨m, hm⟩ : ∃ m, min 88 b.length = m := ⟨_, rfl⟩
  have hml : m ≤ b.length := by omega
  have HTL : Hid ((b.take m).length = m) := by
    show _ = _
    rw [List.length_take]
    omega
  have HK : Hid (setK b = if (getC (b.take m)).2 = 0 then (if checkC (getC (b.take m)).1 = 0 then ((getC (b.take m)).1, b.drop m, 0) else (zeroC, [], 13)) else (zeroC, [], (getC (b.take m)).2)) := by
    show setK b = _
    unfold setK
    rw [hm]
  have HG : Hid (∀ w, Rd w w.heap.size A (b.take m) → Calls Try.prog 76 #[.slice A m cap] w (GotC w (getC (b.take m)))) := fun w h => by
    have h2 := get_any A cap (b.take m) w h (by rw [HTL.out]; omega)
    rw [HTL.out] at h2
    exact h2
  have HSP := Lib.hid (slice_pre A b.length cap m (m : Int) (by omega) rfl)
  obtain ⟨X, hX, hsf⟩ := slice_suf A cap b m (m : Int) hml hcap rfl
  have HDL : Hid (b.length - m = (b.drop m).length) := by
    show _ = _
    rw [List.length_drop]
  have HSF := Lib.hid (And.intro hX hsf)
  have HMC : Hid ((b.drop m).length ≤ cap - m) := by
    show _ ≤ _
    rw [List.length_drop]
    omega
  clear hX hsf
  have HR := Lib.hid hr
  have hmi : (if (b.length : Int) < 88 then (b.length : Int) else 88) = (m : Int) := by split <;> omega
  have HMI := Lib.hid hmi
  clear hr hm hmi hcap hml
  generalize setK b = K at HK ⊢
  go_enter Try.func42, Try.ntmps42
  go_upto_region 1 with fail
  have HV0 : Hid (Box (w.alloc (.cells #[.int .i64 0, .int .i64 0, .int .i64 0, .int .i64 0, .int .i64 0, .int .i64 0, .int .i64 0, .int .i64 0, .int .i64 0, .int .i64 0, .int .i64 0] 23)) w.heap.size 23 #[.int .i64 0, .int .i64 0, .int .i64 0, .int .i64 0, .int .i64 0, .int .i64 0, .int .i64 0, .int .i64 0, .int .i64 0, .int .i64 0, .int .i64 0] ∧ Below w.heap.size w (w.alloc (.cells #[.int .i64 0, .int .i64 0, .int .i64 0, .int .i64 0, .int .i64 0, .int .i64 0, .int .i64 0, .int .i64 0, .int .i64 0, .int .i64 0, .int .i64 0] 23))) := ⟨Box.fresh w 23 _, (Below.refl _ _).alloc (Nat.le_refl _) _⟩
  generalize (w.alloc (.cells #[.int .i64 0, .int .i64 0, .int .i64 0, .int .i64 0, .int .i64 0, .int .i64 0, .int .i64 0, .int .i64 0, .int .i64 0, .int .i64 0, .int .i64 0] 23)) = w0 at HV0 ⊢
  obtain ⟨y0, y1, y2, y3, y4, y5, y6, y7, y8, y9, y10⟩ := box11 HV0.out.1
  go_wp2_with fail
  refine (HP.out w0).mono ?_
  rintro e w1 ⟨D, cd, rfl, _, _, hb⟩
  rw [hn0]
  have HV1 : Hid (Box w1 w.heap.size 23 #[.int .i64 0, .int .i64 0, .int .i64 0, .int .i64 0, .int .i64 0, .int .i64 0, .int .i64 0, .int .i64 0, .int .i64 0, .int .i64 0, .int .i64 0] ∧ Below w.heap.size w w1) := ⟨HV0.out.1.later hb, HV0.out.2.trans (hb.mono HV0.out.2.size)⟩
  clear hb HV0 y0 y1 y2 y3 y4 y5 y6 y7 y8 y9 y10 HP hn0
  obtain ⟨y0, y1, y2, y3, y4, y5, y6, y7, y8, y9, y10⟩ := box11 HV1.out.1
  go_upto_region 2 with fail
  rw [HMI.out]
  have hsp := HSP.out
  have hT : Hid (Rd w1 w1.heap.size A (b.take m)) := ((HR.out.below HV1.out.2).more HV1.out.2.size).take _
  go_wp2_with fail
  refine (HG.out w1 hT.out).mono ?_
  rintro e w2 ⟨rfl, hb⟩
  have HV2 : Hid (Box w2 w.heap.size 23 #[.int .i64 0, .int .i64 0, .int .i64 0, .int .i64 0, .int .i64 0, .int .i64 0, .int .i64 0, .int .i64 0, .int .i64 0, .int .i64 0, .int .i64 0] ∧ Below w.heap.size w w2) := ⟨HV1.out.1.later hb, HV1.out.2.trans (hb.mono HV1.out.2.size)⟩
  clear hb HV1 y0 y1 y2 y3 y4 y5 y6 y7 y8 y9 y10 HG hsp HSP hT
  obtain ⟨y0, y1, y2, y3, y4, y5, y6, y7, y8, y9, y10⟩ := box11 HV2.out.1
  generalize getC (b.take m) = q at HK ⊢
  obtain ⟨c, er⟩ := q
  obtain ⟨f0, f1, f2, f3, f4, f5, f6, f7, f8, f9, f10, f11, f12, f13, f14⟩ := froz15 HV2.out.1
  go_upto_region 3 with fail
  have HV3 := Lib.hid (put11 c HV2.out.1 rfl HV2.out.2 (Nat.le_refl _))
  generalize (((((((((((w2.setCell ⟨w.heap.size, 0, none⟩ (.int .i64 c.id)).setCell ⟨w.heap.size, 1, none⟩ (.int .i64 c.m)).setCell ⟨w.heap.size, 2, none⟩ (.int .i64 c.u)).setCell ⟨w.heap.size, 3, none⟩ (.int .i64 c.b)).setCell ⟨w.heap.size, 4, none⟩ (.int .i64 c.cp)).setCell ⟨w.heap.size, 5, none⟩ (.int .i64 c.z)).setCell ⟨w.heap.size, 6, none⟩ (.int .i64 c.s)).setCell ⟨w.heap.size, 7, none⟩ (.int .i64 c.mt)).setCell ⟨w.heap.size, 8, none⟩ (.int .i64 c.o)).setCell ⟨w.heap.size, 9, none⟩ (.int .i64 c.a)).setCell ⟨w.heap.size, 10, none⟩ (.int .i64 c.l)) = w3 at HV3 ⊢
  clear HV2 y0 y1 y2 y3 y4 y5 y6 y7 y8 y9 y10 f0 f1 f2 f3 f4 f5 f6 f7 f8 f9 f10 f11 f12 f13 f14
  obtain ⟨y0, y1, y2, y3, y4, y5, y6, y7, y8, y9, y10⟩ := box11 HV3.out.1
  obtain ⟨f0, f1, f2, f3, f4, f5, f6, f7, f8, f9, f10, f11, f12, f13, f14⟩ := froz15 HV3.out.1
  by_cases he : er = 0
  · subst he
    have HK2 : Hid (K = if checkC c = 0 then (c, b.drop m, 0) else (zeroC, [], 13)) := HK.out.trans (if_pos rfl)
    clear HK
    go_upto_region 5 with fail
    go_wp2_with fail
    refine (check_any c w3).mono ?_
    rintro e w4 ⟨rfl, hb⟩
    have HV4 : Hid (Box w4 w.heap.size 23 #[.int .i64 c.id, .int .i64 c.m, .int .i64 c.u, .int .i64 c.b, .int .i64 c.cp, .int .i64 c.z, .int .i64 c.s, .int .i64 c.mt, .int .i64 c.o, .int .i64 c.a, .int .i64 c.l] ∧ Below w.heap.size w w4) := ⟨HV3.out.1.later hb, HV3.out.2.trans (hb.mono HV3.out.2.size)⟩
    clear hb HV3 y0 y1 y2 y3 y4 y5 y6 y7 y8 y9 y10 f0 f1 f2 f3 f4 f5 f6 f7 f8 f9 f10 f11 f12 f13 f14
    obtain ⟨y0, y1, y2, y3, y4, y5, y6, y7, y8, y9, y10⟩ := box11 HV4.out.1
    obtain ⟨f0, f1, f2, f3, f4, f5, f6, f7, f8, f9, f10, f11, f12, f13, f14⟩ := froz15 HV4.out.1
    by_cases hc : checkC c = 0
    · have HK3 : Hid (K = (c, b.drop m, 0)) := HK2.out.trans (if_pos hc)
      rw [hc]
      clear hc HK2
      have hsf := HSF.out.2
      go_upto_region 7 with fail
      go_region
      have HV5 : Hid (Box (((((((((((w4.setCell ⟨w.heap.size, 0, none⟩ (.int .i64 c.id)).setCell ⟨w.heap.size, 1, none⟩ (.int .i64 c.m)).setCell ⟨w.heap.size, 2, none⟩ (.int .i64 c.u)).setCell ⟨w.heap.size, 3, none⟩ (.int .i64 c.b)).setCell ⟨w.heap.size, 4, none⟩ (.int .i64 c.cp)).setCell ⟨w.heap.size, 5, none⟩ (.int .i64 c.z)).setCell ⟨w.heap.size, 6, none⟩ (.int .i64 c.s)).setCell ⟨w.heap.size, 7, none⟩ (.int .i64 c.mt)).setCell ⟨w.heap.size, 8, none⟩ (.int .i64 c.o)).setCell ⟨w.heap.size, 9, none⟩ (.int .i64 c.a)).setCell ⟨w.heap.size, 10, none⟩ (.int .i64 c.l)).drew w.heap.size 23 #[.int .i64 c.id, .int .i64 c.m, .int .i64 c.u, .int .i64 c.b, .int .i64 c.cp, .int .i64 c.z, .int .i64 c.s, .int .i64 c.mt, .int .i64 c.o, .int .i64 c.a, .int .i64 c.l] ∧ Below w.heap.size w (((((((((((w4.setCell ⟨w.heap.size, 0, none⟩ (.int .i64 c.id)).setCell ⟨w.heap.size, 1, none⟩ (.int .i64 c.m)).setCell ⟨w.heap.size, 2, none⟩ (.int .i64 c.u)).setCell ⟨w.heap.size, 3, none⟩ (.int .i64 c.b)).setCell ⟨w.heap.size, 4, none⟩ (.int .i64 c.cp)).setCell ⟨w.heap.size, 5, none⟩ (.int .i64 c.z)).setCell ⟨w.heap.size, 6, none⟩ (.int .i64 c.s)).setCell ⟨w.heap.size, 7, none⟩ (.int .i64 c.mt)).setCell ⟨w.heap.size, 8, none⟩ (.int .i64 c.o)).setCell ⟨w.heap.size, 9, none⟩ (.int .i64 c.a)).setCell ⟨w.heap.size, 10, none⟩ (.int .i64 c.l)).drew) := by
        obtain ⟨h1, h2⟩ := put11 c HV4.out.1 rfl HV4.out.2 (Nat.le_refl _)
        exact ⟨h1.later (Below.refl _ _).drew, h2.drew⟩
      have HSX := Lib.hid HSF.out.1
      generalize (((((((((((w4.setCell ⟨w.heap.size, 0, none⟩ (.int .i64 c.id)).setCell ⟨w.heap.size, 1, none⟩ (.int .i64 c.m)).setCell ⟨w.heap.size, 2, none⟩ (.int .i64 c.u)).setCell ⟨w.heap.size, 3, none⟩ (.int .i64 c.b)).setCell ⟨w.heap.size, 4, none⟩ (.int .i64 c.cp)).setCell ⟨w.heap.size, 5, none⟩ (.int .i64 c.z)).setCell ⟨w.heap.size, 6, none⟩ (.int .i64 c.s)).setCell ⟨w.heap.size, 7, none⟩ (.int .i64 c.mt)).setCell ⟨w.heap.size, 8, none⟩ (.int .i64 c.o)).setCell ⟨w.heap.size, 9, none⟩ (.int .i64 c.a)).setCell ⟨w.heap.size, 10, none⟩ (.int .i64 c.l)).drew = w5 at HV5 ⊢
      clear HV4 y0 y1 y2 y3 y4 y5 y6 y7 y8 y9 y10 f0 f1 f2 f3 f4 f5 f6 f7 f8 f9 f10 f11 f12 f13 f14 hsf HSF
      obtain ⟨y0, y1, y2, y3, y4, y5, y6, y7, y8, y9, y10⟩ := box11 HV5.out.1
      rw [HDL.out]
      go_wp2
      rw [HK3.out]
      refine bodyPost_ret (v := .tuple #[.agg #[.int .i64 c.id, .int .i64 c.m, .int .i64 c.u, .int .i64 c.b, .int .i64 c.cp, .int .i64 c.z, .int .i64 c.s, .int .i64 c.mt, .int .i64 c.o, .int .i64 c.a, .int .i64 c.l], .slice X (b.drop m).length (cap - m), .int .i64 0]) (by simp [results, Try.results42, go_sem, -List.length_drop, *]) rfl ⟨X, _, rfl, HSX.out _ _ ((HR.out.below HV5.out.2).more HV5.out.2.size), HMC.out, HV5.out.2⟩
    · have HK3 : Hid (K = (zeroC, [], 13)) := HK2.out.trans (if_neg hc)
      have hcb : (checkC c != 0) = true := by simpa using hc
      clear HK2
      generalize checkC c = ce at hc hcb ⊢
      go_wp2_with fail
      have HV5 : Hid (Box (((((((((((w4.setCell ⟨w.heap.size, 0, none⟩ (.int .i64 0)).setCell ⟨w.heap.size, 1, none⟩ (.int .i64 0)).setCell ⟨w.heap.size, 2, none⟩ (.int .i64 0)).setCell ⟨w.heap.size, 3, none⟩ (.int .i64 0)).setCell ⟨w.heap.size, 4, none⟩ (.int .i64 0)).setCell ⟨w.heap.size, 5, none⟩ (.int .i64 0)).setCell ⟨w.heap.size, 6, none⟩ (.int .i64 0)).setCell ⟨w.heap.size, 7, none⟩ (.int .i64 0)).setCell ⟨w.heap.size, 8, none⟩ (.int .i64 0)).setCell ⟨w.heap.size, 9, none⟩ (.int .i64 0)).setCell ⟨w.heap.size, 10, none⟩ (.int .i64 0)) w.heap.size 23 #[.int .i64 0, .int .i64 0, .int .i64 0, .int .i64 0, .int .i64 0, .int .i64 0, .int .i64 0, .int .i64 0, .int .i64 0, .int .i64 0, .int .i64 0] ∧ Below w.heap.size w (((((((((((w4.setCell ⟨w.heap.size, 0, none⟩ (.int .i64 0)).setCell ⟨w.heap.size, 1, none⟩ (.int .i64 0)).setCell ⟨w.heap.size, 2, none⟩ (.int .i64 0)).setCell ⟨w.heap.size, 3, none⟩ (.int .i64 0)).setCell ⟨w.heap.size, 4, none⟩ (.int .i64 0)).setCell ⟨w.heap.size, 5, none⟩ (.int .i64 0)).setCell ⟨w.heap.size, 6, none⟩ (.int .i64 0)).setCell ⟨w.heap.size, 7, none⟩ (.int .i64 0)).setCell ⟨w.heap.size, 8, none⟩ (.int .i64 0)).setCell ⟨w.heap.size, 9, none⟩ (.int .i64 0)).setCell ⟨w.heap.size, 10, none⟩ (.int .i64 0))) := put11 zeroC HV4.out.1 rfl HV4.out.2 (Nat.le_refl _)
      generalize (((((((((((w4.setCell ⟨w.heap.size, 0, none⟩ (.int .i64 0)).setCell ⟨w.heap.size, 1, none⟩ (.int .i64 0)).setCell ⟨w.heap.size, 2, none⟩ (.int .i64 0)).setCell ⟨w.heap.size, 3, none⟩ (.int .i64 0)).setCell ⟨w.heap.size, 4, none⟩ (.int .i64 0)).setCell ⟨w.heap.size, 5, none⟩ (.int .i64 0)).setCell ⟨w.heap.size, 6, none⟩ (.int .i64 0)).setCell ⟨w.heap.size, 7, none⟩ (.int .i64 0)).setCell ⟨w.heap.size, 8, none⟩ (.int .i64 0)).setCell ⟨w.heap.size, 9, none⟩ (.int .i64 0)).setCell ⟨w.heap.size, 10, none⟩ (.int .i64 0)) = w5 at HV5 ⊢
      clear HV4 y0 y1 y2 y3 y4 y5 y6 y7 y8 y9 y10 f0 f1 f2 f3 f4 f5 f6 f7 f8 f9 f10 f11 f12 f13 f14
      obtain ⟨y0, y1, y2, y3, y4, y5, y6, y7, y8, y9, y10⟩ := box11 HV5.out.1
      rw [HK3.out]
      refine bodyPost_ret (v := .tuple #[.agg #[.int .i64 0, .int .i64 0, .int .i64 0, .int .i64 0, .int .i64 0, .int .i64 0, .int .i64 0, .int .i64 0, .int .i64 0, .int .i64 0, .int .i64 0], .slice none 0 0, .int .i64 13]) (by simp [results, Try.results42, go_sem, *]) rfl ⟨none, 0, rfl, Rd.nil, Nat.le_refl _, HV5.out.2⟩
  · have HK3 : Hid (K = (zeroC, [], er)) := HK.out.trans (if_neg he)
    have heb : (er != 0) = true := by simpa using he
    clear HK
    go_wp2_with fail
    have HV5 : Hid (Box (((((((((((w3.setCell ⟨w.heap.size, 0, none⟩ (.int .i64 0)).setCell ⟨w.heap.size, 1, none⟩ (.int .i64 0)).setCell ⟨w.heap.size, 2, none⟩ (.int .i64 0)).setCell ⟨w.heap.size, 3, none⟩ (.int .i64 0)).setCell ⟨w.heap.size, 4, none⟩ (.int .i64 0)).setCell ⟨w.heap.size, 5, none⟩ (.int .i64 0)).setCell ⟨w.heap.size, 6, none⟩ (.int .i64 0)).setCell ⟨w.heap.size, 7, none⟩ (.int .i64 0)).setCell ⟨w.heap.size, 8, none⟩ (.int .i64 0)).setCell ⟨w.heap.size, 9, none⟩ (.int .i64 0)).setCell ⟨w.heap.size, 10, none⟩ (.int .i64 0)) w.heap.size 23 #[.int .i64 0, .int .i64 0, .int .i64 0, .int .i64 0, .int .i64 0, .int .i64 0, .int .i64 0, .int .i64 0, .int .i64 0, .int .i64 0, .int .i64 0] ∧ Below w.heap.size w (((((((((((w3.setCell ⟨w.heap.size, 0, none⟩ (.int .i64 0)).setCell ⟨w.heap.size, 1, none⟩ (.int .i64 0)).setCell ⟨w.heap.size, 2, none⟩ (.int .i64 0)).setCell ⟨w.heap.size, 3, none⟩ (.int .i64 0)).setCell ⟨w.heap.size, 4, none⟩ (.int .i64 0)).setCell ⟨w.heap.size, 5, none⟩ (.int .i64 0)).setCell ⟨w.heap.size, 6, none⟩ (.int .i64 0)).setCell ⟨w.heap.size, 7, none⟩ (.int .i64 0)).setCell ⟨w.heap.size, 8, none⟩ (.int .i64 0)).setCell ⟨w.heap.size, 9, none⟩ (.int .i64 0)).setCell ⟨w.heap.size, 10, none⟩ (.int .i64 0))) := put11 zeroC HV3.out.1 rfl HV3.out.2 (Nat.le_refl _)
    generalize (((((((((((w3.setCell ⟨w.heap.size, 0, none⟩ (.int .i64 0)).setCell ⟨w.heap.size, 1, none⟩ (.int .i64 0)).setCell ⟨w.heap.size, 2, none⟩ (.int .i64 0)).setCell ⟨w.heap.size, 3, none⟩ (.int .i64 0)).setCell ⟨w.heap.size, 4, none⟩ (.int .i64 0)).setCell ⟨w.heap.size, 5, none⟩ (.int .i64 0)).setCell ⟨w.heap.size, 6, none⟩ (.int .i64 0)).setCell ⟨w.heap.size, 7, none⟩ (.int .i64 0)).setCell ⟨w.heap.size, 8, none⟩ (.int .i64 0)).setCell ⟨w.heap.size, 9, none⟩ (.int .i64 0)).setCell ⟨w.heap.size, 10, none⟩ (.int .i64 0)) = w5 at HV5 ⊢
    clear HV3 y0 y1 y2 y3 y4 y5 y6 y7 y8 y9 y10 f0 f1 f2 f3 f4 f5 f6 f7 f8 f9 f10 f11 f12 f13 f14
    obtain ⟨y0, y1, y2, y3, y4, y5, y6, y7, y8, y9, y10⟩ := box11 HV5.out.1
    rw [HK3.out]
    refine bodyPost_ret (v := .tuple #[.agg #[.int .i64 0, .int .i64 0, .int .i64 0, .int .i64 0, .int .i64 0, .int .i64 0, .int .i64 0, .int .i64 0, .int .i64 0, .int .i64 0, .int .i64 0], .slice none 0 0, .int .i64 er]) (by simp [results, Try.results42, go_sem, *]) rfl ⟨none, 0, rfl, Rd.nil, Nat.le_refl _, HV5.out.2⟩
end Go.Proofs.Ytaceaemombnhkaa
