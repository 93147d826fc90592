/- The contract of command: what goes through, and what does not. -/
import Derived.Test.YtbaolfncolfipaaX
namespace Go.Proofs.Ytbaolfncolfipaa
set_option linter.unusedVariables false
set_option linter.unusedSimpArgs false
open Go.RowKit
open Go.RowKit (wrap64)

set_option maxHeartbeats 400000 in
theorem command_range {B : Bd} (m : Int) (F : Value) (w : World) (h : BusAt w B) (hm : m < 0 ∨ (B.ms.length : Int) ≤ m) :
    Calls Try.prog 26 #[.pointer (some ⟨B.b, 0, none⟩), .int .i64 m, F] w fun e w' => e = .returned (.int .i64 1) ∧ w = w' := by
  have H := Lib.hid h
  have HM := Lib.hid (numE_out hm)
  clear h hm
  go_enter Try.func26, Try.ntmps26
  go_wp2_with fail
  refine (busReach_any m w H.out).mono ?_
  rintro e w' ⟨rfl, rfl⟩
  rw [HM.out]
  go_wp2
  go_ret
  exact ⟨rfl, rfl⟩
set_option maxHeartbeats 400000 in
theorem command_down {B : Bd} (i : Nat) (hi : i < B.ms.length) (F : Value) (w : World) (h : BusAt w B) (hu : B.up = false) :
    Calls Try.prog 26 #[.pointer (some ⟨B.b, 0, none⟩), .int .i64 (i : Int), F] w fun e w' => e = .returned (.int .i64 10) ∧ BusAt w' { B with down := true } ∧ Turn [B.b] w w' := by
  have H := Lib.hid h
  have HM := Lib.hid (numE_in hi)
  clear h
  go_enter Try.func26, Try.ntmps26
  go_wp2_with fail
  refine (busReach_any i w H.out).mono ?_
  rintro e w' ⟨rfl, rfl⟩
  rw [HM.out]
  go_wp2_with fail
  refine (powered_no w H.out hu).mono ?_
  rintro e w1 ⟨rfl, hb, ht⟩
  have HB := Lib.hid (And.intro hb ht)
  clear hb ht
  go_wp2
  go_ret
  exact ⟨rfl, HB.out⟩

/-- The first k members, a command has gone by. -/
def passK : Nat → List Mb → List Mb
  | 0, l => l
  | _ + 1, [] => []
  | k + 1, m :: r => m.pass :: passK k r
theorem passK_length : ∀ (k : Nat) (l : List Mb), (passK k l).length = l.length
  | 0, _ => rfl
  | _ + 1, [] => rfl
  | k + 1, m :: r => by simp [passK, passK_length k r]
theorem passK_next : ∀ (k : Nat) (l : List Mb) (hk : k < l.length) (hk' : k < (passK k l).length), (passK k l)[k] = l[k] ∧ (passK k l).set k l[k].pass = passK (k + 1) l
  | 0, m :: r, _, _ => by simp [passK]
  | k + 1, m :: r, hk, hk' => by
    have h := passK_next k r (by simpa using hk) (by rw [passK_length]; simpa using hk)
    simp [passK] at h ⊢
    exact h
theorem passK_all : ∀ (l : List Mb), passK l.length l = l.map Mb.pass
  | [] => rfl
  | m :: r => by simp [passK, passK_all r]
theorem passK_p : ∀ (k : Nat) (l : List Mb), (passK k l).map (·.p) = l.map (·.p)
  | 0, _ => rfl
  | _ + 1, [] => rfl
  | k + 1, m :: r => by simp [passK, passK_p k r, Mb.pass]
/-- The bus that a command finds that goes through. -/
def Bd.passed (B : Bd) : Bd := { B with fuse := cutN (B.fuse - 1), count := B.count + 1, ms := B.ms.map Mb.pass }
/-- A fuse, and what is ahead, are from -1 on. -/
def Bd.fit (B : Bd) : Prop := (-1 ≤ B.fuse ∧ B.fuse ≤ 9223372036854775807) ∧ B.count ≤ 1000000000 ∧ ∀ m ∈ B.ms, -1 ≤ m.ahead ∧ m.ahead ≤ 9223372036854775807

/-- A function that has a body is entered. -/
def Enters (f : Nat) : Prop := ∀ (args : Array Value) (w : World), (callFunc f args).run Try.prog w = .ok (.enter f args) w
theorem enters {f : Nat} {fn : Func} {c : Code} (hf : Try.prog.funcs[f]? = some fn) (hn : (fn.name == "runtime.NumGoroutine") = false) (hb : fn.body = some c) : Enters f := fun args w => by
  have h1 : fn.name ≠ "runtime.NumGoroutine" := by simpa using hn
  simp [callFunc, go_sem, hf, h1, hb]

set_option maxHeartbeats 1000000 in
theorem command_go {B : Bd} {R : Ending → World → Prop} (i : Nat) (hi : i < B.ms.length) (f : Nat) (caps : Array Value) (w : World) (h : BusAt w B) (hu : B.up = true) (hf : B.fit) (hc : Enters f)
    (hF : ∀ w1, BusAt w1 B.passed → Turn B.gs w w1 → Calls Try.prog f (#[.pointer (some ⟨B.ms[i].p, 0, none⟩)] ++ caps) w1 fun e w' => ∃ x : Int, e = .returned (.int .i64 x) ∧ R e w') :
    Calls Try.prog 26 #[.pointer (some ⟨B.b, 0, none⟩), .int .i64 (i : Int), .func (.func f) #[] caps] w R := by
  have H := Lib.hid h
  have HM := Lib.hid (numE_in hi)
  have HF := Lib.hid hF
  obtain ⟨hf1, hf2, hf3⟩ := hf
  have H3 := Lib.hid hf3
  have H1 := Lib.hid hf1
  have hlen := h.len
  clear h hF hf3 hf1
  go_enter Try.func26, Try.ntmps26
  go_wp2_with fail
  refine (busReach_any i w H.out).mono ?_
  rintro e w' ⟨rfl, rfl⟩
  rw [HM.out]
  go_wp2_with fail
  refine (powered_yes w H.out hu H1.out).mono ?_
  rintro e w1 ⟨rfl, hb, ht⟩
  obtain ⟨⟨q0, q1, q2, q3, q4, q5, q6, q7, q8⟩, f4, f5, f6, f7, f8⟩ := box9 hb.bb
  have ht2 : Turn [B.b] w1 (w1.setCell ⟨B.b, 7, none⟩ (.int .i64 ((B.count + 1 : Nat) : Int))) := (Turn.refl _ _).put (by simp) _
  have hb2 := hb.head ht2 (cutN (B.fuse - 1)) B.down (B.count + 1) B.gone (hb.bb.store 7 _)
  have HB : Hid (BusAt (w1.setCell ⟨B.b, 7, none⟩ (.int .i64 ((B.count + 1 : Nat) : Int))) { B with fuse := cutN (B.fuse - 1), count := B.count + 1 } ∧ Turn B.gs w (w1.setCell ⟨B.b, 7, none⟩ (.int .i64 ((B.count + 1 : Nat) : Int)))) := ⟨hb2, (ht.trans ht2).mono (by simp [Bd.gs])⟩
  have hcc : ((B.count + 1 : Nat) : Int) = (B.count : Int) + 1 := by simp
  rw [hcc] at HB
  clear hb ht ht2 hb2 hcc H1 H
  simp only at q4 q7
  go_wp2
  clear q0 q1 q2 q3 q4 q5 q6 q7 q8 f4 f5 f6 f7 f8
  go_loopw [30] (fun j wr => ∃ k : Nat, k ≤ B.ms.length ∧ j = .int .i64 k ∧ BusAt wr { B with fuse := cutN (B.fuse - 1), count := B.count + 1, ms := passK k B.ms } ∧ Turn B.gs w wr) (fun j _ => B.ms.length - (intOf j).toNat)
  case atStart => exact ⟨0, by omega, rfl, HB.out⟩
  case round =>
    clear HB
    obtain ⟨k, hk, rfl, hb, ht⟩ := hrel
    obtain ⟨⟨q0, q1, q2, q3, q4, q5, q6, q7, q8⟩, f4, f5, f6, f7, f8⟩ := box9 hb.bb
    have hpl := passK_length k B.ms
    simp only [hpl] at q4
    have HB := Lib.hid (And.intro hb ht)
    clear hb ht
    by_cases hlt : k < B.ms.length
    · have hk' : k < (passK k B.ms).length := by rw [hpl]; exact hlt
      have hnx := passK_next k B.ms hlt hk'
      have HP := Lib.hid (pass_any (B := { B with fuse := cutN (B.fuse - 1), count := B.count + 1, ms := passK k B.ms }) k hk' wr HB.out.1 (by simp only [hnx.1]; exact H3.out _ (List.getElem_mem hlt)))
      simp only [hnx.1, hnx.2] at HP
      have HT : Hid (∀ w2, Turn [B.pb, B.ms[k].p] wr w2 → Turn B.gs wr w2) := fun w2 h => h.mono (by
        simp only [List.mem_cons, List.not_mem_nil, or_false]
        rintro g (rfl | rfl)
        · exact Bd.mem_gs.2 (Or.inr (Or.inl rfl))
        · exact Bd.mem_gs.2 (Or.inr (Or.inr (Or.inl ⟨_, List.getElem_mem hlt, rfl⟩))))
      clear hnx hk'
      go_wp2_with fail
      refine HP.out.mono ?_
      rintro e w2 ⟨rfl, hb2, ht2⟩
      have HC := Lib.hid (And.intro hb2 (HB.out.2.trans (HT.out _ ht2)))
      clear hb2 ht2 HB HT HP q0 q1 q2 q3 q4 q5 q6 q7 q8 f4 f5 f6 f7 f8
      go_wp2
      go_roundw
      case rel => exact ⟨k + 1, by omega, by go_num, HC.out⟩
      case measure => simp [intOf]; omega
    · obtain rfl : k = B.ms.length := by omega
      have HG : Hid (BusAt wr B.passed ∧ Turn B.gs w wr) := by
        have := HB.out
        rw [passK_all] at this
        exact this
      have hp : (B.passed.ms[i]'(by simpa [Bd.passed] using hi)).p = B.ms[i].p := by simp [Bd.passed, Mb.pass]
      have hpl := HG.out.1.place (i := i) (by simpa [Bd.passed] using hi)
      rw [hp] at hpl
      obtain ⟨⟨r0, r1, r2⟩, g0, g1, g2⟩ := hpl
      clear HB r1 r2 g1 g2
      have r0' : wr.cell? ⟨B.pb, i * 3, none⟩ = some (.pointer (some ⟨B.ms[i].p, 0, none⟩)) := r0
      clear r0
      go_wp2_with fail
      rw [hc, Oper.upon_enter]
      refine (HF.out _ HG.out.1 HG.out.2).mono ?_
      rintro e w2 ⟨x, rfl, hR⟩
      have HR := Lib.hid hR
      clear hR
      go_wp2
      exact HR.out
theorem enters27 : Enters 27 := enters Try.func27 (by kernel_rfl) (by rfl)
theorem enters31 : Enters 31 := enters Try.func31 (by kernel_rfl) (by rfl)
theorem enters34 : Enters 34 := enters Try.func34 (by kernel_rfl) (by rfl)
theorem enters59 : Enters 59 := enters Try.func59 (by kernel_rfl) (by rfl)
end Go.Proofs.Ytbaolfncolfipaa
