/- Contracts of a bus that is there: reach, has, Fuse, Count, Down, powered, pass. -/
import Derived.Test.YtbaolfncolfipaaW
namespace Go.Proofs.Ytbaolfncolfipaa
set_option linter.unusedVariables false
set_option linter.unusedSimpArgs false
open Go.RowKit
open Go.RowKit (wrap64)

/-- What is wrong with a member's number. -/
def numE (n : Nat) (m : Int) : Int := if m < 0 ∨ (n : Int) ≤ m then 1 else 0
set_option maxHeartbeats 400000 in
theorem busReach_any {B : Bd} (m : Int) (w : World) (h : BusAt w B) :
    Calls Try.prog 40 #[.pointer (some ⟨B.b, 0, none⟩), .int .i64 m] w fun e w' => e = .returned (.int .i64 (numE B.ms.length m)) ∧ w = w' := by
  obtain ⟨⟨q0, q1, q2, q3, q4, q5, q6, q7, q8⟩, f4, f5, f6, f7, f8⟩ := box9 h.bb
  clear h
  by_cases h0 : m < 0
  · rw [show numE B.ms.length m = 1 by simp [numE, h0]]
    go_enter Try.func40, Try.ntmps40
    go_wp2
    go_ret
    exact ⟨rfl, rfl⟩
  · by_cases h1 : (B.ms.length : Int) ≤ m
    · rw [show numE B.ms.length m = 1 by simp [numE, h1]]
      go_enter Try.func40, Try.ntmps40
      go_wp2
      go_ret
      exact ⟨rfl, rfl⟩
    · rw [show numE B.ms.length m = 0 by simp [numE]; omega]
      go_enter Try.func40, Try.ntmps40
      go_wp2
      go_ret
      exact ⟨rfl, rfl⟩
theorem numE_in {n : Nat} {i : Nat} (h : i < n) : numE n (i : Int) = 0 := by simp [numE]; omega
theorem numE_out {n : Nat} {m : Int} (h : m < 0 ∨ (n : Int) ≤ m) : numE n m = 1 := by simp [numE, h]

/-- A number from -1 on. -/
def cutN (n : Int) : Int := if n < -1 then -1 else n
set_option maxHeartbeats 400000 in
theorem busFuse_any {B : Bd} (n : Int) (w : World) (h : BusAt w B) :
    Calls Try.prog 9 #[.pointer (some ⟨B.b, 0, none⟩), .int .i64 n] w fun e w' => e = .returned (.tuple #[]) ∧ BusAt w' { B with fuse := cutN n } ∧ Turn [B.b] w w' := by
  obtain ⟨⟨q0, q1, q2, q3, q4, q5, q6, q7, q8⟩, f4, f5, f6, f7, f8⟩ := box9 h.bb
  have HT : Hid (∀ N : Int, Turn [B.b] w (w.setCell ⟨B.b, 5, none⟩ (.int .i64 N))) := fun N => (Turn.refl _ _).put (by simp) _
  have HB : Hid (∀ N : Int, BusAt (w.setCell ⟨B.b, 5, none⟩ (.int .i64 N)) { B with fuse := N }) := fun N => h.head (HT.out N) _ B.down B.count B.gone (h.bb.store 5 _)
  clear h
  by_cases hn : n < -1
  · rw [show cutN n = -1 by simp [cutN, hn]]
    go_enter Try.func9, Try.ntmps9
    go_wp2
    first | go_end0 | refine bodyPost_ret (results_none rfl _ _ _) rfl ?_
    exact ⟨rfl, HB.out _, HT.out _⟩
  · rw [show cutN n = n by simp [cutN, hn]]
    go_enter Try.func9, Try.ntmps9
    go_wp2
    first | go_end0 | refine bodyPost_ret (results_none rfl _ _ _) rfl ?_
    exact ⟨rfl, HB.out _, HT.out _⟩
set_option maxHeartbeats 400000 in
theorem busCount_any {B : Bd} (w : World) (h : BusAt w B) :
    Calls Try.prog 10 #[.pointer (some ⟨B.b, 0, none⟩)] w fun e w' => e = .returned (.int .i64 (B.count : Int)) ∧ w = w' := by
  obtain ⟨⟨q0, q1, q2, q3, q4, q5, q6, q7, q8⟩, f4, f5, f6, f7, f8⟩ := box9 h.bb
  clear h
  go_enter Try.func10, Try.ntmps10
  go_wp2
  go_ret
  exact ⟨rfl, rfl⟩
set_option maxHeartbeats 400000 in
theorem busDown_any {B : Bd} (w : World) (h : BusAt w B) :
    Calls Try.prog 11 #[.pointer (some ⟨B.b, 0, none⟩)] w fun e w' => e = .returned (.bool B.down) ∧ w = w' := by
  obtain ⟨⟨q0, q1, q2, q3, q4, q5, q6, q7, q8⟩, f4, f5, f6, f7, f8⟩ := box9 h.bb
  clear h
  go_enter Try.func11, Try.ntmps11
  go_wp2
  go_ret
  exact ⟨rfl, rfl⟩

/-- Is there power for a command? -/
def Bd.up (B : Bd) : Bool := !B.down && !(B.fuse == 0)
set_option maxHeartbeats 1000000 in
theorem powered_no {B : Bd} (w : World) (h : BusAt w B) (hu : B.up = false) :
    Calls Try.prog 44 #[.pointer (some ⟨B.b, 0, none⟩)] w fun e w' => e = .returned (.bool false) ∧ BusAt w' { B with down := true } ∧ Turn [B.b] w w' := by
  obtain ⟨⟨q0, q1, q2, q3, q4, q5, q6, q7, q8⟩, f4, f5, f6, f7, f8⟩ := box9 h.bb
  have HT : Hid (Turn [B.b] w (w.setCell ⟨B.b, 6, none⟩ (.bool true))) := (Turn.refl _ _).put (by simp) _
  have HB : Hid (BusAt (w.setCell ⟨B.b, 6, none⟩ (.bool true)) { B with down := true }) := h.head HT.out B.fuse true B.count B.gone (h.bb.store 6 _)
  by_cases h0 : B.fuse = 0
  · rw [h0] at q5
    clear h
    go_enter Try.func44, Try.ntmps44
    go_wp2
    go_ret
    exact ⟨rfl, HB.out, HT.out⟩
  · have hd : B.down = true := by simpa [Bd.up, h0] using hu
    have hb : (B.fuse == 0) = false := by simpa using h0
    have hs : w.setCell ⟨B.b, 6, none⟩ (.bool true) = w := setCell_self h.bb (by simp [Bd.cells, hd])
    rw [hs] at HB HT
    rw [hd] at q6
    clear h h0 hs
    go_enter Try.func44, Try.ntmps44
    go_wp2
    go_ret
    exact ⟨rfl, HB.out, HT.out⟩
set_option maxHeartbeats 1000000 in
theorem powered_yes {B : Bd} (w : World) (h : BusAt w B) (hu : B.up = true) (hf : -1 ≤ B.fuse ∧ B.fuse ≤ 9223372036854775807) :
    Calls Try.prog 44 #[.pointer (some ⟨B.b, 0, none⟩)] w fun e w' => e = .returned (.bool true) ∧ BusAt w' { B with fuse := cutN (B.fuse - 1) } ∧ Turn [B.b] w w' := by
  obtain ⟨⟨q0, q1, q2, q3, q4, q5, q6, q7, q8⟩, f4, f5, f6, f7, f8⟩ := box9 h.bb
  have HT : Hid (∀ N : Int, Turn [B.b] w (w.setCell ⟨B.b, 5, none⟩ (.int .i64 N))) := fun N => (Turn.refl _ _).put (by simp) _
  have HB : Hid (∀ N : Int, BusAt (w.setCell ⟨B.b, 5, none⟩ (.int .i64 N)) { B with fuse := N }) := fun N => h.head (HT.out N) _ B.down B.count B.gone (h.bb.store 5 _)
  have hd : B.down = false ∧ B.fuse ≠ 0 := by simpa [Bd.up] using hu
  rw [hd.1] at q6
  have hb : (B.fuse == 0) = false := by simpa using hd.2
  obtain ⟨hf1, hf2⟩ := hf
  clear h hu hd
  by_cases hn : B.fuse - 1 < -1
  · rw [show cutN (B.fuse - 1) = -1 by simp [cutN, hn]]
    generalize B.fuse = f at q5 hb hf1 hf2 hn
    go_enter Try.func44, Try.ntmps44
    go_wp2
    go_ret
    exact ⟨rfl, HB.out _, HT.out _⟩
  · rw [show cutN (B.fuse - 1) = B.fuse - 1 by simp [cutN, hn]]
    generalize B.fuse = f at q5 hb hf1 hf2 hn ⊢
    go_enter Try.func44, Try.ntmps44
    go_wp2
    go_ret
    exact ⟨rfl, HB.out _, HT.out _⟩

/-- A command that counts goes by. -/
def Mb.pass (m : Mb) : Mb := { m with lost := m.lost || (m.ahead == 0), ahead := cutN (m.ahead - 1) }
theorem MbAt.kill {w w' : World} {cap blk : Nat} {limit : Int} {m : Mb} (h : MbAt w cap blk limit m) (hd : DevBox w' m.p none 0 0 limit m.bad true) (ht : Turn [m.p] w w') : MbAt w' cap blk limit { m with lost := true } := by
  obtain ⟨cs, hz⟩ := h.zt
  obtain ⟨Z, n, c, hx⟩ := h.box
  exact ⟨fun _ => hd, (fun e => by cases e), cs, hz.turn ht (by simpa using Box.apart hz hx (by decide))⟩
theorem BusAt.kill {w w' : World} {B : Bd} (h : BusAt w B) {i : Nat} (hi : i < B.ms.length) (hd : DevBox w' B.ms[i].p none 0 0 B.limit B.ms[i].bad true) (ht : Turn [B.ms[i].p] w w') : BusAt w' { B with ms := B.ms.set i { B.ms[i] with lost := true } } :=
  h.put hi (ht.mono (by simp)) ((h.mem _ (List.getElem_mem hi)).kill hd ht) rfl rfl rfl rfl
set_option maxHeartbeats 1000000 in
theorem pass_any {B : Bd} (i : Nat) (hi : i < B.ms.length) (w : World) (h : BusAt w B) (ha : -1 ≤ B.ms[i].ahead ∧ B.ms[i].ahead ≤ 9223372036854775807) :
    Calls Try.prog 45 #[.pointer (some ⟨B.pb, i * 3, none⟩)] w fun e w' => e = .returned (.tuple #[]) ∧ BusAt w' { B with ms := B.ms.set i B.ms[i].pass } ∧ Turn [B.pb, B.ms[i].p] w w' := by
  obtain ⟨⟨q0, q1, q2⟩, f0, f1, f2⟩ := h.place hi
  obtain ⟨Z, n, c, hx⟩ := (h.mem _ (List.getElem_mem hi)).box
  have H := Lib.hid h
  have HX := Lib.hid hx
  clear hx
  obtain ⟨ha1, ha2⟩ := ha
  by_cases h0 : B.ms[i].ahead = 0
  · have HP : Hid (B.ms[i].pass = { B.ms[i] with lost := true, ahead := -1 }) := by
      show B.ms[i].pass = { B.ms[i] with lost := true, ahead := -1 }
      simp [Mb.pass, h0, cutN]
    rw [h0] at q2
    clear h ha1 ha2
    go_enter Try.func45, Try.ntmps45
    go_wp2_with fail
    refine (kill_dev w HX.out).mono ?_
    rintro e w1 ⟨rfl, hd, ht⟩
    have hk := H.out.kill hi hd ht
    have hk2 := hk.ahead (i := i) (by simpa using hi) (-1)
    have hpl := hk.place (i := i) (by simpa using hi)
    simp only [List.getElem_set_self, List.set_set] at hk2 hpl
    rw [h0] at hpl
    obtain ⟨⟨r0, r1, r2⟩, g0, g1, g2⟩ := hpl
    have HK : Hid (BusAt (w1.setCell ⟨B.pb, i * 3 + 2, none⟩ (.int .i64 (-1))) { B with ms := B.ms.set i B.ms[i].pass } ∧ Turn [B.pb, B.ms[i].p] w (w1.setCell ⟨B.pb, i * 3 + 2, none⟩ (.int .i64 (-1)))) := by
      rw [HP.out]
      exact ⟨hk2.1, (ht.mono (by simp)).trans (hk2.2.mono (by simp))⟩
    clear hd ht hk hk2 q0 q1 q2 f0 f1 f2 H HX HP h0
    go_wp2
    first | go_end0 | refine bodyPost_ret (results_none rfl _ _ _) rfl ?_
    exact ⟨rfl, HK.out⟩
  · have HK : Hid (∀ a, BusAt (w.setCell ⟨B.pb, i * 3 + 2, none⟩ (.int .i64 a)) { B with ms := B.ms.set i { B.ms[i] with ahead := a } } ∧ Turn [B.pb, B.ms[i].p] w (w.setCell ⟨B.pb, i * 3 + 2, none⟩ (.int .i64 a))) := fun a => ⟨(h.ahead hi a).1, (h.ahead hi a).2.mono (by simp)⟩
    have hb : (B.ms[i].ahead == 0) = false := by simpa using h0
    by_cases hn : B.ms[i].ahead - 1 < -1
    · rw [show B.ms[i].pass = { B.ms[i] with ahead := -1 } by simp [Mb.pass, h0, cutN, hn]]
      clear h h0 H HX
      generalize B.ms[i].ahead = a at q2 ha1 ha2 hb hn
      go_enter Try.func45, Try.ntmps45
      go_wp2
      first | go_end0 | refine bodyPost_ret (results_none rfl _ _ _) rfl ?_
      exact ⟨rfl, HK.out _⟩
    · rw [show B.ms[i].pass = { B.ms[i] with ahead := B.ms[i].ahead - 1 } by simp [Mb.pass, h0, cutN, hn]]
      clear h h0 H HX
      generalize B.ms[i].ahead = a at q2 ha1 ha2 hb hn ⊢
      go_enter Try.func45, Try.ntmps45
      go_wp2
      first | go_end0 | refine bodyPost_ret (results_none rfl _ _ _) rfl ?_
      exact ⟨rfl, HK.out _⟩
end Go.Proofs.Ytbaolfncolfipaa
