/- Contracts of a bus's Append and Flush. -/
import Derived.Test.YtbaolfncolfipaaZ
namespace Go.Proofs.Ytbaolfncolfipaa
set_option linter.unusedVariables false
set_option linter.unusedSimpArgs false
open Go.RowKit
open Go.RowKit (wrap64)

/-- What a command to a member leaves of it. -/
def StepM (m : Mb) (cap blk : Nat) (limit : Int) (S : Int → Mb → Prop) (w : World) (e : Ending) (w' : World) : Prop :=
  ∃ (x : Int) (m' : Mb), e = .returned (.int .i64 x) ∧ MbAt w' cap blk limit m' ∧ (m'.p = m.p ∧ m'.zb = m.zb ∧ m'.serial = m.serial ∧ m'.ahead = m.ahead) ∧ Turn [m.p, m.zb] w w' ∧ S x m'
/-- What a command to the i-th member leaves of the bus. -/
def StepB (B : Bd) (i : Nat) (S : Int → Mb → Prop) (w : World) (e : Ending) (w' : World) : Prop :=
  ∃ (x : Int) (m' : Mb), e = .returned (.int .i64 x) ∧ BusAt w' { B.passed with ms := B.passed.ms.set i m' } ∧ Turn B.gs w w' ∧ S x m'

theorem command_step {B : Bd} {S : Int → Mb → Prop} (i : Nat) (hi : i < B.ms.length) (f : Nat) (caps : Array Value) (w : World) (h : BusAt w B) (hu : B.up = true) (hf : B.fit) (hc : Enters f)
    (hF : ∀ w1, BusAt w1 B.passed → Turn B.gs w w1 → Calls Try.prog f (#[.pointer (some ⟨B.ms[i].p, 0, none⟩)] ++ caps) w1 (StepM B.ms[i].pass B.cap B.blk B.limit S w1)) :
    Calls Try.prog 26 #[.pointer (some ⟨B.b, 0, none⟩), .int .i64 (i : Int), .func (.func f) #[] caps] w (StepB B i S w) := by
  refine command_go i hi f caps w h hu hf hc fun w1 h1 ht1 => (hF w1 h1 ht1).mono ?_
  rintro e w2 ⟨x, m', rfl, hm, ⟨e1, e2, e3, e4⟩, ht2, hs⟩
  have hi' : i < B.passed.ms.length := by simpa [Bd.passed] using hi
  have hg : B.passed.ms[i] = B.ms[i].pass := by simp [Bd.passed]
  have ht3 : Turn B.gs w1 w2 := ht2.mono (by
    simp only [List.mem_cons, List.not_mem_nil, or_false]
    rintro g (rfl | rfl)
    · exact Bd.mem_gs.2 (Or.inr (Or.inr (Or.inl ⟨_, List.getElem_mem hi, rfl⟩)))
    · exact Bd.mem_gs.2 (Or.inr (Or.inr (Or.inr ⟨_, List.getElem_mem hi, rfl⟩))))
  refine ⟨x, rfl, x, m', rfl, h1.put hi' (by rw [hg]; exact ht2) hm (by rw [hg]; exact e1) (by rw [hg]; exact e2) (by rw [hg]; exact e3) (by rw [hg]; exact e4), ht1.trans ht3, hs⟩

/-- What a member's Append answers, and what it leaves. -/
inductive AppM (cap blk : Nat) (limit : Int) (m : Mb) (z : Int) (b : List UInt8) : Int → Mb → Prop
  | lost : m.lost = true → AppM cap blk limit m z b 11 m
  | range : m.lost = false → (z < 0 ∨ (m.zs.length : Int) ≤ z) → AppM cap blk limit m z b 2 { m with bad := m.bad + 1 }
  | zone (i : Nat) (hi : i < m.zs.length) : m.lost = false → z = (i : Int) → appE cap blk m.zs[i].k b.length m.zs[i].done ≠ 0 → AppM cap blk limit m z b (appE cap blk m.zs[i].k b.length m.zs[i].done : Nat) { m with bad := m.bad + 1 }
  | many (i : Nat) (hi : i < m.zs.length) : m.lost = false → z = (i : Int) → appE cap blk m.zs[i].k b.length m.zs[i].done = 0 → tooB cap limit m.zs (m.zs[i].k + b.length / blk) m.zs[i].done m.zs[i] = true → AppM cap blk limit m z b 8 { m with bad := m.bad + 1 }
  | fits (i : Nat) (hi : i < m.zs.length) (A : Option Addr) (c : Nat) : m.lost = false → z = (i : Int) → appE cap blk m.zs[i].k b.length m.zs[i].done = 0 → tooB cap limit m.zs (m.zs[i].k + b.length / blk) m.zs[i].done m.zs[i] = false → AppM cap blk limit m z b 0 { m with zs := m.zs.set i ⟨m.zs[i].k + b.length / blk, m.zs[i].safe, m.zs[i].done, m.zs[i].D ++ b, A, c⟩ }
theorem AppM.keeps {cap blk : Nat} {limit : Int} {m m' : Mb} {z x : Int} {b : List UInt8} (h : AppM cap blk limit m z b x m') : m'.lost = m.lost ∧ m'.ahead = m.ahead ∧ m'.bad ≤ m.bad + 1 := by
  cases h <;> simp
theorem MbAt.of_dev {w : World} {cap blk : Nat} {limit : Int} {m : Mb} (hl : m.lost = false) (h : DevAt w m.p m.zb cap blk limit m.bad m.zs) : MbAt w cap blk limit m := ⟨(fun e => by rw [hl] at e; cases e), (fun _ => h), _, h.bz⟩

theorem append_mb {cap blk : Nat} {limit : Int} {m : Mb} (z : Int) (X : Option Addr) (cx : Nat) (b : List UInt8) (w : World) (h : MbAt w cap blk limit m) (hbad : m.bad ≤ 1000000) (hm : b.length ≤ maxLen) (hr : Rd w w.heap.size X b) :
    Calls Try.prog 28 #[.pointer (some ⟨m.p, 0, none⟩), .int .i64 z, .slice X b.length cx] w (StepM m cap blk limit (AppM cap blk limit m z b) w) := by
  cases hl : m.lost
  · have hd := h.here hl
    have err : ∀ {x : Int} {e : Ending} {w' : World}, AppM cap blk limit m z b x { m with bad := m.bad + 1 } → ErrD m.p m.zb cap blk limit m.bad m.zs x w e w' → StepM m cap blk limit (AppM cap blk limit m z b) w e w' :=
      fun ha he => ⟨_, _, he.1, MbAt.of_dev (m := { m with bad := m.bad + 1 }) hl he.2.1, ⟨rfl, rfl, rfl, rfl⟩, he.2.2, ha⟩
    by_cases hz : z < 0 ∨ (m.zs.length : Int) ≤ z
    · exact (append_range z _ w hd hbad hz).mono fun e w' he => err (.range hl hz) he
    · obtain ⟨i, hzi⟩ : ∃ i : Nat, z = (i : Int) := ⟨z.toNat, by omega⟩
      have hi : i < m.zs.length := by omega
      subst hzi
      by_cases hE : appE cap blk m.zs[i].k b.length m.zs[i].done = 0
      · cases ht : tooB cap limit m.zs (m.zs[i].k + b.length / blk) m.zs[i].done m.zs[i]
        · refine (append_fits i hi X cx b w hd hm hr hE ht).mono ?_
          rintro e w' ⟨A, c, rfl, hd2, ht2⟩
          exact ⟨0, _, rfl, MbAt.of_dev (m := { m with zs := m.zs.set i ⟨m.zs[i].k + b.length / blk, m.zs[i].safe, m.zs[i].done, m.zs[i].D ++ b, A, c⟩ }) hl hd2, ⟨rfl, rfl, rfl, rfl⟩, ht2, .fits i hi A c hl rfl hE ht⟩
        · exact (append_many i hi X cx b w hd hbad hm hr hE ht).mono fun e w' he => err (.many i hi hl rfl hE ht) he
      · exact (append_zone i hi X cx b w hd hbad hm hE).mono fun e w' he => err (.zone i hi hl rfl hE) he
  · have hd := h.gone hl
    refine (append_lost z _ w hd).mono ?_
    rintro e w' ⟨rfl, hb⟩
    exact ⟨11, m, rfl, h.later hb, ⟨rfl, rfl, rfl, rfl⟩, Turn.of_below hb (Nat.le_refl _), .lost hl⟩

/-- What a member's Flush answers, and what it leaves. -/
inductive FluM (m : Mb) : Int → Mb → Prop
  | lost : m.lost = true → FluM m 11 m
  | fits (zs : List Zs) : m.lost = false → Flushed m.zs.length m.zs zs → FluM m 0 { m with zs := zs }
theorem flush_mb {cap blk : Nat} {limit : Int} {m : Mb} (w : World) (h : MbAt w cap blk limit m) :
    Calls Try.prog 31 #[.pointer (some ⟨m.p, 0, none⟩)] w (StepM m cap blk limit (FluM m) w) := by
  cases hl : m.lost
  · refine (flush_dev w (h.here hl)).mono ?_
    rintro e w' ⟨rfl, zs', hfl, hd2, ht2⟩
    exact ⟨0, _, rfl, MbAt.of_dev (m := { m with zs := zs' }) hl hd2, ⟨rfl, rfl, rfl, rfl⟩, ht2, .fits zs' hl hfl⟩
  · refine (flush_lost w (h.gone hl)).mono ?_
    rintro e w' ⟨rfl, hb⟩
    exact ⟨11, m, rfl, h.later hb, ⟨rfl, rfl, rfl, rfl⟩, Turn.of_below hb (Nat.le_refl _), .lost hl⟩

section
variable {B : Bd}
theorem passed_mem {w : World} (i : Nat) (hi : i < B.ms.length) (h : BusAt w B.passed) : MbAt w B.cap B.blk B.limit B.ms[i].pass := by
  have := h.mem (B.passed.ms[i]'(by simpa [Bd.passed] using hi)) (List.getElem_mem _)
  simpa [Bd.passed] using this

set_option maxHeartbeats 400000 in
theorem busFlush_down (i : Nat) (hi : i < B.ms.length) (w : World) (h : BusAt w B) (hu : B.up = false) :
    Calls Try.prog 14 #[.pointer (some ⟨B.b, 0, none⟩), .int .i64 (i : Int)] w fun e w' => e = .returned (.int .i64 10) ∧ BusAt w' { B with down := true } ∧ Turn [B.b] w w' := by
  have H := Lib.hid h
  clear h
  go_enter Try.func14, Try.ntmps14
  go_wp2_with fail
  refine (command_down i hi _ w H.out hu).mono ?_
  rintro e w' ⟨rfl, hx⟩
  have HX := Lib.hid hx
  clear hx
  go_wp2
  go_ret
  exact ⟨rfl, HX.out⟩
set_option maxHeartbeats 400000 in
theorem busFlush_go (i : Nat) (hi : i < B.ms.length) (w : World) (h : BusAt w B) (hu : B.up = true) (hf : B.fit) :
    Calls Try.prog 14 #[.pointer (some ⟨B.b, 0, none⟩), .int .i64 (i : Int)] w (StepB B i (FluM B.ms[i].pass) w) := by
  have H := Lib.hid (command_step (S := FluM B.ms[i].pass) i hi 31 #[] w h hu hf enters31 fun w1 h1 _ => flush_mb w1 (passed_mem i hi h1))
  clear h hu hf
  go_enter Try.func14, Try.ntmps14
  go_wp2_with fail
  refine H.out.mono ?_
  rintro e w' ⟨x, m', rfl, hx⟩
  have HX := Lib.hid hx
  clear hx
  go_wp2
  go_ret
  exact ⟨x, m', rfl, HX.out⟩

set_option maxHeartbeats 400000 in
theorem busAppend_range (m z : Int) (X : Option Addr) (n cx : Nat) (w : World) (h : BusAt w B) (hm : m < 0 ∨ (B.ms.length : Int) ≤ m) :
    Calls Try.prog 12 #[.pointer (some ⟨B.b, 0, none⟩), .int .i64 m, .int .i64 z, .slice X n cx] w fun e w' => e = .returned (.int .i64 1) ∧ BusAt w' B ∧ Below w.heap.size w w' := by
  have hmf : ∀ (fn : Fn) (first cap : Array Value) (w : World), (Instr.makeFunc fn first cap).run Try.prog w = .ok (.func fn first cap) w := fun _ _ _ _ => rfl
  have HB : Hid (Below w.heap.size w ((w.alloc (.cells #[.int .i64 z] 3)).alloc (.cells #[.slice X n cx] 31))) := ((Below.refl _ _).alloc (Nat.le_refl _) _).alloc (by simp) _
  have H := Lib.hid (h.later HB.out)
  have HM := Lib.hid hm
  clear h hm
  go_enter Try.func12, Try.ntmps12
  go_wp2_with fail
  refine (command_range m _ _ H.out HM.out).mono ?_
  rintro e w' ⟨rfl, rfl⟩
  go_wp2
  go_ret
  exact ⟨rfl, H.out, HB.out⟩
set_option maxHeartbeats 400000 in
theorem busAppend_down (i : Nat) (hi : i < B.ms.length) (z : Int) (X : Option Addr) (n cx : Nat) (w : World) (h : BusAt w B) (hu : B.up = false) :
    Calls Try.prog 12 #[.pointer (some ⟨B.b, 0, none⟩), .int .i64 (i : Int), .int .i64 z, .slice X n cx] w fun e w' => e = .returned (.int .i64 10) ∧ BusAt w' { B with down := true } ∧ Turn [B.b] w w' := by
  have hmf : ∀ (fn : Fn) (first cap : Array Value) (w : World), (Instr.makeFunc fn first cap).run Try.prog w = .ok (.func fn first cap) w := fun _ _ _ _ => rfl
  have HB : Hid (Below w.heap.size w ((w.alloc (.cells #[.int .i64 z] 3)).alloc (.cells #[.slice X n cx] 31))) := ((Below.refl _ _).alloc (Nat.le_refl _) _).alloc (by simp) _
  have H := Lib.hid (h.later HB.out)
  clear h
  go_enter Try.func12, Try.ntmps12
  go_wp2_with fail
  refine (command_down i hi _ _ H.out hu).mono ?_
  rintro e w' ⟨rfl, hx, ht⟩
  have HX := Lib.hid (And.intro hx ((Turn.of_below HB.out (Nat.le_refl _)).trans ht))
  clear hx ht
  go_wp2
  go_ret
  exact ⟨rfl, HX.out⟩
set_option maxHeartbeats 400000 in
theorem append1_mb {cap blk : Nat} {limit : Int} {m : Mb} (g h : Nat) (z : Int) (X : Option Addr) (cx : Nat) (b : List UInt8) (w : World) (c1 : w.cell? ⟨g, 0, none⟩ = some (.int .i64 z)) (c2 : w.cell? ⟨h, 0, none⟩ = some (.slice X b.length cx)) (hm : MbAt w cap blk limit m) (hbad : m.bad ≤ 1000000) (hl : b.length ≤ maxLen) (hr : Rd w w.heap.size X b) :
    Calls Try.prog 27 #[.pointer (some ⟨m.p, 0, none⟩), .pointer (some ⟨g, 0, none⟩), .pointer (some ⟨h, 0, none⟩)] w (StepM m cap blk limit (AppM cap blk limit m z b) w) := by
  have H := Lib.hid (append_mb z X cx b w hm hbad hl hr)
  clear hm hbad hl hr
  go_enter Try.func27, Try.ntmps27
  go_wp2_with fail
  refine H.out.mono ?_
  rintro e w' ⟨x, m', rfl, hx⟩
  have HX := Lib.hid hx
  clear hx
  go_wp2
  go_ret
  exact ⟨x, m', rfl, HX.out⟩
set_option maxHeartbeats 1000000 in
theorem busAppend_go (i : Nat) (hi : i < B.ms.length) (z : Int) (X : Option Addr) (cx : Nat) (b : List UInt8) (w : World) (h : BusAt w B) (hu : B.up = true) (hf : B.fit) (hbad : B.ms[i].bad ≤ 1000000) (hl : b.length ≤ maxLen) (hr : ∀ w1, Turn B.gs w w1 → Rd w1 w1.heap.size X b) :
    Calls Try.prog 12 #[.pointer (some ⟨B.b, 0, none⟩), .int .i64 (i : Int), .int .i64 z, .slice X b.length cx] w (StepB B i (AppM B.cap B.blk B.limit B.ms[i].pass z b) w) := by
  have hmf : ∀ (fn : Fn) (first cap : Array Value) (w : World), (Instr.makeFunc fn first cap).run Try.prog w = .ok (.func fn first cap) w := fun _ _ _ _ => rfl
  have HB : Hid (Below w.heap.size w ((w.alloc (.cells #[.int .i64 z] 3)).alloc (.cells #[.slice X b.length cx] 31))) := ((Below.refl _ _).alloc (Nat.le_refl _) _).alloc (by simp) _
  have htw := two_boxes (w := w) (t := 3) (u := 31) (a := #[.int .i64 z]) (b := #[.slice X b.length cx]) (Below.refl (w.heap.size + 1 + 1) _) (Nat.le_refl _)
  have hgs := h.lt
  have H := Lib.hid (command_step (S := AppM B.cap B.blk B.limit B.ms[i].pass z b) i hi 27 #[.pointer (some ⟨w.heap.size, 0, none⟩), .pointer (some ⟨w.heap.size + 1, 0, none⟩)] _ (h.later HB.out) hu hf enters27 fun w1 h1 ht1 =>
    append1_mb w.heap.size (w.heap.size + 1) z X cx b w1 ((htw.1.turn ht1 (fun hx => by have := hgs _ hx; omega)).cell 0) ((htw.2.1.turn ht1 (fun hx => by have := hgs _ hx; omega)).cell 0) (passed_mem i hi h1) hbad hl (hr w1 ((Turn.of_below HB.out (Nat.le_refl _)).trans ht1)))
  clear h hu hf hbad hl hr htw hgs
  go_enter Try.func12, Try.ntmps12
  go_wp2_with fail
  refine H.out.mono ?_
  rintro e w' ⟨x, m', rfl, h1, h2, h3⟩
  have HX := Lib.hid (And.intro h1 (And.intro ((Turn.of_below HB.out (Nat.le_refl _)).trans h2) h3))
  clear h1 h2 h3
  go_wp2
  go_ret
  exact ⟨x, m', rfl, HX.out⟩
end
end Go.Proofs.Ytbaolfncolfipaa
