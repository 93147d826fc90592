/- For every cap, block and list of acts the law ZonePlays returns true, and the acts read behind the call as they read before: the walk. -/
import Derived.Test.YtajkcodcoehbgaaQ
import Derived.Deep.CutBlock
import Derived.Deep.LoopGhost
namespace Go.Proofs.Ytajkcodcoehbgaa.zonePlays
set_option linter.unusedVariables false
set_option linter.unusedSimpArgs false
open Go.RowKit
open Go.RowKit (wrap64)

theorem conv_any (A : Option Addr) (c : Nat) (l : List UInt8) (w : World) (hr : Mem 5 w A (cBs l)) : (convert 25 9 (.slice A l.length c)).run Try.prog w = .ok (.string ⟨l.toArray⟩) w :=
  run_conv w 25 9 5 Try.underlying25 Try.underlying5 Try.underlying9 A c _ l hr.rd

/-- The cells of the program's zone. -/
def zc (z : Zn) (nf : Nat) (A : Option Addr) (c : Nat) : Array Value := #[.int .i64 (z.cap : Int), .int .i64 (z.blk : Int), .slice A nf c, .int .i64 (z.safe : Int), .bool z.done]
/-- The cells of the reference's zone. -/
def rc (z : Zn) (A : Option Addr) (c : Nat) : Array Value := #[.int .i64 (z.cap : Int), .int .i64 (z.blk : Int), .slice A z.ls.length c, .int .i64 (z.safe : Int), .bool z.done]
/-- Both zones, in their blocks, hold z. -/
structure Both (w wr : World) (g7 g8 : Nat) (z : Zn) (nf : Nat) (A : Option Addr) (c : Nat) (A' : Option Addr) (c' : Nat) : Prop where
  ok : z.Ok
  hnf : z.ls.flatten.length = nf
  b7 : Box wr g7 27 (zc z nf A c)
  b8 : Box wr g8 31 (rc z A' c')
  m5 : Mem 5 wr A (cBs z.ls.flatten)
  l5 : nf ≤ c
  m9 : Mem 9 wr A' (z.ls.map cS)
  l9 : z.ls.length ≤ c'
  bel : Below w.heap.size w wr
theorem Both.later {w wr w' : World} {g7 g8 : Nat} {z : Zn} {nf : Nat} {A : Option Addr} {c : Nat} {A' : Option Addr} {c' : Nat} (h : Both w wr g7 g8 z nf A c A' c') (hb : Below wr.heap.size wr w') : Both w w' g7 g8 z nf A c A' c' :=
  ⟨h.ok, h.hnf, h.b7.later hb, h.b8.later hb, h.m5.later hb, h.l5, h.m9.later hb, h.l9, h.bel.trans (hb.mono h.bel.size)⟩

theorem Both.turn {w wr w' : World} {g7 g8 g : Nat} {t : TypeId} {cs : Array Value} {z : Zn} {nf : Nat} {A : Option Addr} {c : Nat} {A' : Option Addr} {c' : Nat} (h : Both w wr g7 g8 z nf A c A' c') (ht : Turn [g] wr w') (hb : Box wr g t cs) (h7 : g ≠ g7) (h8 : g ≠ g8) (hw : w.heap.size ≤ g) (h5 : t ≠ 5) (h9 : t ≠ 9) : Both w w' g7 g8 z nf A c A' c' :=
  ⟨h.ok, h.hnf, h.b7.turn ht (by simpa using fun e => h7 e.symm), h.b8.turn ht (by simpa using fun e => h8 e.symm),
    h.m5.turn ht (fun x hx => by obtain rfl : x = g := by simpa using hx
                                 exact hb.else_ h5), h.l5,
    h.m9.turn ht (fun x hx => by obtain rfl : x = g := by simpa using hx
                                 exact hb.else_ h9), h.l9, h.bel.trans (ht.below (by simpa using hw) h.bel.size)⟩
theorem below_swap (w : World) (o1 o2 : Obj) : Below w.heap.size (w.alloc o1) (w.alloc o2) :=
  ⟨rfl, rfl, rfl, by simp, fun k hk => (Below.heap_alloc w o2 k hk).trans (Below.heap_alloc w o1 k hk).symm⟩
theorem Box.put_mem {w : World} {g : Nat} {t T : TypeId} {a b c d e : Value} {A : Option Addr} {us : List Value} (h : Box w g t #[a, b, c, d, e]) (hne : t ≠ T) (hm : Mem T w A us) {w' : World} (ht : Turn [g] w w') : Mem T w' A us :=
  hm.turn ht (fun x hx => by obtain rfl : x = g := by simpa using hx
                             exact h.else_ hne)

theorem does_at {z : Zn} {nf : Nat} (hz : z.Ok) (hnf : z.ls.flatten.length = nf) (A B : Option Addr) (c cb : Nat) (b : List UInt8) (d n : Int) (w : World) (hA : Mem 5 w A (cBs z.ls.flatten)) (hc : nf ≤ c) (hm : b.length ≤ maxLen) (hb : Rd w w.heap.size B b) :
    Calls Try.prog 10 #[.agg #[.int .i64 (z.cap : Int), .int .i64 (z.blk : Int), .slice A nf c, .int .i64 (z.safe : Int), .bool z.done], .agg #[.int .i64 d, .slice B b.length cb, .int .i64 n]] w fun e w' => ∃ z1 nf1 A1 c1, z1 = z.after d b n ∧ z1.ls.flatten.length = nf1 ∧ e = .returned (.tuple #[.agg #[.int .i64 (z1.cap : Int), .int .i64 (z1.blk : Int), .slice A1 nf1 c1, .int .i64 (z1.safe : Int), .bool z1.done], .int .i64 (z.err d b : Nat)]) ∧ Mem 5 w' A1 (cBs z1.ls.flatten) ∧ nf1 ≤ c1 ∧ Below w.heap.size w w' := by
  subst hnf
  refine (does_any hz B cb b d n w ⟨A, c, rfl, hA, hc⟩ hm hb).mono ?_
  rintro e w' ⟨v, rfl, ⟨A1, c1, rfl, h1, h2⟩, h3⟩
  exact ⟨_, _, A1, c1, rfl, rfl, rfl, h1, h2, h3⟩
theorem should_at {z : Zn} (hz : z.Ok) (A B : Option Addr) (c cb : Nat) (b : List UInt8) (d n : Int) (w : World) (hA : Mem 9 w A (z.ls.map cS)) (hc : z.ls.length ≤ c) (hm : b.length ≤ 140737488351232) (hcb : b.length ≤ cb) (hb : Rd w w.heap.size B b) :
    Calls Try.prog 11 #[.agg #[.int .i64 (z.cap : Int), .int .i64 (z.blk : Int), .slice A z.ls.length c, .int .i64 (z.safe : Int), .bool z.done], .agg #[.int .i64 d, .slice B b.length cb, .int .i64 n]] w fun e w' => ∃ z1 n1 A1 c1, z1 = z.after d b n ∧ z1.ls.length = n1 ∧ e = .returned (.tuple #[.agg #[.int .i64 (z1.cap : Int), .int .i64 (z1.blk : Int), .slice A1 n1 c1, .int .i64 (z1.safe : Int), .bool z1.done], .int .i64 (z.err d b : Nat)]) ∧ Mem 9 w' A1 (z1.ls.map cS) ∧ n1 ≤ c1 ∧ Below w.heap.size w w' := by
  refine (should_any hz B cb b d n w ⟨A, c, rfl, hA, hc⟩ hm hcb hb).mono ?_
  rintro e w' ⟨v, rfl, ⟨A1, c1, rfl, h1, h2⟩, h3⟩
  exact ⟨_, _, A1, c1, rfl, rfl, rfl, h1, h2, h3⟩

theorem read_first {z : Zn} {nf : Nat} (hz : z.Ok) (hnf : z.ls.flatten.length = nf) (A : Option Addr) (c m : Nat) (w : World) (hA : Mem 5 w A (cBs z.ls.flatten)) (hc : nf ≤ c) (hm : m ≤ z.ls.length) :
    Calls Try.prog 12 #[.agg #[.int .i64 (z.cap : Int), .int .i64 (z.blk : Int), .slice A nf c, .int .i64 (z.safe : Int), .bool z.done], .int .i64 0, .int .i64 (m : Int)] w fun e w' => ∃ T A1 c1, T = (z.ls.take m).flatten ∧ e = .returned (.tuple #[.slice A1 T.length c1, .int .i64 0]) ∧ Mem 5 w' A1 (cBs T) ∧ Below w.heap.size w w' := by
  subst hnf
  refine (read_ok (k := z.ls.length) A z.ls.flatten z.done 0 m w (hz.zok hc) hA (by omega)).mono ?_
  rintro e w' ⟨A1, c1, rfl, h1, h2⟩
  have e1 : (z.ls.flatten.drop (0 * z.blk)).take (m * z.blk) = (z.ls.take m).flatten := by rw [Nat.zero_mul, List.drop_zero, flat_take m hz.hl]
  rw [e1] at h1 ⊢
  exact ⟨_, A1, c1, rfl, rfl, h1, h2⟩
theorem rread_all {z : Zn} (hz : z.Ok) (A : Option Addr) (c : Nat) (w : World) (hA : Mem 9 w A (z.ls.map cS)) :
    Calls Try.prog 13 #[.agg #[.int .i64 (z.cap : Int), .int .i64 (z.blk : Int), .slice A z.ls.length c, .int .i64 (z.safe : Int), .bool z.done], .int .i64 0, .int .i64 (z.ls.length : Int)] w fun e w' => e = .returned (.tuple #[.string ⟨z.ls.flatten.toArray⟩, .int .i64 0]) ∧ Below w.heap.size w w' := by
  refine (rread_ok z.cap z.blk z.safe c A z.ls z.done 0 z.ls.length w (Nat.le_trans hz.hk hz.c2) hz.small (by omega) hA).mono ?_
  rintro e w' ⟨rfl, h2⟩
  rw [show part z.ls 0 z.ls.length = z.ls.flatten by simp [part]]
  exact ⟨rfl, h2⟩
theorem look_at {z : Zn} {nf : Nat} (hz : z.Ok) (hnf : z.ls.flatten.length = nf) (A : Option Addr) (c : Nat) (w : World) (hc : nf ≤ c) :
    Calls Try.prog 14 #[.agg #[.int .i64 (z.cap : Int), .int .i64 (z.blk : Int), .slice A nf c, .int .i64 (z.safe : Int), .bool z.done]] w fun e w' => e = .returned (.agg #[.int .i64 (z.ls.length : Int), .int .i64 (z.safe : Int), .bool z.done]) ∧ Below w.heap.size w w' := by
  subst hnf
  exact look_any A z.done w (hz.zok hc)
theorem active_at {z : Zn} {nf : Nat} (hz : z.Ok) (hnf : z.ls.flatten.length = nf) (A : Option Addr) (c : Nat) (w : World) (hc : nf ≤ c) :
    Calls Try.prog 16 #[.agg #[.int .i64 (z.cap : Int), .int .i64 (z.blk : Int), .slice A nf c, .int .i64 (z.safe : Int), .bool z.done]] w fun e w' => e = .returned (.bool (actB z.cap z.ls.length z.done)) ∧ Below w.heap.size w w' := by
  subst hnf
  exact active_any A z.done w (hz.zok hc)
/-- Both answers are laid into their variables. -/
theorem Both.laid {w wY wZ : World} {g7 g8 gx gy : Nat} {z z1 : Zn} {nf nf1 : Nat} {A : Option Addr} {c : Nat} {A' : Option Addr} {c' : Nat} {A1 : Option Addr} {c1 : Nat} {A2 : Option Addr} {c2 : Nat} (ho : z1.Ok) (hn : z1.ls.flatten.length = nf1) (m1 : Mem 5 wY A1 (cBs z1.ls.flatten)) (l1 : nf1 ≤ c1) (m2 : Mem 9 wY A2 (z1.ls.map cS)) (l2 : z1.ls.length ≤ c2)
    (h : Both w wY g7 g8 z nf A c A' c') (ht : Turn [g7, g8] wY wZ) (b7 : Box wZ g7 27 (zc z1 nf1 A1 c1)) (b8 : Box wZ g8 31 (rc z1 A2 c2)) (h7 : w.heap.size ≤ g7) (h8 : w.heap.size ≤ g8) : Both w wZ g7 g8 z1 nf1 A1 c1 A2 c2 := by
  have e5 : ∀ x ∈ [g7, g8], Else 5 wY x := by
    simp only [List.mem_cons, List.not_mem_nil, or_false]
    rintro x (rfl | rfl)
    · exact h.b7.else_ (by decide)
    · exact h.b8.else_ (by decide)
  have e9 : ∀ x ∈ [g7, g8], Else 9 wY x := by
    simp only [List.mem_cons, List.not_mem_nil, or_false]
    rintro x (rfl | rfl)
    · exact h.b7.else_ (by decide)
    · exact h.b8.else_ (by decide)
  refine ⟨ho, hn, b7, b8, m1.turn ht e5, l1, m2.turn ht e9, l2, h.bel.trans (ht.below ?_ h.bel.size)⟩
  simp only [List.mem_cons, List.not_mem_nil, or_false]
  rintro x (rfl | rfl)
  · exact h7
  · exact h8
theorem Box.drew {w : World} {g : Nat} {t : TypeId} {cs : Array Value} (h : Box w g t cs) : Box w.drew g t cs := h
/-- Two structs are written, one behind the other. -/
theorem put55 {w : World} {g k : Nat} {t u : TypeId} {a b c d e a2 b2 c2 d2 e2 : Value} (h : Box w g t #[a, b, c, d, e]) (h2 : Box w k u #[a2, b2, c2, d2, e2]) (hne : g ≠ k) (a' b' c' d' e' a3 b3 c3 d3 e3 : Value) {wZ : World}
    (hZ : wZ = ((((((((((w.setCell ⟨g, 0, none⟩ a').setCell ⟨g, 1, none⟩ b').setCell ⟨g, 2, none⟩ c').setCell ⟨g, 3, none⟩ d').setCell ⟨g, 4, none⟩ e').setCell ⟨k, 0, none⟩ a3).setCell ⟨k, 1, none⟩ b3).setCell ⟨k, 2, none⟩ c3).setCell ⟨k, 3, none⟩ d3).setCell ⟨k, 4, none⟩ e3)) :
    Box wZ g t #[a', b', c', d', e'] ∧ Box wZ k u #[a3, b3, c3, d3, e3] ∧ Turn [g, k] w wZ := by
  have p1 := put5 h a' b' c' d' e'
  have p2 := put5 (h2.turn p1.2 (by simpa using fun e => hne e.symm)) a3 b3 c3 d3 e3
  rw [← hZ] at p2
  refine ⟨p1.1.turn p2.2 (by simpa using hne), p2.1, Turn.trans (b := _) (?_ : Turn [g, k] w (((((w.setCell ⟨g, 0, none⟩ a').setCell ⟨g, 1, none⟩ b').setCell ⟨g, 2, none⟩ c').setCell ⟨g, 3, none⟩ d').setCell ⟨g, 4, none⟩ e')) ?_⟩
  · exact ⟨p1.2.os, p1.2.tape, p1.2.output, p1.2.size, fun i hi hn => p1.2.block i hi (by simp at hn ⊢; exact hn.1)⟩
  · exact ⟨p2.2.os, p2.2.tape, p2.2.output, p2.2.size, fun i hi hn => p2.2.block i hi (by simp at hn ⊢; exact hn.2)⟩

/-- Behind the program's act: its answer lies in block gx. -/
structure A7 (w wX : World) (g7 g8 gx : Nat) (z z1 : Zn) (nf nf1 : Nat) (A : Option Addr) (c : Nat) (A' : Option Addr) (c' : Nat) (A1 : Option Addr) (c1 : Nat) : Prop where
  hn : z1.ls.flatten.length = nf1
  bx : Box wX gx 27 (zc z1 nf1 A1 c1)
  m1 : Mem 5 wX A1 (cBs z1.ls.flatten)
  l1 : nf1 ≤ c1
  both : Both w wX g7 g8 z nf A c A' c'
theorem A7.later {w wX w' : World} {g7 g8 gx : Nat} {z z1 : Zn} {nf nf1 : Nat} {A : Option Addr} {c : Nat} {A' : Option Addr} {c' : Nat} {A1 : Option Addr} {c1 : Nat} (h : A7 w wX g7 g8 gx z z1 nf nf1 A c A' c' A1 c1) (hb : Below wX.heap.size wX w') : A7 w w' g7 g8 gx z z1 nf nf1 A c A' c' A1 c1 :=
  ⟨h.hn, h.bx.later hb, h.m1.later hb, h.l1, h.both.later hb⟩
theorem A7.bel {w wX : World} {g7 g8 gx : Nat} {z z1 : Zn} {nf nf1 : Nat} {A : Option Addr} {c : Nat} {A' : Option Addr} {c' : Nat} {A1 : Option Addr} {c1 : Nat} (h : A7 w wX g7 g8 gx z z1 nf nf1 A c A' c' A1 c1) : Below w.heap.size w wX := h.both.bel

/-- Two ways to one and the same remainder. -/
theorem join {C F : Nat → Option Addr → Nat → Nat → Zn → World → Prop} {G : Prop} (main : (∀ g A c n z v, F g A c n z v → C g A c n z v) → G) (J : ∀ g A c n z v, F g A c n z v → C g A c n z v) : G := main J

set_option maxRecDepth 100000 in
set_option maxHeartbeats 8000000 in
theorem walk (cap block : Int) (AL : Option Addr) (cl : Nat) (acs : List Ac) (w : World) (hA : Acts w w.heap.size AL acs) (hlen : acs.length ≤ maxLen) :
    Calls Try.prog 3 #[.int .i64 cap, .int .i64 block, .slice AL acs.length cl] w fun e w' => e = .returned (.bool true) ∧ Below w.heap.size w w' := by
  have HM := Lib.hid (much_any AL cl _ acs w hA hlen)
  have HA := Lib.hid hA
  unfold maxLen at hlen
  clear hA
  obtain ⟨cp, hcp, cp1, cp2⟩ : ∃ n : Nat, fit cap = (n : Int) ∧ 1 ≤ n ∧ n ≤ 4096 := ⟨(fit cap).toNat, by have := fit_ok cap; omega, by have := fit_ok cap; omega, by have := fit_ok cap; omega⟩
  obtain ⟨bk, hbk, bk1, bk2⟩ : ∃ n : Nat, fit block = (n : Int) ∧ 1 ≤ n ∧ n ≤ 4096 := ⟨(fit block).toNat, by have := fit_ok block; omega, by have := fit_ok block; omega, by have := fit_ok block; omega⟩
  have HF := Lib.hid (And.intro hcp hbk)
  have HZ : Hid (Zn.Ok ⟨cp, bk, [], 0, false⟩) := ⟨cp1, cp2, bk1, bk2, Nat.zero_le _, (fun l hl => by cases hl), Nat.le_refl _⟩
  clear hcp hbk
  go_enter Try.func3, Try.ntmps3
  go_wp2_with fail
  refine HM.out.mono ?_
  rintro e w' ⟨⟨big, rfl⟩, rfl⟩
  clear HM
  cases big
  · go_wp2_with fail
    refine (new_any cap block w).mono ?_
    rintro e w1 ⟨rfl, hb1⟩
    rw [HF.out.1, HF.out.2]
    go_wp2_with fail
    refine (rnew_any cap block w1).mono ?_
    rintro e w2 ⟨rfl, hb2⟩
    rw [HF.out.1, HF.out.2]
    have HB2 := Lib.hid (hb1.trans (hb2.mono hb1.size))
    have HI : Hid (Both w ((w2.alloc (.cells #[.int .i64 (cp : Int), .int .i64 (bk : Int), .slice none 0 0, .int .i64 0, .bool false] 27)).alloc (.cells #[.int .i64 (cp : Int), .int .i64 (bk : Int), .slice none 0 0, .int .i64 0, .bool false] 31)) w2.heap.size (w2.heap.size + 1) ⟨cp, bk, [], 0, false⟩ 0 none 0 none 0) := by
      obtain ⟨x1, x2, x3⟩ := two_boxes (w := w2) (a := #[.int .i64 (cp : Int), .int .i64 (bk : Int), .slice none 0 0, .int .i64 0, .bool false]) (b := #[.int .i64 (cp : Int), .int .i64 (bk : Int), .slice none 0 0, .int .i64 0, .bool false]) (t := 27) (u := 31) (B := w2.heap.size + 1 + 1) (Below.refl _ _) (Nat.le_refl _)
      exact ⟨HZ.out, rfl, x1, x2, Mem.nil, Nat.le_refl _, Mem.nil, Nat.le_refl _, HB2.out.trans (x3.mono HB2.out.size)⟩
    have HN : Hid (w.heap.size ≤ w2.heap.size) := HB2.out.size
    clear hb1 hb2 HB2 HF HZ
    go_wp2
    go_loopw [9] (fun i wr => ∃ j : Nat, j ≤ acs.length ∧ i = .int .i64 (j : Int) ∧ ∃ z nf A c A' c', Both w wr w2.heap.size (w2.heap.size + 1) z nf A c A' c') (fun i _ => acs.length - (intOf i).toNat)
    case atStart => exact ⟨0, by omega, rfl, _, _, _, _, _, _, HI.out⟩
    case round =>
      clear HI
      obtain ⟨j, hj, rfl, z, nf, A, c, A', c', hB⟩ := hrel
      by_cases hlt : j < acs.length
      · obtain ⟨g, off, rfl, hg, hc⟩ := HA.out (by omega)
        obtain ⟨X, cx, e0, e1, e2, e3, e4, e5⟩ := hc j hlt
        have HX := Lib.hid (And.intro e0 (And.intro e1 (And.intro e2 (And.intro e3 (And.intro e4 e5)))))
        have HBo := Lib.hid hB
        have hji : (j : Int) < (acs.length : Int) := by omega
        clear hc e0 e1 e2 e3 e4 e5 hB
        generalize acs[j] = ac at HX
        obtain ⟨d, b, n⟩ := ac
        simp only at HX
        go_wp2_with fail
        refine wpB_start wr.heap.size (by kernel_rfl) ?_
        have HD : Hid (Both w wr.drew w2.heap.size (w2.heap.size + 1) z nf A c A' c') := HBo.out.later (Below.refl _ _).drew
        rw [show wr.heap.size = wr.drew.heap.size from rfl]
        generalize wr.drew = w0 at HD ⊢
        have a0 : ∀ w', Below w0.heap.size w0 w' → w'.cell? ⟨g, off + j * 3, none⟩ = some (.int .i64 d) := fun w' h => ((HD.out.bel.trans (h.mono HD.out.bel.size)).cell (by exact hg)).trans HX.out.1
        have a1 : ∀ w', Below w0.heap.size w0 w' → w'.cell? ⟨g, off + j * 3 + 1, none⟩ = some (.slice X b.length cx) := fun w' h => ((HD.out.bel.trans (h.mono HD.out.bel.size)).cell (by exact hg)).trans HX.out.2.1
        have a2 : ∀ w', Below w0.heap.size w0 w' → w'.cell? ⟨g, off + j * 3 + 2, none⟩ = some (.int .i64 n) := fun w' h => ((HD.out.bel.trans (h.mono HD.out.bel.size)).cell (by exact hg)).trans HX.out.2.2.1
        have q0 : ∀ w', Below w0.heap.size w0 w' → w'.cell? ⟨w2.heap.size, 0, none⟩ = some (.int .i64 (z.cap : Int)) := fun w' h => (box5 (HD.out.b7.later h)).1.1
        have q1 : ∀ w', Below w0.heap.size w0 w' → w'.cell? ⟨w2.heap.size, 1, none⟩ = some (.int .i64 (z.blk : Int)) := fun w' h => (box5 (HD.out.b7.later h)).1.2.1
        have q2 : ∀ w', Below w0.heap.size w0 w' → w'.cell? ⟨w2.heap.size, 2, none⟩ = some (.slice A nf c) := fun w' h => (box5 (HD.out.b7.later h)).1.2.2.1
        have q3 : ∀ w', Below w0.heap.size w0 w' → w'.cell? ⟨w2.heap.size, 3, none⟩ = some (.int .i64 (z.safe : Int)) := fun w' h => (box5 (HD.out.b7.later h)).1.2.2.2.1
        have q4 : ∀ w', Below w0.heap.size w0 w' → w'.cell? ⟨w2.heap.size, 4, none⟩ = some (.bool z.done) := fun w' h => (box5 (HD.out.b7.later h)).1.2.2.2.2
        refine wpB_take (i := 0) (d := 35) (v := ?v7x0) rfl rfl (by kernel_rfl) (by kernel_rfl) (by kernel_rfl) (fun _ _ _ h => h) (by rfl) ?y7x0 ?r7x0
        case y7x0 => (intro w' hSw; go_simp; try (with_reducible rfl))
        simp only [Act.put, List.setIfInBounds_toArray, List.set_cons_zero, List.set_cons_succ]
        refine wpB_take (i := 1) (d := 36) (v := ?v7x1) rfl rfl (by kernel_rfl) (by kernel_rfl) (by kernel_rfl) (fun _ _ _ h => h) (by rfl) ?y7x1 ?r7x1
        case y7x1 => (intro w' hSw; go_simp; try (with_reducible rfl))
        simp only [Act.put, List.setIfInBounds_toArray, List.set_cons_zero, List.set_cons_succ]
        refine wpB_take (i := 2) (d := 37) (v := ?v7x2) rfl rfl (by kernel_rfl) (by kernel_rfl) (by kernel_rfl) (fun _ _ _ h => h) (by rfl) ?y7x2 ?r7x2
        case y7x2 => (intro w' hSw; go_simp; try (with_reducible rfl))
        simp only [Act.put, List.setIfInBounds_toArray, List.set_cons_zero, List.set_cons_succ]
        refine wpB_take (i := 3) (d := 38) (v := ?v7x3) rfl rfl (by kernel_rfl) (by kernel_rfl) (by kernel_rfl) (fun _ _ _ h => h) (by rfl) ?y7x3 ?r7x3
        case y7x3 => (intro w' hSw; go_simp; try (with_reducible rfl))
        simp only [Act.put, List.setIfInBounds_toArray, List.set_cons_zero, List.set_cons_succ]
        refine wpB_take (i := 4) (d := 39) (v := ?v7x4) rfl rfl (by kernel_rfl) (by kernel_rfl) (by kernel_rfl) (fun _ _ _ h => h) (by rfl) ?y7x4 ?r7x4
        case y7x4 => (intro w' hSw; go_simp; try (with_reducible rfl))
        simp only [Act.put, List.setIfInBounds_toArray, List.set_cons_zero, List.set_cons_succ]
        clear q0 q1 q2 q3 q4 a0 a1 a2
        apply join (F := fun gx A1 c1 nf1 z1 wX => z1 = z.after d b n ∧ z1.ls.flatten.length = nf1 ∧ Box wX gx 27 #[.int .i64 (z1.cap : Int), .int .i64 (z1.blk : Int), .slice A1 nf1 c1, .int .i64 (z1.safe : Int), .bool z1.done] ∧ Mem 5 wX A1 (cBs z1.ls.flatten) ∧ nf1 ≤ c1 ∧ Both w wX w2.heap.size (w2.heap.size + 1) z nf A c A' c' ∧ w2.heap.size + 1 < gx)
        case main =>
          intro J
          refine wpB_two (i := 5) (j := 9) (by kernel_rfl) rfl rfl (by rfl) (by rfl) (fun K hK => ?_) (fun K hK => ?_)
          · go_simp
            refine (does_at HD.out.ok HD.out.hnf A X c cx b d n w0 (HD.out.m5) HD.out.l5 (by have := HX.out.2.2.2.2.2; unfold maxLen; omega) (((HX.out.2.2.2.1.below HD.out.bel).more HD.out.bel.size))).mono ?_

            rintro e w3 ⟨z1, nf1, A1, c1, hz1, hn1, rfl, hm1, hl1, hb3⟩
            have HE := Lib.hid (And.intro hz1 (And.intro hn1 (And.intro hm1 (And.intro hl1 (And.intro (HD.out.later hb3) (Nat.lt_of_lt_of_le HD.out.b8.lt hb3.size))))))
            refine hK.out _ _ _ hb3.size hb3 ?_
            clear hK K hb3 hm1 hl1 hz1 hn1
            refine wpB_take (i := 6) (d := 34) (v := ?v7ax6) rfl rfl (by kernel_rfl) (by kernel_rfl) (by kernel_rfl) (fun _ _ _ h => h) (by rfl) ?y7ax6 ?r7ax6
            case y7ax6 => (intro w' hSw; go_simp; try (with_reducible rfl))
            simp only [Act.put, List.setIfInBounds_toArray, List.set_cons_zero, List.set_cons_succ]
            refine wpB_take (i := 7) (d := 41) (v := ?v7ax7) rfl rfl (by kernel_rfl) (by kernel_rfl) (by kernel_rfl) (fun _ _ _ h => h) (by rfl) ?y7ax7 ?r7ax7
            case y7ax7 => (intro w' hSw; go_simp; try (with_reducible rfl))
            simp only [Act.put, List.setIfInBounds_toArray, List.set_cons_zero, List.set_cons_succ]
            refine wpB_take (i := 8) (d := 42) (v := ?v7ax8) rfl rfl (by kernel_rfl) (by kernel_rfl) (by kernel_rfl) (fun _ _ _ h => h) (by rfl) ?y7ax8 ?r7ax8
            case y7ax8 => (intro w' hSw; go_simp; try (with_reducible rfl))
            simp only [Act.put, List.setIfInBounds_toArray, List.set_cons_zero, List.set_cons_succ]
            refine wpB_do (i := 9) (by kernel_rfl) rfl (by rfl) (fun K hK => ?_)
            go_simp
            refine hK.out _ _ _ (Nat.le_refl _) ((Below.refl _ _).alloc (Nat.le_refl _) _) ?_
            clear hK K
            refine wpB_do (i := 10) (by kernel_rfl) rfl (by rfl) (fun K hK => ?_)
            go_simp
            refine hK.out _ _ _ (Nat.le_refl _) (below_swap _ _ _) ?_
            clear hK K
            refine wpB_take (i := 11) (d := 11) (v := ?v7ax11) rfl rfl (by kernel_rfl) (by kernel_rfl) (by kernel_rfl) (fun _ _ _ h => h) (by rfl) ?y7ax11 ?r7ax11
            case y7ax11 => (intro w' hSw; go_simp; try (with_reducible rfl))
            simp only [Act.put, List.setIfInBounds_toArray, List.set_cons_zero, List.set_cons_succ]
            refine wpB_done (by kernel_rfl) ?_
            have hF := And.intro HE.out.1 (And.intro HE.out.2.1 (And.intro (Box.fresh w3 27 #[.int .i64 (z1.cap : Int), .int .i64 (z1.blk : Int), .slice A1 nf1 c1, .int .i64 (z1.safe : Int), .bool z1.done]) (And.intro (HE.out.2.2.1.later ((Below.refl _ _).alloc (Nat.le_refl _) (.cells #[.int .i64 (z1.cap : Int), .int .i64 (z1.blk : Int), .slice A1 nf1 c1, .int .i64 (z1.safe : Int), .bool z1.done] 27))) (And.intro HE.out.2.2.2.1 (And.intro (HE.out.2.2.2.2.1.later ((Below.refl _ _).alloc (Nat.le_refl _) (.cells #[.int .i64 (z1.cap : Int), .int .i64 (z1.blk : Int), .slice A1 nf1 c1, .int .i64 (z1.safe : Int), .bool z1.done] 27))) HE.out.2.2.2.2.2)))))
            clear HE
            generalize w3.alloc (.cells #[.int .i64 (z1.cap : Int), .int .i64 (z1.blk : Int), .slice A1 nf1 c1, .int .i64 (z1.safe : Int), .bool z1.done] 27) = wX at hF ⊢
            generalize w3.heap.size = gx at hF ⊢
            exact J gx A1 c1 nf1 z1 wX hF
          · go_simp
            refine hK.out _ _ _ (Nat.le_refl _) ((Below.refl _ _).alloc (Nat.le_refl _) _) ?_
            clear hK K
            refine wpB_do (i := 5) (by kernel_rfl) rfl (by rfl) (fun K hK => ?_)
            go_simp
            refine (does_at HD.out.ok HD.out.hnf A X c cx b d n (w0.alloc (.cells #[.int .i64 0, .int .i64 0, .slice none 0 0, .int .i64 0, .bool false] 27)) (HD.out.m5.later ((Below.refl _ _).alloc (Nat.le_refl _) _)) HD.out.l5 (by have := HX.out.2.2.2.2.2; unfold maxLen; omega) (((HX.out.2.2.2.1.below HD.out.bel).more HD.out.bel.size).later ((Below.refl _ _).alloc (Nat.le_refl _) _))).mono ?_

            rintro e w3 ⟨z1, nf1, A1, c1, hz1, hn1, rfl, hm1, hl1, hb3⟩
            obtain ⟨bx, hbx⟩ := one_box hb3 (by simp)
            have HE := Lib.hid (And.intro hz1 (And.intro hn1 (And.intro hm1 (And.intro hl1 (And.intro hbx bx)))))
            obtain ⟨⟨p0, p1, p2, p3, p4⟩, g0, g1, g2, g3, g4⟩ := box5 bx
            refine hK.out _ _ _ (Nat.le_refl _) (hb3.mono (by simp)) ?_
            clear hK K hb3 hm1 hl1 hz1 hn1 hbx bx
            refine wpB_take (i := 6) (d := 34) (v := ?v7bx6) rfl rfl (by kernel_rfl) (by kernel_rfl) (by kernel_rfl) (fun _ _ _ h => h) (by rfl) ?y7bx6 ?r7bx6
            case y7bx6 => (intro w' hSw; go_simp; try (with_reducible rfl))
            simp only [Act.put, List.setIfInBounds_toArray, List.set_cons_zero, List.set_cons_succ]
            refine wpB_take (i := 7) (d := 41) (v := ?v7bx7) rfl rfl (by kernel_rfl) (by kernel_rfl) (by kernel_rfl) (fun _ _ _ h => h) (by rfl) ?y7bx7 ?r7bx7
            case y7bx7 => (intro w' hSw; go_simp; try (with_reducible rfl))
            simp only [Act.put, List.setIfInBounds_toArray, List.set_cons_zero, List.set_cons_succ]
            refine wpB_take (i := 8) (d := 42) (v := ?v7bx8) rfl rfl (by kernel_rfl) (by kernel_rfl) (by kernel_rfl) (fun _ _ _ h => h) (by rfl) ?y7bx8 ?r7bx8
            case y7bx8 => (intro w' hSw; go_simp; try (with_reducible rfl))
            simp only [Act.put, List.setIfInBounds_toArray, List.set_cons_zero, List.set_cons_succ]
            refine wpB_do (i := 10) (by kernel_rfl) rfl (by rfl) (fun K hK => ?_)
            go_simp
            refine hK.out _ _ _ (Nat.le_refl _) (by repeat (first | with_reducible exact Below.refl _ _ | with_reducible refine Below.drew ?_ | with_reducible refine Below.alloc ?_ (by first | (simp; done) | (simp; omega)) _ | with_reducible refine Below.setCell ?_ (by first | (simp; done) | (simp; omega)) _)) ?_
            clear hK K p0 p1 p2 p3 p4 g0 g1 g2 g3 g4
            refine wpB_take (i := 11) (d := 11) (v := ?v7bx11) rfl rfl (by kernel_rfl) (by kernel_rfl) (by kernel_rfl) (fun _ _ _ h => h) (by rfl) ?y7bx11 ?r7bx11
            case y7bx11 => (intro w' hSw; go_simp; try (with_reducible rfl))
            simp only [Act.put, List.setIfInBounds_toArray, List.set_cons_zero, List.set_cons_succ]
            refine wpB_done (by kernel_rfl) ?_
            have hp := put5 HE.out.2.2.2.2.2 (.int .i64 (z1.cap : Int)) (.int .i64 (z1.blk : Int)) (.slice A1 nf1 c1) (.int .i64 (z1.safe : Int)) (.bool z1.done)
            generalize (((((w3.setCell ⟨w0.heap.size, 0, none⟩ (.int .i64 (z1.cap : Int))).setCell ⟨w0.heap.size, 1, none⟩ (.int .i64 (z1.blk : Int))).setCell ⟨w0.heap.size, 2, none⟩ (.slice A1 nf1 c1)).setCell ⟨w0.heap.size, 3, none⟩ (.int .i64 (z1.safe : Int))).setCell ⟨w0.heap.size, 4, none⟩ (.bool z1.done)) = wX at hp ⊢
            have hF := And.intro HE.out.1 (And.intro HE.out.2.1 (And.intro hp.1 (And.intro (Box.put_mem HE.out.2.2.2.2.2 (by decide) HE.out.2.2.1 hp.2) (And.intro HE.out.2.2.2.1 (And.intro (HD.out.later (HE.out.2.2.2.2.1.trans (hp.2.below (by simp) HE.out.2.2.2.2.1.size))) HD.out.b8.lt)))))
            clear HE hp
            generalize w0.heap.size = gx at hF ⊢
            exact J gx A1 c1 nf1 z1 wX hF
        case J =>
          intro gx Ax cx1 nfx zx wX hF
          clear HD
          have HZX := Lib.hid hF.1
          have HS : Hid (A7 w wX w2.heap.size (w2.heap.size + 1) gx z zx nf nfx A c A' c' Ax cx1) := ⟨hF.2.1, hF.2.2.1, hF.2.2.2.1, hF.2.2.2.2.1, hF.2.2.2.2.2.1⟩
          have HGX := Lib.hid hF.2.2.2.2.2.2
          clear hF
          go_wp2_with fail
          refine wpB_start wX.heap.size (by kernel_rfl) ?_
          have HD : Hid (A7 w wX.drew w2.heap.size (w2.heap.size + 1) gx z zx nf nfx A c A' c' Ax cx1) := HS.out.later (Below.refl _ _).drew
          rw [show wX.heap.size = wX.drew.heap.size from rfl]
          generalize wX.drew = w0 at HD ⊢
          have a0 : ∀ w', Below w0.heap.size w0 w' → w'.cell? ⟨g, off + j * 3, none⟩ = some (.int .i64 d) := fun w' h => ((HD.out.bel.trans (h.mono HD.out.bel.size)).cell (by exact hg)).trans HX.out.1
          have a1 : ∀ w', Below w0.heap.size w0 w' → w'.cell? ⟨g, off + j * 3 + 1, none⟩ = some (.slice X b.length cx) := fun w' h => ((HD.out.bel.trans (h.mono HD.out.bel.size)).cell (by exact hg)).trans HX.out.2.1
          have a2 : ∀ w', Below w0.heap.size w0 w' → w'.cell? ⟨g, off + j * 3 + 2, none⟩ = some (.int .i64 n) := fun w' h => ((HD.out.bel.trans (h.mono HD.out.bel.size)).cell (by exact hg)).trans HX.out.2.2.1
          have q0 : ∀ w', Below w0.heap.size w0 w' → w'.cell? ⟨(w2.heap.size + 1), 0, none⟩ = some (.int .i64 (z.cap : Int)) := fun w' h => (box5 (HD.out.both.b8.later h)).1.1
          have q1 : ∀ w', Below w0.heap.size w0 w' → w'.cell? ⟨(w2.heap.size + 1), 1, none⟩ = some (.int .i64 (z.blk : Int)) := fun w' h => (box5 (HD.out.both.b8.later h)).1.2.1
          have q2 : ∀ w', Below w0.heap.size w0 w' → w'.cell? ⟨(w2.heap.size + 1), 2, none⟩ = some (.slice A' z.ls.length c') := fun w' h => (box5 (HD.out.both.b8.later h)).1.2.2.1
          have q3 : ∀ w', Below w0.heap.size w0 w' → w'.cell? ⟨(w2.heap.size + 1), 3, none⟩ = some (.int .i64 (z.safe : Int)) := fun w' h => (box5 (HD.out.both.b8.later h)).1.2.2.2.1
          have q4 : ∀ w', Below w0.heap.size w0 w' → w'.cell? ⟨(w2.heap.size + 1), 4, none⟩ = some (.bool z.done) := fun w' h => (box5 (HD.out.both.b8.later h)).1.2.2.2.2
          refine wpB_take (i := 0) (d := 44) (v := ?v8x0) rfl rfl (by kernel_rfl) (by kernel_rfl) (by kernel_rfl) (fun _ _ _ h => h) (by rfl) ?y8x0 ?r8x0
          case y8x0 => (intro w' hSw; go_simp; try (with_reducible rfl))
          simp only [Act.put, List.setIfInBounds_toArray, List.set_cons_zero, List.set_cons_succ]
          refine wpB_take (i := 1) (d := 45) (v := ?v8x1) rfl rfl (by kernel_rfl) (by kernel_rfl) (by kernel_rfl) (fun _ _ _ h => h) (by rfl) ?y8x1 ?r8x1
          case y8x1 => (intro w' hSw; go_simp; try (with_reducible rfl))
          simp only [Act.put, List.setIfInBounds_toArray, List.set_cons_zero, List.set_cons_succ]
          refine wpB_take (i := 2) (d := 46) (v := ?v8x2) rfl rfl (by kernel_rfl) (by kernel_rfl) (by kernel_rfl) (fun _ _ _ h => h) (by rfl) ?y8x2 ?r8x2
          case y8x2 => (intro w' hSw; go_simp; try (with_reducible rfl))
          simp only [Act.put, List.setIfInBounds_toArray, List.set_cons_zero, List.set_cons_succ]
          refine wpB_take (i := 3) (d := 47) (v := ?v8x3) rfl rfl (by kernel_rfl) (by kernel_rfl) (by kernel_rfl) (fun _ _ _ h => h) (by rfl) ?y8x3 ?r8x3
          case y8x3 => (intro w' hSw; go_simp; try (with_reducible rfl))
          simp only [Act.put, List.setIfInBounds_toArray, List.set_cons_zero, List.set_cons_succ]
          refine wpB_take (i := 4) (d := 48) (v := ?v8x4) rfl rfl (by kernel_rfl) (by kernel_rfl) (by kernel_rfl) (fun _ _ _ h => h) (by rfl) ?y8x4 ?r8x4
          case y8x4 => (intro w' hSw; go_simp; try (with_reducible rfl))
          simp only [Act.put, List.setIfInBounds_toArray, List.set_cons_zero, List.set_cons_succ]
          clear q0 q1 q2 q3 q4 a0 a1 a2
          apply join (F := fun gy A1 c1 nf1 z1 wX => z1 = z.after d b n ∧ z1.ls.length = nf1 ∧ Box wX gy 31 #[.int .i64 (z1.cap : Int), .int .i64 (z1.blk : Int), .slice A1 nf1 c1, .int .i64 (z1.safe : Int), .bool z1.done] ∧ Mem 9 wX A1 (z1.ls.map cS) ∧ nf1 ≤ c1 ∧ A7 w wX w2.heap.size (w2.heap.size + 1) gx z zx nf nfx A c A' c' Ax cx1 ∧ w2.heap.size + 1 < gy)
          case main =>
            intro J
            refine wpB_two (i := 5) (j := 9) (by kernel_rfl) rfl rfl (by rfl) (by rfl) (fun K hK => ?_) (fun K hK => ?_)
            · go_simp
              refine (should_at HD.out.both.ok A' X c' cx b d n w0 (HD.out.both.m9) HD.out.both.l9 HX.out.2.2.2.2.2 HX.out.2.2.2.2.1 (((HX.out.2.2.2.1.below HD.out.bel).more HD.out.bel.size))).mono ?_

              rintro e w3 ⟨z1, nf1, A1, c1, hz1, hn1, rfl, hm1, hl1, hb3⟩
              have HE := Lib.hid (And.intro hz1 (And.intro hn1 (And.intro hm1 (And.intro hl1 (And.intro (HD.out.later hb3) (Nat.lt_of_lt_of_le HD.out.both.b8.lt hb3.size))))))
              refine hK.out _ _ _ hb3.size hb3 ?_
              clear hK K hb3 hm1 hl1 hz1 hn1
              refine wpB_take (i := 6) (d := 43) (v := ?v8ax6) rfl rfl (by kernel_rfl) (by kernel_rfl) (by kernel_rfl) (fun _ _ _ h => h) (by rfl) ?y8ax6 ?r8ax6
              case y8ax6 => (intro w' hSw; go_simp; try (with_reducible rfl))
              simp only [Act.put, List.setIfInBounds_toArray, List.set_cons_zero, List.set_cons_succ]
              refine wpB_take (i := 7) (d := 50) (v := ?v8ax7) rfl rfl (by kernel_rfl) (by kernel_rfl) (by kernel_rfl) (fun _ _ _ h => h) (by rfl) ?y8ax7 ?r8ax7
              case y8ax7 => (intro w' hSw; go_simp; try (with_reducible rfl))
              simp only [Act.put, List.setIfInBounds_toArray, List.set_cons_zero, List.set_cons_succ]
              refine wpB_take (i := 8) (d := 51) (v := ?v8ax8) rfl rfl (by kernel_rfl) (by kernel_rfl) (by kernel_rfl) (fun _ _ _ h => h) (by rfl) ?y8ax8 ?r8ax8
              case y8ax8 => (intro w' hSw; go_simp; try (with_reducible rfl))
              simp only [Act.put, List.setIfInBounds_toArray, List.set_cons_zero, List.set_cons_succ]
              refine wpB_do (i := 9) (by kernel_rfl) rfl (by rfl) (fun K hK => ?_)
              go_simp
              refine hK.out _ _ _ (Nat.le_refl _) ((Below.refl _ _).alloc (Nat.le_refl _) _) ?_
              clear hK K
              refine wpB_do (i := 10) (by kernel_rfl) rfl (by rfl) (fun K hK => ?_)
              go_simp
              refine hK.out _ _ _ (Nat.le_refl _) (below_swap _ _ _) ?_
              clear hK K
              refine wpB_take (i := 11) (d := 13) (v := ?v8ax11) rfl rfl (by kernel_rfl) (by kernel_rfl) (by kernel_rfl) (fun _ _ _ h => h) (by rfl) ?y8ax11 ?r8ax11
              case y8ax11 => (intro w' hSw; go_simp; try (with_reducible rfl))
              simp only [Act.put, List.setIfInBounds_toArray, List.set_cons_zero, List.set_cons_succ]
              refine wpB_done (by kernel_rfl) ?_
              have hF := And.intro HE.out.1 (And.intro HE.out.2.1 (And.intro (Box.fresh w3 31 #[.int .i64 (z1.cap : Int), .int .i64 (z1.blk : Int), .slice A1 nf1 c1, .int .i64 (z1.safe : Int), .bool z1.done]) (And.intro (HE.out.2.2.1.later ((Below.refl _ _).alloc (Nat.le_refl _) (.cells #[.int .i64 (z1.cap : Int), .int .i64 (z1.blk : Int), .slice A1 nf1 c1, .int .i64 (z1.safe : Int), .bool z1.done] 31))) (And.intro HE.out.2.2.2.1 (And.intro (HE.out.2.2.2.2.1.later ((Below.refl _ _).alloc (Nat.le_refl _) (.cells #[.int .i64 (z1.cap : Int), .int .i64 (z1.blk : Int), .slice A1 nf1 c1, .int .i64 (z1.safe : Int), .bool z1.done] 31))) HE.out.2.2.2.2.2)))))
              clear HE
              generalize w3.alloc (.cells #[.int .i64 (z1.cap : Int), .int .i64 (z1.blk : Int), .slice A1 nf1 c1, .int .i64 (z1.safe : Int), .bool z1.done] 31) = wX at hF ⊢
              generalize w3.heap.size = gx at hF ⊢
              exact J gx A1 c1 nf1 z1 wX hF
            · go_simp
              refine hK.out _ _ _ (Nat.le_refl _) ((Below.refl _ _).alloc (Nat.le_refl _) _) ?_
              clear hK K
              refine wpB_do (i := 5) (by kernel_rfl) rfl (by rfl) (fun K hK => ?_)
              go_simp
              refine (should_at HD.out.both.ok A' X c' cx b d n (w0.alloc (.cells #[.int .i64 0, .int .i64 0, .slice none 0 0, .int .i64 0, .bool false] 31)) (HD.out.both.m9.later ((Below.refl _ _).alloc (Nat.le_refl _) _)) HD.out.both.l9 HX.out.2.2.2.2.2 HX.out.2.2.2.2.1 (((HX.out.2.2.2.1.below HD.out.bel).more HD.out.bel.size).later ((Below.refl _ _).alloc (Nat.le_refl _) _))).mono ?_

              rintro e w3 ⟨z1, nf1, A1, c1, hz1, hn1, rfl, hm1, hl1, hb3⟩
              obtain ⟨bx, hbx⟩ := one_box hb3 (by simp)
              have HE := Lib.hid (And.intro hz1 (And.intro hn1 (And.intro hm1 (And.intro hl1 (And.intro hbx bx)))))
              obtain ⟨⟨p0, p1, p2, p3, p4⟩, g0, g1, g2, g3, g4⟩ := box5 bx
              refine hK.out _ _ _ (Nat.le_refl _) (hb3.mono (by simp)) ?_
              clear hK K hb3 hm1 hl1 hz1 hn1 hbx bx
              refine wpB_take (i := 6) (d := 43) (v := ?v8bx6) rfl rfl (by kernel_rfl) (by kernel_rfl) (by kernel_rfl) (fun _ _ _ h => h) (by rfl) ?y8bx6 ?r8bx6
              case y8bx6 => (intro w' hSw; go_simp; try (with_reducible rfl))
              simp only [Act.put, List.setIfInBounds_toArray, List.set_cons_zero, List.set_cons_succ]
              refine wpB_take (i := 7) (d := 50) (v := ?v8bx7) rfl rfl (by kernel_rfl) (by kernel_rfl) (by kernel_rfl) (fun _ _ _ h => h) (by rfl) ?y8bx7 ?r8bx7
              case y8bx7 => (intro w' hSw; go_simp; try (with_reducible rfl))
              simp only [Act.put, List.setIfInBounds_toArray, List.set_cons_zero, List.set_cons_succ]
              refine wpB_take (i := 8) (d := 51) (v := ?v8bx8) rfl rfl (by kernel_rfl) (by kernel_rfl) (by kernel_rfl) (fun _ _ _ h => h) (by rfl) ?y8bx8 ?r8bx8
              case y8bx8 => (intro w' hSw; go_simp; try (with_reducible rfl))
              simp only [Act.put, List.setIfInBounds_toArray, List.set_cons_zero, List.set_cons_succ]
              refine wpB_do (i := 10) (by kernel_rfl) rfl (by rfl) (fun K hK => ?_)
              go_simp
              refine hK.out _ _ _ (Nat.le_refl _) (by repeat (first | with_reducible exact Below.refl _ _ | with_reducible refine Below.drew ?_ | with_reducible refine Below.alloc ?_ (by first | (simp; done) | (simp; omega)) _ | with_reducible refine Below.setCell ?_ (by first | (simp; done) | (simp; omega)) _)) ?_
              clear hK K p0 p1 p2 p3 p4 g0 g1 g2 g3 g4
              refine wpB_take (i := 11) (d := 13) (v := ?v8bx11) rfl rfl (by kernel_rfl) (by kernel_rfl) (by kernel_rfl) (fun _ _ _ h => h) (by rfl) ?y8bx11 ?r8bx11
              case y8bx11 => (intro w' hSw; go_simp; try (with_reducible rfl))
              simp only [Act.put, List.setIfInBounds_toArray, List.set_cons_zero, List.set_cons_succ]
              refine wpB_done (by kernel_rfl) ?_
              have hp := put5 HE.out.2.2.2.2.2 (.int .i64 (z1.cap : Int)) (.int .i64 (z1.blk : Int)) (.slice A1 nf1 c1) (.int .i64 (z1.safe : Int)) (.bool z1.done)
              generalize (((((w3.setCell ⟨w0.heap.size, 0, none⟩ (.int .i64 (z1.cap : Int))).setCell ⟨w0.heap.size, 1, none⟩ (.int .i64 (z1.blk : Int))).setCell ⟨w0.heap.size, 2, none⟩ (.slice A1 nf1 c1)).setCell ⟨w0.heap.size, 3, none⟩ (.int .i64 (z1.safe : Int))).setCell ⟨w0.heap.size, 4, none⟩ (.bool z1.done)) = wX at hp ⊢
              have hF := And.intro HE.out.1 (And.intro HE.out.2.1 (And.intro hp.1 (And.intro (Box.put_mem HE.out.2.2.2.2.2 (by decide) HE.out.2.2.1 hp.2) (And.intro HE.out.2.2.2.1 (And.intro (HD.out.later (HE.out.2.2.2.2.1.trans (hp.2.below (by simp) HE.out.2.2.2.2.1.size))) HD.out.both.b8.lt)))))
              clear HE hp
              generalize w0.heap.size = gx at hF ⊢
              exact J gx A1 c1 nf1 z1 wX hF
          case J =>
            intro gy Ay cy ny zy wY hF
            clear HD
            obtain ⟨hzy, rfl, by1, my, ly, hA, hgy⟩ := hF
            have hgx := HGX.out
            have n1 : ¬ gx = w2.heap.size := by omega
            have n2 : ¬ gx = w2.heap.size + 1 := by omega
            have n3 : ¬ gy = w2.heap.size := by omega
            have n4 : ¬ gy = w2.heap.size + 1 := by omega
            have n5 : ¬ w2.heap.size = gx := by omega
            have n6 : ¬ w2.heap.size + 1 = gx := by omega
            have n7 : ¬ w2.heap.size = gy := by omega
            have n8 : ¬ w2.heap.size + 1 = gy := by omega
            clear hgx hgy HGX
            obtain rfl : zy = zx := hzy.trans HZX.out.symm
            clear hzy HS
            obtain ⟨⟨q0, q1, q2, q3, q4⟩, _⟩ := box5 hA.bx
            obtain ⟨⟨r0, r1, r2, r3, r4⟩, _⟩ := box5 by1
            obtain ⟨⟨p0, p1, p2, p3, p4⟩, g0, g1, g2, g3, g4⟩ := box5 hA.both.b7
            obtain ⟨⟨s0, s1, s2, s3, s4⟩, t0, t1, t2, t3, t4⟩ := box5 hA.both.b8
            have HY := Lib.hid (And.intro my (And.intro ly hA))
            have hErr : Hid True := trivial
            clear my ly hA by1
            go_wp2_with fail
            go_region
            generalize hW : ((((((((((wY.setCell ⟨w2.heap.size, 0, none⟩ (.int .i64 (zy.cap : Int))).setCell ⟨w2.heap.size, 1, none⟩ (.int .i64 (zy.blk : Int))).setCell ⟨w2.heap.size, 2, none⟩ (.slice Ax nfx cx1)).setCell ⟨w2.heap.size, 3, none⟩ (.int .i64 (zy.safe : Int))).setCell ⟨w2.heap.size, 4, none⟩ (.bool zy.done)).setCell ⟨w2.heap.size + 1, 0, none⟩ (.int .i64 (zy.cap : Int))).setCell ⟨w2.heap.size + 1, 1, none⟩ (.int .i64 (zy.blk : Int))).setCell ⟨w2.heap.size + 1, 2, none⟩ (.slice Ay zy.ls.length cy)).setCell ⟨w2.heap.size + 1, 3, none⟩ (.int .i64 (zy.safe : Int))).setCell ⟨w2.heap.size + 1, 4, none⟩ (.bool zy.done)) = w9
            have hp := put55 HY.out.2.2.both.b7 HY.out.2.2.both.b8 (by omega) (.int .i64 (zy.cap : Int)) (.int .i64 (zy.blk : Int)) (.slice Ax nfx cx1) (.int .i64 (zy.safe : Int)) (.bool zy.done) (.int .i64 (zy.cap : Int)) (.int .i64 (zy.blk : Int)) (.slice Ay zy.ls.length cy) (.int .i64 (zy.safe : Int)) (.bool zy.done) hW.symm
            clear hW
            have hL : Both w w9.drew w2.heap.size (w2.heap.size + 1) zy nfx Ax cx1 Ay cy := Both.laid (gx := gx) (gy := gy) (by rw [HZX.out]; exact HY.out.2.2.both.ok.after d b n) HY.out.2.2.hn HY.out.2.2.m1 HY.out.2.2.l1 HY.out.1 HY.out.2.1 HY.out.2.2.both hp.2.2.drew (Box.drew hp.1) (Box.drew hp.2.1) HN.out (Nat.le_trans HN.out (Nat.le_succ _))
            clear hp HY q0 q1 q2 q3 q4 r0 r1 r2 r3 r4 p0 p1 p2 p3 p4 g0 g1 g2 g3 g4 s0 s1 s2 s3 s4 t0 t1 t2 t3 t4 n1 n2 n3 n4 n5 n6 n7 n8 hErr
            generalize w9.drew = wZ at hL ⊢
            obtain ⟨⟨p0, p1, p2, p3, p4⟩, g0, g1, g2, g3, g4⟩ := box5 hL.b7
            obtain ⟨⟨s0, s1, s2, s3, s4⟩, t0, t1, t2, t3, t4⟩ := box5 hL.b8
            have HL := Lib.hid hL
            clear hL
            generalize z.err d b = E
            go_wp2_with fail
            refine (read_first HL.out.ok HL.out.hnf Ax cx1 zy.ls.length wZ HL.out.m5 HL.out.l5 (Nat.le_refl _)).mono ?_
            rintro e w4 ⟨T, A4, c4, hT, rfl, hm4, hb4⟩
            rw [List.take_length] at hT
            have H4 := Lib.hid (And.intro hT (And.intro hm4 (HL.out.later hb4)))
            clear HL hT hm4 hb4 p0 p1 p2 p3 p4 g0 g1 g2 g3 g4 s0 s1 s2 s3 s4 t0 t1 t2 t3 t4
            obtain ⟨⟨p0, p1, p2, p3, p4⟩, g0, g1, g2, g3, g4⟩ := box5 H4.out.2.2.b7
            obtain ⟨⟨s0, s1, s2, s3, s4⟩, t0, t1, t2, t3, t4⟩ := box5 H4.out.2.2.b8
            go_wp2_with fail
            refine (rread_all H4.out.2.2.ok Ay cy w4 H4.out.2.2.m9).mono ?_
            rintro e w5 ⟨rfl, hb5⟩
            rw [← H4.out.1]
            have H5 := Lib.hid (And.intro (H4.out.2.1.later hb5) (H4.out.2.2.later hb5))
            clear H4 hb5 p0 p1 p2 p3 p4 g0 g1 g2 g3 g4 s0 s1 s2 s3 s4 t0 t1 t2 t3 t4
            obtain ⟨⟨p0, p1, p2, p3, p4⟩, g0, g1, g2, g3, g4⟩ := box5 H5.out.2.b7
            go_wp2_with fail
            refine (look_at H5.out.2.ok H5.out.2.hnf Ax cx1 w5 H5.out.2.l5).mono ?_
            rintro e w6 ⟨rfl, hb6⟩
            have H6 : Hid (Box (w6.alloc (.cells #[.int .i64 (zy.ls.length : Int), .int .i64 (zy.safe : Int), .bool zy.done] 45)) w6.heap.size 45 #[.int .i64 (zy.ls.length : Int), .int .i64 (zy.safe : Int), .bool zy.done] ∧ Mem 5 (w6.alloc (.cells #[.int .i64 (zy.ls.length : Int), .int .i64 (zy.safe : Int), .bool zy.done] 45)) A4 (cBs T) ∧ Both w (w6.alloc (.cells #[.int .i64 (zy.ls.length : Int), .int .i64 (zy.safe : Int), .bool zy.done] 45)) w2.heap.size (w2.heap.size + 1) zy nfx Ax cx1 Ay cy) :=
              ⟨Box.fresh _ _ _, (H5.out.1.later hb6).later ((Below.refl _ _).alloc (Nat.le_refl _) _), (H5.out.2.later hb6).later ((Below.refl _ _).alloc (Nat.le_refl _) _)⟩
            clear H5 hb6 p0 p1 p2 p3 p4 g0 g1 g2 g3 g4
            go_wp2_with fail
            refine wpB_start (w6.alloc (.cells #[.int .i64 (zy.ls.length : Int), .int .i64 (zy.safe : Int), .bool zy.done] 45)).heap.size (by kernel_rfl) ?_
            have HD : Hid (Box (w6.alloc (.cells #[.int .i64 (zy.ls.length : Int), .int .i64 (zy.safe : Int), .bool zy.done] 45)).drew w6.heap.size 45 #[.int .i64 (zy.ls.length : Int), .int .i64 (zy.safe : Int), .bool zy.done] ∧ Mem 5 (w6.alloc (.cells #[.int .i64 (zy.ls.length : Int), .int .i64 (zy.safe : Int), .bool zy.done] 45)).drew A4 (cBs T) ∧ Both w (w6.alloc (.cells #[.int .i64 (zy.ls.length : Int), .int .i64 (zy.safe : Int), .bool zy.done] 45)).drew w2.heap.size (w2.heap.size + 1) zy nfx Ax cx1 Ay cy) :=
              ⟨Box.drew H6.out.1, H6.out.2.1.later (Below.refl _ _).drew, H6.out.2.2.later (Below.refl _ _).drew⟩
            rw [show (w6.alloc (.cells #[.int .i64 (zy.ls.length : Int), .int .i64 (zy.safe : Int), .bool zy.done] 45)).heap.size = (w6.alloc (.cells #[.int .i64 (zy.ls.length : Int), .int .i64 (zy.safe : Int), .bool zy.done] 45)).drew.heap.size from rfl]
            clear H6
            generalize (w6.alloc (.cells #[.int .i64 (zy.ls.length : Int), .int .i64 (zy.safe : Int), .bool zy.done] 45)).drew = w0 at HD ⊢
            generalize w6.heap.size = gl at HD ⊢
            have l0 : ∀ w', Below w0.heap.size w0 w' → w'.cell? ⟨gl, 0, none⟩ = some (.int .i64 (zy.ls.length : Int)) := fun w' h => (box3 (HD.out.1.later h)).1
            have l1 : ∀ w', Below w0.heap.size w0 w' → w'.cell? ⟨gl, 1, none⟩ = some (.int .i64 (zy.safe : Int)) := fun w' h => (box3 (HD.out.1.later h)).2.1
            have l2 : ∀ w', Below w0.heap.size w0 w' → w'.cell? ⟨gl, 2, none⟩ = some (.bool zy.done) := fun w' h => (box3 (HD.out.1.later h)).2.2.1
            have hcv : ∀ w', Below w0.heap.size w0 w' → (convert 25 9 (.slice A4 T.length c4)).run Try.prog w' = .ok (.string ⟨T.toArray⟩) w' := fun w' h => conv_any A4 c4 T w' (HD.out.2.1.later h)
            have p0 : ∀ w', Below w0.heap.size w0 w' → w'.cell? ⟨w2.heap.size, 0, none⟩ = some (.int .i64 (zy.cap : Int)) := fun w' h => (box5 (HD.out.2.2.b7.later h)).1.1
            have p1 : ∀ w', Below w0.heap.size w0 w' → w'.cell? ⟨w2.heap.size, 1, none⟩ = some (.int .i64 (zy.blk : Int)) := fun w' h => (box5 (HD.out.2.2.b7.later h)).1.2.1
            have p2 : ∀ w', Below w0.heap.size w0 w' → w'.cell? ⟨w2.heap.size, 2, none⟩ = some (.slice Ax nfx cx1) := fun w' h => (box5 (HD.out.2.2.b7.later h)).1.2.2.1
            have p3 : ∀ w', Below w0.heap.size w0 w' → w'.cell? ⟨w2.heap.size, 3, none⟩ = some (.int .i64 (zy.safe : Int)) := fun w' h => (box5 (HD.out.2.2.b7.later h)).1.2.2.2.1
            have p4 : ∀ w', Below w0.heap.size w0 w' → w'.cell? ⟨w2.heap.size, 4, none⟩ = some (.bool zy.done) := fun w' h => (box5 (HD.out.2.2.b7.later h)).1.2.2.2.2
            have s0 : ∀ w', Below w0.heap.size w0 w' → w'.cell? ⟨(w2.heap.size + 1), 0, none⟩ = some (.int .i64 (zy.cap : Int)) := fun w' h => (box5 (HD.out.2.2.b8.later h)).1.1
            have s1 : ∀ w', Below w0.heap.size w0 w' → w'.cell? ⟨(w2.heap.size + 1), 1, none⟩ = some (.int .i64 (zy.blk : Int)) := fun w' h => (box5 (HD.out.2.2.b8.later h)).1.2.1
            have s2 : ∀ w', Below w0.heap.size w0 w' → w'.cell? ⟨(w2.heap.size + 1), 2, none⟩ = some (.slice Ay zy.ls.length cy) := fun w' h => (box5 (HD.out.2.2.b8.later h)).1.2.2.1
            have s3 : ∀ w', Below w0.heap.size w0 w' → w'.cell? ⟨(w2.heap.size + 1), 3, none⟩ = some (.int .i64 (zy.safe : Int)) := fun w' h => (box5 (HD.out.2.2.b8.later h)).1.2.2.2.1
            have s4 : ∀ w', Below w0.heap.size w0 w' → w'.cell? ⟨(w2.heap.size + 1), 4, none⟩ = some (.bool zy.done) := fun w' h => (box5 (HD.out.2.2.b8.later h)).1.2.2.2.2
            refine wpB_take (i := 0) (d := 72) (v := ?v13x0) rfl rfl (by kernel_rfl) (by kernel_rfl) (by kernel_rfl) (fun _ _ _ h => h) (by rfl) ?y13x0 ?r13x0
            case y13x0 => (intro w' hSw; go_simp; try (with_reducible rfl))
            simp only [Act.put, List.setIfInBounds_toArray, List.set_cons_zero, List.set_cons_succ]
            refine wpB_take (i := 1) (d := 73) (v := ?v13x1) rfl rfl (by kernel_rfl) (by kernel_rfl) (by kernel_rfl) (fun _ _ _ h => h) (by rfl) ?y13x1 ?r13x1
            case y13x1 => (intro w' hSw; go_simp; try (with_reducible rfl))
            simp only [Act.put, List.setIfInBounds_toArray, List.set_cons_zero, List.set_cons_succ]
            refine wpB_take (i := 2) (d := 74) (v := ?v13x2) rfl rfl (by kernel_rfl) (by kernel_rfl) (by kernel_rfl) (fun _ _ _ h => h) (by rfl) ?y13x2 ?r13x2
            case y13x2 => (intro w' hSw; go_simp; try (with_reducible rfl))
            simp only [Act.put, List.setIfInBounds_toArray, List.set_cons_zero, List.set_cons_succ]
            refine wpB_take (i := 3) (d := 75) (v := ?v13x3) rfl rfl (by kernel_rfl) (by kernel_rfl) (by kernel_rfl) (fun _ _ _ h => h) (by rfl) ?y13x3 ?r13x3
            case y13x3 => (intro w' hSw; go_simp; try (with_reducible rfl))
            simp only [Act.put, List.setIfInBounds_toArray, List.set_cons_zero, List.set_cons_succ]
            refine wpB_take (i := 4) (d := 76) (v := ?v13x4) rfl rfl (by kernel_rfl) (by kernel_rfl) (by kernel_rfl) (fun _ _ _ h => h) (by rfl) ?y13x4 ?r13x4
            case y13x4 => (intro w' hSw; go_simp; try (with_reducible rfl))
            simp only [Act.put, List.setIfInBounds_toArray, List.set_cons_zero, List.set_cons_succ]
            refine wpB_do (i := 5) (by kernel_rfl) rfl (by rfl) (fun K hK => ?_)
            go_simp
            refine (code_any 0 w0).mono ?_
            rintro e w7 ⟨rfl, rfl⟩
            refine hK.out _ _ _ (Nat.le_refl _) (Below.refl _ _) ?_
            clear hK K
            refine wpB_take (i := 6) (d := 78) (v := ?v13x6) rfl rfl (by kernel_rfl) (by kernel_rfl) (by kernel_rfl) (fun _ _ _ h => h) (by rfl) ?y13x6 ?r13x6
            case y13x6 => (intro w' hSw; go_simp; try (with_reducible rfl))
            simp only [Act.put, List.setIfInBounds_toArray, List.set_cons_zero, List.set_cons_succ]
            refine wpB_take (i := 7) (d := 79) (v := ?v13x7) rfl rfl (by kernel_rfl) (by kernel_rfl) (by kernel_rfl) (fun _ _ _ h => h) (by rfl) ?y13x7 ?r13x7
            case y13x7 => (intro w' hSw; go_simp; try (with_reducible rfl))
            simp only [Act.put, List.setIfInBounds_toArray, List.set_cons_zero, List.set_cons_succ]
            refine wpB_take (i := 8) (d := 80) (v := ?v13x8) rfl rfl (by kernel_rfl) (by kernel_rfl) (by kernel_rfl) (fun _ _ _ h => h) (by rfl) ?y13x8 ?r13x8
            case y13x8 => (intro w' hSw; go_simp; try (with_reducible rfl))
            simp only [Act.put, List.setIfInBounds_toArray, List.set_cons_zero, List.set_cons_succ]
            refine wpB_take (i := 9) (d := 81) (v := ?v13x9) rfl rfl (by kernel_rfl) (by kernel_rfl) (by kernel_rfl) (fun _ _ _ h => h) (by rfl) ?y13x9 ?r13x9
            case y13x9 => (intro w' hSw; go_simp; try (with_reducible rfl))
            simp only [Act.put, List.setIfInBounds_toArray, List.set_cons_zero, List.set_cons_succ]
            refine wpB_take (i := 10) (d := 82) (v := ?v13x10) rfl rfl (by kernel_rfl) (by kernel_rfl) (by kernel_rfl) (fun _ _ _ h => h) (by rfl) ?y13x10 ?r13x10
            case y13x10 => (intro w' hSw; go_simp; try (with_reducible rfl))
            simp only [Act.put, List.setIfInBounds_toArray, List.set_cons_zero, List.set_cons_succ]
            refine wpB_take (i := 11) (d := 83) (v := ?v13x11) rfl rfl (by kernel_rfl) (by kernel_rfl) (by kernel_rfl) (fun _ _ _ h => h) (by rfl) ?y13x11 ?r13x11
            case y13x11 => (intro w' hSw; go_simp; try (with_reducible rfl))
            simp only [Act.put, List.setIfInBounds_toArray, List.set_cons_zero, List.set_cons_succ]
            refine wpB_take (i := 12) (d := 84) (v := ?v13x12) rfl rfl (by kernel_rfl) (by kernel_rfl) (by kernel_rfl) (fun _ _ _ h => h) (by rfl) ?y13x12 ?r13x12
            case y13x12 => (intro w' hSw; go_simp; try (with_reducible rfl))
            simp only [Act.put, List.setIfInBounds_toArray, List.set_cons_zero, List.set_cons_succ]
            refine wpB_take (i := 13) (d := 85) (v := ?v13x13) rfl rfl (by kernel_rfl) (by kernel_rfl) (by kernel_rfl) (fun _ _ _ h => h) (by rfl) ?y13x13 ?r13x13
            case y13x13 => (intro w' hSw; go_simp; try (with_reducible rfl))
            simp only [Act.put, List.setIfInBounds_toArray, List.set_cons_zero, List.set_cons_succ]
            refine wpB_take (i := 14) (d := 86) (v := ?v13x14) rfl rfl (by kernel_rfl) (by kernel_rfl) (by kernel_rfl) (fun _ _ _ h => h) (by rfl) ?y13x14 ?r13x14
            case y13x14 => (intro w' hSw; go_simp; try (with_reducible rfl))
            simp only [Act.put, List.setIfInBounds_toArray, List.set_cons_zero, List.set_cons_succ]
            refine wpB_take (i := 15) (d := 87) (v := ?v13x15) rfl rfl (by kernel_rfl) (by kernel_rfl) (by kernel_rfl) (fun _ _ _ h => h) (by rfl) ?y13x15 ?r13x15
            case y13x15 => (intro w' hSw; go_simp; try (with_reducible rfl))
            simp only [Act.put, List.setIfInBounds_toArray, List.set_cons_zero, List.set_cons_succ]
            refine wpB_take (i := 16) (d := 88) (v := ?v13x16) rfl rfl (by kernel_rfl) (by kernel_rfl) (by kernel_rfl) (fun _ _ _ h => h) (by rfl) ?y13x16 ?r13x16
            case y13x16 => (intro w' hSw; go_simp; try (with_reducible rfl))
            simp only [Act.put, List.setIfInBounds_toArray, List.set_cons_zero, List.set_cons_succ]
            refine wpB_take (i := 17) (d := 89) (v := ?v13x17) rfl rfl (by kernel_rfl) (by kernel_rfl) (by kernel_rfl) (fun _ _ _ h => h) (by rfl) ?y13x17 ?r13x17
            case y13x17 => (intro w' hSw; go_simp; try (with_reducible rfl))
            simp only [Act.put, List.setIfInBounds_toArray, List.set_cons_zero, List.set_cons_succ]
            refine wpB_take (i := 18) (d := 90) (v := ?v13x18) rfl rfl (by kernel_rfl) (by kernel_rfl) (by kernel_rfl) (fun _ _ _ h => h) (by rfl) ?y13x18 ?r13x18
            case y13x18 => (intro w' hSw; go_simp; try (with_reducible rfl))
            simp only [Act.put, List.setIfInBounds_toArray, List.set_cons_zero, List.set_cons_succ]
            refine wpB_take (i := 19) (d := 91) (v := ?v13x19) rfl rfl (by kernel_rfl) (by kernel_rfl) (by kernel_rfl) (fun _ _ _ h => h) (by rfl) ?y13x19 ?r13x19
            case y13x19 => (intro w' hSw; go_simp; try (with_reducible rfl))
            simp only [Act.put, List.setIfInBounds_toArray, List.set_cons_zero, List.set_cons_succ]
            refine wpB_take (i := 20) (d := 92) (v := ?v13x20) rfl rfl (by kernel_rfl) (by kernel_rfl) (by kernel_rfl) (fun _ _ _ h => h) (by rfl) ?y13x20 ?r13x20
            case y13x20 => (intro w' hSw; go_simp; try (with_reducible rfl))
            simp only [Act.put, List.setIfInBounds_toArray, List.set_cons_zero, List.set_cons_succ]
            refine wpB_take (i := 21) (d := 93) (v := ?v13x21) rfl rfl (by kernel_rfl) (by kernel_rfl) (by kernel_rfl) (fun _ _ _ h => h) (by rfl) ?y13x21 ?r13x21
            case y13x21 => (intro w' hSw; go_simp; try (with_reducible rfl))
            simp only [Act.put, List.setIfInBounds_toArray, List.set_cons_zero, List.set_cons_succ]
            refine wpB_take (i := 22) (d := 94) (v := ?v13x22) rfl rfl (by kernel_rfl) (by kernel_rfl) (by kernel_rfl) (fun _ _ _ h => h) (by rfl) ?y13x22 ?r13x22
            case y13x22 => (intro w' hSw; go_simp; try (with_reducible rfl))
            simp only [Act.put, List.setIfInBounds_toArray, List.set_cons_zero, List.set_cons_succ]
            refine wpB_take (i := 23) (d := 95) (v := ?v13x23) rfl rfl (by kernel_rfl) (by kernel_rfl) (by kernel_rfl) (fun _ _ _ h => h) (by rfl) ?y13x23 ?r13x23
            case y13x23 => (intro w' hSw; go_simp; try (with_reducible rfl))
            simp only [Act.put, List.setIfInBounds_toArray, List.set_cons_zero, List.set_cons_succ]
            refine wpB_take (i := 24) (d := 96) (v := ?v13x24) rfl rfl (by kernel_rfl) (by kernel_rfl) (by kernel_rfl) (fun _ _ _ h => h) (by rfl) ?y13x24 ?r13x24
            case y13x24 => (intro w' hSw; go_simp; try (with_reducible rfl))
            simp only [Act.put, List.setIfInBounds_toArray, List.set_cons_zero, List.set_cons_succ]
            refine wpB_take (i := 25) (d := 97) (v := ?v13x25) rfl rfl (by kernel_rfl) (by kernel_rfl) (by kernel_rfl) (fun _ _ _ h => h) (by rfl) ?y13x25 ?r13x25
            case y13x25 => (intro w' hSw; go_simp; try (with_reducible rfl))
            simp only [Act.put, List.setIfInBounds_toArray, List.set_cons_zero, List.set_cons_succ]
            refine wpB_take (i := 26) (d := 98) (v := ?v13x26) rfl rfl (by kernel_rfl) (by kernel_rfl) (by kernel_rfl) (fun _ _ _ h => h) (by rfl) ?y13x26 ?r13x26
            case y13x26 => (intro w' hSw; go_simp; try (with_reducible rfl))
            simp only [Act.put, List.setIfInBounds_toArray, List.set_cons_zero, List.set_cons_succ]
            refine wpB_take (i := 27) (d := 99) (v := ?v13x27) rfl rfl (by kernel_rfl) (by kernel_rfl) (by kernel_rfl) (fun _ _ _ h => h) (by rfl) ?y13x27 ?r13x27
            case y13x27 => (intro w' hSw; go_simp; try (with_reducible rfl))
            simp only [Act.put, List.setIfInBounds_toArray, List.set_cons_zero, List.set_cons_succ]
            refine wpB_take (i := 28) (d := 100) (v := ?v13x28) rfl rfl (by kernel_rfl) (by kernel_rfl) (by kernel_rfl) (fun _ _ _ h => h) (by rfl) ?y13x28 ?r13x28
            case y13x28 => (intro w' hSw; go_simp; try (with_reducible rfl))
            simp only [Act.put, List.setIfInBounds_toArray, List.set_cons_zero, List.set_cons_succ]
            refine wpB_take (i := 29) (d := 101) (v := ?v13x29) rfl rfl (by kernel_rfl) (by kernel_rfl) (by kernel_rfl) (fun _ _ _ h => h) (by rfl) ?y13x29 ?r13x29
            case y13x29 => (intro w' hSw; go_simp; try (with_reducible rfl))
            simp only [Act.put, List.setIfInBounds_toArray, List.set_cons_zero, List.set_cons_succ]
            refine wpB_take (i := 30) (d := 102) (v := ?v13x30) rfl rfl (by kernel_rfl) (by kernel_rfl) (by kernel_rfl) (fun _ _ _ h => h) (by rfl) ?y13x30 ?r13x30
            case y13x30 => (intro w' hSw; go_simp; try (with_reducible rfl))
            simp only [Act.put, List.setIfInBounds_toArray, List.set_cons_zero, List.set_cons_succ]
            refine wpB_take (i := 31) (d := 103) (v := ?v13x31) rfl rfl (by kernel_rfl) (by kernel_rfl) (by kernel_rfl) (fun _ _ _ h => h) (by rfl) ?y13x31 ?r13x31
            case y13x31 => (intro w' hSw; go_simp; try (with_reducible rfl))
            simp only [Act.put, List.setIfInBounds_toArray, List.set_cons_zero, List.set_cons_succ]
            refine wpB_take (i := 32) (d := 104) (v := ?v13x32) rfl rfl (by kernel_rfl) (by kernel_rfl) (by kernel_rfl) (fun _ _ _ h => h) (by rfl) ?y13x32 ?r13x32
            case y13x32 => (intro w' hSw; go_simp; try (with_reducible rfl))
            simp only [Act.put, List.setIfInBounds_toArray, List.set_cons_zero, List.set_cons_succ]
            refine wpB_take (i := 33) (d := 105) (v := ?v13x33) rfl rfl (by kernel_rfl) (by kernel_rfl) (by kernel_rfl) (fun _ _ _ h => h) (by rfl) ?y13x33 ?r13x33
            case y13x33 => (intro w' hSw; go_simp; try (with_reducible rfl))
            simp only [Act.put, List.setIfInBounds_toArray, List.set_cons_zero, List.set_cons_succ]
            refine wpB_take (i := 34) (d := 106) (v := ?v13x34) rfl rfl (by kernel_rfl) (by kernel_rfl) (by kernel_rfl) (fun _ _ _ h => h) (by rfl) ?y13x34 ?r13x34
            case y13x34 => (intro w' hSw; go_simp; try (with_reducible rfl))
            simp only [Act.put, List.setIfInBounds_toArray, List.set_cons_zero, List.set_cons_succ]
            refine wpB_take (i := 35) (d := 107) (v := ?v13x35) rfl rfl (by kernel_rfl) (by kernel_rfl) (by kernel_rfl) (fun _ _ _ h => h) (by rfl) ?y13x35 ?r13x35
            case y13x35 => (intro w' hSw; go_simp; try (with_reducible rfl))
            simp only [Act.put, List.setIfInBounds_toArray, List.set_cons_zero, List.set_cons_succ]
            refine wpB_take (i := 36) (d := 108) (v := ?v13x36) rfl rfl (by kernel_rfl) (by kernel_rfl) (by kernel_rfl) (fun _ _ _ h => h) (by rfl) ?y13x36 ?r13x36
            case y13x36 => (intro w' hSw; go_simp; try (with_reducible rfl))
            simp only [Act.put, List.setIfInBounds_toArray, List.set_cons_zero, List.set_cons_succ]
            refine wpB_take (i := 37) (d := 109) (v := ?v13x37) rfl rfl (by kernel_rfl) (by kernel_rfl) (by kernel_rfl) (fun _ _ _ h => h) (by rfl) ?y13x37 ?r13x37
            case y13x37 => (intro w' hSw; go_simp; try (with_reducible rfl))
            simp only [Act.put, List.setIfInBounds_toArray, List.set_cons_zero, List.set_cons_succ]
            refine wpB_take (i := 39) (d := 111) (v := ?v13x39) rfl rfl (by kernel_rfl) (by kernel_rfl) (by kernel_rfl) (fun _ _ _ h => h) (by rfl) ?y13x39 ?r13x39
            case y13x39 => (intro w' hSw; go_simp; try (with_reducible rfl))
            simp only [Act.put, List.setIfInBounds_toArray, List.set_cons_zero, List.set_cons_succ]
            refine wpB_do (i := 38) (by kernel_rfl) rfl (by rfl) (fun K hK => ?_)
            go_simp
            refine (active_at HD.out.2.2.ok HD.out.2.2.hnf Ax cx1 w0 HD.out.2.2.l5).mono ?_
            rintro e w8 ⟨rfl, hb8⟩
            have H8 := Lib.hid (HD.out.2.2.later hb8)
            refine hK.out _ _ _ hb8.size hb8 ?_
            clear hK K hb8 HD l0 l1 l2 hcv p0 p1 p2 p3 p4 s0 s1 s2 s3 s4
            refine wpB_do (i := 40) (by kernel_rfl) rfl (by rfl) (fun K hK => ?_)
            go_simp
            refine (ractive_any zy.cap zy.ls.length cy zy.blk zy.safe Ay zy.done w8 (Nat.le_trans H8.out.ok.hk H8.out.ok.c2) H8.out.ok.c2).mono ?_
            rintro e w9 ⟨rfl, hb9⟩
            have H9 := Lib.hid (H8.out.later hb9)
            refine hK.out _ _ _ hb9.size hb9 ?_
            clear hK K hb9 H8
            refine wpB_take (i := 41) (d := 113) (v := ?v13x41) rfl rfl (by kernel_rfl) (by kernel_rfl) (by kernel_rfl) (fun _ _ _ h => h) (by rfl) ?y13x41 ?r13x41
            case y13x41 => (intro w' hSw; go_simp; try (with_reducible rfl))
            simp only [Act.put, List.setIfInBounds_toArray, List.set_cons_zero, List.set_cons_succ]
            refine wpB_take (i := 42) (d := 114) (v := ?v13x42) rfl rfl (by kernel_rfl) (by kernel_rfl) (by kernel_rfl) (fun _ _ _ h => h) (by rfl) ?y13x42 ?r13x42
            case y13x42 => (intro w' hSw; go_simp; try (with_reducible rfl))
            simp only [Act.put, List.setIfInBounds_toArray, List.set_cons_zero, List.set_cons_succ]
            refine wpB_done (by kernel_rfl) ?_
            go_wp2
            go_roundw
            case rel => exact ⟨j + 1, by omega, by go_num, _, _, _, _, _, _, H9.out⟩
            case measure => simp [intOf]; omega
      · obtain rfl : j = acs.length := by omega
        have HBe := Lib.hid hB.bel
        clear hB hlt
        go_wp2_with fail
        refine (live_any _).mono ?_
        rintro e w5 ⟨rfl, hb5⟩
        have HE := Lib.hid (HBe.out.trans (hb5.mono HBe.out.size))
        clear hb5 HBe
        go_wp2
        go_ret
        exact ⟨rfl, HE.out⟩
  · go_wp2_with fail
    refine (live_any _).mono ?_
    rintro e w1 ⟨rfl, hb1⟩
    have HE := Lib.hid hb1
    clear hb1
    go_wp2
    go_ret
    exact ⟨rfl, HE.out⟩
end Go.Proofs.Ytajkcodcoehbgaa.zonePlays
