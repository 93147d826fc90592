/- The contract of Get. -/
import Derived.Test.YtaceaemombnhkaaGh
import Derived.Test.YtaceaemombnhkaaGe
import Derived.Test.YtaceaemombnhkaaSg
namespace Go.Proofs.Ytaceaemombnhkaa
set_option linter.unusedVariables false
set_option maxRecDepth 100000
set_option linter.unusedSimpArgs false
open Go.RowKit
open Go.RowKit (wrap64)

/-- What Get answers: the state, where the bytes are one's, or an error. -/
def GotG (w : World) (b : List UInt8) (e : Ending) (w' : World) : Prop :=
  ((∃ s A k D d, GetS b s ∧ e = .returned (.tuple #[(.agg #[.int .i64 s.c.id, .int .i64 s.c.m, .int .i64 s.c.u, .int .i64 s.c.b, .int .i64 s.c.cp, .int .i64 s.c.z, .int .i64 s.c.s, .int .i64 s.c.mt, .int .i64 s.c.o, .int .i64 s.c.a, .int .i64 s.c.l, .int .i64 s.ep, .int .i64 s.sq, .slice A s.st.length k, .slice D s.zs.length d]), .int .i64 0]) ∧ StAt w' (LT w'.heap.size) A s.st k D s.zs d) ∨
    ∃ er, (er = 13 ∨ er = 14) ∧ e = .returned (.tuple #[.agg #[.int .i64 0, .int .i64 0, .int .i64 0, .int .i64 0, .int .i64 0, .int .i64 0, .int .i64 0, .int .i64 0, .int .i64 0, .int .i64 0, .int .i64 0, .int .i64 0, .int .i64 0, .slice none 0 0, .slice none 0 0], .int .i64 er]) ∧ ∀ s, ¬ GetS b s) ∧ Below w.heap.size w w'
theorem setK_bad {b : List UInt8} (h : (setK b).2.2 ≠ 0) : ((setK b).2.2 = 13 ∨ (setK b).2.2 = 14) ∧ ∀ s, ¬ GetS b s := by
  unfold setK at h ⊢
  by_cases h0 : (getC (b.take (min 88 b.length))).2 = 0
  · rw [if_pos h0] at h ⊢
    by_cases h1 : checkC (getC (b.take (min 88 b.length))).1 = 0
    · rw [if_pos h1] at h
      simp at h
    · rw [if_neg h1]
      exact ⟨Or.inl rfl, fun s hs => h1 hs.check⟩
  · rw [if_neg h0]
    refine ⟨?_, fun s hs => h0 hs.conf⟩
    rcases getC_err' (b.take (min 88 b.length)) with h2 | h2
    · exact absurd h2 h0
    · exact h2
theorem setK_good {b : List UInt8} (h : (setK b).2.2 = 0) : (setK b).1 = (getC (b.take (min 88 b.length))).1 ∧ (setK b).2.1 = b.drop (min 88 b.length) ∧ (getC (b.take (min 88 b.length))).2 = 0 ∧ checkC (getC (b.take (min 88 b.length))).1 = 0 := by
  unfold setK at h ⊢
  by_cases h0 : (getC (b.take (min 88 b.length))).2 = 0
  · rw [if_pos h0] at h ⊢
    by_cases h1 : checkC (getC (b.take (min 88 b.length))).1 = 0
    · rw [if_pos h1]
      exact ⟨rfl, rfl, h0, h1⟩
    · rw [if_neg h1] at h
      simp at h
  · rw [if_neg h0] at h
    exact absurd h h0
/-- Behind the settings. -/
theorem getS_of {b r : List UInt8} {c : Cf} (h0 : (getC (b.take (min 88 b.length))).2 = 0) (h1 : checkC c = 0) (hc : c = (getC (b.take (min 88 b.length))).1) (hr : r = b.drop (min 88 b.length)) (s : St) : GetS b s ↔ ((getB c r).1 = s ∧ (getB c r).2.2 = 0 ∧ (getB c r).2.1 = [] ∧ RightS s) := by
  subst hc
  subst hr
  exact ⟨fun h => ⟨h.state, h.err, h.left, h.right⟩, fun ⟨h2, h3, h4, h5⟩ => ⟨h0, h1, h2, h3, h4, h5⟩⟩
theorem getB_lens (c : Cf) (b : List UInt8) (h : Good c) : (getB c b).1.st.length ≤ 16 ∧ (getB c b).1.zs.length ≤ 64 := by
  unfold Good at h
  have h1 : (getB c b).1.st.length = c.m.toNat := getIs_len _ _
  have h2 : (getB c b).1.zs.length = c.z.toNat := getZs_len _ _
  omega
/-- Region 5: the reader, the settings' block, the answer's block. -/
def TIn (c : Cf) (p gc gr : Nat) (lo : Nat) (w0 : World) (x : List UInt8 × Int) (w1 : World) : Prop := Rdr w1 p x.1 x.2 ∧ Box w1 gc 23 #[.int .i64 c.id, .int .i64 c.m, .int .i64 c.u, .int .i64 c.b, .int .i64 c.cp, .int .i64 c.z, .int .i64 c.s, .int .i64 c.mt, .int .i64 c.o, .int .i64 c.a, .int .i64 c.l] ∧ Box w1 gr 27 #[.int .i64 0, .int .i64 0, .int .i64 0, .int .i64 0, .int .i64 0, .int .i64 0, .int .i64 0, .int .i64 0, .int .i64 0, .int .i64 0, .int .i64 0, .int .i64 0, .int .i64 0, .slice none 0 0, .slice none 0 0] ∧ Below lo w0 w1 ∧ p < w1.heap.size
section
variable {c : Cf} {p gc gr lo : Nat} {w0 w1 w2 : World} {x y : List UInt8 × Int}
theorem TIn.call (hp : lo ≤ p) (hc : gc ≠ p) (hr0 : gr ≠ p) (h : TIn c p gc gr lo w0 x w1) (hr : Rdr w2 p y.1 y.2) (hg : w1.grownBy w2 (some p)) (hlo : lo ≤ w0.heap.size) : TIn c p gc gr lo w0 y w2 :=
  ⟨hr, h.2.1.turn (Turn.ofGrown hg) (by simpa using hc), h.2.2.1.turn (Turn.ofGrown hg) (by simpa using hr0), h.2.2.2.1.trans ((Below.refl lo w1).grown hg (by have := h.2.2.2.1.size; omega) (fun k hk => by simp at hk; omega)), Nat.lt_of_lt_of_le h.2.2.2.2 hg.size⟩
theorem TIn.later (h : TIn c p gc gr lo w0 x w1) (hb : Below w1.heap.size w1 w2) (hlo : lo ≤ w0.heap.size) : TIn c p gc gr lo w0 x w2 :=
  ⟨h.1.below hb h.2.2.2.2, h.2.1.later hb, h.2.2.1.later hb, h.2.2.2.1.trans (hb.mono (by have := h.2.2.2.1.size; omega)), Nat.lt_of_lt_of_le h.2.2.2.2 hb.size⟩
end
theorem NW.turn {lo : Nat} {w w' : World} {gs : List Nat} (h : Turn gs w w') (hg : ∀ g ∈ gs, g < lo) {A : Option Addr} {st : List Int} {k : Nat} {D : Option Addr} {zs : List Zn} {d : Nat} (hs : StAt w (NW lo w) A st k D zs d) : StAt w' (NW lo w') A st k D zs d :=
  NW.keep (fun k hk => h.block k hk.lt (fun hm => absurd (hg k hm) (by have := hk.1; omega))) hs
theorem res17 {tmps : Array Value} {w : World} {g : Nat} {cs : Array Value} {v : Value} (hp : tmps.getD 2 undef = .pointer (some ⟨g, 0, none⟩)) (hv : tmps.getD 3 undef = v) (hg : Box w g 27 cs) (hn : cs.size = 15) : (results Try.f17 tmps).run Try.prog w = .ok (.tuple #[.agg cs, v]) w := by
  have h1 := run_loadVar_row (P := Try.prog) w g 27 27 cs (0, 0) _ hg rfl rfl (by rw [hn]; exact Try.size27)
  have hp' : tmps[2]?.getD undef = .pointer (some ⟨g, 0, none⟩) := by simpa using hp
  have hv' : tmps[3]?.getD undef = v := by simpa using hv
  simp [results, Try.results17, hp', hv', asAddr, h1]
set_option maxHeartbeats 2000000 in
theorem get_state_any (A : Option Addr) (cap : Nat) (b : List UInt8) (w : World) (hr : Rd w w.heap.size A b) (hcap : b.length ≤ cap) (hl : b.length ≤ 1000000) :
    Calls Try.prog 17 #[.slice A b.length cap] w (GotG w b) := by
  have HSB : Hid ((setK b).2.2 ≠ 0 → ((setK b).2.2 = 13 ∨ (setK b).2.2 = 14) ∧ ∀ s, ¬ GetS b s) := setK_bad
  have HSG : Hid ((setK b).2.2 = 0 → (setK b).1 = (getC (b.take (min 88 b.length))).1 ∧ (setK b).2.1 = b.drop (min 88 b.length) ∧ (getC (b.take (min 88 b.length))).2 = 0 ∧ checkC (getC (b.take (min 88 b.length))).1 = 0) := setK_good
  have HS : Hid (∀ w, Rd w w.heap.size A b → Calls Try.prog 42 #[.slice A b.length cap] w (GotK w (setK b))) := fun w hr => settings_any A cap b w hr hcap hl
  have HLR : Hid (b.length ≤ 1000000) := hl
  have HR := Lib.hid hr
  clear hr hcap
  generalize setK b = K at HSB HSG HS
  obtain ⟨c, rest, er⟩ := K
  go_enter Try.func17, Try.ntmps17
  go_upto_region 1 with fail
  have HV0 : Hid (Box (w.alloc (.cells #[.int .i64 0, .int .i64 0, .int .i64 0, .int .i64 0, .int .i64 0, .int .i64 0, .int .i64 0, .int .i64 0, .int .i64 0, .int .i64 0, .int .i64 0, .int .i64 0, .int .i64 0, .slice none 0 0, .slice none 0 0] 27)) w.heap.size 27 #[.int .i64 0, .int .i64 0, .int .i64 0, .int .i64 0, .int .i64 0, .int .i64 0, .int .i64 0, .int .i64 0, .int .i64 0, .int .i64 0, .int .i64 0, .int .i64 0, .int .i64 0, .slice none 0 0, .slice none 0 0] ∧ Below w.heap.size w (w.alloc (.cells #[.int .i64 0, .int .i64 0, .int .i64 0, .int .i64 0, .int .i64 0, .int .i64 0, .int .i64 0, .int .i64 0, .int .i64 0, .int .i64 0, .int .i64 0, .int .i64 0, .int .i64 0, .slice none 0 0, .slice none 0 0] 27))) := ⟨Box.fresh w 27 _, below_one _ _⟩
  generalize (w.alloc (.cells #[.int .i64 0, .int .i64 0, .int .i64 0, .int .i64 0, .int .i64 0, .int .i64 0, .int .i64 0, .int .i64 0, .int .i64 0, .int .i64 0, .int .i64 0, .int .i64 0, .int .i64 0, .slice none 0 0, .slice none 0 0] 27)) = w0 at HV0 ⊢
  go_wp2_with fail
  refine (HS.out w0 ((HR.out.below HV0.out.2).more HV0.out.2.size)).mono ?_
  rintro e w1 ⟨X, cx, rfl, hX, hcx, hb⟩
  have HV1 : Hid (Box w1 w.heap.size 27 #[.int .i64 0, .int .i64 0, .int .i64 0, .int .i64 0, .int .i64 0, .int .i64 0, .int .i64 0, .int .i64 0, .int .i64 0, .int .i64 0, .int .i64 0, .int .i64 0, .int .i64 0, .slice none 0 0, .slice none 0 0] ∧ Below w.heap.size w w1) := ⟨HV0.out.1.later hb, HV0.out.2.trans (hb.mono HV0.out.2.size)⟩
  have HX := Lib.hid (And.intro hX hcx)
  clear hb hX hcx HV0 HS HR hl
  dsimp only at HX HSB HSG
  dsimp only
  go_upto_region 2 with fail
  have HC1 : Hid (Box (w1.alloc (.cells #[.int .i64 c.id, .int .i64 c.m, .int .i64 c.u, .int .i64 c.b, .int .i64 c.cp, .int .i64 c.z, .int .i64 c.s, .int .i64 c.mt, .int .i64 c.o, .int .i64 c.a, .int .i64 c.l] 23)) w1.heap.size 23 #[.int .i64 c.id, .int .i64 c.m, .int .i64 c.u, .int .i64 c.b, .int .i64 c.cp, .int .i64 c.z, .int .i64 c.s, .int .i64 c.mt, .int .i64 c.o, .int .i64 c.a, .int .i64 c.l] ∧ Box (w1.alloc (.cells #[.int .i64 c.id, .int .i64 c.m, .int .i64 c.u, .int .i64 c.b, .int .i64 c.cp, .int .i64 c.z, .int .i64 c.s, .int .i64 c.mt, .int .i64 c.o, .int .i64 c.a, .int .i64 c.l] 23)) w.heap.size 27 #[.int .i64 0, .int .i64 0, .int .i64 0, .int .i64 0, .int .i64 0, .int .i64 0, .int .i64 0, .int .i64 0, .int .i64 0, .int .i64 0, .int .i64 0, .int .i64 0, .int .i64 0, .slice none 0 0, .slice none 0 0] ∧ Below w.heap.size w (w1.alloc (.cells #[.int .i64 c.id, .int .i64 c.m, .int .i64 c.u, .int .i64 c.b, .int .i64 c.cp, .int .i64 c.z, .int .i64 c.s, .int .i64 c.mt, .int .i64 c.o, .int .i64 c.a, .int .i64 c.l] 23)) ∧ Rd (w1.alloc (.cells #[.int .i64 c.id, .int .i64 c.m, .int .i64 c.u, .int .i64 c.b, .int .i64 c.cp, .int .i64 c.z, .int .i64 c.s, .int .i64 c.mt, .int .i64 c.o, .int .i64 c.a, .int .i64 c.l] 23)) (w1.alloc (.cells #[.int .i64 c.id, .int .i64 c.m, .int .i64 c.u, .int .i64 c.b, .int .i64 c.cp, .int .i64 c.z, .int .i64 c.s, .int .i64 c.mt, .int .i64 c.o, .int .i64 c.a, .int .i64 c.l] 23)).heap.size X rest ∧ w.heap.size ≤ w1.heap.size) := ⟨Box.fresh w1 23 _, HV1.out.1.later (below_one _ _), HV1.out.2.alloc HV1.out.2.size _, (HX.out.1.below (below_one w1 _)).more (below_one w1 _).size, HV1.out.2.size⟩
  generalize w1.alloc (.cells #[.int .i64 c.id, .int .i64 c.m, .int .i64 c.u, .int .i64 c.b, .int .i64 c.cp, .int .i64 c.z, .int .i64 c.s, .int .i64 c.mt, .int .i64 c.o, .int .i64 c.a, .int .i64 c.l] 23) = w2 at HC1 ⊢
  generalize w1.heap.size = gc at HC1 ⊢
  clear HV1
  obtain ⟨y0, y1, y2, y3, y4, y5, y6, y7, y8, y9, y10, y11, y12, y13, y14⟩ := box15 HC1.out.2.1
  obtain ⟨f0, f1, f2, f3, f4, f5, f6, f7, f8, f9, f10, f11, f12, f13, f14⟩ := froz15 HC1.out.2.1
  by_cases he : er = 0
  · subst he
    obtain ⟨h1, h2, h3, h4⟩ := HSG.out rfl
    have HGB := Lib.hid (getS_of (b := b) h3 (by rw [h1]; exact h4) h1 h2)
    have HCK : Hid (checkC c = 0 ∧ Good c) := ⟨by rw [h1]; exact h4, check_good0 (by rw [h1]; exact h4)⟩
    have HRL : Hid (rest.length ≤ 10000000) := by
      show _ ≤ _
      have := HLR.out
      rw [h2, List.length_drop]
      omega
    have HSL := Lib.hid (getB_lens c rest HCK.out.2)
    have HCS : Hid (∀ p w, Rdr w p rest 0 → Calls Try.prog 45 #[(.agg #[.int .i64 1, .int .i64 1099511627776, .int .i64 0, .int .i64 1099511627776, .int .i64 0, .int .i64 2, .int .i64 0, .int .i64 1099511627776, .int .i64 (-1), .int .i64 (slotsC c - 1), .int .i64 0, .int .i64 (sizeC c), .int .i64 0, .int .i64 2, .int .i64 1, .int .i64 (sizeC c), .int .i64 (c.u * c.b)]), .pointer (some ⟨p, 0, none⟩), (.agg #[.int .i64 c.id, .int .i64 c.m, .int .i64 c.u, .int .i64 c.b, .int .i64 c.cp, .int .i64 c.z, .int .i64 c.s, .int .i64 c.mt, .int .i64 c.o, .int .i64 c.a, .int .i64 c.l])] w (ReadS w p (getB c rest))) := fun p w h => getState_any c rest p w h HCK.out.2
    clear h1 h2 h3 h4 HSB HSG
    have HEE : Hid ((getB c rest).1.c = c ∧ ErrR (getB c rest).2.2) := ⟨rfl, getB_err c rest⟩
    generalize getB c rest = gb at HGB HSL HCS HEE
    obtain ⟨s, left, er⟩ := gb
    dsimp only at HGB HSL HCS HEE
    go_wp2_with fail
    refine (new_any X cx rest w2 HC1.out.2.2.2.1 HRL.out).mono ?_
    rintro e w3 ⟨rfl, hr, hsz, hb⟩
    have HT : Hid (TIn c (w2.heap.size + 1) gc w.heap.size w.heap.size w (rest, 0) w3.drew ∧ (w.heap.size ≤ w2.heap.size + 1 ∧ gc ≠ w2.heap.size + 1 ∧ w.heap.size ≠ w2.heap.size + 1)) := by
      have h5 := HC1.out.1.lt
      have h6 := HC1.out.2.1.lt
      exact ⟨⟨hr.below (Below.refl w3.heap.size w3).drew (by omega), (HC1.out.1.later hb).later (Below.refl _ _).drew, (HC1.out.2.1.later hb).later (Below.refl _ _).drew, (HC1.out.2.2.1.trans (hb.mono HC1.out.2.2.1.size)).drew, by show w2.heap.size + 1 < w3.heap.size; omega⟩, by omega, by omega, by omega⟩
    clear hb hr hsz y0 y1 y2 y3 y4 y5 y6 y7 y8 y9 y10 y11 y12 y13 y14 f0 f1 f2 f3 f4 f5 f6 f7 f8 f9 f10 f11 f12 f13 f14
    clear HC1
    generalize w2.heap.size + 1 = p at HT ⊢
    have HP := Lib.hid HT.out.2
    have HD := Lib.hid HT.out.1
    clear HT
    go_upto_region 5 with fail
    refine wpG_start [p] (by kernel_rfl) ?_
    generalize w3.drew = wd at HD ⊢
    refine wpG_take (i := 0) (d := 22) (v := ?v5x0) rfl rfl (by kernel_rfl) (by kernel_rfl) (by kernel_rfl) (fun _ _ _ h => h) (by rfl) ?y5x0 ?r5x0
    case y5x0 => (intro w' hSw; obtain ⟨y0, y1, y2, y3, y4, y5, y6, y7, y8, y9, y10⟩ := box11 (HD.out.2.1.turn hSw (by simpa using HP.out.2.1)); go_simp; try (with_reducible rfl))
    simp only [Act.put, List.setIfInBounds_toArray, List.set_cons_zero, List.set_cons_succ]
    refine wpG_take (i := 2) (d := 24) (v := ?v5x2) rfl rfl (by kernel_rfl) (by kernel_rfl) (by kernel_rfl) (fun _ _ _ h => h) (by rfl) ?y5x2 ?r5x2
    case y5x2 => (intro w' hSw; obtain ⟨y0, y1, y2, y3, y4, y5, y6, y7, y8, y9, y10⟩ := box11 (HD.out.2.1.turn hSw (by simpa using HP.out.2.1)); go_simp; try (with_reducible rfl))
    simp only [Act.put, List.setIfInBounds_toArray, List.set_cons_zero, List.set_cons_succ]
    refine wpG_take (i := 3) (d := 25) (v := ?v5x3) rfl rfl (by kernel_rfl) (by kernel_rfl) (by kernel_rfl) (fun _ _ _ h => h) (by rfl) ?y5x3 ?r5x3
    case y5x3 => (intro w' hSw; obtain ⟨y0, y1, y2, y3, y4, y5, y6, y7, y8, y9, y10⟩ := box11 (HD.out.2.1.turn hSw (by simpa using HP.out.2.1)); go_simp; try (with_reducible rfl))
    simp only [Act.put, List.setIfInBounds_toArray, List.set_cons_zero, List.set_cons_succ]
    refine wpG_island (fuel := 1) [(1, 23), (4, 26)] [(5, 8)] #[true, true, true, true, true, true, false] 3 (fun j w' => TIn c p gc w.heap.size w.heap.size w (match j with | 0 => (rest, 0) | 1 => (rest, 0) | _ => (left, er)) w') (fun i v w' => match i with | 1 => v = .agg #[.int .i64 1, .int .i64 1099511627776, .int .i64 0, .int .i64 1099511627776, .int .i64 0, .int .i64 2, .int .i64 0, .int .i64 1099511627776, .int .i64 (-1), .int .i64 (slotsC c - 1), .int .i64 0, .int .i64 (sizeC c), .int .i64 0, .int .i64 2, .int .i64 1, .int .i64 (sizeC c), .int .i64 (c.u * c.b)] | 4 => ∃ A4 k4 D4 d4, v = .agg #[.int .i64 s.c.id, .int .i64 s.c.m, .int .i64 s.c.u, .int .i64 s.c.b, .int .i64 s.c.cp, .int .i64 s.c.z, .int .i64 s.c.s, .int .i64 s.c.mt, .int .i64 s.c.o, .int .i64 s.c.a, .int .i64 s.c.l, .int .i64 s.ep, .int .i64 s.sq, .slice A4 s.st.length k4, .slice D4 s.zs.length d4] ∧ StAt w' (NW (p + 1) w') A4 s.st k4 D4 s.zs d4 | 5 => ∃ g, v = .pointer (some ⟨g, 0, none⟩) ∧ Box w' g 27 #[.int .i64 0, .int .i64 0, .int .i64 0, .int .i64 0, .int .i64 0, .int .i64 0, .int .i64 0, .int .i64 0, .int .i64 0, .int .i64 0, .int .i64 0, .int .i64 0, .int .i64 0, .slice none 0 0, .slice none 0 0] ∧ wd.heap.size ≤ g | _ => True) (by kernel_rfl) (by kernel_rfl) (by decide) (by decide) (by kernel_rfl) (by kernel_rfl) ?_ (HD.out) ⟨?_, ?_, trivial⟩ ⟨?_, trivial⟩ ?_
    · intro i v w1 w2 hT h
      revert h
      split
      case h_2 => exact fun ⟨A4, k4, D4, d4, e, hs⟩ => ⟨A4, k4, D4, d4, e, NW.turn hT (by simp) hs⟩
      case h_3 => exact fun ⟨g, e, hb, hl⟩ => ⟨g, e, hb.turn hT (by have := HD.out.2.2.2.2; simp; omega), hl⟩
      all_goals exact id
    · as_aux_lemma =>
        intro u w1 hT hX hW a ha K hK
        simp only [List.cons_append, List.nil_append, puts, Act.put, List.setIfInBounds_toArray, List.set_cons_zero, List.set_cons_succ] at ha
        subst ha
        have HX := Lib.hid hX
        clear hX hW HD
        refine wpOp_run rfl (by rfl) ?_
        go_simp
        refine (bounds_any c w1 HCK.out.2).mono ?_
        rintro e w2 ⟨rfl, hb⟩
        exact hK.out _ w2 (Turn.of_below hb (Nat.le_refl _)) (HX.out.later hb (Nat.le_refl _)) rfl
    · as_aux_lemma =>
        intro u w1 hT hX hW a ha K hK
        simp only [List.cons_append, List.nil_append, puts, Act.put, List.setIfInBounds_toArray, List.set_cons_zero, List.set_cons_succ] at ha
        subst ha
        have HX := Lib.hid hX
        have f1 : u 1 = .agg #[.int .i64 1, .int .i64 1099511627776, .int .i64 0, .int .i64 1099511627776, .int .i64 0, .int .i64 2, .int .i64 0, .int .i64 1099511627776, .int .i64 (-1), .int .i64 (slotsC c - 1), .int .i64 0, .int .i64 (sizeC c), .int .i64 0, .int .i64 2, .int .i64 1, .int .i64 (sizeC c), .int .i64 (c.u * c.b)] := hW 1 (by decide) (by kernel_rfl)
        rw [f1] at hK ⊢
        clear f1
        clear hX hW HD
        refine wpOp_run rfl (by rfl) ?_
        go_simp
        refine (HCS.out p w1 HX.out.1).mono ?_
        rintro e w2 ⟨A4, k4, D4, d4, rfl, hs, hr, hg⟩
        have hp1 : p < w1.heap.size := HX.out.2.2.2.2
        exact hK.out _ w2 (Turn.ofGrown hg) (HX.out.call HP.out.1 HP.out.2.1 HP.out.2.2 hr hg (Nat.le_refl _)) ⟨A4, k4, D4, d4, rfl, hs.mono (fun k hk => ⟨by have := hk.1; omega, hk.2⟩)⟩
    · as_aux_lemma =>
        intro u w1 j hT hX hW a ha K hK
        simp only [List.cons_append, List.nil_append, puts, Act.put, List.setIfInBounds_toArray, List.set_cons_zero, List.set_cons_succ] at ha
        subst ha
        have HX := Lib.hid hX
        have HT := Lib.hid hT.size
        clear hX hW HD
        refine wpOp_run rfl (by rfl) ?_
        go_simp
        exact hK.out _ _ ((Turn.refl _ _).alloc _) (HX.out.later (below_one _ _) (Nat.le_refl _)) ⟨_, rfl, Box.fresh w1 27 #[.int .i64 0, .int .i64 0, .int .i64 0, .int .i64 0, .int .i64 0, .int .i64 0, .int .i64 0, .int .i64 0, .int .i64 0, .int .i64 0, .int .i64 0, .int .i64 0, .int .i64 0, .slice none 0 0, .slice none 0 0], HT.out⟩
    · intro u w2 hT hX hF a ha
      simp only [List.cons_append, List.nil_append, puts, Act.put, List.setIfInBounds_toArray, List.set_cons_zero, List.set_cons_succ] at ha
      obtain ⟨g1, g4, g5, -⟩ := hF
      obtain ⟨A4, k4, D4, d4, hv, hst⟩ := g4
      obtain ⟨g, hg, hb, hgw⟩ := g5
      rw [g1, hv, hg] at ha
      subst ha
      have hpw : p < wd.heap.size := HD.out.2.2.2.2
      have HX : Hid (Rdr w2 p left er ∧ Box w2 g 27 #[.int .i64 0, .int .i64 0, .int .i64 0, .int .i64 0, .int .i64 0, .int .i64 0, .int .i64 0, .int .i64 0, .int .i64 0, .int .i64 0, .int .i64 0, .int .i64 0, .int .i64 0, .slice none 0 0, .slice none 0 0] ∧ Box w2 w.heap.size 27 #[.int .i64 0, .int .i64 0, .int .i64 0, .int .i64 0, .int .i64 0, .int .i64 0, .int .i64 0, .int .i64 0, .int .i64 0, .int .i64 0, .int .i64 0, .int .i64 0, .int .i64 0, .slice none 0 0, .slice none 0 0] ∧ Below w.heap.size w w2 ∧ StAt w2 (NW (p + 1) w2) A4 s.st k4 D4 s.zs d4 ∧ p < g ∧ w.heap.size < g ∧ w.heap.size ≤ w2.heap.size) := ⟨hX.1, hb, hX.2.2.1, hX.2.2.2.1, hst, by omega, by have := HP.out.1; omega, hX.2.2.2.1.size⟩
      have HRT : Hid (w.heap.size ≠ g) := by show _ ≠ _; have := HP.out.1; omega
      clear g1 hv hg hb hst hT hX HD hpw HCS HCK
      refine ⟨[p, g], fun k hk => ?_, ?_⟩
      · rcases List.mem_cons.1 hk with rfl | hk
        · exact Or.inl (by simp)
        · have : k = g := by simpa using hk
          exact Or.inr (by omega)
      clear hgw
      generalize u 1 = u1, u 4 = u4
      refine wpG_do (i := 6) (by kernel_rfl) rfl (by rfl) (fun K hK => ?_)
      refine oper_store27 (.tmp 8) (.tmp 26) rfl g #[.int .i64 s.c.id, .int .i64 s.c.m, .int .i64 s.c.u, .int .i64 s.c.b, .int .i64 s.c.cp, .int .i64 s.c.z, .int .i64 s.c.s, .int .i64 s.c.mt, .int .i64 s.c.o, .int .i64 s.c.a, .int .i64 s.c.l, .int .i64 s.ep, .int .i64 s.sq, .slice A4 s.st.length k4, .slice D4 s.zs.length d4] _ HX.out.2.1 rfl rfl (by first | kernel_rfl | simp [Value.oneCell']) rfl rfl (fun w4 q1 q2 => ?_)
      refine hK.out _ _ (q2 _ (by simp)) ?_
      have q3 := q2 [g] (by simp)
      have HY : Hid (Rdr w4 p left er ∧ Box w4 g 27 #[.int .i64 s.c.id, .int .i64 s.c.m, .int .i64 s.c.u, .int .i64 s.c.b, .int .i64 s.c.cp, .int .i64 s.c.z, .int .i64 s.c.s, .int .i64 s.c.mt, .int .i64 s.c.o, .int .i64 s.c.a, .int .i64 s.c.l, .int .i64 s.ep, .int .i64 s.sq, .slice A4 s.st.length k4, .slice D4 s.zs.length d4] ∧ Box w4 w.heap.size 27 #[.int .i64 0, .int .i64 0, .int .i64 0, .int .i64 0, .int .i64 0, .int .i64 0, .int .i64 0, .int .i64 0, .int .i64 0, .int .i64 0, .int .i64 0, .int .i64 0, .int .i64 0, .slice none 0 0, .slice none 0 0] ∧ Below w.heap.size w w4 ∧ StAt w4 (NW (p + 1) w4) A4 s.st k4 D4 s.zs d4) := by
        obtain ⟨h1, h2, h3, h4, h5, h6, h7, h8⟩ := HX.out
        have qb : Below (p + 1) w2 w4 := q3.below (fun k hk => by have : k = g := by { simpa using hk }; omega) (by have := h2.lt; omega)
        refine ⟨h1.below qb (Nat.lt_succ_self _), q1, h3.turn q3 (by simpa using HRT.out), h4.trans (qb.mono (by have := HP.out.1; omega)), ?_⟩
        exact (NW.keep (fun k hk => q3.block k hk.lt (by simpa using hk.box h2 (Or.inl rfl))) h5)
      clear hK HX q1 q2 q3
      simp only [Act.put]
      refine wpG_done (by kernel_rfl) ?_
      go_wp2_with fail
      refine (err_any left er p w4 HY.out.1).mono ?_
      rintro e w5 ⟨rfl, rfl⟩
      obtain ⟨y0, y1, y2, y3, y4, y5, y6, y7, y8, y9, y10, y11, y12, y13, y14⟩ := box15 HY.out.2.2.1
      obtain ⟨f0, f1, f2, f3, f4, f5, f6, f7, f8, f9, f10, f11, f12, f13, f14⟩ := froz15 HY.out.2.2.1
      obtain ⟨z0, z1, z2, z3, z4, z5, z6, z7, z8, z9, z10, z11, z12, z13, z14⟩ := box15 HY.out.2.1
      by_cases he : er = 0
      · subst he
        by_cases hln : left.length = 0
        · obtain rfl : left = [] := List.eq_nil_of_length_eq_zero hln
          clear hln
          go_wp2_with fail
          refine (left_any [] 0 p w4 HY.out.1).mono ?_
          rintro e w5 ⟨rfl, rfl⟩
          go_wp2_with fail
          refine (right_any s.c s.ep s.sq A4 s.st k4 D4 s.zs d4 w4 (HY.out.2.2.2.2.mono (fun k hk => hk.lt)) (by have := HSL.out; omega) (by have := HSL.out; omega)).mono ?_
          rintro e w5 ⟨b5, rfl, hr5, hb⟩
          have HE := Lib.hid hr5
          have HZ : Hid (Box w5 g 27 #[.int .i64 s.c.id, .int .i64 s.c.m, .int .i64 s.c.u, .int .i64 s.c.b, .int .i64 s.c.cp, .int .i64 s.c.z, .int .i64 s.c.s, .int .i64 s.c.mt, .int .i64 s.c.o, .int .i64 s.c.a, .int .i64 s.c.l, .int .i64 s.ep, .int .i64 s.sq, .slice A4 s.st.length k4, .slice D4 s.zs.length d4] ∧ Box w5 w.heap.size 27 #[.int .i64 0, .int .i64 0, .int .i64 0, .int .i64 0, .int .i64 0, .int .i64 0, .int .i64 0, .int .i64 0, .int .i64 0, .int .i64 0, .int .i64 0, .int .i64 0, .int .i64 0, .slice none 0 0, .slice none 0 0] ∧ Below w.heap.size w w5 ∧ StAt w5 (NW (p + 1) w5) A4 s.st k4 D4 s.zs d4) := ⟨HY.out.2.1.later hb, HY.out.2.2.1.later hb, HY.out.2.2.2.1.trans (hb.mono HY.out.2.2.2.1.size), NW.keep (fun k hk => hb.block k hk.lt) HY.out.2.2.2.2⟩
          clear hr5 hb HY y0 y1 y2 y3 y4 y5 y6 y7 y8 y9 y10 y11 y12 y13 y14 f0 f1 f2 f3 f4 f5 f6 f7 f8 f9 f10 f11 f12 f13 f14 z0 z1 z2 z3 z4 z5 z6 z7 z8 z9 z10 z11 z12 z13 z14
          obtain ⟨y0, y1, y2, y3, y4, y5, y6, y7, y8, y9, y10, y11, y12, y13, y14⟩ := box15 HZ.out.2.1
          obtain ⟨f0, f1, f2, f3, f4, f5, f6, f7, f8, f9, f10, f11, f12, f13, f14⟩ := froz15 HZ.out.2.1
          obtain ⟨z0, z1, z2, z3, z4, z5, z6, z7, z8, z9, z10, z11, z12, z13, z14⟩ := box15 HZ.out.1
          cases b5 with
          | true =>
            have HW : Hid (GetS b s) := (HGB.out s).2 (by simpa using HE.out)
            clear HE HGB
            go_wp2_with (first | (refine list_load27 rfl (.tmp 8) rfl g #[.int .i64 s.c.id, .int .i64 s.c.m, .int .i64 s.c.u, .int .i64 s.c.b, .int .i64 s.c.cp, .int .i64 s.c.z, .int .i64 s.c.s, .int .i64 s.c.mt, .int .i64 s.c.o, .int .i64 s.c.a, .int .i64 s.c.l, .int .i64 s.ep, .int .i64 s.sq, .slice A4 s.st.length k4, .slice D4 s.zs.length d4] HZ.out.1 rfl rfl ?_) | (refine list_store27 rfl (.tmp 2) (.tmp 42) rfl w.heap.size #[.int .i64 s.c.id, .int .i64 s.c.m, .int .i64 s.c.u, .int .i64 s.c.b, .int .i64 s.c.cp, .int .i64 s.c.z, .int .i64 s.c.s, .int .i64 s.c.mt, .int .i64 s.c.o, .int .i64 s.c.a, .int .i64 s.c.l, .int .i64 s.ep, .int .i64 s.sq, .slice A4 s.st.length k4, .slice D4 s.zs.length d4] _ HZ.out.2.1 rfl rfl (by first | kernel_rfl | simp [Value.oneCell']) rfl rfl (fun w6 q1 q2 => ?_)))
            have hb6 : Below w.heap.size w w6 := HZ.out.2.2.1.trans ((q2 [w.heap.size] (by simp)).below (by simp) (by have := HZ.out.2.2.1.size; omega))
            refine bodyPost_ret (v := .tuple #[.agg #[.int .i64 s.c.id, .int .i64 s.c.m, .int .i64 s.c.u, .int .i64 s.c.b, .int .i64 s.c.cp, .int .i64 s.c.z, .int .i64 s.c.s, .int .i64 s.c.mt, .int .i64 s.c.o, .int .i64 s.c.a, .int .i64 s.c.l, .int .i64 s.ep, .int .i64 s.sq, .slice A4 s.st.length k4, .slice D4 s.zs.length d4], .int .i64 0]) (res17 rfl rfl q1 rfl) rfl ⟨Or.inl ⟨s, A4, k4, D4, d4, HW.out, rfl, ?_⟩, hb6⟩
            exact (NW.keep (fun k hk => (q2 [w.heap.size] (by simp)).block k hk.lt (by simpa using hk.box HZ.out.2.1 (Or.inl rfl))) HZ.out.2.2.2).mono (fun k hk => hk.lt)
          | false =>
            have HW : Hid (∀ s', ¬ GetS b s') := fun s' h => by
              obtain ⟨rfl, _, _, h4⟩ := (HGB.out s').1 h
              have := HE.out.2 h4
              simp at this
            clear HE HGB
            go_wp2_with (refine list_store27 rfl (.tmp 2) (.tmp 41) rfl w.heap.size #[.int .i64 0, .int .i64 0, .int .i64 0, .int .i64 0, .int .i64 0, .int .i64 0, .int .i64 0, .int .i64 0, .int .i64 0, .int .i64 0, .int .i64 0, .int .i64 0, .int .i64 0, .slice none 0 0, .slice none 0 0] _ HZ.out.2.1 rfl rfl (by first | kernel_rfl | simp [Value.oneCell']) rfl rfl (fun w6 q1 q2 => ?_))
            refine bodyPost_ret (v := .tuple #[.agg #[.int .i64 0, .int .i64 0, .int .i64 0, .int .i64 0, .int .i64 0, .int .i64 0, .int .i64 0, .int .i64 0, .int .i64 0, .int .i64 0, .int .i64 0, .int .i64 0, .int .i64 0, .slice none 0 0, .slice none 0 0], .int .i64 13]) (res17 rfl rfl q1 rfl) rfl ⟨Or.inr ⟨13, Or.inl rfl, rfl, HW.out⟩, HZ.out.2.2.1.trans ((q2 [w.heap.size] (by simp)).below (by simp) (by have := HZ.out.2.2.1.size; omega))⟩
        · have hpos : 0 < left.length := by omega
          have HW : Hid (∀ s', ¬ GetS b s') := fun s' h => by
            obtain ⟨_, _, h3, _⟩ := (HGB.out s').1 h
            rw [h3] at hpos
            simp at hpos
          clear HGB hln
          go_wp2_with fail
          refine (left_any left 0 p w4 HY.out.1).mono ?_
          rintro e w5 ⟨rfl, rfl⟩
          go_wp2_with (refine list_store27 rfl (.tmp 2) (.tmp 41) rfl w.heap.size #[.int .i64 0, .int .i64 0, .int .i64 0, .int .i64 0, .int .i64 0, .int .i64 0, .int .i64 0, .int .i64 0, .int .i64 0, .int .i64 0, .int .i64 0, .int .i64 0, .int .i64 0, .slice none 0 0, .slice none 0 0] _ HY.out.2.2.1 rfl rfl (by first | kernel_rfl | simp [Value.oneCell']) rfl rfl (fun w6 q1 q2 => ?_))
          refine bodyPost_ret (v := .tuple #[.agg #[.int .i64 0, .int .i64 0, .int .i64 0, .int .i64 0, .int .i64 0, .int .i64 0, .int .i64 0, .int .i64 0, .int .i64 0, .int .i64 0, .int .i64 0, .int .i64 0, .int .i64 0, .slice none 0 0, .slice none 0 0], .int .i64 13]) (res17 rfl rfl q1 rfl) rfl ⟨Or.inr ⟨13, Or.inl rfl, rfl, HW.out⟩, HY.out.2.2.2.1.trans ((q2 [w.heap.size] (by simp)).below (by simp) (by have := HY.out.2.2.2.1.size; omega))⟩
      · have heb : (er != 0) = true := by simpa using he
        have HW : Hid ((er = 13 ∨ er = 14) ∧ ∀ s', ¬ GetS b s') := ⟨HEE.out.2.elim (fun h => absurd h he) id, fun s' h => he ((HGB.out s').1 h).2.1⟩
        clear HGB he
        go_wp2_with (refine list_store27 rfl (.tmp 2) (.tmp 31) rfl w.heap.size #[.int .i64 0, .int .i64 0, .int .i64 0, .int .i64 0, .int .i64 0, .int .i64 0, .int .i64 0, .int .i64 0, .int .i64 0, .int .i64 0, .int .i64 0, .int .i64 0, .int .i64 0, .slice none 0 0, .slice none 0 0] _ HY.out.2.2.1 rfl rfl (by first | kernel_rfl | simp [Value.oneCell']) rfl rfl (fun w6 q1 q2 => ?_))
        refine bodyPost_ret (v := .tuple #[.agg #[.int .i64 0, .int .i64 0, .int .i64 0, .int .i64 0, .int .i64 0, .int .i64 0, .int .i64 0, .int .i64 0, .int .i64 0, .int .i64 0, .int .i64 0, .int .i64 0, .int .i64 0, .slice none 0 0, .slice none 0 0], .int .i64 er]) (res17 rfl rfl q1 rfl) rfl ⟨Or.inr ⟨er, HW.out.1, rfl, HW.out.2⟩, HY.out.2.2.2.1.trans ((q2 [w.heap.size] (by simp)).below (by simp) (by have := HY.out.2.2.2.1.size; omega))⟩
  · have heb : (er != 0) = true := by simpa using he
    obtain ⟨h1, h2⟩ := HSB.out he
    have HE := Lib.hid (And.intro h1 h2)
    clear he h1 h2 HSB HSG
    go_wp2_with (refine list_store27 rfl (.tmp 2) (.tmp 18) rfl w.heap.size #[.int .i64 0, .int .i64 0, .int .i64 0, .int .i64 0, .int .i64 0, .int .i64 0, .int .i64 0, .int .i64 0, .int .i64 0, .int .i64 0, .int .i64 0, .int .i64 0, .int .i64 0, .slice none 0 0, .slice none 0 0] _ HC1.out.2.1 rfl rfl (by first | kernel_rfl | simp [Value.oneCell']) rfl rfl (fun w3 q1 q2 => ?_))
    refine bodyPost_ret (v := .tuple #[.agg #[.int .i64 0, .int .i64 0, .int .i64 0, .int .i64 0, .int .i64 0, .int .i64 0, .int .i64 0, .int .i64 0, .int .i64 0, .int .i64 0, .int .i64 0, .int .i64 0, .int .i64 0, .slice none 0 0, .slice none 0 0], .int .i64 er]) (res17 rfl rfl q1 rfl) rfl ⟨Or.inr ⟨er, HE.out.1, rfl, HE.out.2⟩, HC1.out.2.2.1.trans ((q2 [w.heap.size] (by simp)).below (by simp) (by have := HC1.out.2.2.1.size; omega))⟩
end Go.Proofs.Ytaceaemombnhkaa
