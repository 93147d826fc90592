/- Bytes that are read lie in blocks of bytes; a row of parities. -/
import Derived.Test.YtaceaemombnhkaaGd
import Derived.Test.YtaceaemombnhkaaIsl
import Derived.Test.YtaceaemombnhkaaTa
namespace Go.Proofs.Ytaceaemombnhkaa
set_option linter.unusedVariables false
set_option maxRecDepth 100000
set_option linter.unusedSimpArgs false
open Go.RowKit
open Go.RowKit (wrap64)

/-- New blocks of bytes. -/
def NB (lo : Nat) (w : World) : Nat → Prop := fun k => lo ≤ k ∧ Byts w k
theorem Byts.lt {w : World} {k : Nat} (h : Byts w k) : k < w.heap.size := by
  obtain ⟨cs, mk, h⟩ := h
  exact (Array.getElem?_eq_some_iff.1 h).1
theorem Byts.box {w : World} {k g : Nat} {t : TypeId} {cs : Array Value} (h : Byts w k) (hb : Box w g t cs) (ht : t ≠ 5) : k ≠ g := by
  rintro rfl
  obtain ⟨cs', mk, h⟩ := h
  have h' : w.heap[k]? = some (.cells cs t (0, 0)) := hb
  rw [h'] at h
  simp at h
  exact ht h.2.1
theorem Byts.own {w : World} {k base e size n : Nat} {v : Value} {xs : List Value} (h : Byts w k) (hb : w.ownsRow base e size v n xs) (ht : e ≠ 5) : some k ≠ v.ownBlock := by
  rcases hb.2 with ⟨rfl, _⟩ | ⟨g, cap, cur, rfl, _, hh, _⟩
  · simp [Value.ownBlock]
  · intro e
    simp only [Value.ownBlock, Option.some.injEq] at e
    subst e
    obtain ⟨cs', mk, h⟩ := h
    rw [hh] at h
    simp at h
    exact ht h.2.1
theorem Byts.to {w w' : World} {k : Nat} (h : Byts w k) (hk : w'.heap[k]? = w.heap[k]?) : Byts w' k := by
  obtain ⟨cs, mk, h⟩ := h
  exact ⟨cs, mk, hk.trans h⟩
/-- All new blocks of bytes stay. -/
def KeepB (lo : Nat) (w w' : World) : Prop := ∀ k, lo ≤ k → Byts w k → w'.heap[k]? = w.heap[k]?
theorem RdS.keepB {w w' : World} {lo : Nat} {A : Option Addr} {l : List UInt8} (h : RdS w (NB lo w) A l) (hk : KeepB lo w w') : RdS w' (NB lo w') A l := fun hn => by
  obtain ⟨ad, e, hb, hc⟩ := h hn
  exact ⟨ad, e, ⟨hb.1, hb.2.to (hk _ hb.1 hb.2)⟩, fun j u hu => (World.cell?_of_block (by rw [step_block]; exact hk _ hb.1 hb.2)).trans (hc j u hu)⟩
/-- The bytes that a call hands back, in new blocks of bytes. -/
def GaveT (w : World) (l : List UInt8) (e : Ending) (w' : World) : Prop := ∃ A c, e = .returned (.slice A l.length c) ∧ RdS w' (NB w.heap.size w') A l ∧ l.length ≤ c ∧ Below w.heap.size w w'
theorem Own.typed {w : World} {base : Nat} {v : Value} {l : List UInt8} (h : Own w base 5 v l) : ∃ A c, v = .slice A l.length c ∧ RdS w (NB base w) A l ∧ l.length ≤ c := by
  obtain ⟨A, c, rfl, hr, hc, hf⟩ := h.rd
  refine ⟨A, c, rfl, fun hn => ?_, hc⟩
  obtain ⟨ad, rfl, hb, hcl⟩ := hr hn
  refine ⟨ad, rfl, ⟨hf ad rfl, ?_⟩, hcl⟩
  rcases h.2 with ⟨h0, _⟩ | ⟨g, cap, cur, hv, _, hh, _⟩
  · simp at h0
  · simp only [Value.slice.injEq, Option.some.injEq] at hv
    obtain ⟨rfl, _⟩ := hv
    exact ⟨_, _, hh⟩
set_option maxHeartbeats 400000 in
theorem cloneT_some (ad : Addr) (c B : Nat) (l : List UInt8) (w : World) (hr : Rd w B (some ad) l) (hB : B ≤ w.heap.size) (hl : l.length ≤ 10000000) :
    Calls Try.prog 62 #[.slice (some ad) l.length c] w (GaveT w l) := by
  obtain ⟨i0, hi, hz0, hz1, hz2⟩ := info_parts Try.info5
  have hnil := fun w => Lib.run_eql_slice_nil (P := Try.prog) w 28 5 (some ad) l.length c 0 0 Try.underlying28
  have ho : Own (w.alloc (.cells #[] 5)) w.heap.size 5 (.slice (some ⟨w.heap.size, 0, none⟩) 0 0) [] := World.ownsRow_lit w #[] 0 (Nat.le_refl _) (by simp [maxLen]) rfl
  have H0 := Lib.hid ho
  have H1 := Lib.hid hi
  have H2 := Lib.hid hz0
  have H3 := Lib.hid hz1
  have H4 := Lib.hid hz2
  clear ho hi hz0 hz1 hz2
  go_enter Try.func62, Try.ntmps62
  go_wp2_with (at_builtin; refine wpList_app _ rfl (.tmp 5) (.tmp 6) 28 rfl w.heap.size 5 i0 Try.underlying28 H1.out H2.out H3.out H4.out _ [] rfl H0.out B (some ad) c l rfl (hr.alloc hB _) (by simp; omega) (by simp) ?_; intro v' w' ho' hg hb')
  go_ret
  obtain ⟨A, c', rfl, hrd, hc⟩ := ho'.typed
  exact ⟨A, c', rfl, hrd, hc, ((Below.refl _ _).alloc (Nat.le_refl _) _).grown hg (by simp) (fun k hk => Nat.le_of_eq (Option.some.inj hk))⟩
theorem RdS.nil {w : World} {S : Nat → Prop} {A : Option Addr} : RdS w S A [] := fun h => absurd h (by simp)
theorem cloneT_any (A : Option Addr) (c B : Nat) (l : List UInt8) (w : World) (hr : Rd w B A l) (hB : B ≤ w.heap.size) (hl : l.length ≤ 10000000) :
    Calls Try.prog 62 #[.slice A l.length c] w (GaveT w l) := by
  rcases A with _ | ad
  · obtain rfl : l = [] := by
      rcases Nat.eq_zero_or_pos l.length with h0 | h0
      · exact List.eq_nil_of_length_eq_zero h0
      · obtain ⟨ad, h, _⟩ := hr h0
        cases h
    have hnil := fun w => Lib.run_eql_slice_nil (P := Try.prog) w 28 5 none 0 c 0 0 Try.underlying28
    go_enter Try.func62, Try.ntmps62
    go_wp2
    go_ret
    exact ⟨none, 0, rfl, RdS.nil, Nat.le_refl _, Below.refl _ _⟩
  · exact cloneT_some ad c B l w hr hB hl
theorem cloneT_of (A : Option Addr) (c B n : Nat) (l : List UInt8) (w : World) (hn : l.length = n) (hr : Rd w B A l) (hB : B ≤ w.heap.size) (hl : l.length ≤ 10000000) :
    Calls Try.prog 62 #[.slice A n c] w (GaveT w l) := by
  subst hn
  exact cloneT_any A c B l w hr hB hl
def GotB (w : World) (p : Nat) (q : List UInt8 × List UInt8 × Int) (e : Ending) (w' : World) : Prop :=
  ∃ A c, e = .returned (.slice A q.1.length c) ∧ RdS w' (NB w.heap.size w') A q.1 ∧ q.1.length ≤ c ∧ q.1.length ≤ 10000000 ∧ Rdr w' p q.2.1 q.2.2 ∧ w.grownBy w' (some p)
theorem RdS.more {w : World} {lo lo' : Nat} {A : Option Addr} {l : List UInt8} (h : RdS w (NB lo w) A l) (hl : lo' ≤ lo) : RdS w (NB lo' w) A l := h.mono fun k hk => ⟨Nat.le_trans hl hk.1, hk.2⟩
set_option maxHeartbeats 400000 in
theorem rBytesT_any (l : List UInt8) (er most : Int) (p : Nat) (w : World) (h : Rdr w p l er) :
    Calls Try.prog 95 #[.pointer (some ⟨p, 0, none⟩), .int .i64 most] w (GotB w p (rB l er most)) := by
  have hnn := rI_nonneg l er most
  have hI := rInt_any l er 0 most p w h
  unfold rB
  generalize rI l er 0 most = q at hnn hI ⊢
  obtain ⟨v, l1, e1⟩ := q
  simp only at hnn hI ⊢
  have HI := Lib.hid hI
  clear hI
  by_cases he : e1 = 0
  · subst he
    have hv := hnn rfl
    obtain ⟨n, rfl⟩ : ∃ n : Nat, v = (n : Int) := ⟨v.toNat, by omega⟩
    clear hnn hv
    by_cases hn : l1.length < n
    · have eq : (if (0 : Int) = 0 then if l1.length < ((n : Int)).toNat then (([] : List UInt8), l1, (14 : Int)) else (l1.take (n : Int).toNat, l1.drop (n : Int).toNat, 0) else ([], l1, 0)) = ([], l1, 14) := by
        simp [hn]
      rw [eq]
      go_enter Try.func95, Try.ntmps95
      go_wp2_with fail
      refine HI.out.mono ?_
      rintro e w1 ⟨rfl, ⟨A, c, hb, hr, hk, hc⟩, hg⟩
      go_wp2_with fail
      refine (take_short n n rfl _ A l1.length c _ hb hn).mono ?_
      rintro e w' ⟨rfl, rfl⟩
      have hB := Lib.hid (hb.store 1 (.int .i64 14))
      have hr' := hr.setCell (p := ⟨p, 1, none⟩) (Nat.le_refl p) (.int .i64 14)
      have g1 : w.grownBy (w1.setCell ⟨p, 1, none⟩ (.int .i64 14)) (some p) := turned_store hg (.inl rfl) _
      have HK := Lib.hid (And.intro hk hc)
      clear hn hk hc hb hr hg eq HI h
      go_wp2
      go_ret
      exact ⟨none, 0, rfl, RdS.nil, Nat.le_refl _, Nat.zero_le _, ⟨A, c, hB.out, hr', HK.out.1, HK.out.2⟩, g1⟩
    · have eq : (if (0 : Int) = 0 then if l1.length < ((n : Int)).toNat then (([] : List UInt8), l1, (14 : Int)) else (l1.take (n : Int).toNat, l1.drop (n : Int).toNat, 0) else ([], l1, 0)) = (l1.take n, l1.drop n, 0) := by
        simp [hn]
      rw [eq]
      go_enter Try.func95, Try.ntmps95
      go_wp2_with fail
      refine HI.out.mono ?_
      rintro e w1 ⟨rfl, ⟨A, c, hb, hr, hk, hc⟩, hg⟩
      go_wp2_with fail
      refine (take_ok n n rfl _ A l1.length c _ hb (by omega) hk hc).mono ?_
      rintro e w' ⟨rfl, rfl⟩
      have hB := Lib.hid (hb.store 0 (cutS A l1.length c n))
      have hr' := hr.setCell (p := ⟨p, 0, none⟩) (Nat.le_refl p) (cutS A l1.length c n)
      have hp : p ≤ (w1.setCell ⟨p, 0, none⟩ (cutS A l1.length c n)).heap.size := by have := hb.lt; simp [World.setCell]; omega
      have hp' : p < (w1.setCell ⟨p, 0, none⟩ (cutS A l1.length c n)).heap.size := by have := hb.lt; simp [World.setCell]; omega
      have g1 : w.grownBy (w1.setCell ⟨p, 0, none⟩ (cutS A l1.length c n)) (some p) := turned_store hg (.inl rfl) _
      have hnl : (l1.take n).length = n := by rw [List.length_take]; omega
      have hR : Rdr (w1.setCell ⟨p, 0, none⟩ (cutS A l1.length c n)) p (l1.drop n) 0 := Rdr.cut (A := A) (c := c) (n := n) hB.out hr' (by omega) hk hc
      have HN := Lib.hid hnl
      have HNM : Hid (n ≤ 10000000) := by show _ ≤ _; omega
      clear hb hr hg eq HI h hnl hB
      go_wp2_with fail
      refine (cloneT_of A c p n (l1.take n) _ HN.out (hr'.take n) hp (by rw [HN.out]; exact HNM.out)).mono ?_
      rintro e w' ⟨A', c', rfl, hrd, hlc, hbel⟩
      have hoff := hrd.more g1.size
      have hR' := hR.below hbel hp'
      have g2 := turned_trans g1 (turned_of_below hbel (some p))
      clear hR g1 hbel hp hp' hr' hk hc hn hrd
      rw [HN.out]
      go_wp2
      go_ret
      exact ⟨A', c', by rw [HN.out]; rfl, hoff, hlc, by rw [HN.out]; exact HNM.out, hR', g2⟩
  · have eq : (if e1 = 0 then if l1.length < v.toNat then (([] : List UInt8), l1, (14 : Int)) else (l1.take v.toNat, l1.drop v.toNat, 0) else ([], l1, e1)) = ([], l1, e1) := by
      simp [he]
    rw [eq]
    go_enter Try.func95, Try.ntmps95
    go_wp2_with fail
    refine HI.out.mono ?_
    rintro e w1 ⟨rfl, hR, hg⟩
    obtain ⟨A, c, hb, hr, hk, hc⟩ := id hR
    go_wp2_with fail
    refine (take_err v e1 _ _ _ hb (by simpa using he)).mono ?_
    rintro e w' ⟨rfl, rfl⟩
    clear hb hr hk hc he hnn
    go_wp2
    go_ret
    exact ⟨none, 0, rfl, RdS.nil, Nat.le_refl _, Nat.zero_le _, hR, hg⟩
/-- A row of parities' cells. -/
def PsRow (w : World) (S : Nat → Prop) : List Pr → List Value → Prop
  | [], xs => xs = []
  | p :: ps, xs => ∃ X x xs', xs = .int .i64 p.w :: .slice X p.b.length x :: xs' ∧ RdS w S X p.b ∧ p.b.length ≤ x ∧ p.b.length ≤ 140737488351232 ∧ PsRow w S ps xs'
theorem PsRow.snoc {w : World} {S : Nat → Prop} : ∀ {ps : List Pr} {xs : List Value} {p : Pr} {X : Option Addr} {x : Nat}, PsRow w S ps xs → RdS w S X p.b → p.b.length ≤ x → p.b.length ≤ 140737488351232 → PsRow w S (ps ++ [p]) (xs ++ [.int .i64 p.w, .slice X p.b.length x])
  | [], _, _, X, x, rfl, h1, h2, h3 => ⟨X, x, [], rfl, h1, h2, h3, rfl⟩
  | q :: ps, _, p, X, x, ⟨Y, y, xs', rfl, g1, g2, g3, g4⟩, h1, h2, h3 => ⟨Y, y, _, rfl, g1, g2, g3, g4.snoc h1 h2 h3⟩
theorem PsRow.length {w : World} {S : Nat → Prop} : ∀ {ps : List Pr} {xs : List Value}, PsRow w S ps xs → xs.length = ps.length * 2
  | [], _, rfl => rfl
  | _ :: _, _, ⟨_, _, _, rfl, _, _, _, g4⟩ => by simp [g4.length]; omega
theorem PsRow.map {w w' : World} {S S' : Nat → Prop} (hr : ∀ A l, RdS w S A l → RdS w' S' A l) : ∀ {ps : List Pr} {xs : List Value}, PsRow w S ps xs → PsRow w' S' ps xs
  | [], _, h => h
  | _ :: _, _, ⟨Y, y, xs', e, g1, g2, g3, g4⟩ => ⟨Y, y, xs', e, hr _ _ g1, g2, g3, g4.map hr⟩
theorem PsRow.keepB {w w' : World} {lo : Nat} {ps : List Pr} {xs : List Value} (h : PsRow w (NB lo w) ps xs) (hk : KeepB lo w w') : PsRow w' (NB lo w') ps xs := h.map fun _ _ h => h.keepB hk
theorem PsRow.at_ {w : World} {S : Nat → Prop} {g off : Nat} : ∀ {ps : List Pr} {xs : List Value} {m : Nat}, PsRow w S ps xs → (∀ j, j < xs.length → w.cell? ⟨g, off + (m * 2 + j), none⟩ = xs[j]?) → ∀ j (hj : j < ps.length), PrAt w S g (off + (m + j) * 2) ps[j]
  | p :: ps, _, m, ⟨X, x, xs', rfl, g1, g2, g3, g4⟩, hc, 0, _ => by
    refine ⟨X, x, ?_, ?_, g1, g2, g3⟩
    · have := hc 0 (by simp)
      simpa [Nat.add_mul] using this
    · have := hc 1 (by simp)
      simpa [Nat.add_mul, Nat.add_assoc] using this
  | p :: ps, _, m, ⟨X, x, xs', rfl, g1, g2, g3, g4⟩, hc, j + 1, hj => by
    have := PsRow.at_ (m := m + 1) g4 (fun i hi => by
      have := hc (i + 2) (by simp; omega)
      rw [show m * 2 + (i + 2) = (m + 1) * 2 + i by omega] at this
      simpa using this) j (by simpa using hj)
    rw [show m + 1 + j = m + (j + 1) by omega] at this
    exact this
/-- The blocks of rows of parities, and of bytes, that are new. -/
def TB (lo : Nat) (w : World) : Nat → Prop := fun k => lo ≤ k ∧ ∃ cs t mk, w.heap[k]? = some (.cells cs t mk) ∧ (t = 5 ∨ t = 55)
theorem NB.tb {lo : Nat} {w : World} : ∀ k, NB lo w k → TB lo w k := fun k ⟨h1, cs, mk, h2⟩ => ⟨h1, cs, 5, mk, h2, Or.inl rfl⟩
theorem TB.lt {lo k : Nat} {w : World} (h : TB lo w k) : k < w.heap.size := by
  obtain ⟨_, _, _, _, h, _⟩ := h
  exact (Array.getElem?_eq_some_iff.1 h).1
theorem TB.box {w : World} {lo k g : Nat} {t : TypeId} {cs : Array Value} (h : TB lo w k) (hb : Box w g t cs) (ht : t ≠ 5) (ht2 : t ≠ 55) : k ≠ g := by
  rintro rfl
  obtain ⟨_, cs', t', mk, h, h'⟩ := h
  have hh : w.heap[k]? = some (.cells cs t (0, 0)) := hb
  rw [hh] at h
  simp at h
  rcases h' with rfl | rfl
  · exact ht h.2.1
  · exact ht2 h.2.1
theorem PsRow.row {w : World} {lo : Nat} {v : Value} {ps : List Pr} {xs : List Value} (h : PsRow w (NB lo w) ps xs) (ho : w.ownsRow lo 55 2 v ps.length xs) : ∃ Y y, v = .slice Y ps.length y ∧ PrsAt w (TB lo w) Y ps ∧ ps.length ≤ y := by
  have ho' := ho
  rcases ho.2 with ⟨rfl, h0⟩ | ⟨g, cap, cur, rfl, hb, hh, hc, _⟩
  · refine ⟨none, 0, by rw [h0], fun hn => absurd hn (by omega), by omega⟩
  · refine ⟨_, cap, rfl, fun hn => ⟨g, 0, rfl, ⟨hb, cur, 55, _, hh, Or.inr rfl⟩, ?_⟩, hc⟩
    have h1 := PsRow.at_ (g := g) (off := 0) (m := 0) h (fun j hj => by
      have := World.ownsRow.cellAt ho' j (by rw [← h.length]; exact hj)
      simpa using this)
    intro j hj
    have h2 := (h1 j hj).mono NB.tb
    simpa using h2
end Go.Proofs.Ytaceaemombnhkaa
