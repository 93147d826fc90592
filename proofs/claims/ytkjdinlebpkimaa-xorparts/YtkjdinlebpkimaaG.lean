/- What lacks: the plain part; contracts with blocks handed back. -/
import Derived.Test.YtkjdinlebpkimaaF
namespace Go.Proofs.Ytkjdinlebpkimaa
set_option linter.unusedVariables false
open Go.RowKit
open Go.RowKit (wrap64)

/-- All but the one at k, of the first j, the last one first. -/
def restL (F : List (List UInt8)) (k : Nat) : Nat → List (List UInt8)
  | 0 => []
  | j + 1 => if j = k then restL F k j else F.getD j [] :: restL F k j

theorem at0_foldl (i : Nat) : ∀ (L : List (List UInt8)) (a : List UInt8), at0 (L.foldl intoL a) i = at0 a i ^^^ at0 (ofL L) i
  | [], a => by simp [ofL, at0_nil]
  | p :: L, a => by
    have h1 := at0_foldl i L (intoL a p)
    have h2 := at0_foldl i L (intoL [] p)
    simp only [List.foldl_cons, ofL] at h1 h2 ⊢
    rw [h1, h2, at0_intoL, at0_intoL, at0_nil, UInt8.zero_xor, UInt8.xor_assoc]
theorem at0_cons (p : List UInt8) (L : List (List UInt8)) (i : Nat) : at0 (ofL (p :: L)) i = at0 p i ^^^ at0 (ofL L) i := by
  show at0 (L.foldl intoL (intoL [] p)) i = _
  rw [at0_foldl, at0_intoL, at0_nil, UInt8.zero_xor]
theorem at0_snoc (p : List UInt8) (L : List (List UInt8)) (i : Nat) : at0 (ofL (L ++ [p])) i = at0 (ofL L) i ^^^ at0 p i := by
  rw [ofL_snoc, at0_intoL]

theorem lacks_at (F : List (List UInt8)) (k i : Nat) : ∀ j, j ≤ F.length → at0 (ofL (F.take j)) i = at0 (ofL (restL F k j)) i ^^^ (if k < j then at0 (F.getD k []) i else 0)
  | 0, _ => by simp [restL]
  | j + 1, hj => by
    have h := lacks_at F k i j (by omega)
    have hg : F.getD j [] = F[j] := by simp [List.getD, show j < F.length by omega]
    rw [List.take_succ_eq_append_getElem (show j < F.length by omega), at0_snoc, h, restL]
    by_cases hjk : j = k
    · subst hjk
      rw [if_pos rfl, if_neg (by omega), if_pos (by omega), hg, UInt8.xor_zero]
    · rw [if_neg hjk, at0_cons, hg]
      have e : (k < j) = (k < j + 1) := propext (by omega)
      simp only [e]
      generalize at0 (ofL (restL F k j)) i = y
      generalize at0 F[j] i = z
      generalize (if k < j + 1 then at0 (F.getD k []) i else 0) = c
      rw [UInt8.xor_comm z y, UInt8.xor_assoc, UInt8.xor_assoc, UInt8.xor_comm c z]

theorem ofL_len {L : List (List UInt8)} {s : Nat} (h : ∀ l ∈ L, l.length = s) (h0 : 0 < L.length) : (ofL L).length = s := by
  have h1 : (ofL L).length ≤ s := most_le fun l hl => Nat.le_of_eq (h l hl)
  have h2 : L[0].length ≤ (ofL L).length := le_most (List.getElem_mem h0)
  have h3 := h L[0] (List.getElem_mem h0)
  omega
theorem restL_mem {F : List (List UInt8)} {k : Nat} : ∀ {j : Nat}, j ≤ F.length → ∀ l ∈ restL F k j, l ∈ F
  | 0, _, l, h => by cases h
  | j + 1, hj, l, h => by
    rw [restL] at h
    split at h
    · exact restL_mem (by omega) l h
    · rcases List.mem_cons.1 h with rfl | h
      · simp [List.getD, show j < F.length by omega]
      · exact restL_mem (by omega) l h
theorem restL_len (F : List (List UInt8)) (k : Nat) : ∀ j, (restL F k j).length ≤ j
  | 0 => Nat.le_refl _
  | j + 1 => by
    have := restL_len F k j
    rw [restL]
    split
    · omega
    · simp; omega
theorem lacks (F : List (List UInt8)) (k s : Nat) (hk : k < F.length) (h : ∀ l ∈ F, l.length = s) : ofL (restL F k F.length ++ [ofL F]) = F[k] := by
  have hF := ofL_len h (by omega)
  have hR : (ofL (restL F k F.length ++ [ofL F])).length = s := ofL_len (fun l hl => by
    rcases List.mem_append.1 hl with hl | hl
    · exact h l (restL_mem (Nat.le_refl _) l hl)
    · simp at hl; rw [hl]; exact hF) (by simp)
  refine ext0 (by rw [hR, h _ (List.getElem_mem hk)]) fun i => ?_
  have hl := lacks_at F k i F.length (Nat.le_refl _)
  rw [List.take_length, if_pos hk, show F.getD k [] = F[k] by simp [List.getD, hk]] at hl
  rw [at0_snoc, hl, ← UInt8.xor_assoc, UInt8.xor_self, UInt8.zero_xor]

/-- A block is handed back; what is old has not turned. -/
def GaveB (w : World) (l : List UInt8) (e : Ending) (w' : World) : Prop := ∃ u, e = .returned u ∧ Blk w' u l ∧ Below w.heap.size w w'

theorem of_blk (A : Option Addr) (c : Nat) (ps : List (List UInt8)) (w : World) (hr : Pts w w.heap.size A ps) (hl : ps.length ≤ 1000000) (hm : most ps ≤ 1000000) :
    Calls Try.prog 8 #[.slice A ps.length c] w (GaveB w (ofL ps)) := by
  refine (of_any A c ps w hr hl hm).mono ?_
  rintro e w' ⟨rfl, rfl⟩
  exact ⟨_, rfl, blk_new w _, (Below.refl _ _).alloc (Nat.le_refl _) _⟩

set_option maxHeartbeats 400000 in
theorem rfit_blk (A : Option Addr) (c n : Nat) (l : List UInt8) (w : World) (hr : Rd w w.heap.size A l) (hl : l.length ≤ 100000) (hn : n ≤ 100000) :
    Calls Try.prog 13 #[.slice A l.length c, .int .i64 n] w (GaveB w (fitL l n)) := by
  obtain ⟨i0, hi, hz0, hz1, hz2⟩ := info_parts Try.info5
  have H1 := Lib.hid hi
  have H2 := Lib.hid hz0
  have H3 := Lib.hid hz1
  have H4 := Lib.hid hz2
  have HA := Lib.hid hr
  clear hi hz0 hz1 hz2 hr
  go_enter Try.func13, Try.ntmps13
  go_wp2
  go_loopw [5, 6] (fun v i wr => ∃ k : Nat, k ≤ n ∧ i = .int .i64 k ∧ Own wr w.heap.size 5 v (fitL l k) ∧ Below w.heap.size w wr) (fun _ i _ => n - (intOf i).toNat)
  case atStart => exact ⟨0, by omega, rfl, World.ownsRow_nil _ _ _ _, Below.refl _ _⟩
  case round =>
    obtain ⟨k, hk, rfl, ho, hbl⟩ := hrel
    by_cases hlt : k < n
    · have HO := Lib.hid ho
      have HBL := Lib.hid hbl
      have HS := Lib.hid hbl.size
      have HAR := Lib.hid (HA.out.below hbl)
      have HF := Lib.hid (fitL_succ l k)
      have HN := Lib.hid (fitL_length l k)
      clear ho hbl
      go_wp2_with fail
      refine (at_any A c _ k l _ HAR.out (by omega) (by omega)).mono ?_
      rintro e w' ⟨rfl, rfl⟩
      go_wp2_with (first | (at_builtin; refine wpList_app _ rfl (.tmp 12) (.tmp 16) 23 rfl w.heap.size 5 i0 Try.underlying23 H1.out H2.out H3.out H4.out _ (fitL l k) rfl (own_alloc HO.out _) (wr.heap.size + 1) (some ⟨wr.heap.size, 0, none⟩) 1 [at0 l k] rfl (rd_one _ _ _ rfl) (by rw [HN.out]; simp; omega) (Nat.le_trans HS.out (by simp)) ?_; intro v' w' ho' hg hb'))
      have R := Lib.hid (And.intro ho' ((HBL.out.alloc HS.out _).grown hg (Nat.le_trans HS.out (by simp)) (fun g hg' => (World.ownsRow.lt HO.out g hg').1)))
      rw [← HF.out] at R
      clear ho' hg hb' HO HBL HS HAR HF HN
      go_wp2
      go_roundw
      case rel => exact ⟨k + 1, by omega, by go_num, R.out.1, R.out.2⟩
      case measure => simp [intOf]; omega
    · obtain rfl : k = n := by omega
      have HO := Lib.hid ho
      have HBL := Lib.hid hbl
      clear ho hbl
      go_wp2
      go_ret
      exact ⟨_, rfl, blk_of_own HO.out, HBL.out⟩
end Go.Proofs.Ytkjdinlebpkimaa
