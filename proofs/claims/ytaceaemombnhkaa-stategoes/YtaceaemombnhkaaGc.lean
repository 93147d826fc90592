/- What Get answers, plain: what is put is got. -/
import Derived.Test.YtaceaemombnhkaaGb
import Derived.Test.YtaceaemombnhkaaSm
namespace Go.Proofs.Ytaceaemombnhkaa
set_option linter.unusedVariables false
set_option maxRecDepth 100000
set_option linter.unusedSimpArgs false
open Go.RowKit
open Go.RowKit (wrap64)

theorem wf_in {v : Int} (h1 : -1 ≤ v) (h2 : v ≤ 1152921504606846976) : (Lit.int .i64 v).wf = true := by
  have e : IntKind.i64.min = -9223372036854775808 := rfl
  simp [Lit.wf]
  omega
theorem rF_put (is : Bool) (r : List UInt8) : rF (fB is ++ r) 0 = (is, r, 0) := rF_back is r
theorem rB_put {x r : List UInt8} {most : Int} (h : (x.length : Int) = most) (hl : x.length ≤ 1000000) : rB (le8 x.length ++ x ++ r) 0 most = (x, r, 0) := by
  have h1 := rI_back (v := x.length) (lo := 0) (hi := most) (wf_in (by omega) (by omega)) (by omega) (by omega) (x ++ r)
  rw [← List.append_assoc] at h1
  unfold rB
  rw [h1]
  simp
theorem getP_put {sz pb : Int} {p : Pr} {r : List UInt8} (h : (1 ≤ p.w ∧ p.w ≤ sz) ∧ (p.b.length : Int) = pb) (hs : sz ≤ 1152921504606846976) (hl : p.b.length ≤ 1000000) : getP sz pb (putP p ++ r, 0) = (p, (r, 0)) := by
  have h1 := rI_back (v := p.w) (lo := 1) (hi := sz) (wf_in (by omega) (by omega)) h.1.1 h.1.2 ((le8 p.b.length ++ p.b) ++ r)
  have e : putP p ++ r = le8 p.w ++ ((le8 p.b.length ++ p.b) ++ r) := by unfold putP; rw [List.append_assoc]
  rw [e]
  unfold getP
  dsimp only
  rw [h1]
  dsimp only
  rw [rB_put h.2 hl]
theorem getPs_put {sz pb : Int} (hs : sz ≤ 1152921504606846976) (l : List Pr) (h : ∀ p ∈ l, ((1 ≤ p.w ∧ p.w ≤ sz) ∧ (p.b.length : Int) = pb) ∧ p.b.length ≤ 1000000) (r : List UInt8) : ∀ n, n ≤ l.length → getPs sz pb n (putPs l ++ r, 0) = (l.take n, (putPs (l.drop n) ++ r, 0))
  | 0, _ => by simp [getPs]
  | n + 1, hn => by
    have ih := getPs_put hs l h r n (by omega)
    have hp := h _ (List.getElem_mem (show n < l.length by omega))
    have hd : l.drop n = l[n] :: l.drop (n + 1) := List.drop_eq_getElem_cons (by omega)
    show ((getPs sz pb n _).1 ++ [(getP sz pb (getPs sz pb n _).2).1], (getP sz pb (getPs sz pb n _).2).2) = _
    rw [ih, hd]
    show (l.take n ++ [(getP sz pb (putP l[n] ++ putPs (l.drop (n + 1)) ++ r, 0)).1], (getP sz pb (putP l[n] ++ putPs (l.drop (n + 1)) ++ r, 0)).2) = _
    rw [List.append_assoc, getP_put hp.1 hs hp.2, List.take_succ_eq_append_getElem (by omega)]
theorem getIs_put (l : List Int) (h : ∀ n ∈ l, 0 ≤ n ∧ n ≤ 2) (r : List UInt8) : ∀ n, n ≤ l.length → getIs n (putIs l ++ r, 0) = (l.take n, (putIs (l.drop n) ++ r, 0))
  | 0, _ => by simp [getIs]
  | n + 1, hn => by
    have ih := getIs_put l h r n (by omega)
    have hp := h _ (List.getElem_mem (show n < l.length by omega))
    have hd : l.drop n = l[n] :: l.drop (n + 1) := List.drop_eq_getElem_cons (by omega)
    show ((getIs n _).1 ++ [(rI (getIs n _).2.1 (getIs n _).2.2 0 2).1], (rI (getIs n _).2.1 (getIs n _).2.2 0 2).2) = _
    rw [ih, hd]
    show (l.take n ++ [(rI (le8 l[n] ++ putIs (l.drop (n + 1)) ++ r) 0 0 2).1], (rI (le8 l[n] ++ putIs (l.drop (n + 1)) ++ r) 0 0 2).2) = _
    rw [List.append_assoc, rI_back (wf_in (by omega) (by omega)) hp.1 hp.2, List.take_succ_eq_append_getElem (by omega)]
/-- A zone that may be put and got. -/
def PutZ (sl sz pb : Int) (z : Zn) : Prop := (0 ≤ z.gen ∧ z.gen ≤ 1099511627776) ∧ (-1 ≤ z.slot ∧ z.slot ≤ sl) ∧ (0 ≤ z.w ∧ z.w ≤ sz) ∧ z.ps.length ≤ 2 ∧ ∀ p ∈ z.ps, ((1 ≤ p.w ∧ p.w ≤ sz) ∧ (p.b.length : Int) = pb) ∧ p.b.length ≤ 1000000
theorem getZ_put {sl sz pb : Int} {z : Zn} {r : List UInt8} (h : PutZ sl sz pb z) (hs : sz ≤ 1152921504606846976) (hl : sl ≤ 1152921504606846976) : getZ sl sz pb (putZ z ++ r, 0) = (z, (r, 0)) := by
  obtain ⟨h1, h2, h3, h4, h5⟩ := h
  have e : putZ z ++ r = le8 z.gen ++ (le8 z.slot ++ (fB z.full ++ (le8 z.w ++ (fB z.whole ++ (le8 (z.ps.length : Int) ++ (putPs z.ps ++ r)))))) := by
    unfold putZ headZ
    simp only [List.append_assoc]
  have hh : getH sl sz (putZ z ++ r, 0) = ((z.gen, z.slot, z.full, z.w, z.whole, (z.ps.length : Int)), (putPs z.ps ++ r, 0)) := by
    rw [e]
    unfold getH
    dsimp only
    rw [rI_back (wf_in (by omega) (by omega)) h1.1 h1.2]
    dsimp only
    rw [rI_back (wf_in (by omega) (by omega)) h2.1 h2.2]
    dsimp only
    rw [rF_put]
    dsimp only
    rw [rI_back (wf_in (by omega) (by omega)) h3.1 h3.2]
    dsimp only
    rw [rF_put]
    dsimp only
    rw [rI_back (wf_in (by omega) (by omega)) (by omega) (by omega)]
  have hp := getPs_put hs z.ps h5 r z.ps.length (Nat.le_refl _)
  rw [List.take_length, List.drop_length] at hp
  unfold getZ
  rw [hh]
  dsimp only
  rw [Int.toNat_natCast, hp]
  rfl
theorem getZs_put {sl sz pb : Int} (hs : sz ≤ 1152921504606846976) (hl : sl ≤ 1152921504606846976) (l : List Zn) (h : ∀ z ∈ l, PutZ sl sz pb z) (r : List UInt8) : ∀ n, n ≤ l.length → getZs sl sz pb n (putZs l ++ r, 0) = (l.take n, (putZs (l.drop n) ++ r, 0))
  | 0, _ => by simp [getZs]
  | n + 1, hn => by
    have ih := getZs_put hs hl l h r n (by omega)
    have hp := h _ (List.getElem_mem (show n < l.length by omega))
    have hd : l.drop n = l[n] :: l.drop (n + 1) := List.drop_eq_getElem_cons (by omega)
    show ((getZs sl sz pb n _).1 ++ [(getZ sl sz pb (getZs sl sz pb n _).2).1], (getZ sl sz pb (getZs sl sz pb n _).2).2) = _
    rw [ih, hd]
    show (l.take n ++ [(getZ sl sz pb (putZ l[n] ++ putZs (l.drop (n + 1)) ++ r, 0)).1], (getZ sl sz pb (putZ l[n] ++ putZs (l.drop (n + 1)) ++ r, 0)).2) = _
    rw [List.append_assoc, getZ_put hp hs hl, List.take_succ_eq_append_getElem (by omega)]
theorem right_put {s : St} (h : RightS s) : ∀ z ∈ s.zs, PutZ (slotsC s.c - 1) (sizeC s.c) (s.c.u * s.c.b) z := fun z hz => by
  have hb := h.be z hz
  have hp := (right_sizes h).2.2 z hz
  exact ⟨hb.gen, hb.slot, hb.end_.1, hp.1, fun p hm => ⟨hb.have_.1 p hm, by have := hp.2 p hm; omega⟩⟩
theorem getB_put {s : St} (h : RightS s) : getB s.c (le8 s.ep ++ (le8 s.sq ++ (putIs s.st ++ putZs s.zs))) = (s, ([], 0)) := by
  have hsz : sizeC s.c ≤ 1152921504606846976 := by have := (size_in s.c).2; unfold sizeC; omega
  have hsl := slots_in s.c
  have h1 := getIs_put s.st h.stand.1 (putZs s.zs) s.st.length (Nat.le_refl _)
  have h2 := getZs_put hsz (by omega) s.zs (right_put h) [] s.zs.length (Nat.le_refl _)
  rw [List.take_length, List.drop_length] at h1 h2
  have h1 : getIs s.st.length (putIs s.st ++ putZs s.zs, 0) = (s.st, (putZs s.zs, 0)) := h1
  rw [List.append_nil] at h2
  have h2 : getZs (slotsC s.c - 1) (sizeC s.c) (s.c.u * s.c.b) s.zs.length (putZs s.zs, 0) = (s.zs, ([], 0)) := h2
  have e1 : s.c.m.toNat = s.st.length := by have := h.stat; omega
  have e2 : s.c.z.toNat = s.zs.length := by have := h.zone; omega
  have hep := h.ep
  have hsq := h.sq
  unfold getB
  dsimp only
  rw [rI_back (wf_in (by omega) (by omega)) h.ep.1 h.ep.2]
  dsimp only
  rw [rI_back (wf_in (by omega) (by omega)) h.sq.1 h.sq.2]
  dsimp only
  rw [e1, e2, h1]
  dsimp only
  rw [h2]
theorem conf_wf {c : Cf} (h : Good c) : c.wf ∧ allIn (-4611686018427387904) 4611686018427387904 c.list = true := by
  unfold Good at h
  have hz : c.z ≤ 64 ∧ c.s ≤ 64 ∧ c.mt ≤ 64 ∧ c.o ≤ 64 ∧ c.a ≤ 64 := by omega
  refine ⟨fun n hn => ?_, ?_⟩
  · simp only [Cf.list, Cf.rest, List.mem_cons, List.not_mem_nil, or_false] at hn
    rcases hn with rfl | rfl | rfl | rfl | rfl | rfl | rfl | rfl | rfl | rfl | rfl <;> exact wf_in (by omega) (by omega)
  · simp only [allIn, Cf.list, Cf.rest, List.all_cons, List.all_nil, Bool.and_true, Bool.and_eq_true, decide_eq_true_eq]
    omega
/-- P11.5: what is put is got. -/
theorem right_got {s : St} (h : RightS s) : GetS (putS s) s := by
  have hg := check_good0 h.conf
  obtain ⟨hw, ha⟩ := conf_wf hg
  have hn : (les s.c 11).length = 88 := les_length s.c 11 (by omega)
  have hle : 88 ≤ (putS s).length := by unfold putS; rw [List.length_append, hn]; omega
  have ht : (putS s).take (min 88 (putS s).length) = les s.c 11 := by
    rw [Nat.min_eq_left hle]
    unfold putS
    rw [← hn, List.take_left]
  have hd : (putS s).drop (min 88 (putS s).length) = le8 s.ep ++ (le8 s.sq ++ (putIs s.st ++ putZs s.zs)) := by
    rw [Nat.min_eq_left hle]
    unfold putS
    rw [← hn, List.drop_left]
  have hgi := get_in hw ha
  have hb := getB_put h
  refine ⟨?_, ?_, ?_, ?_, ?_, h⟩
  · rw [ht, hgi]
  · rw [ht, hgi]; exact h.conf
  · rw [ht, hd, hgi, hb]
  · rw [ht, hd, hgi, hb]
  · rw [ht, hd, hgi, hb]
end Go.Proofs.Ytaceaemombnhkaa
