/- Contracts of turned and of a bus's Crash. -/
import Derived.Test.YtbaolfncolfipaaBa
namespace Go.Proofs.Ytbaolfncolfipaa
set_option linter.unusedVariables false
set_option linter.unusedSimpArgs false
open Go.RowKit
open Go.RowKit (wrap64)

/-- Bytes turned by i places to the left. -/
def rot (l : List UInt8) (i : Nat) : List UInt8 := l.drop (i % l.length) ++ l.take (i % l.length)
theorem rot_nil (i : Nat) : rot [] i = [] := by simp [rot]
theorem rot_length (l : List UInt8) (i : Nat) : (rot l i).length = l.length := by
  simp only [rot, List.length_append, List.length_drop, List.length_take]
  by_cases h : l.length = 0
  · omega
  · have := Nat.mod_lt i (Nat.pos_of_ne_zero h)
    omega

set_option maxHeartbeats 1000000 in
theorem turned_any (K : Option Addr) (kc : Nat) (keep : List UInt8) (i : Nat) (w : World) (hi : i ≤ 64) (hl : keep.length ≤ 100000000) (hc : keep.length ≤ kc) (hr : Rd w w.heap.size K keep) :
    Calls Try.prog 30 #[.slice K keep.length kc, .int .i64 (i : Int)] w (GaveC w (rot keep i)) := by
  by_cases h0 : keep.length = 0
  · obtain rfl : keep = [] := List.eq_nil_of_length_eq_zero h0
    clear hr
    simp only [List.length_nil, rot_nil] at *
    go_enter Try.func30, Try.ntmps30
    go_wp2
    go_ret
    exact ⟨none, 0, rfl, Mem.nil, Nat.le_refl _, Below.refl _ _⟩
  · have hlt := Nat.mod_lt i (Nat.pos_of_ne_zero h0)
    have hm : (i : Int) % (keep.length : Int) = ((i % keep.length : Nat) : Int) := by simp
    have hz : ((keep.length : Int) == 0) = false := by rw [beq_eq_false_iff_ne]; omega
    have hle : i % keep.length ≤ i := Nat.mod_le _ _
    have HR := Lib.hid (And.intro (hr.cut (n := i % keep.length) (cap := kc) (by omega) hc) (hr.take (i % keep.length)))
    have HL : Hid ((keep.drop (i % keep.length)).length = keep.length - i % keep.length ∧ (keep.take (i % keep.length)).length = i % keep.length ∧ sumLen [keep.drop (i % keep.length), keep.take (i % keep.length)] ≤ 100000000) := by
      refine ⟨by simp, by simp; omega, ?_⟩
      simp [sumLen]; omega
    have HF : Hid ([keep.drop (i % keep.length), keep.take (i % keep.length)].flatten = rot keep i) := by
      show _ = _
      simp [rot]
    generalize rot keep i = T at HF ⊢
    generalize keep.drop (i % keep.length) = a at HR HL HF
    generalize keep.take (i % keep.length) = b at HR HL HF
    generalize i % keep.length = t at *
    generalize keep.length = n at *
    clear hr
    have ht1 : t ≤ n := by omega
    have hnk : ¬ (kc = t) := by omega
    have htk : t ≤ kc := by omega
    rw [if_neg hnk] at HR
    go_enter Try.func30, Try.ntmps30
    go_wp2_with fail
    refine wpG_start [] (by kernel_rfl) ?_
    have HB : Hid (Below w.heap.size w w.drew) := (Below.refl _ _).drew
    have HS : Hid (Rd w.drew w.drew.heap.size (K.map (·.add t)) a ∧ Rd w.drew w.drew.heap.size K b) := ⟨HR.out.1.below HB.out, HR.out.2.below HB.out⟩
    generalize w.drew = w0 at HB HS ⊢
    clear HR
    refine wpG_take (i := 0) (d := 13) (v := ?v4x0) rfl rfl (by kernel_rfl) (by kernel_rfl) (by kernel_rfl) (fun _ _ _ h => h) (by rfl) ?y4x0 ?r4x0
    case y4x0 => (intro w' hSw; go_simp; try (with_reducible rfl))
    simp only [Act.put, List.setIfInBounds_toArray, List.set_cons_zero, List.set_cons_succ]
    refine wpG_take (i := 1) (d := 14) (v := ?v4x1) rfl rfl (by kernel_rfl) (by kernel_rfl) (by kernel_rfl) (fun _ _ _ h => h) (by rfl) ?y4x1 ?r4x1
    case y4x1 => (intro w' hSw; go_simp; try (with_reducible rfl))
    simp only [Act.put, List.setIfInBounds_toArray, List.set_cons_zero, List.set_cons_succ]
    refine wpG_take (i := 2) (d := 15) (v := ?v4x2) rfl rfl (by kernel_rfl) (by kernel_rfl) (by kernel_rfl) (fun _ _ _ h => h) (by rfl) ?y4x2 ?r4x2
    case y4x2 => (intro w' hSw; go_simp; try (with_reducible rfl))
    simp only [Act.put, List.setIfInBounds_toArray, List.set_cons_zero, List.set_cons_succ]
    refine wpG_take (i := 3) (d := 16) (v := ?v4x3) rfl rfl (by kernel_rfl) (by kernel_rfl) (by kernel_rfl) (fun _ _ _ h => h) (by rfl) ?y4x3 ?r4x3
    case y4x3 => (intro w' hSw; go_simp; try (with_reducible rfl))
    simp only [Act.put, List.setIfInBounds_toArray, List.set_cons_zero, List.set_cons_succ]
    refine wpG_take (i := 4) (d := 17) (v := ?v4x4) rfl rfl (by kernel_rfl) (by kernel_rfl) (by kernel_rfl) (fun _ _ _ h => h) (by rfl) ?y4x4 ?r4x4
    case y4x4 => (intro w' hSw; go_simp; try (with_reducible rfl))
    simp only [Act.put, List.setIfInBounds_toArray, List.set_cons_zero, List.set_cons_succ]
    refine wpG_take (i := 5) (d := 18) (v := ?v4x5) rfl rfl (by kernel_rfl) (by kernel_rfl) (by kernel_rfl) (fun _ _ _ h => h) (by rfl) ?y4x5 ?r4x5
    case y4x5 => (intro w' hSw; go_simp; try (with_reducible rfl))
    simp only [Act.put, List.setIfInBounds_toArray, List.set_cons_zero, List.set_cons_succ]
    refine wpG_do (i := 6) (by kernel_rfl) rfl (by rfl) (fun K hK => ?_)
    go_simp
    refine hK.out _ _ ((Turn.refl _ _).alloc _) ?_
    clear hK
    refine wpG_do (i := 7) (by kernel_rfl) rfl (by rfl) (fun K hK => ?_)
    go_simp
    refine (concat_any _ _ [a, b] _ (Pts.two rfl HL.out.1 HL.out.2.1 HS.out.1 HS.out.2) (by simp) HL.out.2.2).mono ?_
    rintro e w1 ⟨A2, c2, rfl, hm2, hc2, hb2⟩
    rw [HF.out] at hm2 hc2 ⊢
    refine hK.out _ _ (Turn.of_below hb2 (Nat.le_refl _)) ?_
    have HG := Lib.hid (And.intro hm2 (And.intro hc2 (HB.out.trans (Below.mono (below_of_alloc hb2 (by simp)) HB.out.size))))
    clear hK hm2 hc2 hb2
    refine wpG_take (i := 8) (d := 4) (v := ?v4x8) rfl rfl (by kernel_rfl) (by kernel_rfl) (by kernel_rfl) (fun _ _ _ h => h) (by rfl) ?y4x8 ?r4x8
    case y4x8 => (intro w' hSw; go_simp; try (with_reducible rfl))
    simp only [Act.put, List.setIfInBounds_toArray, List.set_cons_zero, List.set_cons_succ]
    refine wpG_done (by kernel_rfl) ?_
    go_wp2
    go_ret
    exact ⟨A2, c2, rfl, HG.out⟩

set_option maxHeartbeats 400000 in
theorem crash_lost {p : Nat} {Z : Option Addr} {n c : Nat} {limit bad : Int} (B : Value) (w : World) (h : DevBox w p Z n c limit bad true) :
    Calls Try.prog 29 #[.pointer (some ⟨p, 0, none⟩), B] w fun e w' => e = .returned (.tuple #[]) ∧ w = w' := by
  go_enter Try.func29, Try.ntmps29
  go_wp2_with fail
  refine (dead_dev w h).mono ?_
  rintro e w' ⟨rfl, rfl⟩
  go_wp2
  refine bodyPost_ret (results_none rfl _ _ _) rfl ⟨rfl, rfl⟩
/-- What a member's Crash leaves. -/
inductive CraM (blk : Nat) (m : Mb) (keep : List UInt8) : Mb → Prop
  | lost : m.lost = true → CraM blk m keep m
  | fits (zs : List Zs) : m.lost = false → Crashed blk keep m.zs.length m.zs zs → CraM blk m keep { m with zs := zs }
/-- What stays of a member in its place. -/
def Mb.like (m m' : Mb) : Prop := m'.p = m.p ∧ m'.zb = m.zb ∧ m'.serial = m.serial ∧ m'.ahead = m.ahead ∧ m'.lost = m.lost ∧ m'.bad = m.bad
theorem CraM.like {blk : Nat} {m m' : Mb} {keep : List UInt8} (h : CraM blk m keep m') : m.like m' := by
  cases h <;> simp [Mb.like]
theorem crash_mb {cap blk : Nat} {limit : Int} {m : Mb} (K : Option Addr) (kc : Nat) (keep : List UInt8) (w : World) (h : MbAt w cap blk limit m) (hkl : keep.length ≤ maxLen) (hr : Mem 5 w K (cBs keep)) :
    Calls Try.prog 29 #[.pointer (some ⟨m.p, 0, none⟩), .slice K keep.length kc] w fun e w' => e = .returned (.tuple #[]) ∧ ∃ m', MbAt w' cap blk limit m' ∧ CraM blk m keep m' ∧ Turn [m.p, m.zb] w w' := by
  cases hl : m.lost
  · refine (crash_dev K kc keep w (h.here hl) hkl hr).mono ?_
    rintro e w' ⟨rfl, zs', hc, hd, ht⟩
    exact ⟨rfl, { m with zs := zs' }, MbAt.of_dev (m := { m with zs := zs' }) hl hd, .fits zs' hl hc, ht⟩
  · refine (crash_lost _ w (h.gone hl)).mono ?_
    rintro e w' ⟨rfl, rfl⟩
    exact ⟨rfl, m, h, .lost hl, Turn.refl _ _⟩
/-- The first n members are crashed, and nothing else is another. -/
structure CrashedB (blk : Nat) (keep : List UInt8) (n : Nat) (ms ms' : List Mb) : Prop where
  len : ms'.length = ms.length
  all : ∀ j (h : j < ms.length) (h' : j < ms'.length), ms[j].like ms'[j] ∧ (j < n → CraM blk ms[j] (rot keep j) ms'[j]) ∧ (n ≤ j → ms'[j] = ms[j])
theorem CrashedB.none (blk : Nat) (keep : List UInt8) (ms : List Mb) : CrashedB blk keep 0 ms ms := ⟨rfl, fun j h h' => ⟨⟨rfl, rfl, rfl, rfl, rfl, rfl⟩, fun hk => by omega, fun _ => rfl⟩⟩
theorem CrashedB.next {blk : Nat} {keep : List UInt8} {k : Nat} {ms ms' : List Mb} {m : Mb} (h : CrashedB blk keep k ms ms') (hk : k < ms.length) (hm : CraM blk ms[k] (rot keep k) m) : CrashedB blk keep (k + 1) ms (ms'.set k m) := by
  refine ⟨by simpa using h.len, fun j hj hj' => ?_⟩
  rw [List.getElem_set]
  by_cases e : k = j
  · subst e
    rw [if_pos rfl]
    exact ⟨hm.like, fun _ => hm, fun hx => by omega⟩
  · rw [if_neg e]
    have hx := h.all j hj (by rw [h.len]; exact hj)
    exact ⟨hx.1, fun hy => hx.2.1 (by omega), fun hy => hx.2.2 (by omega)⟩
theorem CrashedB.gs {blk : Nat} {keep : List UInt8} {k : Nat} {B : Bd} {ms' : List Mb} (h : CrashedB blk keep k B.ms ms') : ({ B with ms := ms' } : Bd).gs = B.gs := by
  have e1 : ms'.map (·.p) = B.ms.map (·.p) := List.ext_getElem (by simpa using h.len) fun j h1 h2 => by
    simp only [List.getElem_map]
    exact (h.all j (by simpa using h2) (by simpa using h1)).1.1
  have e2 : ms'.map (·.zb) = B.ms.map (·.zb) := List.ext_getElem (by simpa using h.len) fun j h1 h2 => by
    simp only [List.getElem_map]
    exact (h.all j (by simpa using h2) (by simpa using h1)).1.2.1
  simp only [Bd.gs, e1, e2]

/-- What a bus's Crash leaves. -/
def CrashB (B : Bd) (keep : List UInt8) (w : World) (e : Ending) (w' : World) : Prop :=
  e = .returned (.tuple #[]) ∧ ∃ ms', CrashedB B.blk keep B.ms.length B.ms ms' ∧ BusAt w' { B with ms := ms', fuse := -1, down := false } ∧ Turn B.gs w w'

set_option maxHeartbeats 2000000 in
theorem busCrash_any {B : Bd} (KA : Option Addr) (kc : Nat) (keep : List UInt8) (w : World) (h : BusAt w B) (hl : keep.length ≤ 100000000) (hc : keep.length ≤ kc) (hr : ∀ w1, Turn B.gs w w1 → Rd w1 w1.heap.size KA keep) :
    Calls Try.prog 13 #[.pointer (some ⟨B.b, 0, none⟩), .slice KA keep.length kc] w (CrashB B keep w) := by
  obtain ⟨⟨q0, q1, q2, q3, q4, q5, q6, q7, q8⟩, f4, f5, f6, f7, f8⟩ := box9 h.bb
  have H := Lib.hid h
  have hlen := h.len
  have HK := Lib.hid (And.intro hl (And.intro hc hr))
  clear h hl hc hr
  go_enter Try.func13, Try.ntmps13
  go_wp2
  clear q0 q1 q2 q3 q4 q5 q6 q7 q8 f4 f5 f6 f7 f8
  go_loopw [13] (fun j wr => ∃ (k : Nat) (ms' : List Mb), k ≤ B.ms.length ∧ j = .int .i64 k ∧ CrashedB B.blk keep k B.ms ms' ∧ BusAt wr { B with ms := ms' } ∧ Turn B.gs w wr) (fun j _ => B.ms.length - (intOf j).toNat)
  case atStart => exact ⟨0, B.ms, by omega, rfl, CrashedB.none _ _ _, H.out, Turn.refl _ _⟩
  case round =>
    obtain ⟨k, ys, hk, rfl, hcr, hd, ht⟩ := hrel
    by_cases hlt : k < B.ms.length
    · have hyl : k < ys.length := by rw [hcr.len]; exact hlt
      have hyk : ys[k] = B.ms[k] := (hcr.all k hlt hyl).2.2 (Nat.le_refl _)
      have hpl := hd.place (i := k) hyl
      simp only [hyk] at hpl
      obtain ⟨⟨r0, r1, r2⟩, g0, g1, g2⟩ := hpl
      have HS := Lib.hid (And.intro hcr (And.intro hd ht))
      have hmk : MbAt wr B.cap B.blk B.limit B.ms[k] := by
        have := hd.mem ys[k] (List.getElem_mem hyl)
        rw [hyk] at this
        exact this
      have hpz := hmk.lt
      have HM := Lib.hid hmk
      clear hcr hd ht hmk
      go_wp2_with fail
      refine wpG_start [B.ms[k].p, B.ms[k].zb] (by kernel_rfl) ?_
      have hbl : Below wr.heap.size wr (wr.alloc (.cells #[.pointer (some ⟨B.ms[k].p, 0, none⟩), .int .i64 (B.ms[k].serial : Int), .int .i64 B.ms[k].ahead] 59)).drew := ((Below.refl _ _).alloc (Nat.le_refl _) _).drew
      have HV : Hid (Box (wr.alloc (.cells #[.pointer (some ⟨B.ms[k].p, 0, none⟩), .int .i64 (B.ms[k].serial : Int), .int .i64 B.ms[k].ahead] 59)).drew wr.heap.size 59 #[.pointer (some ⟨B.ms[k].p, 0, none⟩), .int .i64 (B.ms[k].serial : Int), .int .i64 B.ms[k].ahead] ∧ BusAt (wr.alloc (.cells #[.pointer (some ⟨B.ms[k].p, 0, none⟩), .int .i64 (B.ms[k].serial : Int), .int .i64 B.ms[k].ahead] 59)).drew { B with ms := ys } ∧ MbAt (wr.alloc (.cells #[.pointer (some ⟨B.ms[k].p, 0, none⟩), .int .i64 (B.ms[k].serial : Int), .int .i64 B.ms[k].ahead] 59)).drew B.cap B.blk B.limit B.ms[k] ∧ Turn B.gs w (wr.alloc (.cells #[.pointer (some ⟨B.ms[k].p, 0, none⟩), .int .i64 (B.ms[k].serial : Int), .int .i64 B.ms[k].ahead] 59)).drew) :=
        ⟨Box.fresh wr 59 _, HS.out.2.1.later hbl, HM.out.later hbl, (HS.out.2.2.alloc _).drew⟩
      generalize (wr.alloc (.cells #[.pointer (some ⟨B.ms[k].p, 0, none⟩), .int .i64 (B.ms[k].serial : Int), .int .i64 B.ms[k].ahead] 59)).drew = w0 at HV ⊢
      have HF := Lib.hid HS.out.1
      clear HS HM r0 r1 r2 g0 g1 g2 hbl
      have p0 : ∀ w', Turn [B.ms[k].p, B.ms[k].zb] w0 w' → w'.cell? ⟨wr.heap.size, 0, none⟩ = some (.pointer (some ⟨B.ms[k].p, 0, none⟩)) := fun w' h => (HV.out.1.turn h (by simp; omega)).cell 0
      refine wpG_take (i := 0) (d := 18) (v := ?v4x0) rfl rfl (by kernel_rfl) (by kernel_rfl) (by kernel_rfl) (fun _ _ _ h => h) (by rfl) ?y4x0 ?r4x0
      case y4x0 => (intro w' hSw; go_simp; try (with_reducible rfl))
      simp only [Act.put, List.setIfInBounds_toArray, List.set_cons_zero, List.set_cons_succ]
      refine wpG_take (i := 1) (d := 19) (v := ?v4x1) rfl rfl (by kernel_rfl) (by kernel_rfl) (by kernel_rfl) (fun _ _ _ h => h) (by rfl) ?y4x1 ?r4x1
      case y4x1 => (intro w' hSw; go_simp; try (with_reducible rfl))
      simp only [Act.put, List.setIfInBounds_toArray, List.set_cons_zero, List.set_cons_succ]
      refine wpG_take (i := 2) (d := 20) (v := ?v4x2) rfl rfl (by kernel_rfl) (by kernel_rfl) (by kernel_rfl) (fun _ _ _ h => h) (by rfl) ?y4x2 ?r4x2
      case y4x2 => (intro w' hSw; go_simp; try (with_reducible rfl))
      simp only [Act.put, List.setIfInBounds_toArray, List.set_cons_zero, List.set_cons_succ]
      refine wpG_take (i := 3) (d := 21) (v := ?v4x3) rfl rfl (by kernel_rfl) (by kernel_rfl) (by kernel_rfl) (fun _ _ _ h => h) (by rfl) ?y4x3 ?r4x3
      case y4x3 => (intro w' hSw; go_simp; try (with_reducible rfl))
      simp only [Act.put, List.setIfInBounds_toArray, List.set_cons_zero, List.set_cons_succ]
      refine wpG_do (i := 4) (by kernel_rfl) rfl (by rfl) (fun K hK => ?_)
      go_simp
      refine (turned_any KA kc keep k w0 (by omega) HK.out.1 HK.out.2.1 (HK.out.2.2 w0 HV.out.2.2.2)).mono ?_
      rintro e w1 ⟨A2, c2, rfl, hm2, hc2, hb2⟩
      refine hK.out _ _ (Turn.of_below hb2 (Nat.le_refl _)) ?_
      have HW := Lib.hid (And.intro hm2 (And.intro (HV.out.2.1.later hb2) (And.intro (HV.out.2.2.1.later hb2) (HV.out.2.2.2.trans (Turn.of_below hb2 (Nat.le_refl _))))))
      have hro : (rot keep k).length ≤ 100000000 := by rw [rot_length]; exact HK.out.1
      clear hK hm2 hc2 hb2 HV p0
      have HNX := Lib.hid (fun m' (hx : CraM B.blk B.ms[k] (rot keep k) m') => And.intro (HF.out.next hlt hx) hx.like)
      generalize rot keep k = T at HW HNX hro ⊢
      refine wpG_do (i := 5) (by kernel_rfl) rfl (by rfl) (fun K hK => ?_)
      go_simp
      refine (crash_mb A2 c2 T w1 HW.out.2.2.1 (by unfold maxLen; omega) HW.out.1).mono ?_
      rintro e w2 ⟨rfl, m', hm', hcm, ht2⟩
      refine hK.out _ _ ht2 ?_
      obtain ⟨hn1, hn2⟩ := HNX.out m' hcm
      have hput := BusAt.put (B := { B with ms := ys }) HW.out.2.1 hyl (m := m') (by simp only [hyk]; exact ht2) hm' (by simp only [hyk]; exact hn2.1) (by simp only [hyk]; exact hn2.2.1) (by simp only [hyk]; exact hn2.2.2.1) (by simp only [hyk]; exact hn2.2.2.2.1)
      have ht3 : Turn B.gs w1 w2 := ht2.mono (by
        simp only [List.mem_cons, List.not_mem_nil, or_false]
        rintro g (rfl | rfl)
        · exact Bd.mem_gs.2 (Or.inr (Or.inr (Or.inl ⟨_, List.getElem_mem hlt, rfl⟩)))
        · exact Bd.mem_gs.2 (Or.inr (Or.inr (Or.inr ⟨_, List.getElem_mem hlt, rfl⟩))))
      have HX := Lib.hid (And.intro hn1 (And.intro hput (HW.out.2.2.2.trans ht3)))
      clear hK hput ht2 ht3 hn1 hn2 hcm hm' HW HNX HF
      refine wpG_done (by kernel_rfl) ?_
      go_wp2
      go_roundw
      case rel => exact ⟨k + 1, _, by omega, by go_num, HX.out⟩
      case measure => simp [intOf]; omega
    · obtain rfl : k = B.ms.length := by omega
      obtain ⟨⟨q0, q1, q2, q3, q4, q5, q6, q7, q8⟩, f4, f5, f6, f7, f8⟩ := box9 hd.bb
      have ht6 : Turn [B.b] wr ((wr.setCell ⟨B.b, 6, none⟩ (.bool false)).setCell ⟨B.b, 5, none⟩ (.int .i64 (-1))) := ((Turn.refl _ _).put (by simp) _).put (by simp) _
      have hhd := BusAt.head (B := { B with ms := ys }) hd ht6 (-1) false B.count B.gone ((hd.bb.store 6 (.bool false)).store 5 (.int .i64 (-1)))
      have HX := Lib.hid (And.intro hcr (And.intro hhd (ht.trans (ht6.mono (by simp [Bd.gs])))))
      clear hcr hd ht ht6 hhd
      simp only at q5 q6 f5 f6
      go_wp2
      first | go_end0 | refine bodyPost_ret (results_none rfl _ _ _) rfl ?_
      exact ⟨rfl, ys, HX.out⟩
end Go.Proofs.Ytbaolfncolfipaa
