/- The contract of a member's Crash. -/
import Derived.Test.YtbaolfncolfipaaQ
namespace Go.Proofs.Ytbaolfncolfipaa
set_option linter.unusedVariables false
set_option linter.unusedSimpArgs false
open Go.RowKit
open Go.RowKit (wrap64)

/-- The byte of keep whose turn it is. -/
def turnV (keep : List UInt8) (i : Nat) : Nat := if h : 0 < keep.length then (keep[i % keep.length]'(Nat.mod_lt _ h)).toNat else 0
set_option maxHeartbeats 1000000 in
theorem turn_any (K : Option Addr) (kc : Nat) (keep : List UInt8) (i : Nat) (w : World) (hi : i ≤ 64) (hl : keep.length ≤ maxLen) (hr : Rd w w.heap.size K keep) :
    Calls Try.prog 52 #[.slice K keep.length kc, .int .i64 (i : Int)] w fun e w' => e = .returned (.int .i64 (turnV keep i : Nat)) ∧ w = w' := by
  unfold maxLen at hl
  by_cases h0 : 0 < keep.length
  · obtain ⟨b, off, rfl, hb, hc⟩ := hr.at_ h0
    have hlt := Nat.mod_lt i h0
    have hcell := hc (i % keep.length) hlt
    have e : turnV keep i = (keep[i % keep.length]'hlt).toNat := by simp [turnV, h0]
    rw [e]
    have hm : (i : Int) % (keep.length : Int) = ((i % keep.length : Nat) : Int) := by simp
    have hz : ((keep.length : Int) == 0) = false := by rw [beq_eq_false_iff_ne]; omega
    have hb8 := (keep[i % keep.length]'hlt).toNat_lt
    clear hc hr e
    generalize (keep[i % keep.length]'hlt).toNat = x at hcell hb8 ⊢
    have hle : i % keep.length ≤ i := Nat.mod_le _ _
    have hne : ¬ keep.length = 0 := by omega
    clear h0
    generalize i % keep.length = t at hlt hcell hm hle
    generalize keep.length = n at *
    go_enter Try.func52, Try.ntmps52
    go_wp2
    go_ret
    exact ⟨rfl, rfl⟩
  · have e : turnV keep i = 0 := by simp [turnV, h0]
    rw [e]
    have hz : ((keep.length : Int) == 0) = true := by rw [beq_iff_eq]; omega
    clear hr e h0
    go_enter Try.func52, Try.ntmps52
    go_wp2
    go_ret
    exact ⟨rfl, rfl⟩

/-- How many blocks stay of a zone. -/
def Zs.left (z : Zs) (m : Nat) : Nat := z.safe + m % (z.k - z.safe + 1)
/-- The first n zones are crashed, and nothing else is another. -/
structure Crashed (blk : Nat) (keep : List UInt8) (n : Nat) (zs zs' : List Zs) : Prop where
  len : zs'.length = zs.length
  all : ∀ j (h : j < zs.length) (h' : j < zs'.length), zs'[j].done = zs[j].done ∧ (j < n → zs'[j].k = zs[j].left (turnV keep j) ∧ zs'[j].safe = zs[j].left (turnV keep j) ∧ zs'[j].D = zs[j].D.take (zs[j].left (turnV keep j) * blk)) ∧ (n ≤ j → zs'[j] = zs[j])
theorem Crashed.none (blk : Nat) (keep : List UInt8) (zs : List Zs) : Crashed blk keep 0 zs zs := ⟨rfl, fun j h h' => ⟨rfl, fun hk => by omega, fun _ => rfl⟩⟩
theorem Crashed.next {blk : Nat} {keep : List UInt8} {k : Nat} {zs zs' : List Zs} (h : Crashed blk keep k zs zs') (hk : k < zs.length) (A : Option Addr) (c : Nat) :
    Crashed blk keep (k + 1) zs (zs'.set k ⟨zs[k].left (turnV keep k), zs[k].left (turnV keep k), zs[k].done, zs[k].D.take (zs[k].left (turnV keep k) * blk), A, c⟩) := by
  refine ⟨by simpa using h.len, fun j hj hj' => ?_⟩
  rw [List.getElem_set]
  by_cases e : k = j
  · subst e
    rw [if_pos rfl]
    exact ⟨rfl, fun _ => ⟨rfl, rfl, rfl⟩, fun hx => by omega⟩
  · rw [if_neg e]
    have hx := h.all j hj (by rw [h.len]; exact hj)
    exact ⟨hx.1, fun hy => hx.2.1 (by omega), fun hy => hx.2.2 (by omega)⟩
theorem left_ok {cap blk : Nat} {z : Zs} {c c2 m : Nat} (h : Zok cap blk z.k z.safe z.D.length c) (hc : (z.D.take (z.left m * blk)).length ≤ c2) : Zok cap blk (z.left m) (z.left m) (z.D.take (z.left m * blk)).length c2 := by
  have hl : z.left m ≤ z.k := by
    have := Nat.mod_lt m (show 0 < z.k - z.safe + 1 by omega)
    have := h.hs
    unfold Zs.left
    omega
  have hm : z.left m * blk ≤ z.D.length := by rw [h.hk]; exact Nat.mul_le_mul_right _ hl
  have e : (z.D.take (z.left m * blk)).length = z.left m * blk := by rw [List.length_take]; omega
  refine ⟨h.c1, h.c2, h.h1, h.h2, e, Nat.le_trans hl h.hc, ?_, hc, Nat.le_refl _⟩
  rw [e]
  exact Nat.le_trans hm h.hn

/-- What a member's Crash leaves. -/
def CrashD (p zb cap blk : Nat) (limit : Int) (bad : Nat) (zs : List Zs) (keep : List UInt8) (w : World) (e : Ending) (w' : World) : Prop :=
  e = .returned (.tuple #[]) ∧ ∃ zs', Crashed blk keep zs.length zs zs' ∧ DevAt w' p zb cap blk limit bad zs' ∧ Turn [p, zb] w w'

set_option maxHeartbeats 2000000 in
theorem crash_dev {p zb cap blk : Nat} {limit : Int} {bad : Nat} {zs : List Zs} (K : Option Addr) (kc : Nat) (keep : List UInt8) (w : World) (h : DevAt w p zb cap blk limit bad zs) (hkl : keep.length ≤ maxLen) (hr : Mem 5 w K (cBs keep)) :
    Calls Try.prog 29 #[.pointer (some ⟨p, 0, none⟩), .slice K keep.length kc] w (CrashD p zb cap blk limit bad zs keep w) := by
  obtain ⟨⟨q0, q1, q2, q3⟩, f0, f1, f2, f3⟩ := box4 h.bp
  have H := Lib.hid h
  have hl := h.len
  have hne := h.ne
  have HE5 : Hid (∀ g ∈ [p, zb], Else 5 w g) := by
    show ∀ g ∈ [p, zb], Else 5 w g
    simp only [List.mem_cons, List.not_mem_nil, or_false]
    rintro g (rfl | rfl)
    · exact Box.else_ h.bp (by decide)
    · exact h.bz.else_ (by decide)
  have HK := Lib.hid (And.intro hkl hr)
  clear h hkl hr
  go_enter Try.func29, Try.ntmps29
  go_wp2_with fail
  refine (dead_dev w H.out.bp).mono ?_
  rintro e w' ⟨rfl, rfl⟩
  go_wp2
  clear q0 q1 q2 q3 f0 f1 f2 f3
  go_loopw [13] (fun i wr => ∃ k : Nat, k ≤ zs.length ∧ i = .int .i64 k ∧ ∃ zs', Crashed blk keep k zs zs' ∧ DevAt wr p zb cap blk limit bad zs' ∧ Turn [p, zb] w wr) (fun i _ => zs.length - (intOf i).toNat)
  case atStart => exact ⟨0, by omega, rfl, zs, Crashed.none blk keep zs, H.out, Turn.refl _ _⟩
  case round =>
    obtain ⟨k, hk, rfl, ys, hfl, hd, ht⟩ := hrel
    by_cases hlt : k < zs.length
    · have hyl : k < ys.length := by rw [hfl.len]; exact hlt
      have hyk : ys[k] = zs[k] := (hfl.all k hlt hyl).2.2 (Nat.le_refl _)
      have HS := Lib.hid (And.intro hfl (And.intro hd ht))
      obtain ⟨⟨z0, z1, z2, z3, z4⟩, y0, y1, y2, y3, y4⟩ := hd.zone hyl
      rw [hyk] at z2 z3 z4
      have HO : Hid (Zok cap blk zs[k].k zs[k].safe zs[k].D.length zs[k].c ∧ Mem 5 wr zs[k].A (cBs zs[k].D)) := by
        have h1 := hd.ok ys[k] (List.getElem_mem hyl)
        have h2 := hd.mem ys[k] (List.getElem_mem hyl)
        rw [hyk] at h1 h2
        exact ⟨h1, h2⟩
      have HY := Lib.hid hfl.len
      have HR : Hid (Mem 5 wr K (cBs keep)) := HK.out.2.turn ht HE5.out
      have hzl := hd.lt.2
      clear hfl hd ht hyk
      go_wp2_with fail
      refine wpG_start [zb] (by kernel_rfl) ?_
      have HV : Hid (Box (wr.alloc (.cells (zs[k].cells cap blk).toArray 74)).drew wr.heap.size 74 (zs[k].cells cap blk).toArray ∧ DevAt (wr.alloc (.cells (zs[k].cells cap blk).toArray 74)).drew p zb cap blk limit bad ys ∧ Turn [p, zb] w (wr.alloc (.cells (zs[k].cells cap blk).toArray 74)).drew ∧ Mem 5 (wr.alloc (.cells (zs[k].cells cap blk).toArray 74)).drew zs[k].A (cBs zs[k].D) ∧ Mem 5 (wr.alloc (.cells (zs[k].cells cap blk).toArray 74)).drew K (cBs keep)) :=
        ⟨Box.fresh wr 74 _, (HS.out.2.1.later ((Below.refl _ _).alloc (Nat.le_refl _) _)).drew, (HS.out.2.2.alloc _).drew, HO.out.2.later ((Below.refl _ _).alloc (Nat.le_refl _) _).drew, HR.out.later ((Below.refl _ _).alloc (Nat.le_refl _) _).drew⟩
      simp only [Zs.cells] at HV
      generalize (wr.alloc (.cells [Value.int .i64 (cap : Int), .int .i64 (blk : Int), .slice zs[k].A zs[k].D.length zs[k].c, .int .i64 (zs[k].safe : Int), .bool zs[k].done].toArray 74)).drew = w0 at HV ⊢
      have HF := Lib.hid HS.out.1
      clear HS z0 z1 z2 z3 z4 y0 y1 y2 y3 y4 HR
      have p0 : ∀ w', Turn [zb] w0 w' → w'.cell? ⟨p, 0, none⟩ = some (.slice (some ⟨zb, 0, none⟩) zs.length zs.length) := fun w' h => by
        have h1 := (box4 (Box.turn HV.out.2.1.bp h (by simpa using hne))).1.1
        rw [HY.out] at h1
        exact h1
      have n0 : ∀ w', Turn [zb] w0 w' → w'.cell? ⟨wr.heap.size, 0, none⟩ = some (.int .i64 (cap : Int)) := fun w' h => (box5 (HV.out.1.turn h (by simp; omega))).1.1
      have n1 : ∀ w', Turn [zb] w0 w' → w'.cell? ⟨wr.heap.size, 1, none⟩ = some (.int .i64 (blk : Int)) := fun w' h => (box5 (HV.out.1.turn h (by simp; omega))).1.2.1
      have n2 : ∀ w', Turn [zb] w0 w' → w'.cell? ⟨wr.heap.size, 2, none⟩ = some (.slice zs[k].A zs[k].D.length zs[k].c) := fun w' h => (box5 (HV.out.1.turn h (by simp; omega))).1.2.2.1
      have n3 : ∀ w', Turn [zb] w0 w' → w'.cell? ⟨wr.heap.size, 3, none⟩ = some (.int .i64 (zs[k].safe : Int)) := fun w' h => (box5 (HV.out.1.turn h (by simp; omega))).1.2.2.2.1
      have n4 : ∀ w', Turn [zb] w0 w' → w'.cell? ⟨wr.heap.size, 4, none⟩ = some (.bool zs[k].done) := fun w' h => (box5 (HV.out.1.turn h (by simp; omega))).1.2.2.2.2
      refine wpG_take (i := 0) (d := 18) (v := ?v4x0) rfl rfl (by kernel_rfl) (by kernel_rfl) (by kernel_rfl) (fun _ _ _ h => h) (by rfl) ?y4x0 ?r4x0
      case y4x0 => (intro w' hSw; go_simp; try (with_reducible rfl))
      simp only [Act.put, List.setIfInBounds_toArray, List.set_cons_zero, List.set_cons_succ]
      refine wpG_take (i := 1) (d := 19) (v := ?v4x1) rfl rfl (by kernel_rfl) (by kernel_rfl) (by kernel_rfl) (fun _ _ _ h => h) (by rfl) ?y4x1 ?r4x1
      case y4x1 => (intro w' hSw; go_simp; try (with_reducible rfl))
      simp only [Act.put, List.setIfInBounds_toArray, List.set_cons_zero, List.set_cons_succ]
      refine wpG_take (i := 2) (d := 20) (v := ?v4x2) rfl rfl (by kernel_rfl) (by kernel_rfl) (by kernel_rfl) (fun _ _ _ h => h) (by rfl) ?y4x2 ?r4x2
      case y4x2 => (intro w' hSw; go_simp; try (with_reducible rfl))
      simp only [Act.put, List.setIfInBounds_toArray, List.set_cons_zero, List.set_cons_succ]
      refine wpG_take (i := 3) (d := 21) (v := ?v4x3) rfl rfl (by kernel_rfl) (by kernel_rfl) (by kernel_rfl) (fun _ _ _ h => h) (by rfl) ?y4x3 ?r4x3
      case y4x3 => (intro w' hSw; go_simp; try (with_reducible rfl))
      simp only [Act.put, List.setIfInBounds_toArray, List.set_cons_zero, List.set_cons_succ]
      refine wpG_take (i := 4) (d := 22) (v := ?v4x4) rfl rfl (by kernel_rfl) (by kernel_rfl) (by kernel_rfl) (fun _ _ _ h => h) (by rfl) ?y4x4 ?r4x4
      case y4x4 => (intro w' hSw; go_simp; try (with_reducible rfl))
      simp only [Act.put, List.setIfInBounds_toArray, List.set_cons_zero, List.set_cons_succ]
      refine wpG_take (i := 5) (d := 23) (v := ?v4x5) rfl rfl (by kernel_rfl) (by kernel_rfl) (by kernel_rfl) (fun _ _ _ h => h) (by rfl) ?y4x5 ?r4x5
      case y4x5 => (intro w' hSw; go_simp; try (with_reducible rfl))
      simp only [Act.put, List.setIfInBounds_toArray, List.set_cons_zero, List.set_cons_succ]
      refine wpG_take (i := 6) (d := 24) (v := ?v4x6) rfl rfl (by kernel_rfl) (by kernel_rfl) (by kernel_rfl) (fun _ _ _ h => h) (by rfl) ?y4x6 ?r4x6
      case y4x6 => (intro w' hSw; go_simp; try (with_reducible rfl))
      simp only [Act.put, List.setIfInBounds_toArray, List.set_cons_zero, List.set_cons_succ]
      refine wpG_take (i := 7) (d := 25) (v := ?v4x7) rfl rfl (by kernel_rfl) (by kernel_rfl) (by kernel_rfl) (fun _ _ _ h => h) (by rfl) ?y4x7 ?r4x7
      case y4x7 => (intro w' hSw; go_simp; try (with_reducible rfl))
      simp only [Act.put, List.setIfInBounds_toArray, List.set_cons_zero, List.set_cons_succ]
      refine wpG_do (i := 8) (by kernel_rfl) rfl (by rfl) (fun KK hK => ?_)
      go_simp
      refine (turn_any K kc keep k w0 (by omega) HK.out.1 HV.out.2.2.2.2.rd).mono ?_
      rintro e w' ⟨rfl, rfl⟩
      refine hK.out _ _ (Turn.refl _ _) ?_
      clear hK
      have HCA := Lib.hid (crash_any zs[k].A zs[k].D zs[k].done (turnV keep k : Nat) w0 HO.out.1 HV.out.2.2.2.1)
      have HLO := Lib.hid (fun c2 hc => left_ok (m := turnV keep k) (c2 := c2) HO.out.1 hc)
      have HNX := Lib.hid (fun A c => HF.out.next hlt A c)
      simp only [Int.toNat_natCast] at HCA
      rw [show zs[k].safe + turnV keep k % (zs[k].k - zs[k].safe + 1) = zs[k].left (turnV keep k) from rfl] at HCA
      generalize hT : zs[k].D.take (zs[k].left (turnV keep k) * blk) = T at HCA HLO HNX
      generalize hLL : zs[k].left (turnV keep k) = L at HCA HLO HNX
      clear hT hLL
      refine wpG_do (i := 9) (by kernel_rfl) rfl (by rfl) (fun KK hK => ?_)
      go_simp
      refine HCA.out.mono ?_
      rintro e w1 ⟨A2, c2, rfl, hm1, hc1, hb1⟩
      refine hK.out _ _ (Turn.of_below hb1 (Nat.le_refl _)) ?_
      have HW := Lib.hid (And.intro (HV.out.2.1.later hb1) (And.intro (HV.out.2.2.1.trans (Turn.of_below hb1 (Nat.le_refl _))) (And.intro hm1 hc1)))
      clear hK hm1 hc1 hb1 p0 n0 n1 n2 n3 n4 HV HCA
      refine wpG_take (i := 10) (d := 28) (v := ?v4x10) rfl rfl (by kernel_rfl) (by kernel_rfl) (by kernel_rfl) (fun _ _ _ h => h) (by rfl) ?y4x10 ?r4x10
      case y4x10 => (intro w' hSw; go_simp; try (with_reducible rfl))
      simp only [Act.put, List.setIfInBounds_toArray, List.set_cons_zero, List.set_cons_succ]
      obtain ⟨⟨z0, z1, z2, z3, z4⟩, y0, y1, y2, y3, y4⟩ := HW.out.1.zone hyl
      refine wpG_do (i := 11) (by kernel_rfl) rfl (by rfl) (fun KK hK => ?_)
      go_simp
      have hput := HW.out.1.put hyl ⟨L, L, zs[k].done, T, A2, c2⟩ (HLO.out c2 HW.out.2.2.2) HW.out.2.2.1
      simp only at hput
      refine hK.out _ _ hput.2 ?_
      generalize (((((w1.setCell ⟨zb, k * 5, none⟩ (.int .i64 (cap : Int))).setCell ⟨zb, k * 5 + 1, none⟩ (.int .i64 (blk : Int))).setCell ⟨zb, k * 5 + 2, none⟩ (.slice A2 T.length c2)).setCell ⟨zb, k * 5 + 3, none⟩ (.int .i64 (L : Int))).setCell ⟨zb, k * 5 + 4, none⟩ (.bool zs[k].done)) = w2 at hput ⊢
      have HX := Lib.hid (And.intro (HNX.out A2 c2) (And.intro hput.1 (HW.out.2.1.trans (hput.2.mono (hs := [p, zb]) (by simp)))))
      clear hK hput HW HF z0 z1 z2 z3 z4 y0 y1 y2 y3 y4 HNX HLO
      refine wpG_done (by kernel_rfl) ?_
      go_wp2
      go_roundw
      case rel => exact ⟨k + 1, by omega, by go_num, _, HX.out⟩
      case measure => simp [intOf]; omega
    · obtain rfl : k = zs.length := by omega
      have HS := Lib.hid (And.intro hfl (And.intro hd ht))
      clear hfl hd ht
      go_wp2
      first | go_end0 | refine bodyPost_ret (results_none rfl _ _ _) rfl ?_
      exact ⟨rfl, ys, HS.out⟩
end Go.Proofs.Ytbaolfncolfipaa
