/- The contract of a member's Flush. -/
import Derived.Test.YtbaolfncolfipaaP
namespace Go.Proofs.Ytbaolfncolfipaa
set_option linter.unusedVariables false
set_option linter.unusedSimpArgs false
open Go.RowKit
open Go.RowKit (wrap64)

/-- The first k zones are flushed, and nothing else is another. -/
structure Flushed (k : Nat) (zs zs' : List Zs) : Prop where
  len : zs'.length = zs.length
  all : ∀ j (h : j < zs.length) (h' : j < zs'.length), zs'[j].k = zs[j].k ∧ zs'[j].done = zs[j].done ∧ zs'[j].D = zs[j].D ∧ (j < k → zs'[j].safe = zs[j].k) ∧ (k ≤ j → zs'[j] = zs[j])
theorem Flushed.none (zs : List Zs) : Flushed 0 zs zs := ⟨rfl, fun j h h' => ⟨rfl, rfl, rfl, fun hk => by omega, fun _ => rfl⟩⟩
theorem Flushed.next {k : Nat} {zs zs' : List Zs} (h : Flushed k zs zs') (hk : k < zs.length) (A : Option Addr) (c : Nat) : Flushed (k + 1) zs (zs'.set k ⟨zs[k].k, zs[k].k, zs[k].done, zs[k].D, A, c⟩) := by
  refine ⟨by simpa using h.len, fun j hj hj' => ?_⟩
  rw [List.getElem_set]
  by_cases e : k = j
  · subst e
    rw [if_pos rfl]
    exact ⟨rfl, rfl, rfl, fun _ => rfl, fun hx => by omega⟩
  · rw [if_neg e]
    have hx := h.all j hj (by rw [h.len]; exact hj)
    exact ⟨hx.1, hx.2.1, hx.2.2.1, fun hy => hx.2.2.2.1 (by omega), fun hy => hx.2.2.2.2 (by omega)⟩
theorem nAct_map (cap : Nat) : ∀ zs zs' : List Zs, zs.map (fun z => (z.k, z.done)) = zs'.map (fun z => (z.k, z.done)) → nAct cap zs = nAct cap zs'
  | [], [], _ => rfl
  | z :: r, z' :: r', h => by
    simp only [List.map_cons, List.cons.injEq, Prod.mk.injEq] at h
    simp only [nAct, h.1.1, h.1.2, nAct_map cap r r' h.2]
  | [], _ :: _, h => by simp at h
  | _ :: _, [], h => by simp at h
theorem Flushed.act {k : Nat} {zs zs' : List Zs} (h : Flushed k zs zs') (cap : Nat) : nAct cap zs' = nAct cap zs := by
  refine nAct_map cap _ _ (List.ext_getElem (by simpa using h.len) fun j h1 h2 => ?_)
  simp only [List.getElem_map]
  have hx := h.all j (by simpa using h2) (by simpa using h1)
  rw [hx.1, hx.2.1]

/-- What a member's Flush leaves. -/
def FlushD (p zb cap blk : Nat) (limit : Int) (bad : Nat) (zs : List Zs) (w : World) (e : Ending) (w' : World) : Prop :=
  e = .returned (.int .i64 0) ∧ ∃ zs', Flushed zs.length zs zs' ∧ DevAt w' p zb cap blk limit bad zs' ∧ Turn [p, zb] w w'

set_option maxHeartbeats 2000000 in
theorem flush_dev {p zb cap blk : Nat} {limit : Int} {bad : Nat} {zs : List Zs} (w : World) (h : DevAt w p zb cap blk limit bad zs) :
    Calls Try.prog 31 #[.pointer (some ⟨p, 0, none⟩)] w (FlushD p zb cap blk limit bad zs w) := by
  obtain ⟨⟨q0, q1, q2, q3⟩, f0, f1, f2, f3⟩ := box4 h.bp
  have H := Lib.hid h
  have hl := h.len
  have hne := h.ne
  clear h
  go_enter Try.func31, Try.ntmps31
  go_wp2_with fail
  refine (there_dev w H.out.bp).mono ?_
  rintro e w' ⟨rfl, rfl⟩
  rw [show thereE false = 0 from rfl]
  go_wp2
  clear q0 q1 q2 q3 f0 f1 f2 f3
  go_loopw [16] (fun i wr => ∃ k : Nat, k ≤ zs.length ∧ i = .int .i64 k ∧ ∃ zs', Flushed k zs zs' ∧ DevAt wr p zb cap blk limit bad zs' ∧ Turn [p, zb] w wr) (fun i _ => zs.length - (intOf i).toNat)
  case atStart => exact ⟨0, by omega, rfl, zs, Flushed.none zs, H.out, Turn.refl _ _⟩
  case round =>
    obtain ⟨k, hk, rfl, ys, hfl, hd, ht⟩ := hrel
    by_cases hlt : k < zs.length
    · have hyl : k < ys.length := by rw [hfl.len]; exact hlt
      have hyk : ys[k] = zs[k] := (hfl.all k hlt hyl).2.2.2.2 (Nat.le_refl _)
      have HS := Lib.hid (And.intro hfl (And.intro hd ht))
      obtain ⟨⟨z0, z1, z2, z3, z4⟩, y0, y1, y2, y3, y4⟩ := hd.zone hyl
      rw [hyk] at z2 z3 z4
      have HO : Hid (Zok cap blk zs[k].k zs[k].safe zs[k].D.length zs[k].c ∧ Mem 5 wr zs[k].A (cBs zs[k].D)) := by
        have h1 := hd.ok ys[k] (List.getElem_mem hyl)
        have h2 := hd.mem ys[k] (List.getElem_mem hyl)
        rw [hyk] at h1 h2
        exact ⟨h1, h2⟩
      have HY := Lib.hid hfl.len
      have hzl := hd.lt.2
      clear hfl hd ht hyk
      go_wp2_with fail
      refine wpG_start [zb] (by kernel_rfl) ?_
      have HV : Hid (Box (wr.alloc (.cells (zs[k].cells cap blk).toArray 74)).drew wr.heap.size 74 (zs[k].cells cap blk).toArray ∧ DevAt (wr.alloc (.cells (zs[k].cells cap blk).toArray 74)).drew p zb cap blk limit bad ys ∧ Turn [p, zb] w (wr.alloc (.cells (zs[k].cells cap blk).toArray 74)).drew ∧ Mem 5 (wr.alloc (.cells (zs[k].cells cap blk).toArray 74)).drew zs[k].A (cBs zs[k].D)) :=
        ⟨Box.fresh wr 74 _, (HS.out.2.1.later ((Below.refl _ _).alloc (Nat.le_refl _) _)).drew, (HS.out.2.2.alloc _).drew, HO.out.2.later ((Below.refl _ _).alloc (Nat.le_refl _) _).drew⟩
      simp only [Zs.cells] at HV
      generalize (wr.alloc (.cells [Value.int .i64 (cap : Int), .int .i64 (blk : Int), .slice zs[k].A zs[k].D.length zs[k].c, .int .i64 (zs[k].safe : Int), .bool zs[k].done].toArray 74)).drew = w0 at HV ⊢
      have HF := Lib.hid HS.out.1
      clear HS z0 z1 z2 z3 z4 y0 y1 y2 y3 y4
      have p0 : ∀ w', Turn [zb] w0 w' → w'.cell? ⟨p, 0, none⟩ = some (.slice (some ⟨zb, 0, none⟩) zs.length zs.length) := fun w' h => by
        have h1 := (box4 (Box.turn HV.out.2.1.bp h (by simpa using hne))).1.1
        rw [HY.out] at h1
        exact h1
      have n0 : ∀ w', Turn [zb] w0 w' → w'.cell? ⟨wr.heap.size, 0, none⟩ = some (.int .i64 (cap : Int)) := fun w' h => (box5 (HV.out.1.turn h (by simp; omega))).1.1
      have n1 : ∀ w', Turn [zb] w0 w' → w'.cell? ⟨wr.heap.size, 1, none⟩ = some (.int .i64 (blk : Int)) := fun w' h => (box5 (HV.out.1.turn h (by simp; omega))).1.2.1
      have n2 : ∀ w', Turn [zb] w0 w' → w'.cell? ⟨wr.heap.size, 2, none⟩ = some (.slice zs[k].A zs[k].D.length zs[k].c) := fun w' h => (box5 (HV.out.1.turn h (by simp; omega))).1.2.2.1
      have n3 : ∀ w', Turn [zb] w0 w' → w'.cell? ⟨wr.heap.size, 3, none⟩ = some (.int .i64 (zs[k].safe : Int)) := fun w' h => (box5 (HV.out.1.turn h (by simp; omega))).1.2.2.2.1
      have n4 : ∀ w', Turn [zb] w0 w' → w'.cell? ⟨wr.heap.size, 4, none⟩ = some (.bool zs[k].done) := fun w' h => (box5 (HV.out.1.turn h (by simp; omega))).1.2.2.2.2
      refine wpG_take (i := 0) (d := 21) (v := ?v7x0) rfl rfl (by kernel_rfl) (by kernel_rfl) (by kernel_rfl) (fun _ _ _ h => h) (by rfl) ?y7x0 ?r7x0
      case y7x0 => (intro w' hSw; go_simp; try (with_reducible rfl))
      simp only [Act.put, List.setIfInBounds_toArray, List.set_cons_zero, List.set_cons_succ]
      refine wpG_take (i := 1) (d := 22) (v := ?v7x1) rfl rfl (by kernel_rfl) (by kernel_rfl) (by kernel_rfl) (fun _ _ _ h => h) (by rfl) ?y7x1 ?r7x1
      case y7x1 => (intro w' hSw; go_simp; try (with_reducible rfl))
      simp only [Act.put, List.setIfInBounds_toArray, List.set_cons_zero, List.set_cons_succ]
      refine wpG_take (i := 2) (d := 23) (v := ?v7x2) rfl rfl (by kernel_rfl) (by kernel_rfl) (by kernel_rfl) (fun _ _ _ h => h) (by rfl) ?y7x2 ?r7x2
      case y7x2 => (intro w' hSw; go_simp; try (with_reducible rfl))
      simp only [Act.put, List.setIfInBounds_toArray, List.set_cons_zero, List.set_cons_succ]
      refine wpG_take (i := 3) (d := 24) (v := ?v7x3) rfl rfl (by kernel_rfl) (by kernel_rfl) (by kernel_rfl) (fun _ _ _ h => h) (by rfl) ?y7x3 ?r7x3
      case y7x3 => (intro w' hSw; go_simp; try (with_reducible rfl))
      simp only [Act.put, List.setIfInBounds_toArray, List.set_cons_zero, List.set_cons_succ]
      refine wpG_take (i := 4) (d := 25) (v := ?v7x4) rfl rfl (by kernel_rfl) (by kernel_rfl) (by kernel_rfl) (fun _ _ _ h => h) (by rfl) ?y7x4 ?r7x4
      case y7x4 => (intro w' hSw; go_simp; try (with_reducible rfl))
      simp only [Act.put, List.setIfInBounds_toArray, List.set_cons_zero, List.set_cons_succ]
      refine wpG_take (i := 5) (d := 26) (v := ?v7x5) rfl rfl (by kernel_rfl) (by kernel_rfl) (by kernel_rfl) (fun _ _ _ h => h) (by rfl) ?y7x5 ?r7x5
      case y7x5 => (intro w' hSw; go_simp; try (with_reducible rfl))
      simp only [Act.put, List.setIfInBounds_toArray, List.set_cons_zero, List.set_cons_succ]
      refine wpG_do (i := 6) (by kernel_rfl) rfl (by rfl) (fun K hK => ?_)
      go_simp
      refine (flush_any zs[k].A zs[k].D zs[k].done w0 HO.out.1 HV.out.2.2.2).mono ?_
      rintro e w1 ⟨A2, c2, rfl, hm1, hc1, hb1⟩
      refine hK.out _ _ (Turn.of_below hb1 (Nat.le_refl _)) ?_
      have HW := Lib.hid (And.intro (HV.out.2.1.later hb1) (And.intro (HV.out.2.2.1.trans (Turn.of_below hb1 (Nat.le_refl _))) (And.intro hm1 hc1)))
      clear hK K hm1 hc1 hb1 p0 n0 n1 n2 n3 n4 HV
      refine wpG_take (i := 7) (d := 28) (v := ?v7x7) rfl rfl (by kernel_rfl) (by kernel_rfl) (by kernel_rfl) (fun _ _ _ h => h) (by rfl) ?y7x7 ?r7x7
      case y7x7 => (intro w' hSw; go_simp; try (with_reducible rfl))
      simp only [Act.put, List.setIfInBounds_toArray, List.set_cons_zero, List.set_cons_succ]
      obtain ⟨⟨z0, z1, z2, z3, z4⟩, y0, y1, y2, y3, y4⟩ := HW.out.1.zone hyl
      refine wpG_do (i := 8) (by kernel_rfl) rfl (by rfl) (fun K hK => ?_)
      go_simp
      have hput := HW.out.1.put hyl ⟨zs[k].k, zs[k].k, zs[k].done, zs[k].D, A2, c2⟩ (have z := HO.out.1; ⟨z.c1, z.c2, z.h1, z.h2, z.hk, z.hc, z.hn, HW.out.2.2.2, Nat.le_refl _⟩) HW.out.2.2.1
      simp only at hput
      refine hK.out _ _ hput.2 ?_
      generalize (((((w1.setCell ⟨zb, k * 5, none⟩ (.int .i64 (cap : Int))).setCell ⟨zb, k * 5 + 1, none⟩ (.int .i64 (blk : Int))).setCell ⟨zb, k * 5 + 2, none⟩ (.slice A2 zs[k].D.length c2)).setCell ⟨zb, k * 5 + 3, none⟩ (.int .i64 (zs[k].k : Int))).setCell ⟨zb, k * 5 + 4, none⟩ (.bool zs[k].done)) = w2 at hput ⊢
      have HX := Lib.hid (And.intro (HF.out.next hlt A2 c2) (And.intro hput.1 (HW.out.2.1.trans (hput.2.mono (hs := [p, zb]) (by simp)))))
      clear hK K hput HW HF z0 z1 z2 z3 z4 y0 y1 y2 y3 y4
      refine wpG_done (by kernel_rfl) ?_
      go_wp2
      go_roundw
      case rel => exact ⟨k + 1, by omega, by go_num, _, HX.out⟩
      case measure => simp [intOf]; omega
    · obtain rfl : k = zs.length := by omega
      have HS := Lib.hid (And.intro hfl (And.intro hd ht))
      clear hfl hd ht
      go_wp2
      go_ret
      exact ⟨rfl, ys, HS.out⟩
end Go.Proofs.Ytbaolfncolfipaa
