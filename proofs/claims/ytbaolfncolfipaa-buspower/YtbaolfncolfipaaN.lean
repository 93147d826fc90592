/- The contract of zdev.New. -/
import Derived.Test.YtbaolfncolfipaaM
namespace Go.Proofs.Ytbaolfncolfipaa
set_option linter.unusedVariables false
set_option linter.unusedSimpArgs false
open Go.RowKit
open Go.RowKit (wrap64)

theorem Try.info74 : (Try.prog.info? 74).map (fun i => (i.zero, i.size, i.bytes)) = some (some (.agg #[.int .i64 0, .int .i64 0, .slice none 0 0, .int .i64 0, .bool false]), 5, 56) := by kernel_rfl

/-- An empty zone. -/
def zE : Zs := ⟨0, 0, false, [], none, 0⟩
/-- The zones' block while a member is made: i of them are there, m are yet to come. -/
def zinit (cap blk i m : Nat) : List Value := zcells cap blk (List.replicate i zE) ++ zcells 0 0 (List.replicate m zE)
theorem zinit_made (cap blk n : Nat) : madeCells (Value.agg #[.int .i64 0, .int .i64 0, .slice none 0 0, .int .i64 0, .bool false]).cells (n * 5) = (zinit cap blk 0 n).toArray := by
  apply Array.ext_getElem?
  intro j
  simp only [zinit, List.replicate_zero, List.getElem?_toArray, madeCells, Array.getElem?_map]
  rw [show zcells cap blk [] = [] from rfl, List.nil_append]
  by_cases hj : j < n * 5
  · have e : j = j / 5 * 5 + j % 5 := by omega
    have h := zcells_at 0 0 (List.replicate n zE) (j / 5) (j % 5) (by simp; omega) (by omega)
    rw [← e, List.getElem_replicate] at h
    rw [h]
    have hm : j % 5 < 5 := by omega
    have hr : (Array.range (n * 5))[j]? = some j := by simp [hj]
    rw [hr]
    simp only [Option.map_some]
    show some ((#[Value.int .i64 0, .int .i64 0, .slice none 0 0, .int .i64 0, .bool false] : Array Value)[j % 5]!) = _
    generalize j % 5 = t at hm
    match t, hm with
    | 0, _ => rfl
    | 1, _ => rfl
    | 2, _ => rfl
    | 3, _ => rfl
    | 4, _ => rfl
  · have hr : (Array.range (n * 5))[j]? = none := by simp; omega
    rw [hr, List.getElem?_eq_none (by rw [zcells_length]; simp; omega)]
    rfl
theorem zinit_at (cap blk k m j : Nat) (hj : j < 5) : (zinit cap blk k (m + 1))[k * 5 + j]? = (zE.cells 0 0)[j]? := by
  have hl := zcells_length cap blk (List.replicate k zE)
  rw [List.length_replicate] at hl
  unfold zinit
  rw [List.getElem?_append_right (by omega), List.replicate_succ, zcells_cons, List.getElem?_append_left (by simp [Zs.cells]; omega), hl]
  congr 1
  omega
theorem zcells_snoc (cap blk : Nat) (zs : List Zs) (z : Zs) : zcells cap blk (zs ++ [z]) = zcells cap blk zs ++ z.cells cap blk := by simp [zcells]
theorem zinit_set (cap blk k m : Nat) : (((((zinit cap blk k (m + 1)).set (k * 5) (.int .i64 (cap : Int))).set (k * 5 + 1) (.int .i64 (blk : Int))).set (k * 5 + 2) (.slice none 0 0)).set (k * 5 + 3) (.int .i64 0)).set (k * 5 + 4) (.bool false) = zinit cap blk (k + 1) m := by
  have hl := zcells_length cap blk (List.replicate k zE)
  rw [List.length_replicate] at hl
  unfold zinit
  rw [List.replicate_succ' (n := k), zcells_snoc, List.replicate_succ, zcells_cons, List.append_assoc]
  generalize zcells cap blk (List.replicate k zE) = L at hl
  have e : ∀ (j : Nat) (l : List Value) (u : Value), (L ++ l).set (k * 5 + j) u = L ++ l.set j u := fun j l u => by
    rw [List.set_append_right _ _ (by omega)]
    congr 2
    omega
  have e0 := e 0
  simp only [Nat.add_zero] at e0
  rw [e0, e 1, e 2, e 3, e 4]
  simp [Zs.cells, zE]
theorem zE_ok {cap blk : Nat} (c1 : 1 ≤ cap) (c2 : cap ≤ 4096) (b1 : 1 ≤ blk) (b2 : blk ≤ 4096) : Zok cap blk zE.k zE.safe zE.D.length zE.c := ⟨c1, c2, b1, b2, by simp [zE], by simp [zE], by simp [zE], by simp [zE], by simp [zE]⟩

set_option maxHeartbeats 1000000 in
theorem newDev_any (n cap blk : Nat) (limit : Int) (w : World) (n1 : 1 ≤ n) (n2 : n ≤ 64) (c1 : 1 ≤ cap) (c2 : cap ≤ 4096) (b1 : 1 ≤ blk) (b2 : blk ≤ 4096) (hl : 1 ≤ limit) :
    Calls Try.prog 43 #[.int .i64 (n : Int), .int .i64 (cap : Int), .int .i64 (blk : Int), .int .i64 limit] w fun e w' => e = .returned (.tuple #[.pointer (some ⟨w.heap.size + 1, 0, none⟩), .int .i64 0]) ∧ DevAt w' (w.heap.size + 1) w.heap.size cap blk limit 0 (List.replicate n zE) ∧ Below w.heap.size w w' := by
  obtain ⟨i0, hi, hz0, hz1, hz2⟩ := info_parts Try.info74
  have hmk : ∀ w, (Instr.makeSlice 77 (.int .i64 (n : Int)) (.int .i64 (n : Int))).run Try.prog w = .ok (.slice (some ⟨w.heap.size, 0, none⟩) n n) (w.alloc (.cells (zinit cap blk 0 n).toArray 74)) := fun w => by
    have h := run_make (P := Try.prog) w 77 74 i0 _ Try.underlying77 hi hz0 .i64 .i64 n n (by omega) (by omega) (by rw [hz2]; omega) (by omega)
    rw [h, hz1, ← zinit_made cap blk n]
    simp
  clear hi hz0 hz1 hz2
  go_enter Try.func43, Try.ntmps43
  go_wp2
  clear hmk
  have S0 : Hid (Box ((w.alloc (.cells (zinit cap blk 0 n).toArray 74)).alloc (.cells #[.slice (some ⟨w.heap.size, 0, none⟩) n n, .int .i64 limit, .int .i64 0, .bool false] 79)) (w.heap.size + 1) 79 #[.slice (some ⟨w.heap.size, 0, none⟩) n n, .int .i64 limit, .int .i64 0, .bool false] ∧
      Box ((w.alloc (.cells (zinit cap blk 0 n).toArray 74)).alloc (.cells #[.slice (some ⟨w.heap.size, 0, none⟩) n n, .int .i64 limit, .int .i64 0, .bool false] 79)) w.heap.size 74 (zinit cap blk 0 (n - 0)).toArray ∧
      Below w.heap.size w ((w.alloc (.cells (zinit cap blk 0 n).toArray 74)).alloc (.cells #[.slice (some ⟨w.heap.size, 0, none⟩) n n, .int .i64 limit, .int .i64 0, .bool false] 79))) := by
    have h := two_boxes (w := w) (t := 74) (u := 79) (Below.refl (w.heap.size + 1 + 1) ((w.alloc (.cells (zinit cap blk 0 n).toArray 74)).alloc (.cells #[.slice (some ⟨w.heap.size, 0, none⟩) n n, .int .i64 limit, .int .i64 0, .bool false] 79))) (Nat.le_refl _)
    exact ⟨h.2.1, by simpa using h.1, h.2.2⟩
  go_loopw [39] (fun i wr => ∃ k : Nat, k ≤ n ∧ i = .int .i64 k ∧ Box wr (w.heap.size + 1) 79 #[.slice (some ⟨w.heap.size, 0, none⟩) n n, .int .i64 limit, .int .i64 0, .bool false] ∧ Box wr w.heap.size 74 (zinit cap blk k (n - k)).toArray ∧ Below w.heap.size w wr) (fun i _ => n - (intOf i).toNat)
  case atStart => exact ⟨0, by omega, rfl, S0.out⟩
  case round =>
    clear S0
    obtain ⟨k, hk, rfl, hbp, hbz, hbel⟩ := hrel
    by_cases hlt : k < n
    · obtain ⟨m, hm⟩ : ∃ m, n - k = m + 1 := ⟨n - k - 1, by omega⟩
      have hm2 : n - (k + 1) = m := by omega
      rw [hm] at hbz
      have HS := Lib.hid (And.intro hbp (And.intro hbz (And.intro hbel hm2)))
      clear hbp hbz hbel hm hm2
      go_wp2_with fail
      refine wpG_start [w.heap.size] (by kernel_rfl) ?_
      have HT : Hid (Box wr.drew (w.heap.size + 1) 79 #[.slice (some ⟨w.heap.size, 0, none⟩) n n, .int .i64 limit, .int .i64 0, .bool false] ∧ Box wr.drew w.heap.size 74 (zinit cap blk k (m + 1)).toArray ∧ Below w.heap.size w wr.drew ∧ n - (k + 1) = m) := ⟨HS.out.1, HS.out.2.1, HS.out.2.2.1.drew, HS.out.2.2.2⟩
      generalize wr.drew = w0 at HT ⊢
      clear HS
      have p0 : ∀ w', Turn [w.heap.size] w0 w' → w'.cell? ⟨w.heap.size + 1, 0, none⟩ = some (.slice (some ⟨w.heap.size, 0, none⟩) n n) := fun w' h => (box4 (HT.out.1.turn h (by simp))).1.1
      refine wpG_take (i := 0) (d := 42) (v := ?v7x0) rfl rfl (by kernel_rfl) (by kernel_rfl) (by kernel_rfl) (fun _ _ _ h => h) (by rfl) ?y7x0 ?r7x0
      case y7x0 => (intro w' hSw; go_simp; try (with_reducible rfl))
      simp only [Act.put, List.setIfInBounds_toArray, List.set_cons_zero, List.set_cons_succ]
      refine wpG_take (i := 1) (d := 43) (v := ?v7x1) rfl rfl (by kernel_rfl) (by kernel_rfl) (by kernel_rfl) (fun _ _ _ h => h) (by rfl) ?y7x1 ?r7x1
      case y7x1 => (intro w' hSw; go_simp; try (with_reducible rfl))
      simp only [Act.put, List.setIfInBounds_toArray, List.set_cons_zero, List.set_cons_succ]
      refine wpG_take (i := 2) (d := 44) (v := ?v7x2) rfl rfl (by kernel_rfl) (by kernel_rfl) (by kernel_rfl) (fun _ _ _ h => h) (by rfl) ?y7x2 ?r7x2
      case y7x2 => (intro w' hSw; go_simp; try (with_reducible rfl))
      simp only [Act.put, List.setIfInBounds_toArray, List.set_cons_zero, List.set_cons_succ]
      refine wpG_take (i := 3) (d := 45) (v := ?v7x3) rfl rfl (by kernel_rfl) (by kernel_rfl) (by kernel_rfl) (fun _ _ _ h => h) (by rfl) ?y7x3 ?r7x3
      case y7x3 => (intro w' hSw; go_simp; try (with_reducible rfl))
      simp only [Act.put, List.setIfInBounds_toArray, List.set_cons_zero, List.set_cons_succ]
      refine wpG_take (i := 4) (d := 46) (v := ?v7x4) rfl rfl (by kernel_rfl) (by kernel_rfl) (by kernel_rfl) (fun _ _ _ h => h) (by rfl) ?y7x4 ?r7x4
      case y7x4 => (intro w' hSw; go_simp; try (with_reducible rfl))
      simp only [Act.put, List.setIfInBounds_toArray, List.set_cons_zero, List.set_cons_succ]
      refine wpG_take (i := 5) (d := 47) (v := ?v7x5) rfl rfl (by kernel_rfl) (by kernel_rfl) (by kernel_rfl) (fun _ _ _ h => h) (by rfl) ?y7x5 ?r7x5
      case y7x5 => (intro w' hSw; go_simp; try (with_reducible rfl))
      simp only [Act.put, List.setIfInBounds_toArray, List.set_cons_zero, List.set_cons_succ]
      refine wpG_take (i := 6) (d := 48) (v := ?v7x6) rfl rfl (by kernel_rfl) (by kernel_rfl) (by kernel_rfl) (fun _ _ _ h => h) (by rfl) ?y7x6 ?r7x6
      case y7x6 => (intro w' hSw; go_simp; try (with_reducible rfl))
      simp only [Act.put, List.setIfInBounds_toArray, List.set_cons_zero, List.set_cons_succ]
      refine wpG_do (i := 7) (by kernel_rfl) rfl (by rfl) (fun K hK => ?_)
      go_simp
      refine (new_any cap blk w0).mono ?_
      rintro e w1 ⟨rfl, hb⟩
      rw [fit_id cap c1 c2, fit_id blk b1 b2]
      have HU := Lib.hid (And.intro (HT.out.1.later hb) (And.intro (HT.out.2.1.later hb) (And.intro (HT.out.2.2.1.trans (hb.mono HT.out.2.2.1.size)) HT.out.2.2.2)))
      refine hK.out _ _ (Turn.of_below hb (Nat.le_refl _)) ?_
      clear hK K hb p0 HT
      refine wpG_take (i := 8) (d := 50) (v := ?v7x8) rfl rfl (by kernel_rfl) (by kernel_rfl) (by kernel_rfl) (fun _ _ _ h => h) (by rfl) ?y7x8 ?r7x8
      case y7x8 => (intro w' hSw; go_simp; try (with_reducible rfl))
      simp only [Act.put, List.setIfInBounds_toArray, List.set_cons_zero, List.set_cons_succ]
      have s : ∀ j, j < 5 → w1.cell? ⟨w.heap.size, k * 5 + j, none⟩ = (zE.cells 0 0)[j]? := fun j hj => by rw [HU.out.2.1.cell, List.getElem?_toArray, zinit_at cap blk k m j hj]
      have s0 : w1.cell? ⟨w.heap.size, k * 5, none⟩ = some (.int .i64 0) := s 0 (by omega)
      have s1 : w1.cell? ⟨w.heap.size, k * 5 + 1, none⟩ = some (.int .i64 0) := s 1 (by omega)
      have s2 : w1.cell? ⟨w.heap.size, k * 5 + 2, none⟩ = some (.slice none 0 0) := s 2 (by omega)
      have s3 : w1.cell? ⟨w.heap.size, k * 5 + 3, none⟩ = some (.int .i64 0) := s 3 (by omega)
      have s4 : w1.cell? ⟨w.heap.size, k * 5 + 4, none⟩ = some (.bool false) := s 4 (by omega)
      have f0 : w1.frozen? ⟨w.heap.size, k * 5, none⟩ = false := HU.out.2.1.frozen _
      have f1 : w1.frozen? ⟨w.heap.size, k * 5 + 1, none⟩ = false := HU.out.2.1.frozen _
      have f2 : w1.frozen? ⟨w.heap.size, k * 5 + 2, none⟩ = false := HU.out.2.1.frozen _
      have f3 : w1.frozen? ⟨w.heap.size, k * 5 + 3, none⟩ = false := HU.out.2.1.frozen _
      have f4 : w1.frozen? ⟨w.heap.size, k * 5 + 4, none⟩ = false := HU.out.2.1.frozen _
      clear s
      refine wpG_do (i := 9) (by kernel_rfl) rfl (by rfl) (fun K hK => ?_)
      go_simp
      have hT : Turn [w.heap.size] w1 (((((w1.setCell ⟨w.heap.size, k * 5, none⟩ (.int .i64 (cap : Int))).setCell ⟨w.heap.size, k * 5 + 1, none⟩ (.int .i64 (blk : Int))).setCell ⟨w.heap.size, k * 5 + 2, none⟩ (.slice none 0 0)).setCell ⟨w.heap.size, k * 5 + 3, none⟩ (.int .i64 0)).setCell ⟨w.heap.size, k * 5 + 4, none⟩ (.bool false)) := by
        repeat (first | with_reducible exact Turn.refl _ _ | with_reducible refine Turn.put ?_ (by simp) _)
      have hB : Box (((((w1.setCell ⟨w.heap.size, k * 5, none⟩ (.int .i64 (cap : Int))).setCell ⟨w.heap.size, k * 5 + 1, none⟩ (.int .i64 (blk : Int))).setCell ⟨w.heap.size, k * 5 + 2, none⟩ (.slice none 0 0)).setCell ⟨w.heap.size, k * 5 + 3, none⟩ (.int .i64 0)).setCell ⟨w.heap.size, k * 5 + 4, none⟩ (.bool false)) w.heap.size 74 (zinit cap blk (k + 1) m).toArray := by
        have h5 := ((((HU.out.2.1.store (k * 5) (.int .i64 (cap : Int))).store (k * 5 + 1) (.int .i64 (blk : Int))).store (k * 5 + 2) (.slice none 0 0)).store (k * 5 + 3) (.int .i64 0)).store (k * 5 + 4) (.bool false)
        simp only [List.setIfInBounds_toArray] at h5
        rw [zinit_set cap blk k m] at h5
        exact h5
      refine hK.out _ _ hT ?_
      generalize (((((w1.setCell ⟨w.heap.size, k * 5, none⟩ (.int .i64 (cap : Int))).setCell ⟨w.heap.size, k * 5 + 1, none⟩ (.int .i64 (blk : Int))).setCell ⟨w.heap.size, k * 5 + 2, none⟩ (.slice none 0 0)).setCell ⟨w.heap.size, k * 5 + 3, none⟩ (.int .i64 0)).setCell ⟨w.heap.size, k * 5 + 4, none⟩ (.bool false)) = w2 at hT hB ⊢
      have HV := Lib.hid (And.intro (HU.out.1.turn hT (by simp)) (And.intro hB (HU.out.2.2.1.trans (hT.below (by simp) HU.out.2.2.1.size))))
      clear hK K hT hB s0 s1 s2 s3 s4 f0 f1 f2 f3 f4
      refine wpG_done (by kernel_rfl) ?_
      go_wp2
      go_roundw
      case rel => exact ⟨k + 1, by omega, by go_num, HV.out.1, by rw [HU.out.2.2.2]; exact HV.out.2.1, HV.out.2.2⟩
      case measure => simp [intOf]; omega
    · obtain rfl : k = n := by omega
      have HS := Lib.hid (And.intro hbp (And.intro hbz hbel))
      clear hbp hbz hbel
      go_wp2
      refine bodyPost_ret (v := .tuple #[.pointer (some ⟨w.heap.size + 1, 0, none⟩), .int .i64 0]) (by simp [results, Try.results43, go_sem]) rfl ⟨rfl, ⟨?_, ?_, ?_, ?_, ?_⟩, HS.out.2.2⟩
      · have h := HS.out.1
        simpa [DevBox] using h
      · have h := HS.out.2.1
        simpa [zinit, zcells] using h
      · intro z hz
        obtain rfl := (List.mem_replicate.1 hz).2
        exact zE_ok c1 c2 b1 b2
      · intro z hz
        obtain rfl := (List.mem_replicate.1 hz).2
        exact Mem.nil
      · simpa using n2
end Go.Proofs.Ytbaolfncolfipaa
