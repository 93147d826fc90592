/- Contracts of member and of bus.New. -/
import Derived.Test.YtbaolfncolfipaaY
namespace Go.Proofs.Ytbaolfncolfipaa
set_option linter.unusedVariables false
set_option linter.unusedSimpArgs false
open Go.RowKit
open Go.RowKit (wrap64)

set_option maxHeartbeats 400000 in
theorem member_any (zones cap blk : Nat) (limit : Int) (w : World) (n1 : 1 ≤ zones) (n2 : zones ≤ 64) (c1 : 1 ≤ cap) (c2 : cap ≤ 4096) (b1 : 1 ≤ blk) (b2 : blk ≤ 4096) (hl : 1 ≤ limit) :
    Calls Try.prog 25 #[.agg #[.int .i64 (zones : Int), .int .i64 (cap : Int), .int .i64 (blk : Int), .int .i64 limit]] w fun e w' => e = .returned (.tuple #[.pointer (some ⟨w.heap.size + 2, 0, none⟩), .int .i64 0]) ∧ DevAt w' (w.heap.size + 2) (w.heap.size + 1) cap blk limit 0 (List.replicate zones zE) ∧ Below w.heap.size w w' := by
  go_enter Try.func25, Try.ntmps25
  go_wp2_with fail
  refine (newDev_any zones cap blk limit _ n1 n2 c1 c2 b1 b2 hl).mono ?_
  rintro e w1 ⟨rfl, hd, hb⟩
  have HB := Lib.hid (And.intro hd (below_of_alloc hb (by simp)))
  clear hd hb
  simp only [World.alloc, Array.size_push] at HB
  go_wp2
  refine bodyPost_ret (v := .tuple #[.pointer (some ⟨w.heap.size + 2, 0, none⟩), .int .i64 0]) (by simp [results, Try.results25, go_sem]) rfl ⟨rfl, ?_⟩
  exact HB.out

theorem Try.info59 : (Try.prog.info? 59).map (fun i => (i.zero, i.size, i.bytes)) = some (some (.agg #[.pointer none, .int .i64 0, .int .i64 0]), 3, 24) := by kernel_rfl
/-- A place where nothing is yet. -/
def plE : Pl := ⟨none, 0, 0⟩
theorem pcells_made (n : Nat) : madeCells (Value.agg #[.pointer none, .int .i64 0, .int .i64 0]).cells (n * 3) = (pcells (List.replicate n plE)).toArray := by
  apply Array.ext_getElem?
  intro j
  simp only [List.getElem?_toArray, madeCells, Array.getElem?_map]
  by_cases hj : j < n * 3
  · have e : j = j / 3 * 3 + j % 3 := by omega
    have h := pcells_at (List.replicate n plE) (j / 3) (j % 3) (by simp; omega) (by omega)
    rw [← e, List.getElem_replicate] at h
    rw [h]
    have hm : j % 3 < 3 := by omega
    have hr : (Array.range (n * 3))[j]? = some j := by simp [hj]
    rw [hr]
    simp only [Option.map_some]
    show some ((#[Value.pointer none, .int .i64 0, .int .i64 0] : Array Value)[j % 3]!) = _
    generalize j % 3 = t at hm
    match t, hm with
    | 0, _ => rfl
    | 1, _ => rfl
    | 2, _ => rfl
  · have hr : (Array.range (n * 3))[j]? = none := by simp; omega
    rw [hr, List.getElem?_eq_none (by rw [pcells_length]; simp; omega)]
    rfl

/-- A member as it is made. -/
def mbE (zones p zb : Nat) : Mb := ⟨p, zb, 0, false, List.replicate zones zE, 0, -1⟩
/-- Members as they are made, at blocks from base on. -/
structure Made (w : World) (zones cap blk : Nat) (limit : Int) (base : Nat) (ms : List Mb) : Prop where
  all : ∀ m ∈ ms, m = mbE zones m.p m.zb ∧ MbAt w cap blk limit m ∧ base ≤ m.p ∧ base ≤ m.zb
  apart : ∀ i j (hi : i < ms.length) (hj : j < ms.length), i ≠ j → ms[i].p ≠ ms[j].p ∧ ms[i].zb ≠ ms[j].zb
theorem MbAt.lt {w : World} {cap blk : Nat} {limit : Int} {m : Mb} (h : MbAt w cap blk limit m) : m.p < w.heap.size ∧ m.zb < w.heap.size := by
  obtain ⟨Z, n, c, hx⟩ := h.box
  obtain ⟨cs, hz⟩ := h.zt
  exact ⟨Box.lt hx, hz.lt⟩
theorem Made.later {w w' : World} {zones cap blk : Nat} {limit : Int} {base : Nat} {ms : List Mb} (h : Made w zones cap blk limit base ms) (hb : Below w.heap.size w w') : Made w' zones cap blk limit base ms :=
  ⟨fun m hm => ⟨(h.all m hm).1, (h.all m hm).2.1.later hb, (h.all m hm).2.2⟩, h.apart⟩
theorem Made.turn {gs : List Nat} {w w' : World} {zones cap blk : Nat} {limit : Int} {base : Nat} {ms : List Mb} (h : Made w zones cap blk limit base ms) (ht : Turn gs w w') (hg : ∀ g ∈ gs, Else 5 w g ∧ g < base) : Made w' zones cap blk limit base ms :=
  ⟨fun m hm => ⟨(h.all m hm).1, (h.all m hm).2.1.turn ht (fun g hx => (hg g hx).1) (fun hx => by have := (hg _ hx).2; have := (h.all m hm).2.2; omega) (fun hx => by have := (hg _ hx).2; have := (h.all m hm).2.2; omega), (h.all m hm).2.2⟩, h.apart⟩
theorem Made.next {w w' : World} {zones cap blk : Nat} {limit : Int} {base p zb : Nat} {ms : List Mb} (h : Made w zones cap blk limit base ms) (hb : Below w.heap.size w w') (hd : DevAt w' p zb cap blk limit 0 (List.replicate zones zE)) (hp : w.heap.size ≤ p) (hz : w.heap.size ≤ zb) (hB : base ≤ w.heap.size) :
    Made w' zones cap blk limit base (ms ++ [mbE zones p zb]) := by
  refine ⟨fun m hm => ?_, fun i j hi hj hne => ?_⟩
  · rcases List.mem_append.1 hm with hm | hm
    · exact (h.later hb).all m hm
    · obtain rfl : m = mbE zones p zb := by simpa using hm
      exact ⟨rfl, ⟨(fun e => by cases e), (fun _ => hd), _, hd.bz⟩, by simp only [mbE]; omega, by simp only [mbE]; omega⟩
  · have hlt : ∀ k (hk : k < ms.length), ms[k].p < w.heap.size ∧ ms[k].zb < w.heap.size := fun k hk => ((h.all _ (List.getElem_mem hk)).2.1).lt
    simp only [List.length_append, List.length_cons, List.length_nil] at hi hj
    simp only [List.getElem_append]
    split
    · rename_i h1
      split
      · rename_i h2
        exact h.apart i j h1 h2 hne
      · have := hlt i h1
        simp [mbE]
        omega
    · split
      · rename_i h2
        have := hlt j h2
        simp [mbE]
        omega
      · omega

/-- What New hands back: so many members, all empty. -/
def NewB (n zones cap blk : Nat) (limit : Int) (w : World) (e : Ending) (w' : World) : Prop :=
  ∃ B : Bd, e = .returned (.tuple #[.pointer (some ⟨B.b, 0, none⟩), .int .i64 0]) ∧ BusAt w' B ∧ (∀ g ∈ B.gs, w.heap.size ≤ g) ∧ Below w.heap.size w w' ∧
    B = ⟨B.b, B.pb, zones, cap, blk, limit, -1, false, 0, 0, B.ms⟩ ∧ B.ms.length = n ∧ ∀ m ∈ B.ms, m = mbE zones m.p m.zb

set_option maxHeartbeats 2000000 in
theorem busNew_any (n zones cap blk : Nat) (limit : Int) (w : World) (m1 : 1 ≤ n) (m2 : n ≤ 16) (n1 : 1 ≤ zones) (n2 : zones ≤ 64) (c1 : 1 ≤ cap) (c2 : cap ≤ 4096) (b1 : 1 ≤ blk) (b2 : blk ≤ 4096) (hl : 1 ≤ limit) :
    Calls Try.prog 7 #[.int .i64 (n : Int), .int .i64 (zones : Int), .int .i64 (cap : Int), .int .i64 (blk : Int), .int .i64 limit] w (NewB n zones cap blk limit w) := by
  obtain ⟨i0, hi, hz0, hz1, hz2⟩ := info_parts Try.info59
  have hmk : ∀ w, (Instr.makeSlice 52 (.int .i64 (n : Int)) (.int .i64 (n : Int))).run Try.prog w = .ok (.slice (some ⟨w.heap.size, 0, none⟩) n n) (w.alloc (.cells (pcells (List.replicate n plE)).toArray 59)) := fun w => by
    have h := run_make (P := Try.prog) w 52 59 i0 _ Try.underlying52 hi hz0 .i64 .i64 n n (by omega) (by omega) (by rw [hz2]; omega) (by omega)
    rw [h, hz1, ← pcells_made n]
    simp
  clear hi hz0 hz1 hz2
  go_enter Try.func7, Try.ntmps7
  go_wp2_with fail
  refine wpG_start [] (by kernel_rfl) ?_
  have HV : Hid (Box (w.alloc (.cells #[.int .i64 (zones : Int), .int .i64 (cap : Int), .int .i64 (blk : Int), .int .i64 limit] 51)).drew w.heap.size 51 #[.int .i64 (zones : Int), .int .i64 (cap : Int), .int .i64 (blk : Int), .int .i64 limit] ∧ Below w.heap.size w (w.alloc (.cells #[.int .i64 (zones : Int), .int .i64 (cap : Int), .int .i64 (blk : Int), .int .i64 limit] 51)).drew ∧ (w.alloc (.cells #[.int .i64 (zones : Int), .int .i64 (cap : Int), .int .i64 (blk : Int), .int .i64 limit] 51)).drew.heap.size = w.heap.size + 1) :=
    ⟨Box.fresh w 51 _, ((Below.refl _ _).alloc (Nat.le_refl _) _).drew, by simp⟩
  generalize (w.alloc (.cells #[.int .i64 (zones : Int), .int .i64 (cap : Int), .int .i64 (blk : Int), .int .i64 limit] 51)).drew = w0 at HV ⊢
  have s0 : ∀ w', Turn [] w0 w' → w'.cell? ⟨w.heap.size, 0, none⟩ = some (.int .i64 (zones : Int)) := fun w' h => (box4 (HV.out.1.turn h (by simp))).1.1
  have s1 : ∀ w', Turn [] w0 w' → w'.cell? ⟨w.heap.size, 1, none⟩ = some (.int .i64 (cap : Int)) := fun w' h => (box4 (HV.out.1.turn h (by simp))).1.2.1
  have s2 : ∀ w', Turn [] w0 w' → w'.cell? ⟨w.heap.size, 2, none⟩ = some (.int .i64 (blk : Int)) := fun w' h => (box4 (HV.out.1.turn h (by simp))).1.2.2.1
  have s3 : ∀ w', Turn [] w0 w' → w'.cell? ⟨w.heap.size, 3, none⟩ = some (.int .i64 limit) := fun w' h => (box4 (HV.out.1.turn h (by simp))).1.2.2.2
  refine wpG_take (i := 0) (d := 28) (v := ?v4x0) rfl rfl (by kernel_rfl) (by kernel_rfl) (by kernel_rfl) (fun _ _ _ h => h) (by rfl) ?y4x0 ?r4x0
  case y4x0 => (intro w' hSw; go_simp; try (with_reducible rfl))
  simp only [Act.put, List.setIfInBounds_toArray, List.set_cons_zero, List.set_cons_succ]
  refine wpG_take (i := 1) (d := 29) (v := ?v4x1) rfl rfl (by kernel_rfl) (by kernel_rfl) (by kernel_rfl) (fun _ _ _ h => h) (by rfl) ?y4x1 ?r4x1
  case y4x1 => (intro w' hSw; go_simp; try (with_reducible rfl))
  simp only [Act.put, List.setIfInBounds_toArray, List.set_cons_zero, List.set_cons_succ]
  refine wpG_do (i := 2) (by kernel_rfl) rfl (by rfl) (fun K hK => ?_)
  go_simp
  refine hK.out _ _ ((Turn.refl _ _).alloc _) ?_
  have HP : Hid (Box (w0.alloc (.cells (pcells (List.replicate n plE)).toArray 59)) (w.heap.size + 1) 59 (pcells (List.replicate n plE)).toArray ∧ Box (w0.alloc (.cells (pcells (List.replicate n plE)).toArray 59)) w.heap.size 51 #[.int .i64 (zones : Int), .int .i64 (cap : Int), .int .i64 (blk : Int), .int .i64 limit] ∧ Below w.heap.size w (w0.alloc (.cells (pcells (List.replicate n plE)).toArray 59)) ∧ (w0.alloc (.cells (pcells (List.replicate n plE)).toArray 59)).heap.size = w.heap.size + 2) := by
    have h := Box.fresh w0 59 (pcells (List.replicate n plE)).toArray
    rw [HV.out.2.2] at h
    exact ⟨h, HV.out.1.later ((Below.refl _ _).alloc (Nat.le_refl _) _), HV.out.2.1.alloc HV.out.2.1.size _, by simp [HV.out.2.2]⟩
  rw [HV.out.2.2]
  generalize (w0.alloc (.cells (pcells (List.replicate n plE)).toArray 59)) = w1 at HP ⊢
  clear hK s0 s1 s2 s3 HV hmk
  refine wpG_take (i := 3) (d := 31) (v := ?v4x3) rfl rfl (by kernel_rfl) (by kernel_rfl) (by kernel_rfl) (fun _ _ _ h => h) (by rfl) ?y4x3 ?r4x3
  case y4x3 => (intro w' hSw; go_simp; try (with_reducible rfl))
  simp only [Act.put, List.setIfInBounds_toArray, List.set_cons_zero, List.set_cons_succ]
  refine wpG_do (i := 4) (by kernel_rfl) rfl (by rfl) (fun K hK => ?_)
  go_simp
  refine hK.out _ _ ((Turn.refl _ _).alloc _) ?_
  have HQ : Hid (Box (w1.alloc (.cells #[.int .i64 (zones : Int), .int .i64 (cap : Int), .int .i64 (blk : Int), .int .i64 limit, .slice (some ⟨w.heap.size + 1, 0, none⟩) n n, .int .i64 (-1), .bool false, .int .i64 0, .int .i64 0] 54)) (w.heap.size + 2) 54 #[.int .i64 (zones : Int), .int .i64 (cap : Int), .int .i64 (blk : Int), .int .i64 limit, .slice (some ⟨w.heap.size + 1, 0, none⟩) n n, .int .i64 (-1), .bool false, .int .i64 0, .int .i64 0] ∧ Box (w1.alloc (.cells #[.int .i64 (zones : Int), .int .i64 (cap : Int), .int .i64 (blk : Int), .int .i64 limit, .slice (some ⟨w.heap.size + 1, 0, none⟩) n n, .int .i64 (-1), .bool false, .int .i64 0, .int .i64 0] 54)) (w.heap.size + 1) 59 (pcells (List.replicate n plE)).toArray ∧ Box (w1.alloc (.cells #[.int .i64 (zones : Int), .int .i64 (cap : Int), .int .i64 (blk : Int), .int .i64 limit, .slice (some ⟨w.heap.size + 1, 0, none⟩) n n, .int .i64 (-1), .bool false, .int .i64 0, .int .i64 0] 54)) w.heap.size 51 #[.int .i64 (zones : Int), .int .i64 (cap : Int), .int .i64 (blk : Int), .int .i64 limit] ∧ Below w.heap.size w (w1.alloc (.cells #[.int .i64 (zones : Int), .int .i64 (cap : Int), .int .i64 (blk : Int), .int .i64 limit, .slice (some ⟨w.heap.size + 1, 0, none⟩) n n, .int .i64 (-1), .bool false, .int .i64 0, .int .i64 0] 54)) ∧ (w1.alloc (.cells #[.int .i64 (zones : Int), .int .i64 (cap : Int), .int .i64 (blk : Int), .int .i64 limit, .slice (some ⟨w.heap.size + 1, 0, none⟩) n n, .int .i64 (-1), .bool false, .int .i64 0, .int .i64 0] 54)).heap.size = w.heap.size + 3) := by
    have h := Box.fresh w1 54 #[.int .i64 (zones : Int), .int .i64 (cap : Int), .int .i64 (blk : Int), .int .i64 limit, .slice (some ⟨w.heap.size + 1, 0, none⟩) n n, .int .i64 (-1), .bool false, .int .i64 0, .int .i64 0]
    rw [HP.out.2.2.2] at h
    exact ⟨h, HP.out.1.later ((Below.refl _ _).alloc (Nat.le_refl _) _), HP.out.2.1.later ((Below.refl _ _).alloc (Nat.le_refl _) _), HP.out.2.2.1.alloc HP.out.2.2.1.size _, by simp [HP.out.2.2.2]⟩
  rw [HP.out.2.2.2]
  generalize (w1.alloc (.cells #[.int .i64 (zones : Int), .int .i64 (cap : Int), .int .i64 (blk : Int), .int .i64 limit, .slice (some ⟨w.heap.size + 1, 0, none⟩) n n, .int .i64 (-1), .bool false, .int .i64 0, .int .i64 0] 54)) = w2 at HQ ⊢
  clear hK HP
  refine wpG_take (i := 5) (d := 13) (v := ?v4x5) rfl rfl (by kernel_rfl) (by kernel_rfl) (by kernel_rfl) (fun _ _ _ h => h) (by rfl) ?y4x5 ?r4x5
  case y4x5 => (intro w' hSw; go_simp; try (with_reducible rfl))
  simp only [Act.put, List.setIfInBounds_toArray, List.set_cons_zero, List.set_cons_succ]
  refine wpG_done (by kernel_rfl) ?_
  obtain ⟨⟨q0, q1, q2, q3, q4, q5, q6, q7, q8⟩, f4, f5, f6, f7, f8⟩ := box9 HQ.out.1
  go_wp2
  clear q0 q1 q2 q3 q4 q5 q6 q7 q8 f4 f5 f6 f7 f8
  go_loopw [38] (fun i wr => ∃ (k : Nat) (ms : List Mb), k ≤ n ∧ i = .int .i64 k ∧ ms.length = k ∧ Made wr zones cap blk limit (w.heap.size + 3) ms ∧ Box wr (w.heap.size + 2) 54 #[.int .i64 (zones : Int), .int .i64 (cap : Int), .int .i64 (blk : Int), .int .i64 limit, .slice (some ⟨w.heap.size + 1, 0, none⟩) n n, .int .i64 (-1), .bool false, .int .i64 0, .int .i64 0] ∧ Box wr (w.heap.size + 1) 59 (pcells (ms.map Mb.pl ++ List.replicate (n - k) plE)).toArray ∧ Box wr w.heap.size 51 #[.int .i64 (zones : Int), .int .i64 (cap : Int), .int .i64 (blk : Int), .int .i64 limit] ∧ Below w.heap.size w wr ∧ w.heap.size + 3 ≤ wr.heap.size) (fun i _ => n - (intOf i).toNat)
  case atStart => exact ⟨0, [], by omega, rfl, rfl, ⟨(fun m hm => by cases hm), (fun i j hi => by simp at hi)⟩, HQ.out.1, HQ.out.2.1, HQ.out.2.2.1, HQ.out.2.2.2.1, Nat.le_of_eq HQ.out.2.2.2.2.symm⟩
  case round =>
    clear HQ
    obtain ⟨k, ms, hk, rfl, hml, hmd, hb54, hb59, hb51, hbel, hsz⟩ := hrel
    have HS := Lib.hid (And.intro hml (And.intro hmd (And.intro hb54 (And.intro hb59 (And.intro hb51 (And.intro hbel hsz))))))
    clear hml hmd hb59 hbel hsz
    by_cases hlt : k < n
    · obtain ⟨⟨s0, s1, s2, s3⟩, y0, y1, y2, y3⟩ := box4 hb51
      clear hb54 hb51
      go_wp2_with fail
      refine (member_any zones cap blk limit wr n1 n2 c1 c2 b1 b2 hl).mono ?_
      rintro e w3 ⟨rfl, hd, hb⟩
      have hB59 := HS.out.2.2.2.1.later hb
      have hm2 := HS.out.2.1.next hb hd (by omega) (by omega) HS.out.2.2.2.2.2.2
      have hbel2 := HS.out.2.2.2.2.2.1.trans (hb.mono HS.out.2.2.2.2.2.1.size)
      have HU := Lib.hid (And.intro hm2 (And.intro (HS.out.2.2.1.later hb) (And.intro hB59 (And.intro (HS.out.2.2.2.2.1.later hb) (And.intro hbel2 (Nat.le_trans HS.out.2.2.2.2.2.2 hb.size))))))
      obtain ⟨⟨q0, q1, q2, q3, q4, q5, q6, q7, q8⟩, f4, f5, f6, f7, f8⟩ := box9 HU.out.2.1
      have hlen : k < (ms.map Mb.pl ++ List.replicate (n - k) plE).length := by simp [HS.out.1]; omega
      have hat : ∀ j, j < 3 → w3.cell? ⟨w.heap.size + 1, k * 3 + j, none⟩ = (plE.cells)[j]? := fun j hj => by
        rw [hB59.cell, List.getElem?_toArray, pcells_at _ k j hlen hj]
        simp [List.getElem_append, HS.out.1]
      have t0 : w3.cell? ⟨w.heap.size + 1, k * 3, none⟩ = some (.pointer none) := hat 0 (by omega)
      have t1 : w3.cell? ⟨w.heap.size + 1, k * 3 + 1, none⟩ = some (.int .i64 0) := hat 1 (by omega)
      have t2 : w3.cell? ⟨w.heap.size + 1, k * 3 + 2, none⟩ = some (.int .i64 0) := hat 2 (by omega)
      have g0 : w3.frozen? ⟨w.heap.size + 1, k * 3, none⟩ = false := hB59.frozen _
      have g1 : w3.frozen? ⟨w.heap.size + 1, k * 3 + 1, none⟩ = false := hB59.frozen _
      have g2 : w3.frozen? ⟨w.heap.size + 1, k * 3 + 2, none⟩ = false := hB59.frozen _
      have HK := Lib.hid (And.intro HS.out.1 (And.intro hlen HS.out.2.2.2.2.2.2))
      clear hd hb hB59 hm2 hbel2 hat HS hlen s0 s1 s2 s3 y0 y1 y2 y3
      generalize hpp : wr.heap.size + 2 = pp at HU ⊢
      generalize hzz : wr.heap.size + 1 = zz at HU
      clear hpp hzz
      go_wp2
      have hT : Turn [w.heap.size + 1] w3 (((w3.setCell ⟨w.heap.size + 1, k * 3, none⟩ (.pointer (some ⟨pp, 0, none⟩))).setCell ⟨w.heap.size + 1, k * 3 + 1, none⟩ (.int .i64 0)).setCell ⟨w.heap.size + 1, k * 3 + 2, none⟩ (.int .i64 (-1))) := by
        repeat (first | with_reducible exact Turn.refl _ _ | with_reducible refine Turn.put ?_ (by simp) _)
      have hB := ((HU.out.2.2.1.store (k * 3) (.pointer (some ⟨pp, 0, none⟩))).store (k * 3 + 1) (.int .i64 0)).store (k * 3 + 2) (.int .i64 (-1))
      simp only [List.setIfInBounds_toArray] at hB
      have e0 := pcells_set (mbE zones pp zz).pl (ms.map Mb.pl ++ List.replicate (n - k) plE) k HK.out.2.1
      simp only [Mb.pl, mbE, Int.natCast_zero, Int.ofNat_zero] at e0
      have e1 : (ms.map Mb.pl ++ List.replicate (n - k) plE).set k (mbE zones pp zz).pl = (ms ++ [mbE zones pp zz]).map Mb.pl ++ List.replicate (n - (k + 1)) plE := by
        obtain ⟨r, hr⟩ : ∃ r, n - k = r + 1 := ⟨n - k - 1, by omega⟩
        have hr2 : n - (k + 1) = r := by omega
        rw [hr, hr2, List.set_append_right _ _ (by simp [HK.out.1])]
        simp [HK.out.1, List.replicate_succ]
      simp only [Mb.pl, mbE, Int.natCast_zero, Int.ofNat_zero] at e1
      go_roundw
      case rel =>
        refine ⟨k + 1, ms ++ [mbE zones pp zz], by omega, by go_num, by simp [HK.out.1], ?_, HU.out.2.1.turn hT (by simp), ?_, HU.out.2.2.2.1.turn hT (by simp), HU.out.2.2.2.2.1.trans (hT.below (by simp) HU.out.2.2.2.2.1.size), Nat.le_trans HU.out.2.2.2.2.2 hT.size⟩
        · refine HU.out.1.turn hT ?_
          intro g hg
          obtain rfl : g = w.heap.size + 1 := by simpa using hg
          exact ⟨HU.out.2.2.1.else_ (by decide), by omega⟩
        · simp only [Mb.pl, mbE, Int.natCast_zero, Int.ofNat_zero]
          rw [← e1, e0]
          exact hB
      case measure => simp [intOf]; omega
    · obtain rfl : k = n := by omega
      clear hb54 hb51
      go_wp2
      refine bodyPost_ret (v := .tuple #[.pointer (some ⟨w.heap.size + 2, 0, none⟩), .int .i64 0]) (by simp [results, Try.results7, go_sem]) rfl ?_
      obtain ⟨hml, hmd, hb54, hb59, hb51, hbel, hsz⟩ := HS.out
      refine ⟨⟨w.heap.size + 2, w.heap.size + 1, zones, cap, blk, limit, -1, false, 0, 0, ms⟩, rfl, ⟨?_, ?_, fun m hm => (hmd.all m hm).2.1, hmd.apart, by simp only; omega⟩, ?_, hbel, rfl, hml, fun m hm => (hmd.all m hm).1⟩
      · simpa [Bd.cells, hml] using hb54
      · simpa using hb59
      · intro g hg
        rcases Bd.mem_gs.1 hg with rfl | rfl | ⟨m, hm, rfl⟩ | ⟨m, hm, rfl⟩
        · simp only; omega
        · simp only; omega
        · have := (hmd.all m hm).2.2; omega
        · have := (hmd.all m hm).2.2; omega
end Go.Proofs.Ytbaolfncolfipaa
