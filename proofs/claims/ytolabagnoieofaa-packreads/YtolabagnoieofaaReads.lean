/- The law PackReads: the walk. -/
import Derived.Test.YtolabagnoieofaaG
import Derived.Test.YtolabagnoieofaaOrb
import Derived.Deep.LoopGhost
import Derived.Deep.CutBlock
namespace Go.Proofs.Ytolabagnoieofaa.packReads
set_option linter.unusedVariables false
set_option linter.unusedSimpArgs false
open Go.RowKit
open Go.RowKit (wrap64)

/-- The acts that came in: three numbers each, a row of cells below block B. -/
def IsActs (w : World) (B : Nat) (a : Option Addr) (acts : List (Int × Int × Int)) : Prop :=
  0 < acts.length → ∃ g off, a = some ⟨g, off, none⟩ ∧ g < B ∧ ∀ j (h : j < acts.length),
    w.cell? ⟨g, off + j * 3, none⟩ = some (.int .i64 acts[j].1) ∧ w.cell? ⟨g, off + j * 3 + 1, none⟩ = some (.int .i64 acts[j].2.1) ∧ w.cell? ⟨g, off + j * 3 + 2, none⟩ = some (.int .i64 acts[j].2.2)
theorem IsActs.below {w w' : World} {B : Nat} {a : Option Addr} {acts : List (Int × Int × Int)} (h : IsActs w B a acts) (hb : Below B w w') : IsActs w' B a acts := fun h0 => by
  obtain ⟨g, off, rfl, hg, hc⟩ := h h0
  refine ⟨g, off, rfl, hg, fun j hj => ?_⟩
  obtain ⟨h1, h2, h3⟩ := hc j hj
  exact ⟨(hb.cell (by exact hg)).trans h1, (hb.cell (by exact hg)).trans h2, (hb.cell (by exact hg)).trans h3⟩

theorem left_of (l : List UInt8) (er : Int) (p : Nat) (w : World) (h : Rdr w p l er) (n : Int) (hn : (l.length : Int) = n) : Calls Try.prog 24 #[.pointer (some ⟨p, 0, none⟩)] w fun e w' => e = .returned (.int .i64 n) ∧ w = w' := by
  rw [← hn]
  exact left_any l er p w h

theorem hz2d {B : Nat} {w : World} {x : Addr} {v : Value} (h : ∀ w', Below B w w' → w'.cell? x = some v) : ∀ w', Below B w.drew w' → w'.cell? x = some v := fun w' hb => h w' ((Below.refl B w).drew.trans hb)

theorem rdr_far3 {w : World} {p h : Nat} {l : List UInt8} {er : Int} (hr : Rdr w p l er) (hph : p < h) (a b c : Value) : Rdr (((w.setCell ⟨h, 0, none⟩ a).setCell ⟨h, 1, none⟩ b).setCell ⟨h, 2, none⟩ c) p l er := by
  have hb : Below (p + 1) w (((w.setCell ⟨h, 0, none⟩ a).setCell ⟨h, 1, none⟩ b).setCell ⟨h, 2, none⟩ c) := below_far3 (Below.refl _ _) (by omega) _ _ _
  exact hr.below hb (Nat.lt_succ_self p)
theorem turned3 (w : World) (g : Nat) (a b c : Value) : w.grownBy (((w.setCell ⟨g, 0, none⟩ a).setCell ⟨g, 1, none⟩ b).setCell ⟨g, 2, none⟩ c) (some g) := by
  have t0 : w.grownBy (w.setCell ⟨g, 0, none⟩ a) (some g) := turned_store (World.grownBy.refl w _) (.inl rfl) _
  have t1 : w.grownBy ((w.setCell ⟨g, 0, none⟩ a).setCell ⟨g, 1, none⟩ b) (some g) := turned_store t0 (.inl rfl) _
  exact turned_store t1 (.inl rfl) _
theorem below_swap (w : World) (o o' : Obj) : Below w.heap.size (w.alloc o) (w.alloc o') :=
  ⟨rfl, rfl, rfl, by simp, fun k hk => (Below.heap_alloc w o' k hk).trans (Below.heap_alloc w o k hk).symm⟩
theorem box_turned {w w' : World} {g p : Nat} {t : TypeId} {cs : Array Value} (h : Box w g t cs) (hg : w.grownBy w' (some p)) (hne : g ≠ p) : Box w' g t cs := (hg.block g h.lt (fun e => hne (Option.some.inj e))).trans h

/-- What holds at every round's head. -/
def Inv (w : World) (a0 : Option Addr) (c0 : Nat) (b : List UInt8) (p g : Nat) (wr : World) : Prop :=
  ∃ (at_ : Nat) (er : Int), at_ ≤ b.length ∧ Rdr wr p (b.drop at_) er ∧ Box wr g 35 #[.slice a0 b.length c0, .int .i64 (at_ : Int), .int .i64 er] ∧ Below w.heap.size w wr

theorem inv_alloc {w : World} {a0 : Option Addr} {c0 : Nat} {b : List UInt8} {p g : Nat} {wr : World} (h : Inv w a0 c0 b p g wr) (o : Obj) : Inv w a0 c0 b p g (wr.alloc o) := by
  obtain ⟨at1, er1, hat, hR, hB, hW⟩ := h
  have hp : p < wr.heap.size := by
    obtain ⟨_, _, hx, _⟩ := hR
    exact hx.lt
  exact ⟨at1, er1, hat, hR.below ((Below.refl wr.heap.size _).alloc (Nat.le_refl _) _) hp, hB.under ((Below.refl wr.heap.size _).alloc (Nat.le_refl _) _) hB.lt, hW.alloc hW.size _⟩

set_option maxRecDepth 100000 in
set_option maxHeartbeats 4000000 in
theorem walk (a0 : Option Addr) (c0 : Nat) (b : List UInt8) (a1 : Option Addr) (c1 : Nat) (acts : List (Int × Int × Int)) (w : World) (hb : Rd w w.heap.size a0 b) (hbc : b.length ≤ c0) (hla : acts.length ≤ maxLen) (hlb : b.length ≤ maxLen) (ha : IsActs w w.heap.size a1 acts) :
    Calls Try.prog 4 #[.slice a0 b.length c0, .slice a1 acts.length c1] w fun e w' => e = .returned (.bool true) ∧ Below w.heap.size w w' := by
  unfold maxLen at hla hlb
  by_cases h500 : 500 < b.length
  · go_enter Try.func4, Try.ntmps4
    go_wp2_with (go_at_call 6; refine (live_any _).mono ?_; rintro e w' ⟨rfl, rfl⟩)
    go_ret
    exact ⟨rfl, (Below.refl _ _).alloc (Nat.le_refl _) _⟩
  · by_cases h50 : 50 < acts.length
    · go_enter Try.func4, Try.ntmps4
      go_wp2_with (go_at_call 6; refine (live_any _).mono ?_; rintro e w' ⟨rfl, rfl⟩)
      go_ret
      exact ⟨rfl, (Below.refl _ _).alloc (Nat.le_refl _) _⟩
    · have hle : b.length ≤ 500 := by omega
      have hle2 : acts.length ≤ 50 := by omega
      clear h500 h50 hla hlb
      go_enter Try.func4, Try.ntmps4
      go_wp2_with fail
      refine (new_any a0 c0 b w hb (by omega)).mono ?_
      rintro e w1 ⟨rfl, hR1, hs1, hb1⟩
      have hI0 : Inv w a0 c0 b (w.heap.size + 1) (w.heap.size + 2) (w1.alloc (.cells #[.slice a0 b.length c0, .int .i64 0, .int .i64 0] 35)) := by
        refine ⟨0, 0, Nat.zero_le _, ?_, ?_, hb1.alloc hb1.size _⟩
        · exact hR1.below ((Below.refl w1.heap.size _).alloc (Nat.le_refl _) _) (by omega)
        · have h := Box.fresh w1 35 #[.slice a0 b.length c0, .int .i64 0, .int .i64 0]
          rwa [hs1] at h
      have hpg : Hid (w.heap.size + 1 < w1.heap.size ∧ w.heap.size ≤ w.heap.size + 1) := ⟨by omega, by omega⟩
      rw [← hs1] at hI0
      have HI0 := Lib.hid hI0
      clear hR1 hI0 hb1 hs1
      go_wp2_with fail
      generalize w1.alloc (.cells #[.slice a0 b.length c0, .int .i64 0, .int .i64 0] 35) = W at HI0 ⊢
      generalize w1.heap.size = g at HI0 hpg ⊢
      generalize w.heap.size + 1 = p at HI0 hpg ⊢
      go_loopg [7] acts.length (fun r i wr => ∃ k : Nat, r + k = acts.length ∧ i = .int .i64 k ∧ Inv w a0 c0 b p g wr)
      case atStart => exact ⟨0, rfl, rfl, HI0.out⟩
      case round =>
        obtain ⟨k, hk, rfl, hI⟩ := hrel
        have HI := Lib.hid hI
        have HK := Lib.hid hk
        clear hI HI0
        by_cases hlt : k < acts.length
        · clear hk
          obtain ⟨gl, off, rfl, hgl, hcell⟩ := ha (by omega)
          obtain ⟨z1, z2, z3⟩ := hcell k hlt
          have hz1 : wr.cell? ⟨gl, off + k * 3, none⟩ = some (.int .i64 acts[k].1) := by
            obtain ⟨_, _, _, _, _, hB⟩ := HI.out
            exact (hB.cell (by exact hgl)).trans z1
          generalize acts[k].1 = d at hz1 z1
          go_upto_block 2 with fail
          go_cut [7] (fun i wx => i = .int .i64 k ∧ Inv w a0 c0 b p g wx)
          case first =>
            obtain ⟨at0, er0, hat, hR, hB, hW⟩ := HI.out
            have hz2 : ∀ w', Below w.heap.size wr w' → w'.cell? ⟨gl, off + k * 3 + 1, none⟩ = some (.int .i64 acts[k].2.1) := fun w' h => (h.cell (by exact hgl)).trans ((hW.cell (by exact hgl)).trans z2)
            have hz3 : ∀ w', Below w.heap.size wr w' → w'.cell? ⟨gl, off + k * 3 + 2, none⟩ = some (.int .i64 acts[k].2.2) := fun w' h => (h.cell (by exact hgl)).trans ((hW.cell (by exact hgl)).trans z3)
            have hklt : (k : Int) < (acts.length : Int) := by omega
            have hk0 : 0 ≤ (k : Int) := by omega
            clear z1 z2 z3 hcell hz1 HI HK
            generalize acts[k].2.1 = lo at hz2
            generalize acts[k].2.2 = hi at hz3
            by_cases hd0 : d = 0
            · subst hd0
              go_upto_region 15 with fail
              refine wpB_start w.heap.size (by kernel_rfl) ?_
              have hR0 : Rdr wr.drew p (b.drop at0) er0 := hR
              have hB0 : Box wr.drew g 35 #[.slice a0 b.length c0, .int .i64 (at0 : Int), .int .i64 er0] := hB
              have hW0 : Below w.heap.size w wr.drew := hW.drew
              have hy2 : ∀ w', Below w.heap.size wr.drew w' → w'.cell? ⟨gl, off + k * 3 + 1, none⟩ = some (.int .i64 lo) := hz2d hz2
              have hy3 : ∀ w', Below w.heap.size wr.drew w' → w'.cell? ⟨gl, off + k * 3 + 2, none⟩ = some (.int .i64 hi) := hz2d hz3
              clear hR hB hW hz2 hz3
              generalize wr.drew = w0 at hR0 hB0 hW0 hy2 hy3 ⊢
              refine wpB_take (i := 0) (d := 54) (v := ?v15x0) rfl rfl (by kernel_rfl) (by kernel_rfl) (by kernel_rfl) (fun _ _ _ h => h) (by rfl) ?y15x0 ?r15x0
              case y15x0 => (intro w' hSw; go_simp; try (with_reducible rfl))
              simp only [Act.put, List.setIfInBounds_toArray, List.set_cons_zero, List.set_cons_succ]
              refine wpB_take (i := 1) (d := 55) (v := ?v15x1) rfl rfl (by kernel_rfl) (by kernel_rfl) (by kernel_rfl) (fun _ _ _ h => h) (by rfl) ?y15x1 ?r15x1
              case y15x1 => (intro w' hSw; go_simp; try (with_reducible rfl))
              simp only [Act.put, List.setIfInBounds_toArray, List.set_cons_zero, List.set_cons_succ]
              refine wpB_take (i := 2) (d := 56) (v := ?v15x2) rfl rfl (by kernel_rfl) (by kernel_rfl) (by kernel_rfl) (fun _ _ _ h => h) (by rfl) ?y15x2 ?r15x2
              case y15x2 => (intro w' hSw; go_simp; try (with_reducible rfl))
              simp only [Act.put, List.setIfInBounds_toArray, List.set_cons_zero, List.set_cons_succ]
              refine wpB_take (i := 3) (d := 57) (v := ?v15x3) rfl rfl (by kernel_rfl) (by kernel_rfl) (by kernel_rfl) (fun _ _ _ h => h) (by rfl) ?y15x3 ?r15x3
              case y15x3 => (intro w' hSw; go_simp; try (with_reducible rfl))
              simp only [Act.put, List.setIfInBounds_toArray, List.set_cons_zero, List.set_cons_succ]
              refine wpB_take (i := 4) (d := 58) (v := ?v15x4) rfl rfl (by kernel_rfl) (by kernel_rfl) (by kernel_rfl) (fun _ _ _ h => h) (by rfl) ?y15x4 ?r15x4
              case y15x4 => (intro w' hSw; go_simp; try (with_reducible rfl))
              simp only [Act.put, List.setIfInBounds_toArray, List.set_cons_zero, List.set_cons_succ]
              refine wpB_take (i := 5) (d := 59) (v := ?v15x5) rfl rfl (by kernel_rfl) (by kernel_rfl) (by kernel_rfl) (fun _ _ _ h => h) (by rfl) ?y15x5 ?r15x5
              case y15x5 => (intro w' hSw; go_simp; try (with_reducible rfl))
              simp only [Act.put, List.setIfInBounds_toArray, List.set_cons_zero, List.set_cons_succ]
              refine wpB_take (i := 6) (d := 60) (v := ?v15x6) rfl rfl (by kernel_rfl) (by kernel_rfl) (by kernel_rfl) (fun _ _ _ h => h) (by rfl) ?y15x6 ?r15x6
              case y15x6 => (intro w' hSw; go_simp; try (with_reducible rfl))
              simp only [Act.put, List.setIfInBounds_toArray, List.set_cons_zero, List.set_cons_succ]
              refine wpB_take (i := 7) (d := 61) (v := ?v15x7) rfl rfl (by kernel_rfl) (by kernel_rfl) (by kernel_rfl) (fun _ _ _ h => h) (by rfl) ?y15x7 ?r15x7
              case y15x7 => (intro w' hSw; go_simp; try (with_reducible rfl))
              simp only [Act.put, List.setIfInBounds_toArray, List.set_cons_zero, List.set_cons_succ]
              refine wpB_take (i := 8) (d := 62) (v := ?v15x8) rfl rfl (by kernel_rfl) (by kernel_rfl) (by kernel_rfl) (fun _ _ _ h => h) (by rfl) ?y15x8 ?r15x8
              case y15x8 => (intro w' hSw; go_simp; try (with_reducible rfl))
              simp only [Act.put, List.setIfInBounds_toArray, List.set_cons_zero, List.set_cons_succ]
              refine wpB_take (i := 9) (d := 63) (v := ?v15x9) rfl rfl (by kernel_rfl) (by kernel_rfl) (by kernel_rfl) (fun _ _ _ h => h) (by rfl) ?y15x9 ?r15x9
              case y15x9 => (intro w' hSw; go_simp; try (with_reducible rfl))
              simp only [Act.put, List.setIfInBounds_toArray, List.set_cons_zero, List.set_cons_succ]
              refine wpB_take (i := 10) (d := 64) (v := ?v15x10) rfl rfl (by kernel_rfl) (by kernel_rfl) (by kernel_rfl) (fun _ _ _ h => h) (by rfl) ?y15x10 ?r15x10
              case y15x10 => (intro w' hSw; go_simp; try (with_reducible rfl))
              simp only [Act.put, List.setIfInBounds_toArray, List.set_cons_zero, List.set_cons_succ]
              refine wpB_do (i := 11) (by kernel_rfl) rfl (by rfl) (fun K hK => ?_)
              go_simp
              have hI1 := rInt_any (b.drop at0) er0 lo hi p w0 hR0
              have hQ := fun W (hW : Rd W W.heap.size a0 b) => refReadInt_any a0 b c0 at0 er0 lo hi W hW hat (by omega) hbc
              generalize rI (b.drop at0) er0 lo hi = q at hI1 hQ
              obtain ⟨v, l1, e1⟩ := q
              simp only at hI1 hQ
              refine hI1.mono ?_
              rintro e w1 ⟨rfl, hR1, hg1⟩
              have hb1 : Below w.heap.size w0 w1 := below_of_turned hg1 (by have := hpg.out; omega) hW0.size
              have hW1 := hW0.trans hb1
              have hB1 : Box w1 g 35 #[.slice a0 b.length c0, .int .i64 (at0 : Int), .int .i64 er0] := box_turned hB0 hg1 (by have := hpg.out; omega)
              have x2 : ∀ w', Below w.heap.size w1 w' → w'.cell? ⟨gl, off + k * 3 + 1, none⟩ = some (.int .i64 lo) := fun w' h => hy2 w' (hb1.trans h)
              have x3 : ∀ w', Below w.heap.size w1 w' → w'.cell? ⟨gl, off + k * 3 + 2, none⟩ = some (.int .i64 hi) := fun w' h => hy3 w' (hb1.trans h)
              refine hK.out _ _ _ (Nat.le_refl _) hb1 ?_
              have HQ := Lib.hid hQ
              clear hK K hI1 hQ hg1 hb1 hW0 hB0 hR0 hy2 hy3
              refine wpB_take (i := 12) (d := 8) (v := ?v15x12) rfl rfl (by kernel_rfl) (by kernel_rfl) (by kernel_rfl) (fun _ _ _ h => h) (by rfl) ?y15x12 ?r15x12
              case y15x12 => (intro w' hSw; go_simp; try (with_reducible rfl))
              simp only [Act.put, List.setIfInBounds_toArray, List.set_cons_zero, List.set_cons_succ]
              refine wpB_done (by kernel_rfl) ?_
              go_upto_region 16 with fail
              go_cut [9, 10] (fun s9 s10 wx => ∃ g1 at1 : Nat, s9 = .pointer (some ⟨g1, 0, none⟩) ∧ s10 = .int .i64 v ∧ Box wx g1 35 #[.slice a0 b.length c0, .int .i64 (at1 : Int), .int .i64 e1] ∧ g < g1 ∧ at1 ≤ b.length ∧ b.drop at1 = l1 ∧ Below w1.heap.size w1 wx)
              case first =>
                refine wpB_start w1.heap.size (by kernel_rfl) ?_
                have hge : Hid (w.heap.size ≤ w1.heap.size ∧ g < w1.heap.size) := ⟨hW1.size, hB1.lt⟩
                have q0 : ∀ w', Below w1.heap.size w1.drew w' → w'.cell? ⟨g, 0, none⟩ = some (.slice a0 b.length c0) := fun w' h => (h.cell (by exact hB1.lt)).trans (hB1.cell 0)
                have q1 : ∀ w', Below w1.heap.size w1.drew w' → w'.cell? ⟨g, 1, none⟩ = some (.int .i64 (at0 : Int)) := fun w' h => (h.cell (by exact hB1.lt)).trans (hB1.cell 1)
                have q2 : ∀ w', Below w1.heap.size w1.drew w' → w'.cell? ⟨g, 2, none⟩ = some (.int .i64 er0) := fun w' h => (h.cell (by exact hB1.lt)).trans (hB1.cell 2)
                have y2 : ∀ w', Below w1.heap.size w1.drew w' → w'.cell? ⟨gl, off + k * 3 + 1, none⟩ = some (.int .i64 lo) := fun w' h => hz2d x2 w' (h.mono hW1.size)
                have y3 : ∀ w', Below w1.heap.size w1.drew w' → w'.cell? ⟨gl, off + k * 3 + 2, none⟩ = some (.int .i64 hi) := fun w' h => hz2d x3 w' (h.mono hW1.size)
                have hbd : Hid (Rd w1.drew w1.drew.heap.size a0 b) := (hb.below hW1).more hW1.size
                have hWd : Hid (Below w1.heap.size w1 w1.drew) := (Below.refl _ _).drew
                have hSd : w1.drew.heap.size = w1.heap.size := rfl
                clear x2 x3 hB1 hW1 hR1
                rw [← hSd] at q0 q1 q2 y2 y3 hge hWd ⊢
                rw [hSd] at hWd
                clear hSd
                generalize w1.drew = wd at q0 q1 q2 y2 y3 hbd hge hWd ⊢
                refine wpB_take (i := 0) (d := 67) (v := ?v16x0) rfl rfl (by kernel_rfl) (by kernel_rfl) (by kernel_rfl) (fun _ _ _ h => h) (by rfl) ?y16x0 ?r16x0
                case y16x0 => (intro w' hSw; go_simp; try (with_reducible rfl))
                simp only [Act.put, List.setIfInBounds_toArray, List.set_cons_zero, List.set_cons_succ]
                refine wpB_take (i := 1) (d := 68) (v := ?v16x1) rfl rfl (by kernel_rfl) (by kernel_rfl) (by kernel_rfl) (fun _ _ _ h => h) (by rfl) ?y16x1 ?r16x1
                case y16x1 => (intro w' hSw; go_simp; try (with_reducible rfl))
                simp only [Act.put, List.setIfInBounds_toArray, List.set_cons_zero, List.set_cons_succ]
                refine wpB_take (i := 2) (d := 69) (v := ?v16x2) rfl rfl (by kernel_rfl) (by kernel_rfl) (by kernel_rfl) (fun _ _ _ h => h) (by rfl) ?y16x2 ?r16x2
                case y16x2 => (intro w' hSw; go_simp; try (with_reducible rfl))
                simp only [Act.put, List.setIfInBounds_toArray, List.set_cons_zero, List.set_cons_succ]
                refine wpB_take (i := 3) (d := 70) (v := ?v16x3) rfl rfl (by kernel_rfl) (by kernel_rfl) (by kernel_rfl) (fun _ _ _ h => h) (by rfl) ?y16x3 ?r16x3
                case y16x3 => (intro w' hSw; go_simp; try (with_reducible rfl))
                simp only [Act.put, List.setIfInBounds_toArray, List.set_cons_zero, List.set_cons_succ]
                refine wpB_take (i := 4) (d := 71) (v := ?v16x4) rfl rfl (by kernel_rfl) (by kernel_rfl) (by kernel_rfl) (fun _ _ _ h => h) (by rfl) ?y16x4 ?r16x4
                case y16x4 => (intro w' hSw; go_simp; try (with_reducible rfl))
                simp only [Act.put, List.setIfInBounds_toArray, List.set_cons_zero, List.set_cons_succ]
                refine wpB_take (i := 5) (d := 72) (v := ?v16x5) rfl rfl (by kernel_rfl) (by kernel_rfl) (by kernel_rfl) (fun _ _ _ h => h) (by rfl) ?y16x5 ?r16x5
                case y16x5 => (intro w' hSw; go_simp; try (with_reducible rfl))
                simp only [Act.put, List.setIfInBounds_toArray, List.set_cons_zero, List.set_cons_succ]
                refine wpB_take (i := 6) (d := 73) (v := ?v16x6) rfl rfl (by kernel_rfl) (by kernel_rfl) (by kernel_rfl) (fun _ _ _ h => h) (by rfl) ?y16x6 ?r16x6
                case y16x6 => (intro w' hSw; go_simp; try (with_reducible rfl))
                simp only [Act.put, List.setIfInBounds_toArray, List.set_cons_zero, List.set_cons_succ]
                refine wpB_take (i := 7) (d := 74) (v := ?v16x7) rfl rfl (by kernel_rfl) (by kernel_rfl) (by kernel_rfl) (fun _ _ _ h => h) (by rfl) ?y16x7 ?r16x7
                case y16x7 => (intro w' hSw; go_simp; try (with_reducible rfl))
                simp only [Act.put, List.setIfInBounds_toArray, List.set_cons_zero, List.set_cons_succ]
                refine wpB_take (i := 8) (d := 75) (v := ?v16x8) rfl rfl (by kernel_rfl) (by kernel_rfl) (by kernel_rfl) (fun _ _ _ h => h) (by rfl) ?y16x8 ?r16x8
                case y16x8 => (intro w' hSw; go_simp; try (with_reducible rfl))
                simp only [Act.put, List.setIfInBounds_toArray, List.set_cons_zero, List.set_cons_succ]
                refine wpB_take (i := 9) (d := 76) (v := ?v16x9) rfl rfl (by kernel_rfl) (by kernel_rfl) (by kernel_rfl) (fun _ _ _ h => h) (by rfl) ?y16x9 ?r16x9
                case y16x9 => (intro w' hSw; go_simp; try (with_reducible rfl))
                simp only [Act.put, List.setIfInBounds_toArray, List.set_cons_zero, List.set_cons_succ]
                refine wpB_take (i := 10) (d := 77) (v := ?v16x10) rfl rfl (by kernel_rfl) (by kernel_rfl) (by kernel_rfl) (fun _ _ _ h => h) (by rfl) ?y16x10 ?r16x10
                case y16x10 => (intro w' hSw; go_simp; try (with_reducible rfl))
                simp only [Act.put, List.setIfInBounds_toArray, List.set_cons_zero, List.set_cons_succ]
                refine wpB_two (i := 11) (j := 15) (by kernel_rfl) rfl rfl (by rfl) (by rfl) (fun K hK => ?_) (fun K hK => ?_)
                · go_simp
                  refine (HQ.out _ hbd.out).mono ?_
                  rintro e w2 ⟨at1, rfl, hat1, hdr, hb2⟩
                  have HE : Hid (at1 ≤ b.length ∧ b.drop at1 = l1 ∧ Below w1.heap.size w1 w2 ∧ g < w2.heap.size ∧ w1.heap.size ≤ w2.heap.size) := ⟨hat1, hdr, hWd.out.trans (hb2.mono hWd.out.size), by have := hge.out.2; have := hb2.size; omega, Nat.le_trans hWd.out.size hb2.size⟩
                  refine hK.out w2.heap.size _ _ hb2.size hb2 ?_
                  clear hK K q0 q1 q2 y2 y3 hbd hge hWd hat1 hdr hb2
                  refine wpB_take (i := 12) (d := 66) (v := ?v16ax12) rfl rfl (by kernel_rfl) (by kernel_rfl) (by kernel_rfl) (fun _ _ _ h => h) (by rfl) ?y16ax12 ?r16ax12
                  case y16ax12 => (intro w' hSw; go_simp; try (with_reducible rfl))
                  simp only [Act.put, List.setIfInBounds_toArray, List.set_cons_zero, List.set_cons_succ]
                  refine wpB_take (i := 13) (d := 79) (v := ?v16ax13) rfl rfl (by kernel_rfl) (by kernel_rfl) (by kernel_rfl) (fun _ _ _ h => h) (by rfl) ?y16ax13 ?r16ax13
                  case y16ax13 => (intro w' hSw; go_simp; try (with_reducible rfl))
                  simp only [Act.put, List.setIfInBounds_toArray, List.set_cons_zero, List.set_cons_succ]
                  refine wpB_take (i := 14) (d := 80) (v := ?v16ax14) rfl rfl (by kernel_rfl) (by kernel_rfl) (by kernel_rfl) (fun _ _ _ h => h) (by rfl) ?y16ax14 ?r16ax14
                  case y16ax14 => (intro w' hSw; go_simp; try (with_reducible rfl))
                  simp only [Act.put, List.setIfInBounds_toArray, List.set_cons_zero, List.set_cons_succ]
                  refine wpB_do (i := 15) (by kernel_rfl) rfl (by rfl) (fun K hK => ?_)
                  go_simp
                  refine hK.out w2.heap.size _ _ (Nat.le_refl _) ((Below.refl _ _).alloc (Nat.le_refl _) _) ?_
                  clear hK K
                  refine wpB_do (i := 16) (by kernel_rfl) rfl (by rfl) (fun K hK => ?_)
                  go_simp
                  refine hK.out w2.heap.size _ _ (Nat.le_refl _) (below_swap w2 _ _) ?_
                  clear hK K
                  refine wpB_take (i := 17) (d := 10) (v := ?v16ax17) rfl rfl (by kernel_rfl) (by kernel_rfl) (by kernel_rfl) (fun _ _ _ h => h) (by rfl) ?y16ax17 ?r16ax17
                  case y16ax17 => (intro w' hSw; go_simp; try (with_reducible rfl))
                  simp only [Act.put, List.setIfInBounds_toArray, List.set_cons_zero, List.set_cons_succ]
                  refine wpB_done (by kernel_rfl) ?_
                  go_wp2_with fail
                  go_meet
                  exact ⟨w2.heap.size, at1, rfl, rfl, Box.fresh w2 35 _, HE.out.2.2.2.1, HE.out.1, HE.out.2.1, HE.out.2.2.1.alloc HE.out.2.2.2.2 _⟩
                · go_simp
                  refine hK.out wd.heap.size _ _ (Nat.le_refl _) ((Below.refl _ _).alloc (Nat.le_refl _) _) ?_
                  clear hK K q0 q1 q2 y2 y3
                  refine wpB_do (i := 11) (by kernel_rfl) rfl (by rfl) (fun K hK => ?_)
                  go_simp
                  refine (HQ.out _ ((hbd.out.alloc (Nat.le_refl _) _).more (by simp))).mono ?_
                  rintro e w2 ⟨at1, rfl, hat1, hdr, hb2⟩
                  have hb3 : Below w1.heap.size w1 w2 := (hWd.out.alloc hWd.out.size _).trans (hb2.mono (by have := hWd.out.size; simp; omega))
                  have hx : Box w2 wd.heap.size 35 #[.slice none 0 0, .int .i64 0, .int .i64 0] := Box.under (Box.fresh wd 35 _) hb2 (by simp)
                  have HE : Hid (at1 ≤ b.length ∧ b.drop at1 = l1 ∧ Below w1.heap.size w1 w2 ∧ g < wd.heap.size ∧ w1.heap.size ≤ wd.heap.size ∧ Box w2 wd.heap.size 35 #[.slice none 0 0, .int .i64 0, .int .i64 0]) := ⟨hat1, hdr, hb3, hge.out.2, hWd.out.size, hx⟩
                  have j0 : w2.cell? ⟨wd.heap.size, 0, none⟩ = some (.slice none 0 0) := hx.cell 0
                  have j1 : w2.cell? ⟨wd.heap.size, 1, none⟩ = some (.int .i64 0) := hx.cell 1
                  have j2 : w2.cell? ⟨wd.heap.size, 2, none⟩ = some (.int .i64 0) := hx.cell 2
                  have g0 : w2.frozen? ⟨wd.heap.size, 0, none⟩ = false := hx.frozen 0
                  have g1 : w2.frozen? ⟨wd.heap.size, 1, none⟩ = false := hx.frozen 1
                  have g2 : w2.frozen? ⟨wd.heap.size, 2, none⟩ = false := hx.frozen 2
                  refine hK.out wd.heap.size _ _ (Nat.le_refl _) (hb2.mono (by simp)) ?_
                  clear hK K hbd hge hWd hat1 hdr hb2 hb3 hx
                  refine wpB_take (i := 12) (d := 66) (v := ?v16bx12) rfl rfl (by kernel_rfl) (by kernel_rfl) (by kernel_rfl) (fun _ _ _ h => h) (by rfl) ?y16bx12 ?r16bx12
                  case y16bx12 => (intro w' hSw; go_simp; try (with_reducible rfl))
                  simp only [Act.put, List.setIfInBounds_toArray, List.set_cons_zero, List.set_cons_succ]
                  refine wpB_take (i := 13) (d := 79) (v := ?v16bx13) rfl rfl (by kernel_rfl) (by kernel_rfl) (by kernel_rfl) (fun _ _ _ h => h) (by rfl) ?y16bx13 ?r16bx13
                  case y16bx13 => (intro w' hSw; go_simp; try (with_reducible rfl))
                  simp only [Act.put, List.setIfInBounds_toArray, List.set_cons_zero, List.set_cons_succ]
                  refine wpB_take (i := 14) (d := 80) (v := ?v16bx14) rfl rfl (by kernel_rfl) (by kernel_rfl) (by kernel_rfl) (fun _ _ _ h => h) (by rfl) ?y16bx14 ?r16bx14
                  case y16bx14 => (intro w' hSw; go_simp; try (with_reducible rfl))
                  simp only [Act.put, List.setIfInBounds_toArray, List.set_cons_zero, List.set_cons_succ]
                  refine wpB_do (i := 16) (by kernel_rfl) rfl (by rfl) (fun K hK => ?_)
                  go_simp
                  refine hK.out wd.heap.size _ _ (Nat.le_refl _) (below_far3 (Below.refl _ _) (Nat.le_refl _) _ _ _) ?_
                  clear hK K j0 j1 j2 g0 g1 g2
                  refine wpB_take (i := 17) (d := 10) (v := ?v16bx17) rfl rfl (by kernel_rfl) (by kernel_rfl) (by kernel_rfl) (fun _ _ _ h => h) (by rfl) ?y16bx17 ?r16bx17
                  case y16bx17 => (intro w' hSw; go_simp; try (with_reducible rfl))
                  simp only [Act.put, List.setIfInBounds_toArray, List.set_cons_zero, List.set_cons_succ]
                  refine wpB_done (by kernel_rfl) ?_
                  go_wp2_with fail
                  go_meet
                  exact ⟨wd.heap.size, at1, rfl, rfl, ((HE.out.2.2.2.2.2.store 0 _).store 1 _).store 2 _, HE.out.2.2.2.1, HE.out.1, HE.out.2.1, below_far3 HE.out.2.2.1 HE.out.2.2.2.2.1 _ _ _⟩
              case rest =>
                obtain ⟨g1, at1, rfl, rfl, hb1, hgg, hat1, hdr, hbw⟩ := hcut
                have hG : Box wc g 35 #[.slice a0 b.length c0, .int .i64 (at0 : Int), .int .i64 er0] := hB1.under hbw hB1.lt
                have hRc : Rdr wc p l1 e1 := hR1.below hbw (by have := hB1.lt; have := hpg.out; omega)
                have hWc : Below w.heap.size w wc := hW1.trans (hbw.mono hW1.size)
                have HE : Hid (Inv w a0 c0 b p g (((wc.setCell ⟨g, 0, none⟩ (.slice a0 b.length c0)).setCell ⟨g, 1, none⟩ (.int .i64 (at1 : Int))).setCell ⟨g, 2, none⟩ (.int .i64 e1))) :=
                  ⟨at1, e1, hat1, by rw [hdr]; exact rdr_far3 hRc hpg.out.1 _ _ _, ((hG.store 0 _).store 1 _).store 2 _, below_far3 hWc (by have := hpg.out; omega) _ _ _⟩
                have j0 : wc.cell? ⟨g1, 0, none⟩ = some (.slice a0 b.length c0) := hb1.cell 0
                have j1 : wc.cell? ⟨g1, 1, none⟩ = some (.int .i64 (at1 : Int)) := hb1.cell 1
                have j2 : wc.cell? ⟨g1, 2, none⟩ = some (.int .i64 e1) := hb1.cell 2
                have m0 : wc.cell? ⟨g, 0, none⟩ = some (.slice a0 b.length c0) := hG.cell 0
                have m1 : wc.cell? ⟨g, 1, none⟩ = some (.int .i64 (at0 : Int)) := hG.cell 1
                have m2 : wc.cell? ⟨g, 2, none⟩ = some (.int .i64 er0) := hG.cell 2
                have n0 : wc.frozen? ⟨g, 0, none⟩ = false := hG.frozen 0
                have n1 : wc.frozen? ⟨g, 1, none⟩ = false := hG.frozen 1
                have n2 : wc.frozen? ⟨g, 2, none⟩ = false := hG.frozen 2
                clear hG hRc hWc hb1 hat1 hdr hbw hB1 hR1 hW1 HQ x2 x3
                go_wp2_with fail
                go_meet
                exact ⟨rfl, HE.out⟩
            · by_cases hd1 : d = 1
              · subst hd1
                have hz3' := hz3 wr (Below.refl _ _)
                go_wp2_with fail
                have hI1 := rBytes_any (b.drop at0) er0 hi p wr hR
                have hQ := fun W (hW : Rd W w.heap.size a0 b) (hWs : w.heap.size ≤ W.heap.size) => refReadBytes_any a0 b c0 at0 er0 hi W w.heap.size hW hWs hat (by omega) hbc
                generalize rB (b.drop at0) er0 hi = q at hI1 hQ
                obtain ⟨x, l1, e1⟩ := q
                refine hI1.mono ?_
                rintro e w1 ⟨A7, c7, rfl, hr7, hR1, hg1, hfr⟩
                simp only at hr7 hR1
                have hb1 : Below w.heap.size wr w1 := below_of_turned hg1 (by have := hpg.out; omega) hW.size
                have hW1 := hW.trans hb1
                have hB1 : Box w1 g 35 #[.slice a0 b.length c0, .int .i64 (at0 : Int), .int .i64 er0] := box_turned hB hg1 (by have := hpg.out; omega)
                have hoff : Hid (Off g A7) := hfr.off hB.lt
                have x3 : ∀ w', Below w.heap.size w1 w' → w'.cell? ⟨gl, off + k * 3 + 2, none⟩ = some (.int .i64 hi) := fun w' h => hz3 w' (hb1.trans h)
                have HQ := Lib.hid hQ
                have HR7 := Lib.hid hr7
                clear hI1 hQ hg1 hb1 hW hB hR hz2 hz3 hz3' hfr hr7
                go_upto_region 22 with fail
                go_cut [12, 13] (fun s9 s10 wx => ∃ (g1 at1 : Nat) (A8 : Option Addr) (c8 : Nat), s9 = .pointer (some ⟨g1, 0, none⟩) ∧ s10 = .slice A8 x.length c8 ∧ Rd wx w.heap.size A8 x ∧ Box wx g1 35 #[.slice a0 b.length c0, .int .i64 (at1 : Int), .int .i64 e1] ∧ g < g1 ∧ at1 ≤ b.length ∧ b.drop at1 = l1 ∧ Below w1.heap.size w1 wx)
                case first =>
                  refine wpB_start w1.heap.size (by kernel_rfl) ?_
                  have hge : Hid (w.heap.size ≤ w1.heap.size ∧ g < w1.heap.size) := ⟨hW1.size, hB1.lt⟩
                  have q0 : ∀ w', Below w1.heap.size w1.drew w' → w'.cell? ⟨g, 0, none⟩ = some (.slice a0 b.length c0) := fun w' h => (h.cell (by exact hB1.lt)).trans (hB1.cell 0)
                  have q1 : ∀ w', Below w1.heap.size w1.drew w' → w'.cell? ⟨g, 1, none⟩ = some (.int .i64 (at0 : Int)) := fun w' h => (h.cell (by exact hB1.lt)).trans (hB1.cell 1)
                  have q2 : ∀ w', Below w1.heap.size w1.drew w' → w'.cell? ⟨g, 2, none⟩ = some (.int .i64 er0) := fun w' h => (h.cell (by exact hB1.lt)).trans (hB1.cell 2)
                  have y3 : ∀ w', Below w1.heap.size w1.drew w' → w'.cell? ⟨gl, off + k * 3 + 2, none⟩ = some (.int .i64 hi) := fun w' h => hz2d x3 w' (h.mono hW1.size)
                  have hbd : Hid (Rd w1.drew w.heap.size a0 b) := hb.below hW1.drew
                  have hWd : Hid (Below w1.heap.size w1 w1.drew) := (Below.refl _ _).drew
                  have hSd : w1.drew.heap.size = w1.heap.size := rfl
                  clear x3 hB1 hW1 hR1 HR7
                  rw [← hSd] at q0 q1 q2 y3 hge hWd ⊢
                  rw [hSd] at hWd
                  clear hSd
                  generalize w1.drew = wd at q0 q1 q2 y3 hbd hge hWd ⊢
                  refine wpB_take (i := 0) (d := 95) (v := ?v22x0) rfl rfl (by kernel_rfl) (by kernel_rfl) (by kernel_rfl) (fun _ _ _ h => h) (by rfl) ?y22x0 ?r22x0
                  case y22x0 => (intro w' hSw; go_simp; try (with_reducible rfl))
                  simp only [Act.put, List.setIfInBounds_toArray, List.set_cons_zero, List.set_cons_succ]
                  refine wpB_take (i := 1) (d := 96) (v := ?v22x1) rfl rfl (by kernel_rfl) (by kernel_rfl) (by kernel_rfl) (fun _ _ _ h => h) (by rfl) ?y22x1 ?r22x1
                  case y22x1 => (intro w' hSw; go_simp; try (with_reducible rfl))
                  simp only [Act.put, List.setIfInBounds_toArray, List.set_cons_zero, List.set_cons_succ]
                  refine wpB_take (i := 2) (d := 97) (v := ?v22x2) rfl rfl (by kernel_rfl) (by kernel_rfl) (by kernel_rfl) (fun _ _ _ h => h) (by rfl) ?y22x2 ?r22x2
                  case y22x2 => (intro w' hSw; go_simp; try (with_reducible rfl))
                  simp only [Act.put, List.setIfInBounds_toArray, List.set_cons_zero, List.set_cons_succ]
                  refine wpB_take (i := 3) (d := 98) (v := ?v22x3) rfl rfl (by kernel_rfl) (by kernel_rfl) (by kernel_rfl) (fun _ _ _ h => h) (by rfl) ?y22x3 ?r22x3
                  case y22x3 => (intro w' hSw; go_simp; try (with_reducible rfl))
                  simp only [Act.put, List.setIfInBounds_toArray, List.set_cons_zero, List.set_cons_succ]
                  refine wpB_take (i := 4) (d := 99) (v := ?v22x4) rfl rfl (by kernel_rfl) (by kernel_rfl) (by kernel_rfl) (fun _ _ _ h => h) (by rfl) ?y22x4 ?r22x4
                  case y22x4 => (intro w' hSw; go_simp; try (with_reducible rfl))
                  simp only [Act.put, List.setIfInBounds_toArray, List.set_cons_zero, List.set_cons_succ]
                  refine wpB_take (i := 5) (d := 100) (v := ?v22x5) rfl rfl (by kernel_rfl) (by kernel_rfl) (by kernel_rfl) (fun _ _ _ h => h) (by rfl) ?y22x5 ?r22x5
                  case y22x5 => (intro w' hSw; go_simp; try (with_reducible rfl))
                  simp only [Act.put, List.setIfInBounds_toArray, List.set_cons_zero, List.set_cons_succ]
                  refine wpB_two (i := 6) (j := 10) (by kernel_rfl) rfl rfl (by rfl) (by rfl) (fun K hK => ?_) (fun K hK => ?_)
                  · go_simp
                    refine (HQ.out _ hbd.out hge.out.1).mono ?_
                    rintro e w2 ⟨at1, A8, c8, rfl, hat1, hdr, hr8, hb2⟩
                    have HE : Hid (at1 ≤ b.length ∧ b.drop at1 = l1 ∧ Below w1.heap.size w1 w2 ∧ g < w2.heap.size ∧ w1.heap.size ≤ w2.heap.size ∧ Rd w2 w.heap.size A8 x ∧ w.heap.size ≤ w2.heap.size) := ⟨hat1, hdr, hWd.out.trans (hb2.mono hWd.out.size), by have := hge.out.2; have := hb2.size; omega, Nat.le_trans hWd.out.size hb2.size, hr8, Nat.le_trans hge.out.1 hb2.size⟩
                    refine hK.out w2.heap.size _ _ hb2.size hb2 ?_
                    clear hK K q0 q1 q2 y3 hbd hge hWd hat1 hdr hb2 hr8
                    refine wpB_take (i := 7) (d := 94) (v := ?v22ax7) rfl rfl (by kernel_rfl) (by kernel_rfl) (by kernel_rfl) (fun _ _ _ h => h) (by rfl) ?y22ax7 ?r22ax7
                    case y22ax7 => (intro w' hSw; go_simp; try (with_reducible rfl))
                    simp only [Act.put, List.setIfInBounds_toArray, List.set_cons_zero, List.set_cons_succ]
                    refine wpB_take (i := 8) (d := 102) (v := ?v22ax8) rfl rfl (by kernel_rfl) (by kernel_rfl) (by kernel_rfl) (fun _ _ _ h => h) (by rfl) ?y22ax8 ?r22ax8
                    case y22ax8 => (intro w' hSw; go_simp; try (with_reducible rfl))
                    simp only [Act.put, List.setIfInBounds_toArray, List.set_cons_zero, List.set_cons_succ]
                    refine wpB_take (i := 9) (d := 103) (v := ?v22ax9) rfl rfl (by kernel_rfl) (by kernel_rfl) (by kernel_rfl) (fun _ _ _ h => h) (by rfl) ?y22ax9 ?r22ax9
                    case y22ax9 => (intro w' hSw; go_simp; try (with_reducible rfl))
                    simp only [Act.put, List.setIfInBounds_toArray, List.set_cons_zero, List.set_cons_succ]
                    refine wpB_do (i := 10) (by kernel_rfl) rfl (by rfl) (fun K hK => ?_)
                    go_simp
                    refine hK.out w2.heap.size _ _ (Nat.le_refl _) ((Below.refl _ _).alloc (Nat.le_refl _) _) ?_
                    clear hK K
                    refine wpB_do (i := 11) (by kernel_rfl) rfl (by rfl) (fun K hK => ?_)
                    go_simp
                    refine hK.out w2.heap.size _ _ (Nat.le_refl _) (below_swap w2 _ _) ?_
                    clear hK K
                    refine wpB_take (i := 12) (d := 13) (v := ?v22ax12) rfl rfl (by kernel_rfl) (by kernel_rfl) (by kernel_rfl) (fun _ _ _ h => h) (by rfl) ?y22ax12 ?r22ax12
                    case y22ax12 => (intro w' hSw; go_simp; try (with_reducible rfl))
                    simp only [Act.put, List.setIfInBounds_toArray, List.set_cons_zero, List.set_cons_succ]
                    refine wpB_done (by kernel_rfl) ?_
                    go_wp2_with fail
                    go_meet
                    exact ⟨w2.heap.size, at1, A8, c8, rfl, rfl, HE.out.2.2.2.2.2.1.alloc HE.out.2.2.2.2.2.2 _, Box.fresh w2 35 _, HE.out.2.2.2.1, HE.out.1, HE.out.2.1, HE.out.2.2.1.alloc HE.out.2.2.2.2.1 _⟩
                  · go_simp
                    refine hK.out wd.heap.size _ _ (Nat.le_refl _) ((Below.refl _ _).alloc (Nat.le_refl _) _) ?_
                    clear hK K q0 q1 q2 y3
                    refine wpB_do (i := 6) (by kernel_rfl) rfl (by rfl) (fun K hK => ?_)
                    go_simp
                    refine (HQ.out _ (hbd.out.alloc hge.out.1 _) (by have := hge.out.1; simp; omega)).mono ?_
                    rintro e w2 ⟨at1, A8, c8, rfl, hat1, hdr, hr8, hb2⟩
                    have hb3 : Below w1.heap.size w1 w2 := (hWd.out.alloc hWd.out.size _).trans (hb2.mono (by have := hWd.out.size; simp; omega))
                    have hx : Box w2 wd.heap.size 35 #[.slice none 0 0, .int .i64 0, .int .i64 0] := Box.under (Box.fresh wd 35 _) hb2 (by simp)
                    have HE : Hid (at1 ≤ b.length ∧ b.drop at1 = l1 ∧ Below w1.heap.size w1 w2 ∧ g < wd.heap.size ∧ w1.heap.size ≤ wd.heap.size ∧ Box w2 wd.heap.size 35 #[.slice none 0 0, .int .i64 0, .int .i64 0] ∧ Rd w2 w.heap.size A8 x ∧ w.heap.size ≤ wd.heap.size) := ⟨hat1, hdr, hb3, hge.out.2, hWd.out.size, hx, hr8, hge.out.1⟩
                    have j0 : w2.cell? ⟨wd.heap.size, 0, none⟩ = some (.slice none 0 0) := hx.cell 0
                    have j1 : w2.cell? ⟨wd.heap.size, 1, none⟩ = some (.int .i64 0) := hx.cell 1
                    have j2 : w2.cell? ⟨wd.heap.size, 2, none⟩ = some (.int .i64 0) := hx.cell 2
                    have g0 : w2.frozen? ⟨wd.heap.size, 0, none⟩ = false := hx.frozen 0
                    have g1 : w2.frozen? ⟨wd.heap.size, 1, none⟩ = false := hx.frozen 1
                    have g2 : w2.frozen? ⟨wd.heap.size, 2, none⟩ = false := hx.frozen 2
                    refine hK.out wd.heap.size _ _ (Nat.le_refl _) (hb2.mono (by simp)) ?_
                    clear hK K hbd hge hWd hat1 hdr hb2 hb3 hx hr8
                    refine wpB_take (i := 7) (d := 94) (v := ?v22bx7) rfl rfl (by kernel_rfl) (by kernel_rfl) (by kernel_rfl) (fun _ _ _ h => h) (by rfl) ?y22bx7 ?r22bx7
                    case y22bx7 => (intro w' hSw; go_simp; try (with_reducible rfl))
                    simp only [Act.put, List.setIfInBounds_toArray, List.set_cons_zero, List.set_cons_succ]
                    refine wpB_take (i := 8) (d := 102) (v := ?v22bx8) rfl rfl (by kernel_rfl) (by kernel_rfl) (by kernel_rfl) (fun _ _ _ h => h) (by rfl) ?y22bx8 ?r22bx8
                    case y22bx8 => (intro w' hSw; go_simp; try (with_reducible rfl))
                    simp only [Act.put, List.setIfInBounds_toArray, List.set_cons_zero, List.set_cons_succ]
                    refine wpB_take (i := 9) (d := 103) (v := ?v22bx9) rfl rfl (by kernel_rfl) (by kernel_rfl) (by kernel_rfl) (fun _ _ _ h => h) (by rfl) ?y22bx9 ?r22bx9
                    case y22bx9 => (intro w' hSw; go_simp; try (with_reducible rfl))
                    simp only [Act.put, List.setIfInBounds_toArray, List.set_cons_zero, List.set_cons_succ]
                    refine wpB_do (i := 11) (by kernel_rfl) rfl (by rfl) (fun K hK => ?_)
                    go_simp
                    refine hK.out wd.heap.size _ _ (Nat.le_refl _) (below_far3 (Below.refl _ _) (Nat.le_refl _) _ _ _) ?_
                    clear hK K j0 j1 j2 g0 g1 g2
                    refine wpB_take (i := 12) (d := 13) (v := ?v22bx12) rfl rfl (by kernel_rfl) (by kernel_rfl) (by kernel_rfl) (fun _ _ _ h => h) (by rfl) ?y22bx12 ?r22bx12
                    case y22bx12 => (intro w' hSw; go_simp; try (with_reducible rfl))
                    simp only [Act.put, List.setIfInBounds_toArray, List.set_cons_zero, List.set_cons_succ]
                    refine wpB_done (by kernel_rfl) ?_
                    go_wp2_with fail
                    go_meet
                    exact ⟨wd.heap.size, at1, A8, c8, rfl, rfl, HE.out.2.2.2.2.2.2.1.below (below_far3 (Below.refl _ _) HE.out.2.2.2.2.2.2.2 _ _ _), ((HE.out.2.2.2.2.2.1.store 0 _).store 1 _).store 2 _, HE.out.2.2.2.1, HE.out.1, HE.out.2.1, below_far3 HE.out.2.2.1 HE.out.2.2.2.2.1 _ _ _⟩
                case rest =>
                  obtain ⟨g1, at1, A8, c8, rfl, rfl, hr8, hb1, hgg, hat1, hdr, hbw⟩ := hcut
                  have hG : Box wc g 35 #[.slice a0 b.length c0, .int .i64 (at0 : Int), .int .i64 er0] := hB1.under hbw hB1.lt
                  have hRc : Rdr wc p l1 e1 := hR1.below hbw (by have := hB1.lt; have := hpg.out; omega)
                  have hWc : Below w.heap.size w wc := hW1.trans (hbw.mono hW1.size)
                  have HE : Hid (Inv w a0 c0 b p g (((wc.setCell ⟨g, 0, none⟩ (.slice a0 b.length c0)).setCell ⟨g, 1, none⟩ (.int .i64 (at1 : Int))).setCell ⟨g, 2, none⟩ (.int .i64 e1))) :=
                    ⟨at1, e1, hat1, by rw [hdr]; exact rdr_far3 hRc hpg.out.1 _ _ _, ((hG.store 0 _).store 1 _).store 2 _, below_far3 hWc (by have := hpg.out; omega) _ _ _⟩
                  have ht3 : wc.grownBy (((wc.setCell ⟨g, 0, none⟩ (.slice a0 b.length c0)).setCell ⟨g, 1, none⟩ (.int .i64 (at1 : Int))).setCell ⟨g, 2, none⟩ (.int .i64 e1)) (some g) := turned3 wc g _ _ _
                  have hcv1 := conv_any A7 c7 _ x _ ((HR7.out.below hbw).off hoff.out ht3 hbw.size)
                  have hcv2 := conv_any A8 c8 _ x (((wc.setCell ⟨g, 0, none⟩ (.slice a0 b.length c0)).setCell ⟨g, 1, none⟩ (.int .i64 (at1 : Int))).setCell ⟨g, 2, none⟩ (.int .i64 e1)) (hr8.below (below_far3 (Below.refl _ _) (by have := hpg.out; omega) _ _ _))
                  have j0 : wc.cell? ⟨g1, 0, none⟩ = some (.slice a0 b.length c0) := hb1.cell 0
                  have j1 : wc.cell? ⟨g1, 1, none⟩ = some (.int .i64 (at1 : Int)) := hb1.cell 1
                  have j2 : wc.cell? ⟨g1, 2, none⟩ = some (.int .i64 e1) := hb1.cell 2
                  have m0 : wc.cell? ⟨g, 0, none⟩ = some (.slice a0 b.length c0) := hG.cell 0
                  have m1 : wc.cell? ⟨g, 1, none⟩ = some (.int .i64 (at0 : Int)) := hG.cell 1
                  have m2 : wc.cell? ⟨g, 2, none⟩ = some (.int .i64 er0) := hG.cell 2
                  have n0 : wc.frozen? ⟨g, 0, none⟩ = false := hG.frozen 0
                  have n1 : wc.frozen? ⟨g, 1, none⟩ = false := hG.frozen 1
                  have n2 : wc.frozen? ⟨g, 2, none⟩ = false := hG.frozen 2
                  clear hG hRc hWc hb1 hat1 hdr hbw hB1 hR1 hW1 HQ x3 hr8 ht3 HR7 hoff
                  go_wp2_with fail
                  go_meet
                  exact ⟨rfl, HE.out⟩
              · have hd0' : (d == 0) = false := by simpa using hd0
                have hd1' : (d == 1) = false := by simpa using hd1
                go_wp2_with fail
                have hI1 := rFlag_any (b.drop at0) er0 p wr hR
                have hQ := fun W (hW : Rd W W.heap.size a0 b) => refReadFlag_any a0 b c0 at0 er0 W hW hat (by omega)
                generalize rF (b.drop at0) er0 = q at hI1 hQ
                obtain ⟨v, l1, e1⟩ := q
                simp only at hI1 hQ
                refine hI1.mono ?_
                rintro e w1 ⟨rfl, hR1, hg1⟩
                have hb1 : Below w.heap.size wr w1 := below_of_turned hg1 (by have := hpg.out; omega) hW.size
                have hW1 := hW.trans hb1
                have hB1 : Box w1 g 35 #[.slice a0 b.length c0, .int .i64 (at0 : Int), .int .i64 er0] := box_turned hB hg1 (by have := hpg.out; omega)
                have k0 : w1.cell? ⟨g, 0, none⟩ = some (.slice a0 b.length c0) := hB1.cell 0
                have k1 : w1.cell? ⟨g, 1, none⟩ = some (.int .i64 (at0 : Int)) := hB1.cell 1
                have k2 : w1.cell? ⟨g, 2, none⟩ = some (.int .i64 er0) := hB1.cell 2
                have HQ := Lib.hid hQ
                clear hI1 hQ hg1 hb1 hW hB hR hz2 hz3
                go_wp2_with fail
                refine (HQ.out _ ((hb.below hW1).more hW1.size)).mono ?_
                rintro e wc ⟨at1, rfl, hat1, hdr, hbw⟩
                clear k0 k1 k2
                have hG : Box wc g 35 #[.slice a0 b.length c0, .int .i64 (at0 : Int), .int .i64 er0] := hB1.under hbw hB1.lt
                have hRc : Rdr wc p l1 e1 := hR1.below hbw (by have := hB1.lt; have := hpg.out; omega)
                have hWc : Below w.heap.size w wc := hW1.trans (hbw.mono hW1.size)
                have HE : Hid (Inv w a0 c0 b p g ((((wc.setCell ⟨g, 0, none⟩ (.slice a0 b.length c0)).setCell ⟨g, 1, none⟩ (.int .i64 (at1 : Int))).setCell ⟨g, 2, none⟩ (.int .i64 e1)).alloc (.cells #[.slice a0 b.length c0, .int .i64 (at1 : Int), .int .i64 e1] 35))) :=
                  inv_alloc ⟨at1, e1, hat1, by rw [hdr]; exact rdr_far3 hRc hpg.out.1 _ _ _, ((hG.store 0 _).store 1 _).store 2 _, below_far3 hWc (by have := hpg.out; omega) _ _ _⟩ _
                have hgs : g < wc.heap.size := hG.lt
                have m0 : wc.cell? ⟨g, 0, none⟩ = some (.slice a0 b.length c0) := hG.cell 0
                have m1 : wc.cell? ⟨g, 1, none⟩ = some (.int .i64 (at0 : Int)) := hG.cell 1
                have m2 : wc.cell? ⟨g, 2, none⟩ = some (.int .i64 er0) := hG.cell 2
                have n0 : wc.frozen? ⟨g, 0, none⟩ = false := hG.frozen 0
                have n1 : wc.frozen? ⟨g, 1, none⟩ = false := hG.frozen 1
                have n2 : wc.frozen? ⟨g, 2, none⟩ = false := hG.frozen 2
                clear hG hRc hWc hat1 hdr hbw hB1 hR1 hW1 HQ
                go_wp2_with fail
                go_meet
                exact ⟨rfl, HE.out⟩
          case rest =>
            obtain ⟨rfl, at1, er1, hat, hR, hB, hW⟩ := hcut
            clear hz1 HI
            go_wp2_with fail
            refine wpB_start wc.heap.size (by kernel_rfl) ?_
            have e1 : ∀ w', Below wc.heap.size wc.drew w' → w'.cell? ⟨g, 1, none⟩ = some (.int .i64 (at1 : Int)) := fun w' h => (h.cell (by exact hB.lt)).trans (hB.cell 1)
            have e2 : ∀ w', Below wc.heap.size wc.drew w' → w'.cell? ⟨g, 2, none⟩ = some (.int .i64 er1) := fun w' h => (h.cell (by exact hB.lt)).trans (hB.cell 2)
            have hR' : Rdr wc.drew p (b.drop at1) er1 := hR
            have hlen : Hid (((b.drop at1).length : Int) = (b.length : Int) - (at1 : Int)) := by
              show ((b.drop at1).length : Int) = (b.length : Int) - (at1 : Int)
              rw [List.length_drop]; omega
            have hI2 : Hid (Inv w a0 c0 b p g wc.drew) := ⟨at1, er1, hat, hR, hB, hW.drew⟩
            clear hR hB hW
            generalize wc.drew = wd at e1 e2 hR' hI2 ⊢
            refine wpB_take (i := 0) (d := 110) (v := ?v26x0) rfl rfl (by kernel_rfl) (by kernel_rfl) (by kernel_rfl) (fun _ _ _ h => h) (by rfl) ?y26x0 ?r26x0
            case y26x0 => (intro w' hSw; go_simp; try (with_reducible rfl))
            simp only [Act.put, List.setIfInBounds_toArray, List.set_cons_zero, List.set_cons_succ]
            refine wpB_take (i := 3) (d := 113) (v := ?v26x3) rfl rfl (by kernel_rfl) (by kernel_rfl) (by kernel_rfl) (fun _ _ _ h => h) (by rfl) ?y26x3 ?r26x3
            case y26x3 => (intro w' hSw; go_simp; try (with_reducible rfl))
            simp only [Act.put, List.setIfInBounds_toArray, List.set_cons_zero, List.set_cons_succ]
            refine wpB_take (i := 4) (d := 114) (v := ?v26x4) rfl rfl (by kernel_rfl) (by kernel_rfl) (by kernel_rfl) (fun _ _ _ h => h) (by rfl) ?y26x4 ?r26x4
            case y26x4 => (intro w' hSw; go_simp; try (with_reducible rfl))
            simp only [Act.put, List.setIfInBounds_toArray, List.set_cons_zero, List.set_cons_succ]
            refine wpB_do (i := 1) (by kernel_rfl) rfl (by rfl) (fun K hK => ?_)
            go_simp
            refine (err_any _ er1 p _ hR').mono ?_
            rintro e w' ⟨rfl, rfl⟩
            refine hK.out _ _ _ (Nat.le_refl _) (Below.refl _ _) ?_
            clear hK K
            refine wpB_do (i := 2) (by kernel_rfl) rfl (by rfl) (fun K hK => ?_)
            go_simp
            refine (code_any er1 _).mono ?_
            rintro e w' ⟨rfl, rfl⟩
            refine hK.out _ _ _ (Nat.le_refl _) (Below.refl _ _) ?_
            clear hK K
            refine wpB_take (i := 5) (d := 115) (v := ?v26x5) rfl rfl (by kernel_rfl) (by kernel_rfl) (by kernel_rfl) (fun _ _ _ h => h) (by rfl) ?y26x5 ?r26x5
            case y26x5 => (intro w' hSw; go_simp; try (with_reducible rfl))
            simp only [Act.put, List.setIfInBounds_toArray, List.set_cons_zero, List.set_cons_succ]
            refine wpB_take (i := 6) (d := 116) (v := ?v26x6) rfl rfl (by kernel_rfl) (by kernel_rfl) (by kernel_rfl) (fun _ _ _ h => h) (by rfl) ?y26x6 ?r26x6
            case y26x6 => (intro w' hSw; go_simp; try (with_reducible rfl))
            simp only [Act.put, List.setIfInBounds_toArray, List.set_cons_zero, List.set_cons_succ]
            refine wpB_take (i := 7) (d := 117) (v := ?v26x7) rfl rfl (by kernel_rfl) (by kernel_rfl) (by kernel_rfl) (fun _ _ _ h => h) (by rfl) ?y26x7 ?r26x7
            case y26x7 => (intro w' hSw; go_simp; try (with_reducible rfl))
            simp only [Act.put, List.setIfInBounds_toArray, List.set_cons_zero, List.set_cons_succ]
            refine wpB_take (i := 9) (d := 119) (v := ?v26x9) rfl rfl (by kernel_rfl) (by kernel_rfl) (by kernel_rfl) (fun _ _ _ h => h) (by rfl) ?y26x9 ?r26x9
            case y26x9 => (intro w' hSw; go_simp; try (with_reducible rfl))
            simp only [Act.put, List.setIfInBounds_toArray, List.set_cons_zero, List.set_cons_succ]
            refine wpB_take (i := 10) (d := 120) (v := ?v26x10) rfl rfl (by kernel_rfl) (by kernel_rfl) (by kernel_rfl) (fun _ _ _ h => h) (by rfl) ?y26x10 ?r26x10
            case y26x10 => (intro w' hSw; go_simp; try (with_reducible rfl))
            simp only [Act.put, List.setIfInBounds_toArray, List.set_cons_zero, List.set_cons_succ]
            refine wpB_take (i := 11) (d := 121) (v := ?v26x11) rfl rfl (by kernel_rfl) (by kernel_rfl) (by kernel_rfl) (fun _ _ _ h => h) (by rfl) ?y26x11 ?r26x11
            case y26x11 => (intro w' hSw; go_simp; try (with_reducible rfl))
            simp only [Act.put, List.setIfInBounds_toArray, List.set_cons_zero, List.set_cons_succ]
            refine wpB_take (i := 12) (d := 122) (v := ?v26x12) rfl rfl (by kernel_rfl) (by kernel_rfl) (by kernel_rfl) (fun _ _ _ h => h) (by rfl) ?y26x12 ?r26x12
            case y26x12 => (intro w' hSw; go_simp; try (with_reducible rfl))
            simp only [Act.put, List.setIfInBounds_toArray, List.set_cons_zero, List.set_cons_succ]
            have hwr : IntKind.i64.wrap ((b.length : Int) - (at1 : Int)) = (b.length : Int) - (at1 : Int) := IntWalk.i64_in _ (by omega)
            refine wpB_take (i := 13) (d := 123) (v := ?v26x13) rfl rfl (by kernel_rfl) (by kernel_rfl) (by kernel_rfl) (fun _ _ _ h => h) (by rfl) ?y26x13 ?r26x13
            case y26x13 => (intro w' hSw; go_simp; try (with_reducible rfl))
            simp only [Act.put, List.setIfInBounds_toArray, List.set_cons_zero, List.set_cons_succ]
            clear hwr
            refine wpB_do (i := 8) (by kernel_rfl) rfl (by rfl) (fun K hK => ?_)
            go_simp
            refine (left_of _ er1 p _ hR' _ hlen.out).mono ?_
            rintro e w' ⟨rfl, rfl⟩
            refine hK.out _ _ _ (Nat.le_refl _) (Below.refl _ _) ?_
            clear hK K
            refine wpB_take (i := 14) (d := 124) (v := ?v26x14) rfl rfl (by kernel_rfl) (by kernel_rfl) (by kernel_rfl) (fun _ _ _ h => h) (by rfl) ?y26x14 ?r26x14
            case y26x14 => (intro w' hSw; go_simp; try (with_reducible rfl))
            simp only [Act.put, List.setIfInBounds_toArray, List.set_cons_zero, List.set_cons_succ]
            refine wpB_take (i := 15) (d := 125) (v := ?v26x15) rfl rfl (by kernel_rfl) (by kernel_rfl) (by kernel_rfl) (fun _ _ _ h => h) (by rfl) ?y26x15 ?r26x15
            case y26x15 => (intro w' hSw; go_simp; try (with_reducible rfl))
            simp only [Act.put, List.setIfInBounds_toArray, List.set_cons_zero, List.set_cons_succ]
            refine wpB_done (by kernel_rfl) ?_
            go_wp2
            go_roundg (acts.length - (k + 1))
            case measure => have := HK.out; omega
            case rel => exact ⟨k + 1, by omega, by go_num, hI2.out⟩
        · go_wp2_with (go_at_call 6; refine (live_any _).mono ?_; rintro e w' ⟨rfl, rfl⟩)
          go_ret
          obtain ⟨_, _, _, _, _, hB⟩ := HI.out
          exact ⟨rfl, hB.alloc hB.size _⟩
end Go.Proofs.Ytolabagnoieofaa.packReads
