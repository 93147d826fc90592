/- For every limit and list of acts the law ZdevLimit returns true: the walk. -/
import Derived.Test.YtcongcnoeklpjaaAcs
import Derived.Deep.CutBlock
import Derived.Deep.LoopGhost
namespace Go.Proofs.Ytcongcnoeklpjaa.zdevLimit
set_option linter.unusedVariables false
set_option linter.unusedSimpArgs false
open Go.RowKit
open Go.RowKit (wrap64)

/-- What holds ahead of the k-th act. -/
def Inv (w wr : World) (s k : Nat) : Prop :=
  ∃ bad zs, bad ≤ k ∧ DevAt wr (w.heap.size + 1) w.heap.size 4 1 ((s : Int) + 1) bad zs ∧ (nAct 4 zs : Int) ≤ ((s : Int) + 1) ∧ Below w.heap.size w wr
theorem Inv.next {w wr w' : World} {s k bad : Nat} {zs : List Zs} (h : bad ≤ k + 1) (hd : DevAt wr (w.heap.size + 1) w.heap.size 4 1 ((s : Int) + 1) bad zs) (hn : (nAct 4 zs : Int) ≤ ((s : Int) + 1)) (hb : Below w.heap.size w wr) (hb2 : Below wr.heap.size wr w') : Inv w w' s (k + 1) :=
  ⟨bad, zs, h, hd.later hb2, hn, hb.trans (hb2.mono hb.size)⟩

set_option maxRecDepth 100000 in
set_option maxHeartbeats 8000000 in
theorem walk (s : Nat) (hs : s < 256) (A : Option Addr) (cl : Nat) (acs : List Ac) (w : World) (hA : Acts w w.heap.size A acs) (hlen : acs.length ≤ maxLen) :
    Calls Try.prog 3 #[.int .u8 (s : Int), .slice A acs.length cl] w fun e w' => e = .returned (.bool true) ∧ Below w.heap.size w w' := by
  have HA := Lib.hid hA
  have HL := Lib.hid hlen
  clear hA hlen
  go_enter Try.func3, Try.ntmps3
  go_wp2_with fail
  refine (newDev_any 6 4 1 ((s : Int) + 1) w (by omega) (by omega) (by omega) (by omega) (by omega) (by omega) (by omega)).mono ?_
  rintro e w1 ⟨rfl, hd1, hb1⟩
  have HI : Hid (Inv w w1 s 0) := ⟨0, _, Nat.le_refl _, hd1, by rw [show nAct 4 (List.replicate 6 zE) = 0 from rfl]; omega, hb1⟩
  have HB1 := Lib.hid hb1
  clear hd1 hb1
  go_wp2_with fail
  refine (much_any A cl w.heap.size acs w1 (HA.out.below HB1.out) HL.out).mono ?_
  rintro e w' ⟨⟨big, rfl, hbig⟩, rfl⟩
  cases big
  · have h30 := hbig rfl
    clear hbig
    go_wp2_with fail
    refine (code_any 0 _).mono ?_
    rintro e w' ⟨rfl, rfl⟩
    go_wp2
    go_loopw [7] (fun i wr => ∃ k : Nat, k ≤ acs.length ∧ i = .int .i64 k ∧ Inv w wr s k) (fun i _ => acs.length - (intOf i).toNat)
    case atStart => exact ⟨0, by omega, rfl, HI.out⟩
    case round =>
      clear HI HB1
      obtain ⟨k, hk, rfl, bad, zs, hbad, hd, hn, hbel⟩ := hrel
      by_cases hlt : k < acs.length
      · have HS := Lib.hid (And.intro hbad (And.intro hd (And.intro hn hbel)))
        obtain ⟨g, off, rfl, hg, hc⟩ := (HA.out.below hbel) (by omega)
        obtain ⟨X, cx, h1, h2, h3, h4, h5, h6⟩ := hc k hlt
        have HX := Lib.hid (And.intro h4 h6)
        have hbad2 : bad ≤ 1000000 := by omega
        clear hc hbad hd hn hbel h4 h5 h6
        generalize acs[k].d = d at h1
        generalize acs[k].z = z at h2
        generalize acs[k].b = b at h3 HX
        by_cases d0 : d = 0
        · subst d0
          go_wp2_with fail
          refine wpG_start [w.heap.size + 1, w.heap.size] (by kernel_rfl) ?_
          have HV : Hid (DevAt wr.drew (w.heap.size + 1) w.heap.size 4 1 ((s : Int) + 1) bad zs ∧ Below w.heap.size w wr.drew ∧ Rd wr.drew wr.drew.heap.size X b) := ⟨HS.out.2.1.drew, HS.out.2.2.2.drew, (HX.out.1.below (Below.refl _ _).drew).more HS.out.2.2.2.size⟩
          have g2 : wr.drew.cell? ⟨g, off + k * 5 + 1, none⟩ = some (.int .i64 z) := h2
          have g3 : wr.drew.cell? ⟨g, off + k * 5 + 2, none⟩ = some (.slice X b.length cx) := h3
          generalize wr.drew = w0 at HV g2 g3 ⊢
          have c2 : ∀ w', Turn [w.heap.size + 1, w.heap.size] w0 w' → w'.cell? ⟨g, off + k * 5 + 1, none⟩ = some (.int .i64 z) := fun w' h => ((h.below (B := w.heap.size) (by simp) HV.out.2.1.size).cell hg).trans g2
          have c3 : ∀ w', Turn [w.heap.size + 1, w.heap.size] w0 w' → w'.cell? ⟨g, off + k * 5 + 2, none⟩ = some (.slice X b.length cx) := fun w' h => ((h.below (B := w.heap.size) (by simp) HV.out.2.1.size).cell hg).trans g3
          clear g2 g3 h1 h2 h3
          refine wpG_take (i := 0) (d := 41) (v := ?v9x0) rfl rfl (by kernel_rfl) (by kernel_rfl) (by kernel_rfl) (fun _ _ _ h => h) (by rfl) ?y9x0 ?r9x0
          case y9x0 => (intro w' hSw; go_simp; try (with_reducible rfl))
          simp only [Act.put, List.setIfInBounds_toArray, List.set_cons_zero, List.set_cons_succ]
          refine wpG_take (i := 1) (d := 42) (v := ?v9x1) rfl rfl (by kernel_rfl) (by kernel_rfl) (by kernel_rfl) (fun _ _ _ h => h) (by rfl) ?y9x1 ?r9x1
          case y9x1 => (intro w' hSw; go_simp; try (with_reducible rfl))
          simp only [Act.put, List.setIfInBounds_toArray, List.set_cons_zero, List.set_cons_succ]
          refine wpG_take (i := 2) (d := 43) (v := ?v9x2) rfl rfl (by kernel_rfl) (by kernel_rfl) (by kernel_rfl) (fun _ _ _ h => h) (by rfl) ?y9x2 ?r9x2
          case y9x2 => (intro w' hSw; go_simp; try (with_reducible rfl))
          simp only [Act.put, List.setIfInBounds_toArray, List.set_cons_zero, List.set_cons_succ]
          refine wpG_take (i := 3) (d := 44) (v := ?v9x3) rfl rfl (by kernel_rfl) (by kernel_rfl) (by kernel_rfl) (fun _ _ _ h => h) (by rfl) ?y9x3 ?r9x3
          case y9x3 => (intro w' hSw; go_simp; try (with_reducible rfl))
          simp only [Act.put, List.setIfInBounds_toArray, List.set_cons_zero, List.set_cons_succ]
          refine wpG_take (i := 4) (d := 45) (v := ?v9x4) rfl rfl (by kernel_rfl) (by kernel_rfl) (by kernel_rfl) (fun _ _ _ h => h) (by rfl) ?y9x4 ?r9x4
          case y9x4 => (intro w' hSw; go_simp; try (with_reducible rfl))
          simp only [Act.put, List.setIfInBounds_toArray, List.set_cons_zero, List.set_cons_succ]
          refine wpG_take (i := 5) (d := 46) (v := ?v9x5) rfl rfl (by kernel_rfl) (by kernel_rfl) (by kernel_rfl) (fun _ _ _ h => h) (by rfl) ?y9x5 ?r9x5
          case y9x5 => (intro w' hSw; go_simp; try (with_reducible rfl))
          simp only [Act.put, List.setIfInBounds_toArray, List.set_cons_zero, List.set_cons_succ]
          refine wpG_take (i := 6) (d := 47) (v := ?v9x6) rfl rfl (by kernel_rfl) (by kernel_rfl) (by kernel_rfl) (fun _ _ _ h => h) (by rfl) ?y9x6 ?r9x6
          case y9x6 => (intro w' hSw; go_simp; try (with_reducible rfl))
          simp only [Act.put, List.setIfInBounds_toArray, List.set_cons_zero, List.set_cons_succ]
          refine wpG_take (i := 7) (d := 48) (v := ?v9x7) rfl rfl (by kernel_rfl) (by kernel_rfl) (by kernel_rfl) (fun _ _ _ h => h) (by rfl) ?y9x7 ?r9x7
          case y9x7 => (intro w' hSw; go_simp; try (with_reducible rfl))
          simp only [Act.put, List.setIfInBounds_toArray, List.set_cons_zero, List.set_cons_succ]
          refine wpG_take (i := 8) (d := 49) (v := ?v9x8) rfl rfl (by kernel_rfl) (by kernel_rfl) (by kernel_rfl) (fun _ _ _ h => h) (by rfl) ?y9x8 ?r9x8
          case y9x8 => (intro w' hSw; go_simp; try (with_reducible rfl))
          simp only [Act.put, List.setIfInBounds_toArray, List.set_cons_zero, List.set_cons_succ]
          refine wpG_take (i := 9) (d := 50) (v := ?v9x9) rfl rfl (by kernel_rfl) (by kernel_rfl) (by kernel_rfl) (fun _ _ _ h => h) (by rfl) ?y9x9 ?r9x9
          case y9x9 => (intro w' hSw; go_simp; try (with_reducible rfl))
          simp only [Act.put, List.setIfInBounds_toArray, List.set_cons_zero, List.set_cons_succ]
          refine wpG_take (i := 10) (d := 51) (v := ?v9x10) rfl rfl (by kernel_rfl) (by kernel_rfl) (by kernel_rfl) (fun _ _ _ h => h) (by rfl) ?y9x10 ?r9x10
          case y9x10 => (intro w' hSw; go_simp; try (with_reducible rfl))
          simp only [Act.put, List.setIfInBounds_toArray, List.set_cons_zero, List.set_cons_succ]
          refine wpG_do (i := 11) (by kernel_rfl) rfl (by rfl) (fun K hK => ?_)
          go_simp
          refine (append_step z X cx b w0 HV.out.1 hbad2 (by have := HX.out.2; unfold maxLen; omega) HV.out.2.2 HS.out.2.2.1).mono ?_
          rintro e w2 ⟨x, rfl, bad2, zs2, hbd, hd2, hn2, ht2⟩
          have HT := Lib.hid (And.intro hbd (And.intro hd2 (And.intro hn2 (HV.out.2.1.trans (ht2.below (by simp) HV.out.2.1.size)))))
          have hml := nAct_le 4 zs2
          have hml2 := hd2.len
          refine hK.out _ _ ht2 ?_
          clear hbd hd2 ht2 hK K HV c2 c3
          refine wpG_done (by kernel_rfl) ?_
          go_wp2_with fail
          refine (active_dev w2 HT.out.2.1).mono ?_
          rintro e w3 ⟨rfl, hb3⟩
          have HU := Lib.hid (Inv.next (s := s) (k := k) (by have := HT.out.1; have := HS.out.1; omega) HT.out.2.1 HT.out.2.2.1 HT.out.2.2.2 hb3)
          clear hb3 HT HS
          generalize nAct 4 zs2 = m at hn2 hml
          go_wp2
          go_roundw
          case rel => exact ⟨k + 1, by omega, by go_num, HU.out⟩
          case measure => simp [intOf]; omega
        · have b0 : (d == 0) = false := by simpa using d0
          clear d0
          by_cases d2 : d = 2
          · subst d2
            clear h2 h3
            go_wp2_with fail
            refine (flush_step wr HS.out.2.1 HS.out.2.2.1).mono ?_
            rintro e w2 ⟨x, rfl, bad2, zs2, hbd, hd2, hn2, ht2⟩
            have HT := Lib.hid (And.intro hbd (And.intro hd2 (And.intro hn2 (HS.out.2.2.2.trans (ht2.below (by simp) HS.out.2.2.2.size)))))
            have hml := nAct_le 4 zs2
            have hml2 := hd2.len
            clear hbd hd2 ht2
            go_wp2_with fail
            refine (active_dev w2 HT.out.2.1).mono ?_
            rintro e w3 ⟨rfl, hb3⟩
            have HU := Lib.hid (Inv.next (s := s) (k := k) (by have := HT.out.1; have := HS.out.1; omega) HT.out.2.1 HT.out.2.2.1 HT.out.2.2.2 hb3)
            clear hb3 HT HS
            generalize nAct 4 zs2 = m at hn2 hml
            go_wp2
            go_roundw
            case rel => exact ⟨k + 1, by omega, by go_num, HU.out⟩
            case measure => simp [intOf]; omega
          · have b2 : (d == 2) = false := by simpa using d2
            clear d2
            by_cases d3 : d = 3
            · subst d3
              clear h3
              go_wp2_with fail
              refine (reset_step z wr HS.out.2.1 hbad2 HS.out.2.2.1).mono ?_
              rintro e w2 ⟨x, rfl, bad2, zs2, hbd, hd2, hn2, ht2⟩
              have HT := Lib.hid (And.intro hbd (And.intro hd2 (And.intro hn2 (HS.out.2.2.2.trans (ht2.below (by simp) HS.out.2.2.2.size)))))
              have hml := nAct_le 4 zs2
              have hml2 := hd2.len
              clear hbd hd2 ht2
              go_wp2_with fail
              refine (active_dev w2 HT.out.2.1).mono ?_
              rintro e w3 ⟨rfl, hb3⟩
              have HU := Lib.hid (Inv.next (s := s) (k := k) (by have := HT.out.1; have := HS.out.1; omega) HT.out.2.1 HT.out.2.2.1 HT.out.2.2.2 hb3)
              clear hb3 HT HS
              generalize nAct 4 zs2 = m at hn2 hml
              go_wp2
              go_roundw
              case rel => exact ⟨k + 1, by omega, by go_num, HU.out⟩
              case measure => simp [intOf]; omega
            · have b3 : (d == 3) = false := by simpa using d3
              clear d3
              by_cases d4 : d = 4
              · subst d4
                clear h3
                go_wp2_with fail
                refine (finish_step z wr HS.out.2.1 hbad2 HS.out.2.2.1).mono ?_
                rintro e w2 ⟨x, rfl, bad2, zs2, hbd, hd2, hn2, ht2⟩
                have HT := Lib.hid (And.intro hbd (And.intro hd2 (And.intro hn2 (HS.out.2.2.2.trans (ht2.below (by simp) HS.out.2.2.2.size)))))
                have hml := nAct_le 4 zs2
                have hml2 := hd2.len
                clear hbd hd2 ht2
                go_wp2_with fail
                refine (active_dev w2 HT.out.2.1).mono ?_
                rintro e w3 ⟨rfl, hb3⟩
                have HU := Lib.hid (Inv.next (s := s) (k := k) (by have := HT.out.1; have := HS.out.1; omega) HT.out.2.1 HT.out.2.2.1 HT.out.2.2.2 hb3)
                clear hb3 HT HS
                generalize nAct 4 zs2 = m at hn2 hml
                go_wp2
                go_roundw
                case rel => exact ⟨k + 1, by omega, by go_num, HU.out⟩
                case measure => simp [intOf]; omega
              · have b4 : (d == 4) = false := by simpa using d4
                clear d4 h2 h3
                have hml := nAct_le 4 zs
                have hml2 := HS.out.2.1.len
                have hn2 := HS.out.2.2.1
                go_wp2_with fail
                refine (active_dev wr HS.out.2.1).mono ?_
                rintro e w3 ⟨rfl, hb3⟩
                have HU := Lib.hid (Inv.next (s := s) (k := k) (by have := HS.out.1; omega) HS.out.2.1 HS.out.2.2.1 HS.out.2.2.2 hb3)
                clear hb3 HS
                generalize nAct 4 zs = m at hn2 hml
                go_wp2
                go_roundw
                case rel => exact ⟨k + 1, by omega, by go_num, HU.out⟩
                case measure => simp [intOf]; omega
      · obtain rfl : k = acs.length := by omega
        have HS := Lib.hid hbel
        clear hbad hd hn hbel
        go_wp2_with fail
        refine (live_any wr).mono ?_
        rintro e w3 ⟨rfl, hb3⟩
        have HU := Lib.hid (HS.out.trans (hb3.mono HS.out.size))
        clear hb3 HS
        go_wp2
        go_ret
        exact ⟨rfl, HU.out⟩
  · clear hbig HI
    go_wp2_with fail
    refine (code_any 0 _).mono ?_
    rintro e w' ⟨rfl, rfl⟩
    go_wp2_with fail
    refine (live_any w1).mono ?_
    rintro e w2 ⟨rfl, hb2⟩
    have HC := Lib.hid (HB1.out.trans (hb2.mono HB1.out.size))
    clear hb2 HB1
    go_wp2
    go_ret
    exact ⟨rfl, HC.out⟩
end Go.Proofs.Ytcongcnoeklpjaa.zdevLimit
