/- For every fuse and list of acts the law BusPower returns true: the walk. -/
import Derived.Test.YtbaolfncolfipaaAcs
import Derived.Deep.CutBlock
import Derived.Deep.LoopGhost
namespace Go.Proofs.Ytbaolfncolfipaa.busPower
set_option linter.unusedVariables false
set_option linter.unusedSimpArgs false
open Go.RowKit
open Go.RowKit (wrap64)

/-- Three members, none of them lost or to be lost; the fuse and what was counted are together s. -/
structure Inv (w wr : World) (s k : Nat) (B : Bd) : Prop where
  bus : BusAt wr B
  gs : ∀ g ∈ B.gs, w.heap.size ≤ g
  bel : Below w.heap.size w wr
  len : B.ms.length = 3
  fuse : 0 ≤ B.fuse ∧ (B.count : Int) + B.fuse = (s : Int)
  ms : ∀ m ∈ B.ms, m.lost = false ∧ m.ahead = -1 ∧ m.bad ≤ k
theorem Inv.fit {w wr : World} {s k : Nat} {B : Bd} (h : Inv w wr s k B) (hs : s < 256) : B.fit := by
  have := h.fuse
  exact ⟨⟨by omega, by omega⟩, by omega, fun m hm => by rw [(h.ms m hm).2.1]; decide⟩
theorem Inv.later {w wr w' : World} {s k : Nat} {B : Bd} (h : Inv w wr s k B) (hb : Below wr.heap.size wr w') : Inv w w' s k B :=
  ⟨h.bus.later hb, h.gs, h.bel.trans (hb.mono h.bel.size), h.len, h.fuse, h.ms⟩
theorem Inv.more {w wr : World} {s k : Nat} {B : Bd} (h : Inv w wr s k B) : Inv w wr s (k + 1) B := ⟨h.bus, h.gs, h.bel, h.len, h.fuse, fun m hm => ⟨(h.ms m hm).1, (h.ms m hm).2.1, Nat.le_succ_of_le (h.ms m hm).2.2⟩⟩
theorem Inv.down {w wr w' : World} {s k : Nat} {B : Bd} (h : Inv w wr s k B) (hb : BusAt w' { B with down := true }) (ht : Turn [B.b] wr w') : Inv w w' s k { B with down := true } :=
  ⟨hb, h.gs, h.bel.trans (ht.below (by simpa using h.gs B.b (by simp [Bd.gs])) h.bel.size), h.len, h.fuse, h.ms⟩
theorem pass_same {m : Mb} (h1 : m.lost = false) (h2 : m.ahead = -1) : m.pass = m := by
  obtain ⟨p, zb, bad, lost, zs, serial, ahead⟩ := m
  simp only at h1 h2
  subst h1 h2
  simp [Mb.pass, cutN]
theorem Inv.go {w wr w' : World} {s k i : Nat} {B : Bd} {m' : Mb} (h : Inv w wr s k B) (hu : B.up = true) (hb : BusAt w' { B.passed with ms := B.passed.ms.set i m' }) (ht : Turn B.gs wr w') (hi : i < B.ms.length) (hp : m'.p = B.ms[i].p ∧ m'.zb = B.ms[i].zb) (hm : m'.lost = false ∧ m'.ahead = -1 ∧ m'.bad ≤ k + 1) :
    Inv w w' s (k + 1) { B.passed with ms := B.passed.ms.set i m' } := by
  have hup : B.down = false ∧ B.fuse ≠ 0 := by simpa [Bd.up] using hu
  have hf := h.fuse
  have hmap : B.passed.ms = B.ms := by
    show B.ms.map Mb.pass = B.ms
    conv => rhs; rw [← List.map_id B.ms]
    exact List.map_congr_left fun m hm => pass_same (h.ms m hm).1 (h.ms m hm).2.1
  refine ⟨hb, fun g hg => ?_, h.bel.trans (ht.below h.gs h.bel.size), by simp [hmap, h.len], ?_, fun m hm2 => ?_⟩
  · rcases Bd.mem_gs.1 hg with e | e | ⟨m, hm2, e⟩ | ⟨m, hm2, e⟩
    · exact h.gs g (Bd.mem_gs.2 (Or.inl e))
    · exact h.gs g (Bd.mem_gs.2 (Or.inr (Or.inl e)))
    · simp only [hmap] at hm2
      rcases List.mem_or_eq_of_mem_set hm2 with hm2 | rfl
      · exact h.gs g (Bd.mem_gs.2 (Or.inr (Or.inr (Or.inl ⟨m, hm2, e⟩))))
      · exact h.gs g (Bd.mem_gs.2 (Or.inr (Or.inr (Or.inl ⟨_, List.getElem_mem hi, by rw [← e, hp.1]⟩))))
    · simp only [hmap] at hm2
      rcases List.mem_or_eq_of_mem_set hm2 with hm2 | rfl
      · exact h.gs g (Bd.mem_gs.2 (Or.inr (Or.inr (Or.inr ⟨m, hm2, e⟩))))
      · exact h.gs g (Bd.mem_gs.2 (Or.inr (Or.inr (Or.inr ⟨_, List.getElem_mem hi, by rw [← e, hp.2]⟩))))
  · simp only [Bd.passed, cutN]
    rw [if_neg (by omega)]
    omega
  · simp only [hmap] at hm2
    rcases List.mem_or_eq_of_mem_set hm2 with hm2 | rfl
    · have := h.ms m hm2
      exact ⟨this.1, this.2.1, Nat.le_succ_of_le this.2.2⟩
    · exact hm

set_option maxRecDepth 100000 in
set_option maxHeartbeats 8000000 in
theorem walk (s : Nat) (hs : s < 256) (A : Option Addr) (cl : Nat) (acs : List Ac) (w : World) (hA : Acts w w.heap.size A acs) (hlen : acs.length ≤ maxLen) :
    Calls Try.prog 3 #[.int .u8 (s : Int), .slice A acs.length cl] w fun e w' => e = .returned (.bool true) ∧ Below w.heap.size w w' := by
  have HA := Lib.hid hA
  have HL := Lib.hid hlen
  clear hA hlen
  go_enter Try.func3, Try.ntmps3
  go_wp2_with fail
  refine (much_any A cl w.heap.size acs w HA.out HL.out).mono ?_
  rintro e w' ⟨⟨big, rfl, hbig⟩, rfl⟩
  cases big
  · have h30 := hbig rfl
    clear hbig
    go_wp2_with fail
    refine (busNew_any 3 3 6 1 3 w (by omega) (by omega) (by omega) (by omega) (by omega) (by omega) (by omega) (by omega) (by omega)).mono ?_
    rintro e w1 ⟨B, rfl, hb, hg, hbel, hB, hlen, hall⟩
    have HN := Lib.hid (And.intro hb (And.intro hg (And.intro hbel (And.intro hB (And.intro hlen hall)))))
    clear hb hg hbel hB hlen hall
    go_wp2_with fail
    refine (busFuse_any s w1 HN.out.1).mono ?_
    rintro e w2 ⟨rfl, hb2, ht2⟩
    rw [show cutN (s : Int) = (s : Int) by unfold cutN; omega] at hb2
    obtain ⟨hb, hg, hbel, hB, hlen, hall⟩ := HN.out
    have HI : Hid (∃ B' : Bd, B'.b = B.b ∧ Inv w w2 s 0 B') := by
      refine ⟨{ B with fuse := (s : Int) }, rfl, hb2, hg, hbel.trans (ht2.below (by simpa using hg B.b (by simp [Bd.gs])) hbel.size), hlen, ?_, ?_⟩
      · have e1 : B.count = 0 := by rw [hB]
        simp only [e1]
        omega
      · intro m hm
        rw [hall m hm]
        exact ⟨rfl, rfl, Nat.le_refl _⟩
    clear hb hg hbel hB hlen hall hb2 ht2 HN
    generalize B.b = bb at HI ⊢
    clear B
    go_wp2
    go_loopw [7] (fun i wr => ∃ k : Nat, k ≤ acs.length ∧ i = .int .i64 k ∧ ∃ B' : Bd, B'.b = bb ∧ Inv w wr s k B') (fun i _ => acs.length - (intOf i).toNat)
    case atStart => exact ⟨0, by omega, rfl, HI.out⟩
    case round =>
      clear HI
      obtain ⟨k, hk, rfl, B, rfl, hinv⟩ := hrel
      by_cases hlt : k < acs.length
      · obtain ⟨g, off, rfl, hg, hc⟩ := (HA.out.below hinv.bel) (by omega)
        obtain ⟨X, cx, h1, h2, h3, h4, h5, h6, h7, h8, h9⟩ := hc k hlt
        have HX := Lib.hid (And.intro h7 h9)
        clear hc h7 h8 h9
        generalize acs[k].d = d at h1
        generalize acs[k].m = m at h2
        generalize acs[k].z = z at h3
        generalize acs[k].b = b at h4 HX
        generalize acs[k].at_ = q at h5
        generalize acs[k].n = nn at h6
        have hbl : Below wr.heap.size wr (wr.alloc (.cells #[.int .i64 d, .int .i64 m, .int .i64 z, .slice X b.length cx, .int .i64 q, .int .i64 nn] 33)) := (Below.refl _ _).alloc (Nat.le_refl _) _
        have HV : Hid (Box (wr.alloc (.cells #[.int .i64 d, .int .i64 m, .int .i64 z, .slice X b.length cx, .int .i64 q, .int .i64 nn] 33)) wr.heap.size 33 #[.int .i64 d, .int .i64 m, .int .i64 z, .slice X b.length cx, .int .i64 q, .int .i64 nn] ∧ Inv w (wr.alloc (.cells #[.int .i64 d, .int .i64 m, .int .i64 z, .slice X b.length cx, .int .i64 q, .int .i64 nn] 33)) s k B ∧ Rd (wr.alloc (.cells #[.int .i64 d, .int .i64 m, .int .i64 z, .slice X b.length cx, .int .i64 q, .int .i64 nn] 33)) w.heap.size X b) :=
          ⟨Box.fresh wr 33 _, hinv.later hbl, HX.out.1.below (hbl.mono hinv.bel.size)⟩
        have HQ : Hid (∀ g ∈ B.gs, g < wr.heap.size) := hinv.bus.lt
        have hfu := hinv.fuse
        have hml := hinv.len
        have hbx := hinv.bel.size
        clear hinv hbl
        go_upto_region 11 with fail
        generalize (wr.alloc (.cells #[.int .i64 d, .int .i64 m, .int .i64 z, .slice X b.length cx, .int .i64 q, .int .i64 nn] 33)) = w0 at HV ⊢
        clear h1 h2 h3 h4 h5 h6
        obtain ⟨c0, c1, c2, c3⟩ : True ∧ w0.cell? ⟨wr.heap.size, 1, none⟩ = some (.int .i64 m) ∧ w0.cell? ⟨wr.heap.size, 2, none⟩ = some (.int .i64 z) ∧ w0.cell? ⟨wr.heap.size, 3, none⟩ = some (.slice X b.length cx) := ⟨trivial, HV.out.1.cell 1, HV.out.1.cell 2, HV.out.1.cell 3⟩
        clear c0
        go_wp2_with fail
        refine (busCount_any w0 HV.out.2.1.bus).mono ?_
        rintro e w' ⟨rfl, rfl⟩
        go_wp2_with fail
        refine (busDown_any w0 HV.out.2.1.bus).mono ?_
        rintro e w' ⟨rfl, rfl⟩
        go_wp2_with fail
        by_cases hr : m < 0 ∨ (B.ms.length : Int) ≤ m
        · refine (busAppend_range m z X _ cx w0 HV.out.2.1.bus hr).mono ?_
          rintro e w3 ⟨rfl, hb3, hbel3⟩
          have HU := Lib.hid (And.intro (HV.out.2.1.later hbel3).more (HV.out.1.later hbel3))
          clear hb3 hbel3 HV c1 c2 c3
          have c1 : w3.cell? ⟨wr.heap.size, 1, none⟩ = some (.int .i64 m) := HU.out.2.cell 1
          rw [hml] at hr
          go_wp2_with fail
          refine (code_any 1 _).mono ?_
          rintro e w' ⟨rfl, rfl⟩
          have HW := Lib.hid (busCount_any w3 HU.out.1.bus)
          have hcs : ¬ ((s : Int) < (B.count : Int)) := by omega
          generalize B.down = dn
          cases dn
          · go_wp2_with fail
            refine HW.out.mono ?_
            rintro e w' ⟨rfl, rfl⟩
            clear HW
            generalize B.count = ct at hcs
            go_wp2
            go_roundw
            case rel => exact ⟨k + 1, by omega, by go_num, B, rfl, HU.out.1⟩
            case measure => simp [intOf]; omega
          · go_wp2_with fail
            refine HW.out.mono ?_
            rintro e w' ⟨rfl, rfl⟩
            rcases hr with hr | hr
            · go_wp2_with fail
              refine HW.out.mono ?_
              rintro e w' ⟨rfl, rfl⟩
              clear HW
              generalize B.count = ct at hcs
              go_wp2
              go_roundw
              case rel => exact ⟨k + 1, by omega, by go_num, B, rfl, HU.out.1⟩
              case measure => simp [intOf]; omega
            · have hr0 : ¬ m < 0 := by omega
              have hr3 : ¬ m < 3 := by omega
              go_wp2_with fail
              refine HW.out.mono ?_
              rintro e w' ⟨rfl, rfl⟩
              clear HW
              generalize B.count = ct at hcs
              go_wp2
              go_roundw
              case rel => exact ⟨k + 1, by omega, by go_num, B, rfl, HU.out.1⟩
              case measure => simp [intOf]; omega
        · obtain ⟨i, rfl⟩ : ∃ i : Nat, m = (i : Int) := ⟨m.toNat, by omega⟩
          have hi : i < B.ms.length := by omega
          have hi3 : i < 3 := by omega
          clear hr
          cases hu : B.up
          · refine (busAppend_down i hi z X _ cx w0 HV.out.2.1.bus hu).mono ?_
            rintro e w3 ⟨rfl, hb3, ht3⟩
            have HU := Lib.hid (And.intro (HV.out.2.1.down hb3 ht3).more (HV.out.1.turn ht3 (by have := HQ.out B.b (by simp [Bd.gs]); simp; omega)))
            clear hb3 ht3 HV c1 c2 c3
            have c1 : w3.cell? ⟨wr.heap.size, 1, none⟩ = some (.int .i64 (i : Int)) := HU.out.2.cell 1
            go_wp2_with fail
            refine (code_any 10 _).mono ?_
            rintro e w' ⟨rfl, rfl⟩
            have HW := Lib.hid (busCount_any w3 HU.out.1.bus)
            simp only at HW
            have hcs : ¬ ((s : Int) < (B.count : Int)) := by omega
            generalize B.down = dn
            cases dn
            · go_wp2_with fail
              refine HW.out.mono ?_
              rintro e w' ⟨rfl, rfl⟩
              clear HW
              generalize B.count = ct at hcs
              go_wp2
              go_roundw
              case rel => exact ⟨k + 1, by omega, by go_num, { B with down := true }, rfl, HU.out.1⟩
              case measure => simp [intOf]; omega
            · go_wp2_with fail
              refine HW.out.mono ?_
              rintro e w' ⟨rfl, rfl⟩
              go_wp2_with fail
              refine HW.out.mono ?_
              rintro e w' ⟨rfl, rfl⟩
              clear HW
              generalize B.count = ct at hcs
              go_wp2
              go_roundw
              case rel => exact ⟨k + 1, by omega, by go_num, { B with down := true }, rfl, HU.out.1⟩
              case measure => simp [intOf]; omega
          · have hup : B.down = false ∧ B.fuse ≠ 0 := by simpa [Bd.up] using hu
            have hmi := HV.out.2.1.ms _ (List.getElem_mem hi)
            refine (busAppend_go i hi z X cx b w0 HV.out.2.1.bus hu (HV.out.2.1.fit hs) (by omega) (by have := HX.out.2; unfold maxLen; omega) (fun w1 ht => (HV.out.2.2.below (ht.below HV.out.2.1.gs HV.out.2.1.bel.size)).more (Nat.le_trans HV.out.2.1.bel.size ht.size))).mono ?_
            rintro e w3 ⟨x, m', rfl, hb3, ht3, hs3⟩
            rw [pass_same hmi.1 hmi.2.1] at hs3
            have hk3 := hs3.keeps
            have hpz : m'.p = B.ms[i].p ∧ m'.zb = B.ms[i].zb := hs3.at_
            have HU := Lib.hid (And.intro (HV.out.2.1.go hu hb3 ht3 hi hpz ⟨by rw [hk3.1, hmi.1], by rw [hk3.2.1, hmi.2.1], by omega⟩) (HV.out.1.turn ht3 (fun hx => by have := HQ.out _ hx; omega)))
            clear hb3 ht3 HV c1 c2 c3 hmi hs3 hk3 hpz hu
            obtain ⟨hdn, hfz⟩ := hup
            go_wp2_with fail
            refine (code_any x _).mono ?_
            rintro e w' ⟨rfl, rfl⟩
            have HW := Lib.hid (busCount_any w3 HU.out.1.bus)
            simp only [Bd.passed] at HW
            have hcs : ¬ ((s : Int) < ((B.count + 1 : Nat) : Int)) := by omega
            go_wp2_with fail
            refine HW.out.mono ?_
            rintro e w' ⟨rfl, rfl⟩
            clear HW
            generalize B.count + 1 = ct at hcs
            go_wp2
            go_roundw
            case rel => exact ⟨k + 1, by omega, by go_num, { B.passed with ms := B.passed.ms.set i m' }, rfl, HU.out.1⟩
            case measure => simp [intOf]; omega
      · obtain rfl : k = acs.length := by omega
        have HI := Lib.hid hinv
        have hml := hinv.len
        have hi0 : 0 < B.ms.length := by omega
        clear hinv
        go_wp2_with fail
        refine (busCrash_any none 0 [] wr HI.out.bus (by simp) (by simp) (fun _ _ => Rd.nil)).mono ?_
        rintro e w3 ⟨rfl, ms', hcr, hb3, ht3⟩
        have hl3 : 0 < ms'.length := by rw [hcr.len]; exact hi0
        have hm0 := hcr.all 0 hi0 hl3
        have hall : ∀ m ∈ ms', m.lost = false ∧ m.ahead = -1 := fun m hm => by
          obtain ⟨j, hj, rfl⟩ := List.getElem_of_mem hm
          have hj' : j < B.ms.length := by rw [← hcr.len]; exact hj
          have h1 := (hcr.all j hj' hj).1
          have h2 := HI.out.ms _ (List.getElem_mem hj')
          exact ⟨by rw [h1.2.2.2.2.1, h2.1], by rw [h1.2.2.2.1, h2.2.1]⟩
        have hgs : ∀ g ∈ ({ B with ms := ms', fuse := -1, down := false } : Bd).gs, w.heap.size ≤ g := by
          have e := CrashedB.gs (B := B) hcr
          intro g hg
          refine HI.out.gs g ?_
          rw [← e]
          exact hg
        have HC := Lib.hid (And.intro hb3 (HI.out.bel.trans (ht3.below HI.out.gs HI.out.bel.size)))
        have HF : Hid (({ B with ms := ms', fuse := -1, down := false } : Bd).fit) := by
          have := HI.out.fuse
          exact ⟨⟨by simp, by simp⟩, by simp only; omega, fun m hm => by rw [(hall m hm).2]; decide⟩
        have HM := Lib.hid (And.intro hl3 (And.intro hall hgs))
        clear hcr hb3 ht3 hm0 hall hgs hl3
        go_wp2_with fail
        refine (busDown_any w3 HC.out.1).mono ?_
        rintro e w' ⟨rfl, rfl⟩
        simp only
        go_wp2_with fail
        refine (busFlush_go (B := { B with ms := ms', fuse := -1, down := false }) 0 HM.out.1 w3 HC.out.1 rfl HF.out).mono ?_
        rintro e w4 ⟨x, m', rfl, hb4, ht4, hs4⟩
        obtain rfl : x = 0 := by
          have h0 := HM.out.2.1 _ (List.getElem_mem HM.out.1)
          simp only at hs4
          rw [pass_same h0.1 h0.2] at hs4
          cases hs4 with
          | lost h => rw [h0.1] at h; cases h
          | fits zs h1 h2 => rfl
        have HE := Lib.hid (HC.out.2.trans (ht4.below HM.out.2.2 HC.out.2.size))
        clear hb4 ht4 hs4 HC HM HF
        go_wp2_with fail
        refine (code_any 0 _).mono ?_
        rintro e w' ⟨rfl, rfl⟩
        go_wp2_with fail
        refine (live_any w4).mono ?_
        rintro e w5 ⟨rfl, hb5⟩
        have HU := Lib.hid (HE.out.trans (hb5.mono HE.out.size))
        clear hb5 HE
        go_wp2
        go_ret
        exact ⟨rfl, HU.out⟩
  · clear hbig
    go_wp2_with fail
    refine (live_any w).mono ?_
    rintro e w2 ⟨rfl, hb2⟩
    have HC := Lib.hid hb2
    clear hb2
    go_wp2
    go_ret
    exact ⟨rfl, HC.out⟩
end Go.Proofs.Ytbaolfncolfipaa.busPower
