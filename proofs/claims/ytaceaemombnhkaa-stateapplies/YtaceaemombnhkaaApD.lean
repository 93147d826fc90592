/- For any state and any record the law StateApplies returns true, and what came in reads behind the call as it read before. No condition. -/
import Derived.Test.YtaceaemombnhkaaApC
import Derived.Test.YtaceaemombnhkaaApB
import Derived.Test.YtaceaemombnhkaaSb
import Derived.Test.YtaceaemombnhkaaConf
import Derived.SizedLaws
import Derived.Deep.Slices
import Derived.ProofKit
import Derived.OpenShut
import Derived.ChangeOld
import Derived.ChangeArms
import Derived.Test.YtaceaemombnhkaaSk
import Derived.Test.YtaceaemombnhkaaSo
import Derived.Test.YtaceaemombnhkaaSp
import Derived.WalkKit
import Derived.ShutString
import Derived.Below
namespace Go.Proofs.Ytaceaemombnhkaa
set_option linter.unusedVariables false
set_option maxRecDepth 100000
set_option linter.unusedSimpArgs false
open Go.RowKit
open Go.RowKit (wrap64)

theorem res10 {tmps : Array Value} {w : World} {g : Nat} {cs : Array Value} {v : Value} (hp : tmps.getD 4 undef = .pointer (some ⟨g, 0, none⟩)) (hv : tmps.getD 5 undef = v) (hg : Box w g 27 cs) (hn : cs.size = 15) : (results Try.f10 tmps).run Try.prog w = .ok (.tuple #[.agg cs, v]) w := by
  have h1 := run_loadVar_row (P := Try.prog) w g 27 27 cs (0, 0) _ hg rfl rfl (by rw [hn]; exact Try.size27)
  have hp' : tmps[4]?.getD undef = .pointer (some ⟨g, 0, none⟩) := by simpa using hp
  have hv' : tmps[5]?.getD undef = v := by simpa using hv
  simp [results, Try.results10, hp', hv', asAddr, h1]
/-- The state and the record boxed, and the answer's block. -/
def AplIn (cs : Array Value) (n : Nat → Int) (X : Option Addr) (b : List UInt8) (x : Nat) (w w0 : World) : Prop :=
  Box w0 w.heap.size 27 cs ∧ Box w0 (w.heap.size + 1) 30 #[.int .i64 (n 0), .int .i64 (n 1), .int .i64 (n 2), .int .i64 (n 3), .int .i64 (n 4), .int .i64 (n 5), .int .i64 (n 6), .int .i64 (n 7), .int .i64 (n 8), .slice X b.length x] ∧ Box w0 (w.heap.size + 2) 27 #[.int .i64 0, .int .i64 0, .int .i64 0, .int .i64 0, .int .i64 0, .int .i64 0, .int .i64 0, .int .i64 0, .int .i64 0, .int .i64 0, .int .i64 0, .int .i64 0, .int .i64 0, .slice none 0 0, .slice none 0 0] ∧ Below w.heap.size w w0 ∧ w.heap.size + 3 ≤ w0.heap.size
theorem AplIn.later {cs : Array Value} {n : Nat → Int} {X : Option Addr} {b : List UInt8} {x : Nat} {w w0 w1 : World} (h : AplIn cs n X b x w w0) (hb : Below w0.heap.size w0 w1) : AplIn cs n X b x w w1 :=
  ⟨h.1.later hb, h.2.1.later hb, h.2.2.1.later hb, h.2.2.2.1.trans (hb.mono h.2.2.2.1.size), Nat.le_trans h.2.2.2.2 hb.size⟩
theorem AplIn.turn {cs : Array Value} {n : Nat → Int} {X : Option Addr} {b : List UInt8} {x g : Nat} {w w0 w1 : World} (h : AplIn cs n X b x w w0) (ht : Turn [g] w0 w1) (hg : w.heap.size + 3 ≤ g) : AplIn cs n X b x w w1 :=
  ⟨h.1.turn ht (by simp; omega), h.2.1.turn ht (by simp; omega), h.2.2.1.turn ht (by simp; omega), h.2.2.2.1.trans (ht.below (fun k hk => by have : k = g := by { simpa using hk }; omega) h.2.2.2.1.size), Nat.le_trans h.2.2.2.2 ht.size⟩
theorem AplIn.var {cs cs' : Array Value} {n : Nat → Int} {X : Option Addr} {b : List UInt8} {x : Nat} {w w0 w1 : World} (h : AplIn cs n X b x w w0) (hb : Box w1 w.heap.size 27 cs') (ht : Turn [w.heap.size] w0 w1) : AplIn cs' n X b x w w1 :=
  ⟨hb, h.2.1.turn ht (by simp), h.2.2.1.turn ht (by simp), h.2.2.2.1.trans (ht.below (by simp) h.2.2.2.1.size), Nat.le_trans h.2.2.2.2 ht.size⟩
set_option maxHeartbeats 4000000 in
theorem rapply_any (c : Cf) (ep sq : Int) (A : Option Addr) (st : List Int) (k : Nat) (D : Option Addr) (zs : List Zn) (d : Nat) (n : Nat → Int) (X : Option Addr) (b : List UInt8) (x : Nat) (w : World) (h : StAt w (LT w.heap.size) A st k D zs d) (hl1 : st.length ≤ 1000000) (hl2 : zs.length ≤ 1000000) (hnw : ∀ i, -9223372036854775808 ≤ n i ∧ n i ≤ 9223372036854775807) (hb : Rd w w.heap.size X b) (hbl : b.length ≤ 10000000) (hbx : b.length ≤ x) :
    Calls Try.prog 10 #[(.agg #[.int .i64 c.id, .int .i64 c.m, .int .i64 c.u, .int .i64 c.b, .int .i64 c.cp, .int .i64 c.z, .int .i64 c.s, .int .i64 c.mt, .int .i64 c.o, .int .i64 c.a, .int .i64 c.l, .int .i64 ep, .int .i64 sq, .slice A st.length k, .slice D zs.length d]), (.agg #[.int .i64 (n 0), .int .i64 (n 1), .int .i64 (n 2), .int .i64 (n 3), .int .i64 (n 4), .int .i64 (n 5), .int .i64 (n 6), .int .i64 (n 7), .int .i64 (n 8), .slice X b.length x])] w (GotA w ⟨c, ep, sq, st, zs⟩ n b) := by
  have HA := Lib.hid h
  have HLL : Hid (st.length ≤ 1000000 ∧ zs.length ≤ 1000000) := ⟨hl1, hl2⟩
  have HNW := Lib.hid hnw
  obtain ⟨cs, hcs⟩ : ∃ cs : Array Value, cs = #[.int .i64 c.id, .int .i64 c.m, .int .i64 c.u, .int .i64 c.b, .int .i64 c.cp, .int .i64 c.z, .int .i64 c.s, .int .i64 c.mt, .int .i64 c.o, .int .i64 c.a, .int .i64 c.l, .int .i64 ep, .int .i64 sq, .slice A st.length k, .slice D zs.length d] := ⟨_, rfl⟩
  have HCS := Lib.hid hcs
  have HCN : Hid (cs.size = 15 ∧ cs.all (·.oneCell') = true) := by rw [hcs]; exact ⟨rfl, by first | kernel_rfl | simp [Value.oneCell']⟩
  have HRR : Hid (∀ w', Below w.heap.size w w' → Calls Try.prog 16 #[.agg cs] w' (SaysP w' (RightS ⟨c, ep, sq, st, zs⟩))) := fun w' hb => by rw [hcs]; exact rright_any c ep sq A st k D zs d w' (h.later hb) hl1 hl2
  have HST : Hid (∀ w', Below w.heap.size w w' → Calls Try.prog 28 #[.agg cs, (.agg #[.int .i64 (n 0), .int .i64 (n 1), .int .i64 (n 2), .int .i64 (n 3), .int .i64 (n 4), .int .i64 (n 5), .int .i64 (n 6), .int .i64 (n 7), .int .i64 (n 8), .slice X b.length x])] w' (GotSs w' (LT w.heap.size) ⟨c, ep, sq, st.set (n 7).toNat (n 8), zs.map bareZ⟩ (TurnR st (n 7) ∧ (0 ≤ n 8 ∧ n 8 ≤ 2)))) := fun w' hb => by rw [hcs]; exact rstatus_any c ep sq A st k D zs d n X b x w' (LT w.heap.size) (LT.up hb.size) (h.keep (Kept.below hb)) hl1 hl2
  have HSP : Hid (∀ (hr : RightS ⟨c, ep, sq, st, zs⟩) w' (q : Nat) (hq : q < zs.length), n 3 = (q : Int) → Below w.heap.size w w' → Calls Try.prog 29 #[.agg cs, (.agg #[.int .i64 (n 0), .int .i64 (n 1), .int .i64 (n 2), .int .i64 (n 3), .int .i64 (n 4), .int .i64 (n 5), .int .i64 (n 6), .int .i64 (n 7), .int .i64 (n 8), .slice X b.length x])] w' (GotSp w' (LT w.heap.size) (nextZ (decide (2 ∈ st)) zs[q] n b) (FitsR c st zs zs[q] n b))) := fun hr w' q hq hn hb2 => by
    rw [hcs]
    have hz := hr.be zs[q] (List.getElem_mem hq)
    exact rstep_any c ep sq A st k D zs d n X b x q w' (LT w.heap.size) (LT.up hb2.size) (h.keep (Kept.below hb2)) hl1 hl2 hq hn hnw (RdS.of_rd (hb.below hb2)) hbl hbx (check_good0 hr.conf) ⟨hz.gen, hz.slot.1, hz.have_.2⟩ _ (by simp)
  have HWI : Hid (∀ w' (q : Nat) (z : Zn) Y y, q < zs.length → n 3 = (q : Int) → Below w.heap.size w w' → PrsAt w' (Ext (LT w.heap.size) (w.heap.size + 3) w') Y z.ps → z.ps.length ≤ y → z.ps.length ≤ 140737488351232 → Calls Try.prog 30 #[.agg cs, .int .i64 (n 3), (.agg #[.int .i64 z.gen, .int .i64 z.slot, .bool z.full, .int .i64 z.w, .bool z.whole, .slice Y z.ps.length y])] w' (GotVS w' (Ext (LT w.heap.size) (w.heap.size + 3) w') ⟨c, ep, sq, st, zs.set q z⟩)) := fun w' q z Y y hq hn hb2 h1 h2 h3 => by
    rw [hcs, hn]
    exact rwith_any c ep sq A st k D zs d q z Y y w' _ (Ext.lt (fun _ h => h) hb2.size) ((h.keep (Kept.below hb2)).mono (fun _ h => Or.inl h)) hl2 hq h1 h2 h3
  have HB15 : Hid (∀ w' g, Box w' g 27 cs → w'.cell? ⟨g, 11, none⟩ = some (.int .i64 ep) ∧ w'.cell? ⟨g, 12, none⟩ = some (.int .i64 sq) ∧ w'.cell? ⟨g, 13, none⟩ = some (.slice A st.length k) ∧ w'.cell? ⟨g, 14, none⟩ = some (.slice D zs.length d)) := fun w' g hb => by
    rw [hcs] at hb
    obtain ⟨y0, y1, y2, y3, y4, y5, y6, y7, y8, y9, y10, y11, y12, y13, y14⟩ := box15 hb
    exact ⟨y11, y12, y13, y14⟩
  rw [← hcs]
  clear h hl1 hl2 hnw hcs hb hbl hbx
  go_enter Try.func10, Try.ntmps10
  go_upto_region 1 with fail
  have HV : Hid (AplIn cs n X b x w (((w.alloc (.cells cs 27)).alloc (.cells #[.int .i64 (n 0), .int .i64 (n 1), .int .i64 (n 2), .int .i64 (n 3), .int .i64 (n 4), .int .i64 (n 5), .int .i64 (n 6), .int .i64 (n 7), .int .i64 (n 8), .slice X b.length x] 30)).alloc (.cells #[.int .i64 0, .int .i64 0, .int .i64 0, .int .i64 0, .int .i64 0, .int .i64 0, .int .i64 0, .int .i64 0, .int .i64 0, .int .i64 0, .int .i64 0, .int .i64 0, .int .i64 0, .slice none 0 0, .slice none 0 0] 27))) := by
    obtain ⟨h1, h2, h3, h4, h5⟩ := three_boxes w 27 30 27 cs #[.int .i64 (n 0), .int .i64 (n 1), .int .i64 (n 2), .int .i64 (n 3), .int .i64 (n 4), .int .i64 (n 5), .int .i64 (n 6), .int .i64 (n 7), .int .i64 (n 8), .slice X b.length x] #[.int .i64 0, .int .i64 0, .int .i64 0, .int .i64 0, .int .i64 0, .int .i64 0, .int .i64 0, .int .i64 0, .int .i64 0, .int .i64 0, .int .i64 0, .int .i64 0, .int .i64 0, .slice none 0 0, .slice none 0 0]
    exact ⟨h1, h2, h3, h4, Nat.le_of_eq h5.symm⟩
  generalize (((w.alloc (.cells cs 27)).alloc (.cells #[.int .i64 (n 0), .int .i64 (n 1), .int .i64 (n 2), .int .i64 (n 3), .int .i64 (n 4), .int .i64 (n 5), .int .i64 (n 6), .int .i64 (n 7), .int .i64 (n 8), .slice X b.length x] 30)).alloc (.cells #[.int .i64 0, .int .i64 0, .int .i64 0, .int .i64 0, .int .i64 0, .int .i64 0, .int .i64 0, .int .i64 0, .int .i64 0, .int .i64 0, .int .i64 0, .int .i64 0, .int .i64 0, .slice none 0 0, .slice none 0 0] 27)) = w0 at HV ⊢
  go_wp2_with (refine list_load27 rfl (.tmp 2) rfl w.heap.size cs HV.out.1 HCN.out.1 rfl ?_)
  refine (HRR.out w0 HV.out.2.2.2.1).mono ?_
  rintro e w1 ⟨br, rfl, hbr, hb⟩
  have HX := Lib.hid (HV.out.later hb)
  have HBR := Lib.hid hbr
  clear hb hbr HV
  cases br
  case false =>
    go_wp2_with (refine list_store27 rfl (.tmp 4) (.tmp 13) rfl (w.heap.size + 2) #[.int .i64 0, .int .i64 0, .int .i64 0, .int .i64 0, .int .i64 0, .int .i64 0, .int .i64 0, .int .i64 0, .int .i64 0, .int .i64 0, .int .i64 0, .int .i64 0, .int .i64 0, .slice none 0 0, .slice none 0 0] _ HX.out.2.2.1 rfl rfl (by first | kernel_rfl | simp [Value.oneCell']) rfl rfl (fun w5 q1 q2 => ?_))
    have hbel : Below w.heap.size w w5 := HX.out.2.2.2.1.trans ((q2 [w.heap.size + 2] (by simp)).below (by simp) HX.out.2.2.2.1.size)
    exact bodyPost_ret (v := .tuple #[.agg #[.int .i64 0, .int .i64 0, .int .i64 0, .int .i64 0, .int .i64 0, .int .i64 0, .int .i64 0, .int .i64 0, .int .i64 0, .int .i64 0, .int .i64 0, .int .i64 0, .int .i64 0, .slice none 0 0, .slice none 0 0], .int .i64 1]) (res10 rfl rfl q1 rfl) rfl (GotA.arg (fun h => by have := HBR.out.2 h; simp at this) hbel)
  have HR : Hid (RightS ⟨c, ep, sq, st, zs⟩) := HBR.out.1 rfl
  clear HBR
  obtain ⟨y11, y12, y13, y14⟩ := HB15.out w1 _ HX.out.1
  obtain ⟨r0, r1, r2, r3, r4, r5, r6, r7, r8, r9⟩ := box10 HX.out.2.1
  have hwp := wrap_pred (HNW.out 2) (show 0 ≤ sq ∧ sq ≤ 1099511627776 from HR.out.sq)
  by_cases k1 : n 1 = ep
  case neg =>
    have k1b : (n 1 != ep) = true := by simpa using k1
    have HNO : Hid (¬ FollowR c ep sq st zs n b) := fun h => k1 h.1
    clear k1 hwp
    go_wp2_with (refine list_store27 rfl (.tmp 4) (.tmp 37) rfl (w.heap.size + 2) #[.int .i64 0, .int .i64 0, .int .i64 0, .int .i64 0, .int .i64 0, .int .i64 0, .int .i64 0, .int .i64 0, .int .i64 0, .int .i64 0, .int .i64 0, .int .i64 0, .int .i64 0, .slice none 0 0, .slice none 0 0] _ HX.out.2.2.1 rfl rfl (by first | kernel_rfl | simp [Value.oneCell']) rfl rfl (fun w5 q1 q2 => ?_))
    have hbel : Below w.heap.size w w5 := HX.out.2.2.2.1.trans ((q2 [w.heap.size + 2] (by simp)).below (by simp) HX.out.2.2.2.1.size)
    exact bodyPost_ret (v := .tuple #[.agg #[.int .i64 0, .int .i64 0, .int .i64 0, .int .i64 0, .int .i64 0, .int .i64 0, .int .i64 0, .int .i64 0, .int .i64 0, .int .i64 0, .int .i64 0, .int .i64 0, .int .i64 0, .slice none 0 0, .slice none 0 0], .int .i64 13]) (res10 rfl rfl q1 rfl) rfl (GotA.form HR.out HNO.out hbel)
  have k1b : (n 1 != ep) = false := by simpa using k1
  have HK1 := Lib.hid k1
  clear k1
  by_cases k2 : n 2 = sq + 1
  case neg =>
    have k2b : (wrap64 (n 2 - 1) != sq) = true := by
      have : (wrap64 (n 2 - 1) == sq) = false := by rw [hwp]; simpa using k2
      simp only [bne, this, Bool.not_false]
    have HNO : Hid (¬ FollowR c ep sq st zs n b) := fun h => k2 h.2.1
    clear k2 hwp
    go_wp2_with (refine list_store27 rfl (.tmp 4) (.tmp 37) rfl (w.heap.size + 2) #[.int .i64 0, .int .i64 0, .int .i64 0, .int .i64 0, .int .i64 0, .int .i64 0, .int .i64 0, .int .i64 0, .int .i64 0, .int .i64 0, .int .i64 0, .int .i64 0, .int .i64 0, .slice none 0 0, .slice none 0 0] _ HX.out.2.2.1 rfl rfl (by first | kernel_rfl | simp [Value.oneCell']) rfl rfl (fun w5 q1 q2 => ?_))
    have hbel : Below w.heap.size w w5 := HX.out.2.2.2.1.trans ((q2 [w.heap.size + 2] (by simp)).below (by simp) HX.out.2.2.2.1.size)
    exact bodyPost_ret (v := .tuple #[.agg #[.int .i64 0, .int .i64 0, .int .i64 0, .int .i64 0, .int .i64 0, .int .i64 0, .int .i64 0, .int .i64 0, .int .i64 0, .int .i64 0, .int .i64 0, .int .i64 0, .int .i64 0, .slice none 0 0, .slice none 0 0], .int .i64 13]) (res10 rfl rfl q1 rfl) rfl (GotA.form HR.out HNO.out hbel)
  have k2b : (wrap64 (n 2 - 1) != sq) = false := by
    have : (wrap64 (n 2 - 1) == sq) = true := by rw [hwp]; simpa using k2
    simp only [bne, this, Bool.not_true]
  have HK2 := Lib.hid k2
  clear k2 hwp
  by_cases k3 : 1099511627776 < n 2
  · have HNO : Hid (¬ FollowR c ep sq st zs n b) := fun h => by have := h.2.2.1.2; omega
    go_wp2_with (refine list_store27 rfl (.tmp 4) (.tmp 37) rfl (w.heap.size + 2) #[.int .i64 0, .int .i64 0, .int .i64 0, .int .i64 0, .int .i64 0, .int .i64 0, .int .i64 0, .int .i64 0, .int .i64 0, .int .i64 0, .int .i64 0, .int .i64 0, .int .i64 0, .slice none 0 0, .slice none 0 0] _ HX.out.2.2.1 rfl rfl (by first | kernel_rfl | simp [Value.oneCell']) rfl rfl (fun w5 q1 q2 => ?_))
    have hbel : Below w.heap.size w w5 := HX.out.2.2.2.1.trans ((q2 [w.heap.size + 2] (by simp)).below (by simp) HX.out.2.2.2.1.size)
    exact bodyPost_ret (v := .tuple #[.agg #[.int .i64 0, .int .i64 0, .int .i64 0, .int .i64 0, .int .i64 0, .int .i64 0, .int .i64 0, .int .i64 0, .int .i64 0, .int .i64 0, .int .i64 0, .int .i64 0, .int .i64 0, .slice none 0 0, .slice none 0 0], .int .i64 13]) (res10 rfl rfl q1 rfl) rfl (GotA.form HR.out HNO.out hbel)
  by_cases k4 : n 2 < 1
  · have HNO : Hid (¬ FollowR c ep sq st zs n b) := fun h => by
      have h1 := h.2.1
      have h2 := HR.out.sq.1
      dsimp only at h2
      omega
    go_wp2_with (refine list_store27 rfl (.tmp 4) (.tmp 37) rfl (w.heap.size + 2) #[.int .i64 0, .int .i64 0, .int .i64 0, .int .i64 0, .int .i64 0, .int .i64 0, .int .i64 0, .int .i64 0, .int .i64 0, .int .i64 0, .int .i64 0, .int .i64 0, .int .i64 0, .slice none 0 0, .slice none 0 0] _ HX.out.2.2.1 rfl rfl (by first | kernel_rfl | simp [Value.oneCell']) rfl rfl (fun w5 q1 q2 => ?_))
    have hbel : Below w.heap.size w w5 := HX.out.2.2.2.1.trans ((q2 [w.heap.size + 2] (by simp)).below (by simp) HX.out.2.2.2.1.size)
    exact bodyPost_ret (v := .tuple #[.agg #[.int .i64 0, .int .i64 0, .int .i64 0, .int .i64 0, .int .i64 0, .int .i64 0, .int .i64 0, .int .i64 0, .int .i64 0, .int .i64 0, .int .i64 0, .int .i64 0, .int .i64 0, .slice none 0 0, .slice none 0 0], .int .i64 13]) (res10 rfl rfl q1 rfl) rfl (GotA.form HR.out HNO.out hbel)
  have HK : Hid (n 1 = ep ∧ n 2 = sq + 1 ∧ (0 ≤ n 2 ∧ n 2 ≤ 1099511627776)) := ⟨HK1.out, HK2.out, by omega, by omega⟩
  have k2c : (n 2 - 1 != sq) = false := by
    have h1 := HK2.out
    have h2 : n 2 - 1 = sq := by omega
    simp [h2]
  go_upto_region 5 with fail
  clear k1b k2b k2c k3 k4 HK1 HK2
  by_cases k6 : n 0 = 6
  · have k6b : (n 0 == 6) = true := by simpa using k6
    have HK6 := Lib.hid k6
    clear k6
    go_wp2_with (refine list_load27 rfl (.tmp 2) rfl w.heap.size cs HX.out.1 HCN.out.1 rfl ?_)
    refine (HST.out w1 HX.out.2.2.2.1).mono ?_
    rintro e w2 ⟨ok, s2, A2, k2, D2, d2, rfl, hok, hs2, hst, hb⟩
    have HX2 := Lib.hid (HX.out.later hb)
    have HOK := Lib.hid hok
    have HS2 := Lib.hid hs2
    have HST2 : Hid (StAt w2 (Ext (LT w.heap.size) (w.heap.size + 3) w2) A2 s2.st k2 D2 s2.zs d2) := hst.mono (Ext.low HX.out.2.2.2.2)
    have HBF := Lib.hid (Box.fresh w2 27 #[.int .i64 0, .int .i64 0, .int .i64 0, .int .i64 0, .int .i64 0, .int .i64 0, .int .i64 0, .int .i64 0, .int .i64 0, .int .i64 0, .int .i64 0, .int .i64 0, .int .i64 0, .slice none 0 0, .slice none 0 0])
    have HX3 := Lib.hid (HX2.out.later (below_one w2 (.cells #[.int .i64 0, .int .i64 0, .int .i64 0, .int .i64 0, .int .i64 0, .int .i64 0, .int .i64 0, .int .i64 0, .int .i64 0, .int .i64 0, .int .i64 0, .int .i64 0, .int .i64 0, .slice none 0 0, .slice none 0 0] 27)))
    clear hb hok hs2 hst HX k6b y11 y12 y13 y14 r0 r1 r2 r3 r4 r5 r6 r7 r8 r9
    go_upto_region 7 with (refine list_store27 rfl (.tmp 6) (.tmp 45) rfl (w2.heap.size) #[.int .i64 s2.c.id, .int .i64 s2.c.m, .int .i64 s2.c.u, .int .i64 s2.c.b, .int .i64 s2.c.cp, .int .i64 s2.c.z, .int .i64 s2.c.s, .int .i64 s2.c.mt, .int .i64 s2.c.o, .int .i64 s2.c.a, .int .i64 s2.c.l, .int .i64 s2.ep, .int .i64 s2.sq, .slice A2 s2.st.length k2, .slice D2 s2.zs.length d2] #[.int .i64 0, .int .i64 0, .int .i64 0, .int .i64 0, .int .i64 0, .int .i64 0, .int .i64 0, .int .i64 0, .int .i64 0, .int .i64 0, .int .i64 0, .int .i64 0, .int .i64 0, .slice none 0 0, .slice none 0 0] HBF.out rfl rfl (by first | kernel_rfl | simp [Value.oneCell']) rfl rfl (fun w3 q1 q2 => ?_))
    have HX4 : Hid (AplIn cs n X b x w w3) := HX3.out.turn (q2 [w2.heap.size] (by simp)) HX2.out.2.2.2.2
    have HT4 : Hid (Box w3 w2.heap.size 27 #[.int .i64 s2.c.id, .int .i64 s2.c.m, .int .i64 s2.c.u, .int .i64 s2.c.b, .int .i64 s2.c.cp, .int .i64 s2.c.z, .int .i64 s2.c.s, .int .i64 s2.c.mt, .int .i64 s2.c.o, .int .i64 s2.c.a, .int .i64 s2.c.l, .int .i64 s2.ep, .int .i64 s2.sq, .slice A2 s2.st.length k2, .slice D2 s2.zs.length d2] ∧ StAt w3 (Ext (LT w.heap.size) (w.heap.size + 3) w2) A2 s2.st k2 D2 s2.zs d2 ∧ w.heap.size + 3 ≤ w2.heap.size ∧ w2.heap.size ≤ w3.heap.size) := by
      have ht := (q2 [w2.heap.size] (by simp))
      have hb1 := below_one w2 (.cells #[.int .i64 0, .int .i64 0, .int .i64 0, .int .i64 0, .int .i64 0, .int .i64 0, .int .i64 0, .int .i64 0, .int .i64 0, .int .i64 0, .int .i64 0, .int .i64 0, .int .i64 0, .slice none 0 0, .slice none 0 0] 27)
      have hb2 : Below w2.heap.size w2 w3 := hb1.trans (ht.below (by simp) hb1.size)
      exact ⟨q1, HST2.out.keep (Kept.of_below hb2 (Ext.lt (B := w.heap.size) (fun _ h => h) (by have := HX2.out.2.2.2.2; omega))), HX2.out.2.2.2.2, hb2.size⟩
    have HSE : Hid (∀ g, Ext (LT w.heap.size) (w.heap.size + 3) w2 g → g < w2.heap.size ∧ g ≠ w.heap.size + 2) := fun g h => ⟨Ext.lt (B := w.heap.size) (fun _ h => h) (by have := HX2.out.2.2.2.2; omega) g h, fun e => by (rcases h with h | h; have : g < w.heap.size := h; omega; have := h.1; omega)⟩
    generalize Ext (LT w.heap.size) (w.heap.size + 3) w2 = S2 at HT4 HSE
    clear HX3 HBF q1 q2 HST2 HX2
    generalize w2.heap.size = g2 at HT4 HSE ⊢
    cases ok
    case false =>
      have HNO : Hid (¬ FollowR c ep sq st zs n b) := fun h => by
        rcases h.2.2.2 with h1 | h1
        · have := HOK.out.2 h1.2; simp at this
        · exact h1.1 HK6.out
      go_wp2_with (refine list_store27 rfl (.tmp 4) (.tmp 49) rfl (w.heap.size + 2) #[.int .i64 0, .int .i64 0, .int .i64 0, .int .i64 0, .int .i64 0, .int .i64 0, .int .i64 0, .int .i64 0, .int .i64 0, .int .i64 0, .int .i64 0, .int .i64 0, .int .i64 0, .slice none 0 0, .slice none 0 0] _ HX4.out.2.2.1 rfl rfl (by first | kernel_rfl | simp [Value.oneCell']) rfl rfl (fun w5 q1 q2 => ?_))
      have hbel : Below w.heap.size w w5 := HX4.out.2.2.2.1.trans ((q2 [w.heap.size + 2] (by simp)).below (by simp) HX4.out.2.2.2.1.size)
      exact bodyPost_ret (v := .tuple #[.agg #[.int .i64 0, .int .i64 0, .int .i64 0, .int .i64 0, .int .i64 0, .int .i64 0, .int .i64 0, .int .i64 0, .int .i64 0, .int .i64 0, .int .i64 0, .int .i64 0, .int .i64 0, .slice none 0 0, .slice none 0 0], .int .i64 13]) (res10 rfl rfl q1 rfl) rfl (GotA.form HR.out HNO.out hbel)
    obtain rfl := HS2.out rfl
    have HFO : Hid (FollowR c ep sq st zs n b) := ⟨HK.out.1, HK.out.2.1, HK.out.2.2, Or.inl ⟨HK6.out, HOK.out.1 rfl⟩⟩
    dsimp only at HT4
    obtain ⟨y0, y1, y2, y3, y4, y5, y6, y7, y8, y9, y10, y11, y12, y13, y14⟩ := box15 HT4.out.1
    obtain ⟨f0, f1, f2, f3, f4, f5, f6, f7, f8, f9, f10, f11, f12, f13, f14⟩ := froz15 HT4.out.1
    obtain ⟨r0, r1, r2, r3, r4, r5, r6, r7, r8, r9⟩ := box10 HX4.out.2.1
    go_upto_region 10 with fail
    have HX5 : Hid (AplIn cs n X b x w (w3.setCell ⟨g2, 12, none⟩ (.int .i64 (n 2))) ∧ Box (w3.setCell ⟨g2, 12, none⟩ (.int .i64 (n 2))) g2 27 #[.int .i64 c.id, .int .i64 c.m, .int .i64 c.u, .int .i64 c.b, .int .i64 c.cp, .int .i64 c.z, .int .i64 c.s, .int .i64 c.mt, .int .i64 c.o, .int .i64 c.a, .int .i64 c.l, .int .i64 ep, .int .i64 (n 2), .slice A2 (st.set (n 7).toNat (n 8)).length k2, .slice D2 (zs.map bareZ).length d2] ∧ StAt (w3.setCell ⟨g2, 12, none⟩ (.int .i64 (n 2))) S2 A2 (st.set (n 7).toNat (n 8)) k2 D2 (zs.map bareZ) d2) := by
      have ht : Turn [g2] w3 (w3.setCell ⟨g2, 12, none⟩ (.int .i64 (n 2))) := (Turn.refl _ _).put (Or.inl (by simp)) _
      exact ⟨HX4.out.turn ht HT4.out.2.2.1, by simpa using HT4.out.1.store 12 (.int .i64 (n 2)), HT4.out.2.1.keep (Kept.turn ht (fun g hg => ⟨Nat.lt_of_lt_of_le (HSE.out g hg).1 HT4.out.2.2.2, by simp; exact Nat.ne_of_lt (HSE.out g hg).1⟩))⟩
    have HG2 : Hid (g2 ≤ (w3.setCell ⟨g2, 12, none⟩ (.int .i64 (n 2))).heap.size ∧ w.heap.size + 3 ≤ g2) := ⟨by simpa using HT4.out.2.2.2, HT4.out.2.2.1⟩
    generalize w3.setCell ⟨g2, 12, none⟩ (.int .i64 (n 2)) = w4 at HX5 HG2 ⊢
    clear HT4 HX4 y0 y1 y2 y3 y4 y5 y6 y7 y8 y9 y10 y11 y12 y13 y14 f0 f1 f2 f3 f4 f5 f6 f7 f8 f9 f10 f11 f12 f13 f14 r0 r1 r2 r3 r4 r5 r6 r7 r8 r9
    go_wp2_with (first | (refine list_load27 rfl (.tmp 6) rfl g2 #[.int .i64 c.id, .int .i64 c.m, .int .i64 c.u, .int .i64 c.b, .int .i64 c.cp, .int .i64 c.z, .int .i64 c.s, .int .i64 c.mt, .int .i64 c.o, .int .i64 c.a, .int .i64 c.l, .int .i64 ep, .int .i64 (n 2), .slice A2 (st.set (n 7).toNat (n 8)).length k2, .slice D2 (zs.map bareZ).length d2] HX5.out.2.1 rfl rfl ?_) | (refine list_store27 rfl (.tmp 4) (.tmp 53) rfl (w.heap.size + 2) #[.int .i64 c.id, .int .i64 c.m, .int .i64 c.u, .int .i64 c.b, .int .i64 c.cp, .int .i64 c.z, .int .i64 c.s, .int .i64 c.mt, .int .i64 c.o, .int .i64 c.a, .int .i64 c.l, .int .i64 ep, .int .i64 (n 2), .slice A2 (st.set (n 7).toNat (n 8)).length k2, .slice D2 (zs.map bareZ).length d2] _ HX5.out.1.2.2.1 rfl rfl (by first | kernel_rfl | simp [Value.oneCell']) rfl rfl (fun w5 q1 q2 => ?_)))
    have ht := q2 [w.heap.size + 2] (by simp)
    have hbel : Below w.heap.size w w5 := HX5.out.1.2.2.2.1.trans (ht.below (by simp) HX5.out.1.2.2.2.1.size)
    have hst := (HX5.out.2.2.keep (Kept.turn ht (fun g hg => ⟨Nat.lt_of_lt_of_le (HSE.out g hg).1 HG2.out.1, by simpa using (HSE.out g hg).2⟩))).mono (S' := LT w5.heap.size) (fun g hg => Nat.lt_of_lt_of_le (HSE.out g hg).1 (Nat.le_trans HG2.out.1 ht.size))
    exact bodyPost_ret (v := .tuple #[(.agg #[.int .i64 c.id, .int .i64 c.m, .int .i64 c.u, .int .i64 c.b, .int .i64 c.cp, .int .i64 c.z, .int .i64 c.s, .int .i64 c.mt, .int .i64 c.o, .int .i64 c.a, .int .i64 c.l, .int .i64 ep, .int .i64 (n 2), .slice A2 (st.set (n 7).toNat (n 8)).length k2, .slice D2 (zs.map bareZ).length d2]), .int .i64 0]) (res10 rfl rfl q1 rfl) rfl (GotA.next HR.out HFO.out (nextS_status HK6.out).symm hst hbel)
  have k6b : (n 0 == 6) = false := by simpa using k6
  have HK6 := Lib.hid k6
  clear k6
  by_cases k7 : n 3 < 0
  · have HNO : Hid (¬ FollowR c ep sq st zs n b) := fun h => by
      rcases h.2.2.2 with h1 | h1
      · exact HK6.out h1.1
      · obtain ⟨q, hq, hn⟩ := zoneFits_in h1.2
        omega
    go_wp2_with (refine list_store27 rfl (.tmp 4) (.tmp 65) rfl (w.heap.size + 2) #[.int .i64 0, .int .i64 0, .int .i64 0, .int .i64 0, .int .i64 0, .int .i64 0, .int .i64 0, .int .i64 0, .int .i64 0, .int .i64 0, .int .i64 0, .int .i64 0, .int .i64 0, .slice none 0 0, .slice none 0 0] _ HX.out.2.2.1 rfl rfl (by first | kernel_rfl | simp [Value.oneCell']) rfl rfl (fun w5 q1 q2 => ?_))
    have hbel : Below w.heap.size w w5 := HX.out.2.2.2.1.trans ((q2 [w.heap.size + 2] (by simp)).below (by simp) HX.out.2.2.2.1.size)
    exact bodyPost_ret (v := .tuple #[.agg #[.int .i64 0, .int .i64 0, .int .i64 0, .int .i64 0, .int .i64 0, .int .i64 0, .int .i64 0, .int .i64 0, .int .i64 0, .int .i64 0, .int .i64 0, .int .i64 0, .int .i64 0, .slice none 0 0, .slice none 0 0], .int .i64 13]) (res10 rfl rfl q1 rfl) rfl (GotA.form HR.out HNO.out hbel)
  by_cases k8 : (zs.length : Int) ≤ n 3
  · have HNO : Hid (¬ FollowR c ep sq st zs n b) := fun h => by
      rcases h.2.2.2 with h1 | h1
      · exact HK6.out h1.1
      · obtain ⟨q, hq, hn⟩ := zoneFits_in h1.2
        omega
    go_wp2_with (refine list_store27 rfl (.tmp 4) (.tmp 65) rfl (w.heap.size + 2) #[.int .i64 0, .int .i64 0, .int .i64 0, .int .i64 0, .int .i64 0, .int .i64 0, .int .i64 0, .int .i64 0, .int .i64 0, .int .i64 0, .int .i64 0, .int .i64 0, .int .i64 0, .slice none 0 0, .slice none 0 0] _ HX.out.2.2.1 rfl rfl (by first | kernel_rfl | simp [Value.oneCell']) rfl rfl (fun w5 q1 q2 => ?_))
    have hbel : Below w.heap.size w w5 := HX.out.2.2.2.1.trans ((q2 [w.heap.size + 2] (by simp)).below (by simp) HX.out.2.2.2.1.size)
    exact bodyPost_ret (v := .tuple #[.agg #[.int .i64 0, .int .i64 0, .int .i64 0, .int .i64 0, .int .i64 0, .int .i64 0, .int .i64 0, .int .i64 0, .int .i64 0, .int .i64 0, .int .i64 0, .int .i64 0, .int .i64 0, .slice none 0 0, .slice none 0 0], .int .i64 13]) (res10 rfl rfl q1 rfl) rfl (GotA.form HR.out HNO.out hbel)
  obtain ⟨q, hq⟩ : ∃ q : Nat, n 3 = (q : Int) := ⟨(n 3).toNat, by omega⟩
  have HQ : Hid (n 3 = (q : Int) ∧ q < zs.length) := ⟨hq, by omega⟩
  clear hq
  go_wp2_with (refine list_load27 rfl (.tmp 2) rfl w.heap.size cs HX.out.1 HCN.out.1 rfl ?_)
  refine (HSP.out HR.out w1 q HQ.out.2 HQ.out.1 HX.out.2.2.2.1).mono ?_
  rintro e w2 ⟨ok, z2, Y2, y2, rfl, hok, hz2, hp2, hy2, hly, hb⟩
  obtain ⟨zg, zsl, zf, zv, zh, zps⟩ := z2
  dsimp only at hp2 hy2 hly ⊢
  have HX2 := Lib.hid (HX.out.later hb)
  have HOK := Lib.hid hok
  have HZ2 := Lib.hid hz2
  have HP2 : Hid (PrsAt w2 (Ext (LT w.heap.size) (w.heap.size + 3) w2) Y2 zps) := hp2.mono (Ext.low HX.out.2.2.2.2)
  have HLY : Hid (zps.length ≤ y2 ∧ zps.length ≤ 140737488351232) := ⟨hy2, hly⟩
  clear hok hz2 hp2 hy2 hly hb HX k7 k8 y11 y12 y13 y14 r0 r1 r2 r3 r4 r5 r6 r7 r8 r9
  go_upto_region 14 with fail
  have hbo := below_one w2 (.cells #[.int .i64 zg, .int .i64 zsl, .bool zf, .int .i64 zv, .bool zh, .slice Y2 zps.length y2] 51)
  have HX3 : Hid (AplIn cs n X b x w (w2.alloc (.cells #[.int .i64 zg, .int .i64 zsl, .bool zf, .int .i64 zv, .bool zh, .slice Y2 zps.length y2] 51))) := HX2.out.later hbo
  have HG8 : Hid (Box (w2.alloc (.cells #[.int .i64 zg, .int .i64 zsl, .bool zf, .int .i64 zv, .bool zh, .slice Y2 zps.length y2] 51)) w2.heap.size 51 #[.int .i64 zg, .int .i64 zsl, .bool zf, .int .i64 zv, .bool zh, .slice Y2 zps.length y2] ∧ w.heap.size + 3 ≤ w2.heap.size) := ⟨Box.fresh w2 51 _, HX2.out.2.2.2.2⟩
  have HP3 : Hid (PrsAt (w2.alloc (.cells #[.int .i64 zg, .int .i64 zsl, .bool zf, .int .i64 zv, .bool zh, .slice Y2 zps.length y2] 51)) (Ext (LT w.heap.size) (w.heap.size + 3) (w2.alloc (.cells #[.int .i64 zg, .int .i64 zsl, .bool zf, .int .i64 zv, .bool zh, .slice Y2 zps.length y2] 51))) Y2 zps) := HP2.out.extB (B := w.heap.size) (fun _ h => h) (by have := HX2.out.2.2.2.2; omega) hbo
  clear hbo HX2 HP2
  generalize w2.alloc (.cells #[.int .i64 zg, .int .i64 zsl, .bool zf, .int .i64 zv, .bool zh, .slice Y2 zps.length y2] 51) = w3 at HX3 HG8 HP3 ⊢
  generalize w2.heap.size = g8 at HG8 ⊢
  cases ok
  case false =>
    have HNO : Hid (¬ FollowR c ep sq st zs n b) := fun h => by
      rcases h.2.2.2 with h1 | h1
      · exact HK6.out h1.1
      · have := HOK.out.2 ((zoneFits_at HQ.out.2 HQ.out.1).1 h1.2)
        simp at this
    go_wp2_with (refine list_store27 rfl (.tmp 4) (.tmp 74) rfl (w.heap.size + 2) #[.int .i64 0, .int .i64 0, .int .i64 0, .int .i64 0, .int .i64 0, .int .i64 0, .int .i64 0, .int .i64 0, .int .i64 0, .int .i64 0, .int .i64 0, .int .i64 0, .int .i64 0, .slice none 0 0, .slice none 0 0] _ HX3.out.2.2.1 rfl rfl (by first | kernel_rfl | simp [Value.oneCell']) rfl rfl (fun w5 q1 q2 => ?_))
    have hbel : Below w.heap.size w w5 := HX3.out.2.2.2.1.trans ((q2 [w.heap.size + 2] (by simp)).below (by simp) HX3.out.2.2.2.1.size)
    exact bodyPost_ret (v := .tuple #[.agg #[.int .i64 0, .int .i64 0, .int .i64 0, .int .i64 0, .int .i64 0, .int .i64 0, .int .i64 0, .int .i64 0, .int .i64 0, .int .i64 0, .int .i64 0, .int .i64 0, .int .i64 0, .slice none 0 0, .slice none 0 0], .int .i64 13]) (res10 rfl rfl q1 rfl) rfl (GotA.form HR.out HNO.out hbel)
  have HFO : Hid (FollowR c ep sq st zs n b) := ⟨HK.out.1, HK.out.2.1, HK.out.2.2, Or.inr ⟨HK6.out, (zoneFits_at HQ.out.2 HQ.out.1).2 (HOK.out.1 rfl)⟩⟩
  have HZE := Lib.hid (HZ2.out rfl)
  clear HOK HZ2
  obtain ⟨z0, z1, z2, z3, z4, z5⟩ := box6 HG8.out.1
  obtain ⟨r0, r1, r2, r3, r4, r5, r6, r7, r8, r9⟩ := box10 HX3.out.2.1
  go_wp2_with (refine list_load27 rfl (.tmp 2) rfl w.heap.size cs HX3.out.1 HCN.out.1 rfl ?_)
  refine (HWI.out w3 q ⟨zg, zsl, zf, zv, zh, zps⟩ Y2 y2 HQ.out.2 HQ.out.1 HX3.out.2.2.2.1 HP3.out HLY.out.1 HLY.out.2).mono ?_
  rintro e w4 ⟨A4, k4, D4, d4, rfl, hst4, hb4⟩
  dsimp only at hst4 ⊢
  have HX4 := Lib.hid (HX3.out.later hb4)
  have HST4 : Hid (StAt w4 (Ext (LT w.heap.size) (w.heap.size + 3) w4) A4 st k4 D4 (zs.set q ⟨zg, zsl, zf, zv, zh, zps⟩) d4) := hst4.mono (Ext.ext HX3.out.2.2.2.2 hb4.size)
  clear hst4 hb4 HX3 HG8 HP3 z0 z1 z2 z3 z4 z5 r0 r1 r2 r3 r4 r5 r6 r7 r8 r9
  go_upto_region 17 with (refine list_store27 rfl (.tmp 2) (.tmp 79) rfl (w.heap.size) #[.int .i64 c.id, .int .i64 c.m, .int .i64 c.u, .int .i64 c.b, .int .i64 c.cp, .int .i64 c.z, .int .i64 c.s, .int .i64 c.mt, .int .i64 c.o, .int .i64 c.a, .int .i64 c.l, .int .i64 ep, .int .i64 sq, .slice A4 st.length k4, .slice D4 (zs.set q ⟨zg, zsl, zf, zv, zh, zps⟩).length d4] cs HX4.out.1 HCN.out.1 rfl (by first | kernel_rfl | simp [Value.oneCell']) rfl rfl (fun w5 q1 q2 => ?_))
  have HX5 : Hid (AplIn #[.int .i64 c.id, .int .i64 c.m, .int .i64 c.u, .int .i64 c.b, .int .i64 c.cp, .int .i64 c.z, .int .i64 c.s, .int .i64 c.mt, .int .i64 c.o, .int .i64 c.a, .int .i64 c.l, .int .i64 ep, .int .i64 sq, .slice A4 st.length k4, .slice D4 (zs.set q ⟨zg, zsl, zf, zv, zh, zps⟩).length d4] n X b x w w5) := HX4.out.var q1 (q2 [w.heap.size] (by simp))
  have HST5 : Hid (StAt w5 (Ext (LT w.heap.size) (w.heap.size + 3) w5) A4 st k4 D4 (zs.set q ⟨zg, zsl, zf, zv, zh, zps⟩) d4) := HST4.out.ext (B := w.heap.size) (fun _ h => h) HX4.out.2.2.2.1.size (q2 [w.heap.size] (by simp)) (by simp)
  clear q1 q2 HX4 HST4
  obtain ⟨y0, y1, y2, y3, y4, y5, y6, y7, y8, y9, y10, y11, y12, y13, y14⟩ := box15 HX5.out.1
  obtain ⟨f0, f1, f2, f3, f4, f5, f6, f7, f8, f9, f10, f11, f12, f13, f14⟩ := froz15 HX5.out.1
  obtain ⟨r0, r1, r2, r3, r4, r5, r6, r7, r8, r9⟩ := box10 HX5.out.2.1
  go_upto_region 18 with fail
  have ht6 : Turn [w.heap.size] w5 (w5.setCell ⟨w.heap.size, 12, none⟩ (.int .i64 (n 2))) := (Turn.refl _ _).put (Or.inl (by simp)) _
  have HX6 : Hid (AplIn #[.int .i64 c.id, .int .i64 c.m, .int .i64 c.u, .int .i64 c.b, .int .i64 c.cp, .int .i64 c.z, .int .i64 c.s, .int .i64 c.mt, .int .i64 c.o, .int .i64 c.a, .int .i64 c.l, .int .i64 ep, .int .i64 (n 2), .slice A4 st.length k4, .slice D4 (zs.set q ⟨zg, zsl, zf, zv, zh, zps⟩).length d4] n X b x w (w5.setCell ⟨w.heap.size, 12, none⟩ (.int .i64 (n 2)))) := HX5.out.var (by simpa using HX5.out.1.store 12 (.int .i64 (n 2))) ht6
  have HST6 : Hid (StAt (w5.setCell ⟨w.heap.size, 12, none⟩ (.int .i64 (n 2))) (Ext (LT w.heap.size) (w.heap.size + 3) (w5.setCell ⟨w.heap.size, 12, none⟩ (.int .i64 (n 2)))) A4 st k4 D4 (zs.set q ⟨zg, zsl, zf, zv, zh, zps⟩) d4) := HST5.out.ext (B := w.heap.size) (fun _ h => h) HX5.out.2.2.2.1.size ht6 (by simp)
  clear ht6 HX5 HST5 y0 y1 y2 y3 y4 y5 y6 y7 y8 y9 y10 y11 y12 y13 y14 f0 f1 f2 f3 f4 f5 f6 f7 f8 f9 f10 f11 f12 f13 f14 r0 r1 r2 r3 r4 r5 r6 r7 r8 r9
  generalize w5.setCell ⟨w.heap.size, 12, none⟩ (.int .i64 (n 2)) = w6 at HX6 HST6 ⊢
  go_wp2_with (first | (refine list_load27 rfl (.tmp 2) rfl w.heap.size #[.int .i64 c.id, .int .i64 c.m, .int .i64 c.u, .int .i64 c.b, .int .i64 c.cp, .int .i64 c.z, .int .i64 c.s, .int .i64 c.mt, .int .i64 c.o, .int .i64 c.a, .int .i64 c.l, .int .i64 ep, .int .i64 (n 2), .slice A4 st.length k4, .slice D4 (zs.set q ⟨zg, zsl, zf, zv, zh, zps⟩).length d4] HX6.out.1 rfl rfl ?_) | (refine list_store27 rfl (.tmp 4) (.tmp 83) rfl (w.heap.size + 2) #[.int .i64 c.id, .int .i64 c.m, .int .i64 c.u, .int .i64 c.b, .int .i64 c.cp, .int .i64 c.z, .int .i64 c.s, .int .i64 c.mt, .int .i64 c.o, .int .i64 c.a, .int .i64 c.l, .int .i64 ep, .int .i64 (n 2), .slice A4 st.length k4, .slice D4 (zs.set q ⟨zg, zsl, zf, zv, zh, zps⟩).length d4] _ HX6.out.2.2.1 rfl rfl (by first | kernel_rfl | simp [Value.oneCell']) rfl rfl (fun w7 q1 q2 => ?_)))
  have ht := q2 [w.heap.size + 2] (by simp)
  have hbel : Below w.heap.size w w7 := HX6.out.2.2.2.1.trans (ht.below (by simp) HX6.out.2.2.2.1.size)
  have hst := (HST6.out.ext (B := w.heap.size) (fun _ h => h) HX6.out.2.2.2.1.size ht (by simp)).mono (Ext.lt (B := w.heap.size) (fun _ h => h) hbel.size)
  exact bodyPost_ret (v := .tuple #[.agg #[.int .i64 c.id, .int .i64 c.m, .int .i64 c.u, .int .i64 c.b, .int .i64 c.cp, .int .i64 c.z, .int .i64 c.s, .int .i64 c.mt, .int .i64 c.o, .int .i64 c.a, .int .i64 c.l, .int .i64 ep, .int .i64 (n 2), .slice A4 st.length k4, .slice D4 (zs.set q ⟨zg, zsl, zf, zv, zh, zps⟩).length d4], .int .i64 0]) (res10 rfl rfl q1 rfl) rfl (GotA.next HR.out HFO.out (by rw [nextS_zone HK6.out HQ.out.2 HQ.out.1, ← HZE.out]) hst hbel)
end Go.Proofs.Ytaceaemombnhkaa
namespace Go.Proofs.Ytaceaemombnhkaa
set_option linter.unusedVariables false
set_option maxRecDepth 100000
set_option linter.unusedSimpArgs false
open Go.RowKit
open Go.RowKit (wrap64)

theorem res9 {tmps : Array Value} {w : World} {g : Nat} {cs : Array Value} {v : Value} (hp : tmps.getD 4 undef = .pointer (some ⟨g, 0, none⟩)) (hv : tmps.getD 5 undef = v) (hg : Box w g 27 cs) (hn : cs.size = 15) : (results Try.f9 tmps).run Try.prog w = .ok (.tuple #[.agg cs, v]) w := by
  have h1 := run_loadVar_row (P := Try.prog) w g 27 27 cs (0, 0) _ hg rfl rfl (by rw [hn]; exact Try.size27)
  have hp' : tmps[4]?.getD undef = .pointer (some ⟨g, 0, none⟩) := by simpa using hp
  have hv' : tmps[5]?.getD undef = v := by simpa using hv
  simp [results, Try.results9, hp', hv', asAddr, h1]
theorem Turn.mono {gs gs' : List Nat} {w w' : World} (h : Turn gs w w') (hs : ∀ k ∈ gs, k ∈ gs') : Turn gs' w w' := ⟨h.os, h.tape, h.output, h.size, fun k hk hn => h.block k hk (fun hm => hn (hs k hm))⟩
theorem own_box {w : World} {base e size n g c : Nat} {xs : List Value} (h : w.ownsRow base e size (.slice (some ⟨g, 0, none⟩) n c) n xs) : ∃ cur, Box w g e cur := by
  rcases h.2 with ⟨h0, _⟩ | ⟨g', cap, cur, hv, _, hh, _⟩
  · simp at h0
  · simp only [Value.slice.injEq, Option.some.injEq, Addr.mk.injEq, and_true, true_and] at hv
    obtain ⟨rfl, _⟩ := hv
    exact ⟨cur, hh⟩
/-- Behind Clone: the state's, the record's and the answer's blocks, and the rows of the call's own. -/
structure ApB (c : Cf) (ep sq : Int) (st : List Int) (zs : List Zn) (n : Nat → Int) (X : Option Addr) (b : List UInt8) (x : Nat) (A : Option Addr) (k : Nat) (D : Option Addr) (d : Nat) (zx : List Value) (bs : List Nat) (lo : Nat) (w wr : World) : Prop where
  var : Box wr w.heap.size 27 #[.int .i64 c.id, .int .i64 c.m, .int .i64 c.u, .int .i64 c.b, .int .i64 c.cp, .int .i64 c.z, .int .i64 c.s, .int .i64 c.mt, .int .i64 c.o, .int .i64 c.a, .int .i64 c.l, .int .i64 ep, .int .i64 sq, .slice A st.length k, .slice D zs.length d]
  rcd : Box wr (w.heap.size + 1) 30 #[.int .i64 (n 0), .int .i64 (n 1), .int .i64 (n 2), .int .i64 (n 3), .int .i64 (n 4), .int .i64 (n 5), .int .i64 (n 6), .int .i64 (n 7), .int .i64 (n 8), .slice X b.length x]
  ret : Box wr (w.heap.size + 2) 27 #[.int .i64 0, .int .i64 0, .int .i64 0, .int .i64 0, .int .i64 0, .int .i64 0, .int .i64 0, .int .i64 0, .int .i64 0, .int .i64 0, .int .i64 0, .int .i64 0, .int .i64 0, .slice none 0 0, .slice none 0 0]
  ints : wr.ownsRow lo 3 1 (.slice A st.length k) st.length (st.map (Value.int .i64))
  zons : wr.ownsRow lo 51 6 (.slice D zs.length d) zs.length zx
  new : ZOwn wr lo zs zx bs
  nod : bs.Nodup
  below : Below w.heap.size w wr
  lo_ : w.heap.size + 3 ≤ lo ∧ lo ≤ wr.heap.size
/-- The same, the zones being read. -/
structure ApC (c : Cf) (ep sq : Int) (st : List Int) (zs : List Zn) (A : Option Addr) (k : Nat) (D : Option Addr) (d : Nat) (zx : List Value) (lo : Nat) (w wr : World) : Prop where
  var : Box wr w.heap.size 27 #[.int .i64 c.id, .int .i64 c.m, .int .i64 c.u, .int .i64 c.b, .int .i64 c.cp, .int .i64 c.z, .int .i64 c.s, .int .i64 c.mt, .int .i64 c.o, .int .i64 c.a, .int .i64 c.l, .int .i64 ep, .int .i64 sq, .slice A st.length k, .slice D zs.length d]
  ret : Box wr (w.heap.size + 2) 27 #[.int .i64 0, .int .i64 0, .int .i64 0, .int .i64 0, .int .i64 0, .int .i64 0, .int .i64 0, .int .i64 0, .int .i64 0, .int .i64 0, .int .i64 0, .int .i64 0, .int .i64 0, .slice none 0 0, .slice none 0 0]
  ints : wr.ownsRow lo 3 1 (.slice A st.length k) st.length (st.map (Value.int .i64))
  zons : wr.ownsRow lo 51 6 (.slice D zs.length d) zs.length zx
  row : ZsRow wr (TB lo wr) zs zx
  below : Below w.heap.size w wr
  lo_ : w.heap.size + 3 ≤ lo ∧ lo ≤ wr.heap.size
section
variable {c : Cf} {ep sq : Int} {st : List Int} {zs : List Zn} {n : Nat → Int} {X : Option Addr} {b : List UInt8} {x : Nat} {A : Option Addr} {k : Nat} {D : Option Addr} {d : Nat} {zx : List Value} {bs : List Nat} {lo : Nat} {w wr w1 : World}
theorem ApB.drew (h : ApB c ep sq st zs n X b x A k D d zx bs lo w wr) : ApB c ep sq st zs n X b x A k D d zx bs lo w wr.drew :=
  ⟨h.var, h.rcd, h.ret, h.ints, h.zons, ZOwn.keepT (w := wr) (w' := wr.drew) (fun k hk => rfl) h.new, h.nod, h.below.drew, h.lo_⟩
theorem ApB.seq {v : Int} (h : ApB c ep sq st zs n X b x A k D d zx bs lo w wr) (hb : Box w1 w.heap.size 27 #[.int .i64 c.id, .int .i64 c.m, .int .i64 c.u, .int .i64 c.b, .int .i64 c.cp, .int .i64 c.z, .int .i64 c.s, .int .i64 c.mt, .int .i64 c.o, .int .i64 c.a, .int .i64 c.l, .int .i64 ep, .int .i64 v, .slice A st.length k, .slice D zs.length d]) (ht : Turn [w.heap.size] wr w1) : ApB c ep v st zs n X b x A k D d zx bs lo w w1 :=
  ⟨hb, h.rcd.turn ht (by simp), h.ret.turn ht (by simp), own_turn h.ints h.var (by decide) ht, own_turn h.zons h.var (by decide) ht, h.new.keepT (fun k hk => ht.block k hk.lt (by simpa using hk.box h.var (by decide) (by decide))), h.nod, h.below.trans (ht.below (by simp) h.below.size), h.lo_.1, Nat.le_trans h.lo_.2 ht.size⟩
theorem ApB.setI {g m : Nat} {v : Int} (h : ApB c ep sq st zs n X b x (some ⟨g, 0, none⟩) k D d zx bs lo w wr) (hm : m < st.length) : ApB c ep sq (st.set m v) zs n X b x (some ⟨g, 0, none⟩) k D d zx bs lo w (wr.setCell ⟨g, m, none⟩ (.int .i64 v)) := by
  obtain ⟨cur, hcur⟩ := own_box h.ints
  have ht : Turn [g] wr (wr.setCell ⟨g, m, none⟩ (.int .i64 v)) := (Turn.refl _ _).put (Or.inl (by simp)) _
  have hg := World.ownsRow.lt h.ints g rfl
  have hlo := h.lo_
  have ho := own_store (i := m) (.int .i64 v) h.ints (by omega)
  rw [← List.map_set] at ho
  refine ⟨?_, h.rcd.turn ht (by simp; omega), h.ret.turn ht (by simp; omega), ?_, own_set h.zons hcur (by decide), h.new.keepT (fun k hk => ht.block k hk.lt (by simpa using hk.box hcur (by decide) (by decide))), h.nod, h.below.trans (ht.below (fun k hk => by have : k = g := by { simpa using hk }; omega) h.below.size), hlo.1, Nat.le_trans hlo.2 ht.size⟩
  · rw [List.length_set]
    exact h.var.turn ht (by simp; omega)
  · rw [List.length_set]
    exact ho
theorem ApB.setZ {g q : Nat} (h : ApB c ep sq st zs n X b x A k (some ⟨g, 0, none⟩) d zx bs lo w wr) (hq : q < zs.length) : ApB c ep sq st (zs.set q (bareZ zs[q])) n X b x A k (some ⟨g, 0, none⟩) d (zx.set (q * 6 + 4) (.bool false)) bs lo w (wr.setCell ⟨g, q * 6 + 4, none⟩ (.bool false)) := by
  obtain ⟨cur, hcur⟩ := own_box h.zons
  have ht : Turn [g] wr (wr.setCell ⟨g, q * 6 + 4, none⟩ (.bool false)) := (Turn.refl _ _).put (Or.inl (by simp)) _
  have hg := World.ownsRow.lt h.zons g rfl
  have hlo := h.lo_
  have ho := own_store (i := q * 6 + 4) (.bool false) h.zons (by omega)
  refine ⟨?_, h.rcd.turn ht (by simp; omega), h.ret.turn ht (by simp; omega), own_set h.ints hcur (by decide), ?_, (h.new.keepT (fun k hk => ht.block k hk.lt (by simpa using hk.box hcur (by decide) (by decide)))).bare hq, h.nod, h.below.trans (ht.below (fun k hk => by have : k = g := by { simpa using hk }; omega) h.below.size), hlo.1, Nat.le_trans hlo.2 ht.size⟩
  · rw [List.length_set]
    exact h.var.turn ht (by simp; omega)
  · rw [List.length_set]
    exact ho
theorem ApB.toC (h : ApB c ep sq st zs n X b x A k D d zx bs lo w wr) (hl : ∀ z ∈ zs, z.ps.length ≤ 140737488351232) : ApC c ep sq st zs A k D d zx lo w wr :=
  ⟨h.var, h.ret, h.ints, h.zons, h.new.row hl, h.below, h.lo_⟩
/-- What is answered, when it is stored. -/
theorem ApC.fin (h : ApC c ep sq st zs A k D d zx lo w wr) (ht : Turn [w.heap.size + 2] wr w1) : StAt w1 (Ext (fun _ => False) w.heap.size w1) A st k D zs d ∧ Below w.heap.size w w1 := by
  have hlo := h.lo_.1
  have hb : Below w.heap.size w w1 := h.below.trans (ht.below (by simp) h.below.size)
  obtain ⟨h1, h2⟩ := ints_own (S := fun _ => False) (own_turn h.ints h.ret (by decide) ht)
  have hk : ∀ k, TB lo wr k → w1.heap[k]? = wr.heap[k]? := fun k hk => ht.block k hk.lt (by simpa using hk.box h.ret (by decide) (by decide))
  obtain ⟨h3, h4⟩ := (h.row.tb hk).rowOf (S' := Ext (fun _ => False) w.heap.size w1) rfl (own_turn h.zons h.ret (by decide) ht) (fun _ h => Or.inr ⟨by have := h.1; omega, h.lt⟩) (fun _ h1 h2 => Or.inr ⟨by omega, h2⟩)
  exact ⟨⟨h1.mono (Ext.low (by omega)), h3, h2, h4⟩, hb⟩
end
/-- What Apply answers, its rows in new blocks. -/
def GotAN (w : World) (s : St) (n : Nat → Int) (b : List UInt8) (e : Ending) (w' : World) : Prop :=
  ∃ (t : St) (er : Int) (A : Option Addr) (k : Nat) (D : Option Addr) (d : Nat), e = .returned (.tuple #[(.agg #[.int .i64 t.c.id, .int .i64 t.c.m, .int .i64 t.c.u, .int .i64 t.c.b, .int .i64 t.c.cp, .int .i64 t.c.z, .int .i64 t.c.s, .int .i64 t.c.mt, .int .i64 t.c.o, .int .i64 t.c.a, .int .i64 t.c.l, .int .i64 t.ep, .int .i64 t.sq, .slice A t.st.length k, .slice D t.zs.length d]), .int .i64 er]) ∧ Applied s n b t er ∧ StAt w' (Ext (fun _ => False) w.heap.size w') A t.st k D t.zs d ∧ Below w.heap.size w w'
theorem GotAN.arg {w w' : World} {s : St} {n : Nat → Int} {b : List UInt8} (h : ¬ RightS s) (hb : Below w.heap.size w w') : GotAN w s n b (.returned (.tuple #[.agg #[.int .i64 0, .int .i64 0, .int .i64 0, .int .i64 0, .int .i64 0, .int .i64 0, .int .i64 0, .int .i64 0, .int .i64 0, .int .i64 0, .int .i64 0, .int .i64 0, .int .i64 0, .slice none 0 0, .slice none 0 0], .int .i64 1])) w' :=
  ⟨zeroS, 1, none, 0, none, 0, rfl, Or.inl ⟨h, rfl, rfl⟩, StAt.zero, hb⟩
theorem GotAN.form {w w' : World} {s : St} {n : Nat → Int} {b : List UInt8} (h : RightS s) (h2 : ¬ FollowR s.c s.ep s.sq s.st s.zs n b) (hb : Below w.heap.size w w') : GotAN w s n b (.returned (.tuple #[.agg #[.int .i64 0, .int .i64 0, .int .i64 0, .int .i64 0, .int .i64 0, .int .i64 0, .int .i64 0, .int .i64 0, .int .i64 0, .int .i64 0, .int .i64 0, .int .i64 0, .int .i64 0, .slice none 0 0, .slice none 0 0], .int .i64 13])) w' :=
  ⟨zeroS, 13, none, 0, none, 0, rfl, Or.inr (Or.inl ⟨h, h2, rfl, rfl⟩), StAt.zero, hb⟩
theorem GotAN.next {w w' : World} {s : St} {n : Nat → Int} {b : List UInt8} {A D : Option Addr} {k d : Nat} {t : St} (h : RightS s) (h2 : FollowR s.c s.ep s.sq s.st s.zs n b) (ht : t = nextS s n b) (hs : StAt w' (Ext (fun _ => False) w.heap.size w') A t.st k D t.zs d) (hb : Below w.heap.size w w') : GotAN w s n b (.returned (.tuple #[(.agg #[.int .i64 t.c.id, .int .i64 t.c.m, .int .i64 t.c.u, .int .i64 t.c.b, .int .i64 t.c.cp, .int .i64 t.c.z, .int .i64 t.c.s, .int .i64 t.c.mt, .int .i64 t.c.o, .int .i64 t.c.a, .int .i64 t.c.l, .int .i64 t.ep, .int .i64 t.sq, .slice A t.st.length k, .slice D t.zs.length d]), .int .i64 0])) w' :=
  ⟨t, 0, A, k, D, d, rfl, Or.inr (Or.inr ⟨h, h2, ht, rfl⟩), hs, hb⟩
theorem GotAN.gotA {w w' : World} {s : St} {n : Nat → Int} {b : List UInt8} {e : Ending} (h : GotAN w s n b e w') : GotA w s n b e w' := by
  obtain ⟨t, er, A, k, D, d, h1, h2, h3, h4⟩ := h
  exact ⟨t, er, A, k, D, d, h1, h2, h3.mono (fun _ h => h.elim False.elim (fun h => h.2)), h4⟩
theorem nextZ_len {reb : Bool} {z : Zn} {n : Nat → Int} {b : List UInt8} (h : z.ps.length ≤ 2) : (nextZ reb z n b).ps.length ≤ 2 := by
  unfold nextZ
  split
  · exact h
  split
  · exact h
  split
  · simp
  split
  · exact h
  · show (nextPs z.ps _).length ≤ 2
    unfold nextPs
    rw [List.length_drop, List.length_append]
    simp only [List.length_cons, List.length_nil]
    omega
set_option maxHeartbeats 4000000 in
theorem apply_new (c : Cf) (ep sq : Int) (A : Option Addr) (st : List Int) (k : Nat) (D : Option Addr) (zs : List Zn) (d : Nat) (n : Nat → Int) (X : Option Addr) (b : List UInt8) (x : Nat) (w : World) (h : StAt w (LT w.heap.size) A st k D zs d) (hl1 : st.length ≤ 1000000) (hl2 : zs.length ≤ 1000000) (hb : Rd w w.heap.size X b) (hbl : b.length ≤ 10000000) (hbx : b.length ≤ x) :
    Calls Try.prog 9 #[(.agg #[.int .i64 c.id, .int .i64 c.m, .int .i64 c.u, .int .i64 c.b, .int .i64 c.cp, .int .i64 c.z, .int .i64 c.s, .int .i64 c.mt, .int .i64 c.o, .int .i64 c.a, .int .i64 c.l, .int .i64 ep, .int .i64 sq, .slice A st.length k, .slice D zs.length d]), (.agg #[.int .i64 (n 0), .int .i64 (n 1), .int .i64 (n 2), .int .i64 (n 3), .int .i64 (n 4), .int .i64 (n 5), .int .i64 (n 6), .int .i64 (n 7), .int .i64 (n 8), .slice X b.length x])] w (GotAN w ⟨c, ep, sq, st, zs⟩ n b) := by
  have HLL : Hid (st.length ≤ 1000000 ∧ zs.length ≤ 1000000) := ⟨hl1, hl2⟩
  have HBD : Hid (∀ w', Below w.heap.size w w' → Rd w' w'.heap.size X b) := fun w' h2 => (hb.below h2).more h2.size
  have HBL : Hid (b.length ≤ x ∧ b.length ≤ 10000000) := ⟨hbx, hbl⟩
  obtain ⟨cs, hcs⟩ : ∃ cs : Array Value, cs = #[.int .i64 c.id, .int .i64 c.m, .int .i64 c.u, .int .i64 c.b, .int .i64 c.cp, .int .i64 c.z, .int .i64 c.s, .int .i64 c.mt, .int .i64 c.o, .int .i64 c.a, .int .i64 c.l, .int .i64 ep, .int .i64 sq, .slice A st.length k, .slice D zs.length d] := ⟨_, rfl⟩
  have HCS := Lib.hid hcs
  have HCN : Hid (cs.size = 15 ∧ cs.all (·.oneCell') = true) := by rw [hcs]; exact ⟨rfl, by first | kernel_rfl | simp [Value.oneCell']⟩
  have HRR : Hid (∀ w', Below w.heap.size w w' → Calls Try.prog 24 #[.agg cs] w' (SaysP w' (RightS ⟨c, ep, sq, st, zs⟩))) := fun w' hb => by rw [hcs]; exact right_any c ep sq A st k D zs d w' (h.later hb) hl1 hl2
  have HFW : Hid (∀ (hr : RightS ⟨c, ep, sq, st, zs⟩) w', Below w.heap.size w w' → Calls Try.prog 25 #[.agg cs, (.agg #[.int .i64 (n 0), .int .i64 (n 1), .int .i64 (n 2), .int .i64 (n 3), .int .i64 (n 4), .int .i64 (n 5), .int .i64 (n 6), .int .i64 (n 7), .int .i64 (n 8), .slice X b.length x])] w' (SaysP w' (FollowR c ep sq st zs n b))) := fun hr w' hb => by rw [hcs]; exact follows_any c ep sq A st k D zs d n X b x w' (h.later hb) hr
  have HCL : Hid (∀ (hr : RightS ⟨c, ep, sq, st, zs⟩) w', Below w.heap.size w w' → Calls Try.prog 26 #[.agg cs] w' (GotCl w' ⟨c, ep, sq, st, zs⟩)) := fun hr w' hb => by
    rw [hcs]
    refine clone_state_any c ep sq A st k D zs d w' (h.later hb) hl1 hl2 (fun z hz => ?_)
    have hh := (hr.be z hz).have_
    refine ⟨by have := hh.2; omega, fun p hp => ?_⟩
    have hp2 := (hh.1 p hp).2
    obtain ⟨_, _, _, _, h5, h6, h7, h8, _⟩ := (show Good c from check_good0 hr.conf)
    have hm := mul_in (a := c.u) (b := c.b) (A := 64) (B := 4096) (by omega) h6 (by omega) h8
    dsimp only at hp2
    omega
  rw [← hcs]
  clear h hl1 hl2 hcs hb hbl hbx
  go_enter Try.func9, Try.ntmps9
  go_upto_region 1 with fail
  have HV : Hid (AplIn cs n X b x w (((w.alloc (.cells cs 27)).alloc (.cells #[.int .i64 (n 0), .int .i64 (n 1), .int .i64 (n 2), .int .i64 (n 3), .int .i64 (n 4), .int .i64 (n 5), .int .i64 (n 6), .int .i64 (n 7), .int .i64 (n 8), .slice X b.length x] 30)).alloc (.cells #[.int .i64 0, .int .i64 0, .int .i64 0, .int .i64 0, .int .i64 0, .int .i64 0, .int .i64 0, .int .i64 0, .int .i64 0, .int .i64 0, .int .i64 0, .int .i64 0, .int .i64 0, .slice none 0 0, .slice none 0 0] 27))) := by
    obtain ⟨h1, h2, h3, h4, h5⟩ := three_boxes w 27 30 27 cs #[.int .i64 (n 0), .int .i64 (n 1), .int .i64 (n 2), .int .i64 (n 3), .int .i64 (n 4), .int .i64 (n 5), .int .i64 (n 6), .int .i64 (n 7), .int .i64 (n 8), .slice X b.length x] #[.int .i64 0, .int .i64 0, .int .i64 0, .int .i64 0, .int .i64 0, .int .i64 0, .int .i64 0, .int .i64 0, .int .i64 0, .int .i64 0, .int .i64 0, .int .i64 0, .int .i64 0, .slice none 0 0, .slice none 0 0]
    exact ⟨h1, h2, h3, h4, Nat.le_of_eq h5.symm⟩
  generalize (((w.alloc (.cells cs 27)).alloc (.cells #[.int .i64 (n 0), .int .i64 (n 1), .int .i64 (n 2), .int .i64 (n 3), .int .i64 (n 4), .int .i64 (n 5), .int .i64 (n 6), .int .i64 (n 7), .int .i64 (n 8), .slice X b.length x] 30)).alloc (.cells #[.int .i64 0, .int .i64 0, .int .i64 0, .int .i64 0, .int .i64 0, .int .i64 0, .int .i64 0, .int .i64 0, .int .i64 0, .int .i64 0, .int .i64 0, .int .i64 0, .int .i64 0, .slice none 0 0, .slice none 0 0] 27)) = w0 at HV ⊢
  go_wp2_with (refine list_load27 rfl (.tmp 2) rfl w.heap.size cs HV.out.1 HCN.out.1 rfl ?_)
  refine (HRR.out w0 HV.out.2.2.2.1).mono ?_
  rintro e w1 ⟨br, rfl, hbr, hb⟩
  have HX := Lib.hid (HV.out.later hb)
  have HBR := Lib.hid hbr
  clear hb hbr HV
  cases br
  case false =>
    go_wp2_with (refine list_store27 rfl (.tmp 4) (.tmp 10) rfl (w.heap.size + 2) #[.int .i64 0, .int .i64 0, .int .i64 0, .int .i64 0, .int .i64 0, .int .i64 0, .int .i64 0, .int .i64 0, .int .i64 0, .int .i64 0, .int .i64 0, .int .i64 0, .int .i64 0, .slice none 0 0, .slice none 0 0] _ HX.out.2.2.1 rfl rfl (by first | kernel_rfl | simp [Value.oneCell']) rfl rfl (fun w5 q1 q2 => ?_))
    have hbel : Below w.heap.size w w5 := HX.out.2.2.2.1.trans ((q2 [w.heap.size + 2] (by simp)).below (by simp) HX.out.2.2.2.1.size)
    exact bodyPost_ret (v := .tuple #[.agg #[.int .i64 0, .int .i64 0, .int .i64 0, .int .i64 0, .int .i64 0, .int .i64 0, .int .i64 0, .int .i64 0, .int .i64 0, .int .i64 0, .int .i64 0, .int .i64 0, .int .i64 0, .slice none 0 0, .slice none 0 0], .int .i64 1]) (res9 rfl rfl q1 rfl) rfl (GotAN.arg (fun h => by have := HBR.out.2 h; simp at this) hbel)
  have HR : Hid (RightS ⟨c, ep, sq, st, zs⟩) := HBR.out.1 rfl
  clear HBR
  obtain ⟨r0, r1, r2, r3, r4, r5, r6, r7, r8, r9⟩ := box10 HX.out.2.1
  go_wp2_with (refine list_load27 rfl (.tmp 2) rfl w.heap.size cs HX.out.1 HCN.out.1 rfl ?_)
  refine (HFW.out HR.out w1 HX.out.2.2.2.1).mono ?_
  rintro e w2 ⟨bf, rfl, hbf, hb⟩
  have HX2 := Lib.hid (HX.out.later hb)
  have HBF := Lib.hid hbf
  clear hb hbf HX r0 r1 r2 r3 r4 r5 r6 r7 r8 r9
  cases bf
  case false =>
    go_wp2_with (refine list_store27 rfl (.tmp 4) (.tmp 15) rfl (w.heap.size + 2) #[.int .i64 0, .int .i64 0, .int .i64 0, .int .i64 0, .int .i64 0, .int .i64 0, .int .i64 0, .int .i64 0, .int .i64 0, .int .i64 0, .int .i64 0, .int .i64 0, .int .i64 0, .slice none 0 0, .slice none 0 0] _ HX2.out.2.2.1 rfl rfl (by first | kernel_rfl | simp [Value.oneCell']) rfl rfl (fun w5 q1 q2 => ?_))
    have hbel : Below w.heap.size w w5 := HX2.out.2.2.2.1.trans ((q2 [w.heap.size + 2] (by simp)).below (by simp) HX2.out.2.2.2.1.size)
    exact bodyPost_ret (v := .tuple #[.agg #[.int .i64 0, .int .i64 0, .int .i64 0, .int .i64 0, .int .i64 0, .int .i64 0, .int .i64 0, .int .i64 0, .int .i64 0, .int .i64 0, .int .i64 0, .int .i64 0, .int .i64 0, .slice none 0 0, .slice none 0 0], .int .i64 13]) (res9 rfl rfl q1 rfl) rfl (GotAN.form HR.out (fun h => by have := HBF.out.2 h; simp at this) hbel)
  have HFO : Hid (FollowR c ep sq st zs n b) := HBF.out.1 rfl
  clear HBF
  go_wp2_with (refine list_load27 rfl (.tmp 2) rfl w.heap.size cs HX2.out.1 HCN.out.1 rfl ?_)
  refine (HCL.out HR.out w2 HX2.out.2.2.2.1).mono ?_
  rintro e w3 ⟨A, k, D, d, zx, bs, rfl, hi, hz, hzo, hnd, hb⟩
  dsimp only at hi hz hzo ⊢
  have HX3 := Lib.hid (HX2.out.later hb)
  have HCG : Hid (w3.ownsRow w2.heap.size 3 1 (.slice A st.length k) st.length (st.map (Value.int .i64)) ∧ w3.ownsRow w2.heap.size 51 6 (.slice D zs.length d) zs.length zx ∧ ZOwn w3 w2.heap.size zs zx bs ∧ bs.Nodup ∧ w.heap.size + 3 ≤ w2.heap.size ∧ w2.heap.size ≤ w3.heap.size) := ⟨hi, hz, hzo, hnd, HX2.out.2.2.2.2, hb.size⟩
  clear hi hz hzo hnd hb HX2
  generalize w2.heap.size = lo at HCG
  go_upto_region 6 with (refine list_store27 rfl (.tmp 2) (.tmp 17) rfl (w.heap.size) #[.int .i64 c.id, .int .i64 c.m, .int .i64 c.u, .int .i64 c.b, .int .i64 c.cp, .int .i64 c.z, .int .i64 c.s, .int .i64 c.mt, .int .i64 c.o, .int .i64 c.a, .int .i64 c.l, .int .i64 ep, .int .i64 sq, .slice A st.length k, .slice D zs.length d] cs HX3.out.1 HCN.out.1 rfl (by first | kernel_rfl | simp [Value.oneCell']) rfl rfl (fun w4 q1 q2 => ?_))
  have HB4 : Hid (ApB c ep sq st zs n X b x A k D d zx bs lo w w4) := by
    have ht := q2 [w.heap.size] (by simp)
    exact ⟨q1, HX3.out.2.1.turn ht (by simp), HX3.out.2.2.1.turn ht (by simp), own_turn HCG.out.1 HX3.out.1 (by decide) ht, own_turn HCG.out.2.1 HX3.out.1 (by decide) ht, HCG.out.2.2.1.keepT (fun k hk => ht.block k hk.lt (by simpa using hk.box HX3.out.1 (by decide) (by decide))), HCG.out.2.2.2.1, HX3.out.2.2.2.1.trans (ht.below (by simp) HX3.out.2.2.2.1.size), HCG.out.2.2.2.2.1, Nat.le_trans HCG.out.2.2.2.2.2 ht.size⟩
  clear q1 q2 HX3 HCG HCL HFW HRR HCS HCN
  obtain ⟨y0, y1, y2, y3, y4, y5, y6, y7, y8, y9, y10, y11, y12, y13, y14⟩ := box15 HB4.out.var
  obtain ⟨f0, f1, f2, f3, f4, f5, f6, f7, f8, f9, f10, f11, f12, f13, f14⟩ := froz15 HB4.out.var
  obtain ⟨r0, r1, r2, r3, r4, r5, r6, r7, r8, r9⟩ := box10 HB4.out.rcd
  go_upto_region 7 with fail
  have HB5 : Hid (ApB c ep (n 2) st zs n X b x A k D d zx bs lo w (w4.setCell ⟨w.heap.size, 12, none⟩ (.int .i64 (n 2)))) := HB4.out.seq (by simpa using HB4.out.var.store 12 (.int .i64 (n 2))) ((Turn.refl _ _).put (Or.inl (by simp)) _)
  generalize w4.setCell ⟨w.heap.size, 12, none⟩ (.int .i64 (n 2)) = w5 at HB5 ⊢
  clear HB4 y0 y1 y2 y3 y4 y5 y6 y7 y8 y9 y10 y11 y12 y13 y14 f0 f1 f2 f3 f4 f5 f6 f7 f8 f9 f10 f11 f12 f13 f14 r0 r1 r2 r3 r4 r5 r6 r7 r8 r9
  obtain ⟨y0, y1, y2, y3, y4, y5, y6, y7, y8, y9, y10, y11, y12, y13, y14⟩ := box15 HB5.out.var
  obtain ⟨r0, r1, r2, r3, r4, r5, r6, r7, r8, r9⟩ := box10 HB5.out.rcd
  by_cases k6 : n 0 = 6
  · have k6b : (n 0 == 6) = true := by simpa using k6
    have HK6 := Lib.hid k6
    have HTR : Hid (0 ≤ n 7 ∧ n 7 < st.length) := by
      rcases HFO.out.2.2.2 with h1 | h1
      · exact ⟨h1.2.1.1, h1.2.1.2.1⟩
      · exact absurd k6 h1.1
    clear k6
    obtain ⟨m, hm⟩ : ∃ m : Nat, n 7 = (m : Int) := ⟨(n 7).toNat, by have := HTR.out; omega⟩
    have HM : Hid (n 7 = (m : Int) ∧ m < st.length ∧ (n 7).toNat = m) := ⟨hm, by have := HTR.out.2; omega, by omega⟩
    clear hm
    have hmn := HM.out.2.1
    rw [HM.out.1] at r7
    obtain ⟨g, hA⟩ := (ownT_form HB5.out.ints).2 (by omega)
    subst hA
    obtain ⟨u0, e0⟩ := own_cell HB5.out.ints (i := m) (by omega)
    have f0 := own_frozen HB5.out.ints m
    go_upto_region 9 with fail
    have HB6 := Lib.hid (HB5.out.setI (v := n 8) hmn)
    generalize w5.setCell ⟨g, m, none⟩ (.int .i64 (n 8)) = w6 at HB6 ⊢
    clear HB5 hmn e0 f0 k6b y0 y1 y2 y3 y4 y5 y6 y7 y8 y9 y10 y11 y12 y13 y14 r0 r1 r2 r3 r4 r5 r6 r7 r8 r9
    obtain ⟨y0, y1, y2, y3, y4, y5, y6, y7, y8, y9, y10, y11, y12, y13, y14⟩ := box15 HB6.out.var
    generalize hst2 : st.set m (n 8) = st2 at HB6
    have HST2 : Hid (st2 = st.set (n 7).toNat (n 8)) := by rw [HM.out.2.2]; exact hst2.symm
    have HPL : Hid (∀ z ∈ zs.map bareZ, z.ps.length ≤ 140737488351232) := fun z hz => by
      obtain ⟨z0, h0, rfl⟩ := List.mem_map.1 hz
      have h1 := (HR.out.be z0 h0).have_.2
      show z0.ps.length ≤ _
      omega
    clear hst2
    go_wp2
    go_loopw [34] (fun i wr => ∃ (q : Nat) (zq : List Value), q ≤ zs.length ∧ i = .int .i64 q ∧ ApB c ep (n 2) st2 (bareQ zs q) n X b x (some ⟨g, 0, none⟩) k D d zq bs lo w wr) (fun i _ => zs.length - (intOf i).toNat)
    case atStart => exact ⟨0, zx, by omega, rfl, by rw [bareQ_zero]; exact HB6.out⟩
    case round =>
      obtain ⟨q, zq, hq, rfl, hb⟩ := hrel
      clear HB6 y0 y1 y2 y3 y4 y5 y6 y7 y8 y9 y10 y11 y12 y13 y14
      have HBQ := Lib.hid hb
      clear hb
      by_cases hlt : q < zs.length
      · have HZL : Hid ((bareQ zs q).length = zs.length) := bareQ_length zs q
        have HZN : Hid (∀ h : q < (bareQ zs q).length, (bareQ zs q).set q (bareZ (bareQ zs q)[q]) = bareQ zs (q + 1)) := fun h => by
          have h1 := bareQ_at hlt
          rw [List.getElem?_eq_getElem h] at h1
          rw [Option.some.inj h1]
          exact bareQ_set hlt
        generalize bareQ zs q = zl at HBQ HZL HZN
        have hql : q < zl.length := by rw [HZL.out]; exact hlt
        obtain ⟨gd, hD⟩ := (ownT_form HBQ.out.zons).2 (by omega)
        subst hD
        obtain ⟨y0, y1, y2, y3, y4, y5, y6, y7, y8, y9, y10, y11, y12, y13, y14⟩ := box15 HBQ.out.var
        obtain ⟨u0, e0⟩ := own_cell HBQ.out.zons (i := q * 6 + 4) (by omega)
        have f0 := own_frozen HBQ.out.zons (q * 6 + 4)
        have hlz := HLL.out.2
        go_upto_region 13 with fail
        have HB7 : Hid (ApB c ep (n 2) st2 (bareQ zs (q + 1)) n X b x (some ⟨g, 0, none⟩) k (some ⟨gd, 0, none⟩) d (zq.set (q * 6 + 4) (.bool false)) bs lo w (wr.setCell ⟨gd, q * 6 + 4, none⟩ (.bool false))) := by
          have h := HBQ.out.setZ hql
          rw [HZN.out hql] at h
          exact h
        generalize wr.setCell ⟨gd, q * 6 + 4, none⟩ (.bool false) = w7 at HB7 ⊢
        clear HBQ HZL HZN hql e0 f0 y0 y1 y2 y3 y4 y5 y6 y7 y8 y9 y10 y11 y12 y13 y14
        go_wp2
        go_roundw
        case rel => exact ⟨q + 1, _, by omega, by first | go_num | (rw [wrap_in (by omega) (by omega)]; rfl), HB7.out⟩
        case measure =>
          try rw [wrap_in (by omega) (by omega)]
          simp [intOf]
          omega
      · obtain rfl : q = zs.length := by omega
        have HBE : Hid (ApB c ep (n 2) st2 (zs.map bareZ) n X b x (some ⟨g, 0, none⟩) k D d zq bs lo w wr) := by
          have h := HBQ.out
          rw [bareQ_all] at h
          exact h
        clear HBQ
        go_wp2_with (first | (refine list_load27 rfl (.tmp 2) rfl w.heap.size #[.int .i64 c.id, .int .i64 c.m, .int .i64 c.u, .int .i64 c.b, .int .i64 c.cp, .int .i64 c.z, .int .i64 c.s, .int .i64 c.mt, .int .i64 c.o, .int .i64 c.a, .int .i64 c.l, .int .i64 ep, .int .i64 (n 2), .slice (some ⟨g, 0, none⟩) st2.length k, .slice D (zs.map bareZ).length d] HBE.out.var rfl rfl ?_) | (refine list_store27 rfl (.tmp 4) (.tmp 51) rfl (w.heap.size + 2) #[.int .i64 c.id, .int .i64 c.m, .int .i64 c.u, .int .i64 c.b, .int .i64 c.cp, .int .i64 c.z, .int .i64 c.s, .int .i64 c.mt, .int .i64 c.o, .int .i64 c.a, .int .i64 c.l, .int .i64 ep, .int .i64 (n 2), .slice (some ⟨g, 0, none⟩) st2.length k, .slice D (zs.map bareZ).length d] _ HBE.out.ret rfl rfl (by first | kernel_rfl | simp [Value.oneCell']) rfl rfl (fun w8 q1 q2 => ?_)))
        obtain ⟨hst, hbel⟩ := (HBE.out.toC HPL.out).fin (q2 [w.heap.size + 2] (by simp))
        exact bodyPost_ret (v := .tuple #[.agg #[.int .i64 c.id, .int .i64 c.m, .int .i64 c.u, .int .i64 c.b, .int .i64 c.cp, .int .i64 c.z, .int .i64 c.s, .int .i64 c.mt, .int .i64 c.o, .int .i64 c.a, .int .i64 c.l, .int .i64 ep, .int .i64 (n 2), .slice (some ⟨g, 0, none⟩) st2.length k, .slice D (zs.map bareZ).length d], .int .i64 0]) (res9 rfl rfl q1 rfl) rfl (GotAN.next (t := ⟨c, ep, n 2, st2, zs.map bareZ⟩) HR.out HFO.out (by rw [nextS_status HK6.out, HST2.out]) hst hbel)
  have k6b : (n 0 == 6) = false := by simpa using k6
  have hzf : ZoneFits c st zs n b := by
    rcases HFO.out.2.2.2 with h1 | h1
    · exact absurd h1.1 k6
    · exact h1.2
  obtain ⟨q, hq, hn⟩ := zoneFits_in hzf
  have hft := (zoneFits_at hq hn).1 hzf
  have HK6 := Lib.hid k6
  have HQ : Hid (n 3 = (q : Int) ∧ q < zs.length) := ⟨hn, hq⟩
  have HKD : Hid ((n 0 = 1 ∨ n 0 = 2 ∨ n 0 = 3 ∨ n 0 = 5) ∨ n 0 = 4) := by
    rcases hft with h | h | h | h | h
    · exact Or.inl (Or.inl h.1)
    · exact Or.inl (Or.inr (Or.inl h.1))
    · exact Or.inl (Or.inr (Or.inr (Or.inr h.1)))
    · exact Or.inr h.1
    · exact Or.inl (Or.inr (Or.inr (Or.inl h.1)))
  clear hzf hft hn hq k6
  have hq := HQ.out.2
  obtain ⟨g, hD⟩ := (ownT_form HB5.out.zons).2 (by omega)
  subst hD
  go_upto_region 14 with fail
  clear k6b y0 y1 y2 y3 y4 y5 y6 y7 y8 y9 y10 y11 y12 y13 y14 r0 r1 r2 r3 r4 r5 r6 r7 r8 r9
  have HD0 : Hid (ApB c ep (n 2) st zs n X b x A k (some ⟨g, 0, none⟩) d zx bs lo w w5.drew) := HB5.out.drew
  obtain ⟨Y, y, xs, hzx, ho, hp⟩ := HD0.out.new.at_ hq
  obtain ⟨v, hv⟩ : ∃ v : Value, v = .slice Y zs[q].ps.length y := ⟨_, rfl⟩
  obtain ⟨gs, hgs⟩ : ∃ gs, gs = g :: v.ownBlock.toList := ⟨_, rfl⟩
  refine wpG_start gs (by kernel_rfl) ?_
  generalize w5.drew = wd at HD0 ho hp ⊢
  have hps2 := (HR.out.be zs[q] (List.getElem_mem hq)).have_.2
  have HCH : Hid (Calls Try.prog 27 #[.agg #[.int .i64 c.id, .int .i64 c.m, .int .i64 c.u, .int .i64 c.b, .int .i64 c.cp, .int .i64 c.z, .int .i64 c.s, .int .i64 c.mt, .int .i64 c.o, .int .i64 c.a, .int .i64 c.l, .int .i64 ep, .int .i64 (n 2), .slice A st.length k, .slice (some ⟨g, 0, none⟩) zs.length d], (.agg #[.int .i64 (n 0), .int .i64 (n 1), .int .i64 (n 2), .int .i64 (n 3), .int .i64 (n 4), .int .i64 (n 5), .int .i64 (n 6), .int .i64 (n 7), .int .i64 (n 8), .slice X b.length x])] wd (GotN wd lo v (nextZ (decide (2 ∈ st)) zs[q] n b))) := by
    rw [hv]
    obtain ⟨h1, h2⟩ := ints_own (S := fun _ => False) HD0.out.ints
    obtain ⟨h3, h4⟩ := (HD0.out.new.row (fun z hz => by have := (HR.out.be z hz).have_.2; omega)).rowOf (S' := LT wd.heap.size) rfl HD0.out.zons (fun _ h => h.lt) (fun _ _ h => h)
    have hst : StAt wd (LT wd.heap.size) A st k (some ⟨g, 0, none⟩) zs d := ⟨h1.mono (fun _ h => h.elim False.elim (fun h => h.2)), h3, h2, h4⟩
    have hcell : ∀ g' off, (some ⟨g, 0, none⟩ : Option Addr) = some ⟨g', off, none⟩ → wd.cell? ⟨g', off + q * 6 + 5, none⟩ = some (.slice Y zs[q].ps.length y) := fun g' off e => by
      simp only [Option.some.injEq, Addr.mk.injEq, and_true] at e
      obtain ⟨rfl, rfl⟩ := e
      rw [Nat.zero_add, World.ownsRow.cellAt HD0.out.zons (q * 6 + 5) (by omega)]
      exact hzx
    rcases HKD.out with hk | hk
    · exact changed_any c ep (n 2) A st k (some ⟨g, 0, none⟩) zs d n X b x q lo wd hst HLL.out.1 HLL.out.2 hq HQ.out.1 (HBD.out wd HD0.out.below) HBL.out.2 HBL.out.1 HD0.out.lo_.2 Y y xs hcell ho hp hps2 _ (by simp) hk
    · exact changedP_any c ep (n 2) A st k (some ⟨g, 0, none⟩) zs d n X b x q lo wd hst HLL.out.1 HLL.out.2 hq HQ.out.1 (HBD.out wd HD0.out.below) HBL.out.2 HBL.out.1 HD0.out.lo_.2 Y y xs hcell ho hp hps2 _ (by simp) hk
  have HG : Hid (w.heap.size ∉ gs ∧ w.heap.size + 1 ∉ gs ∧ g ∈ gs ∧ (∀ k ∈ v.ownBlock.toList, k ∈ gs)) := by
    have h1 := World.ownsRow.lt HD0.out.zons g rfl
    have h2 : ∀ k ∈ v.ownBlock.toList, lo ≤ k := fun k hk => (World.ownsRow.lt ho k (by rw [← hv]; exact own_list hk)).1
    have h3 := HD0.out.lo_.1
    rw [hgs]
    refine ⟨fun hm => ?_, fun hm => ?_, by simp, fun k hk => List.mem_cons_of_mem _ hk⟩
    · rcases List.mem_cons.1 hm with hm | hm
      · omega
      · have := h2 _ hm; omega
    · rcases List.mem_cons.1 hm with hm | hm
      · omega
      · have := h2 _ hm; omega
  have HLN : Hid ((nextZ (decide (2 ∈ st)) zs[q] n b).ps.length ≤ 2) := nextZ_len hps2
  have HNX : Hid (nextS ⟨c, ep, sq, st, zs⟩ n b = ⟨c, ep, n 2, st, zs.set q (nextZ (decide (2 ∈ st)) zs[q] n b)⟩) := nextS_zone HK6.out hq HQ.out.1
  have HD : Hid (ApB c ep (n 2) st zs n X b x A k (some ⟨g, 0, none⟩) d zx bs lo w wd ∧ wd.ownsRow lo 55 2 v zs[q].ps.length xs ∧ zx[q * 6 + 5]? = some v) := ⟨HD0.out, by rw [hv]; exact ho, by rw [hv]; exact hzx⟩
  have HPA : Hid (∀ z ∈ zs, z.ps.length ≤ 140737488351232) := fun z hz => by have := (HR.out.be z hz).have_.2; omega
  generalize nextZ (decide (2 ∈ st)) zs[q] n b = nz at HCH HLN HNX
  obtain ⟨zg, zsl, zf, zv, zh, zps⟩ := nz
  clear hzx ho hp hv hgs hps2 HD0 HB5 HKD
  refine wpG_take (i := 0) (d := 43) (v := ?v14x0) rfl rfl (by kernel_rfl) (by kernel_rfl) (by kernel_rfl) (fun _ _ _ h => h) (by rfl) ?y14x0 ?r14x0
  case y14x0 => (intro w' hSw; obtain ⟨s0, s1, s2, s3, s4, s5, s6, s7, s8, s9, s10, s11, s12, s13, s14⟩ := box15 (HD.out.1.var.turn hSw HG.out.1); obtain ⟨r0, r1, r2, r3, r4, r5, r6, r7, r8, r9⟩ := box10 (HD.out.1.rcd.turn hSw HG.out.2.1); go_simp; try (with_reducible rfl))
  simp only [Act.put, List.setIfInBounds_toArray, List.set_cons_zero, List.set_cons_succ]
  refine wpG_take (i := 1) (d := 44) (v := ?v14x1) rfl rfl (by kernel_rfl) (by kernel_rfl) (by kernel_rfl) (fun _ _ _ h => h) (by rfl) ?y14x1 ?r14x1
  case y14x1 => (intro w' hSw; obtain ⟨s0, s1, s2, s3, s4, s5, s6, s7, s8, s9, s10, s11, s12, s13, s14⟩ := box15 (HD.out.1.var.turn hSw HG.out.1); obtain ⟨r0, r1, r2, r3, r4, r5, r6, r7, r8, r9⟩ := box10 (HD.out.1.rcd.turn hSw HG.out.2.1); go_simp; try (with_reducible rfl))
  simp only [Act.put, List.setIfInBounds_toArray, List.set_cons_zero, List.set_cons_succ]
  refine wpG_take (i := 2) (d := 45) (v := ?v14x2) rfl rfl (by kernel_rfl) (by kernel_rfl) (by kernel_rfl) (fun _ _ _ h => h) (by rfl) ?y14x2 ?r14x2
  case y14x2 => (intro w' hSw; obtain ⟨s0, s1, s2, s3, s4, s5, s6, s7, s8, s9, s10, s11, s12, s13, s14⟩ := box15 (HD.out.1.var.turn hSw HG.out.1); obtain ⟨r0, r1, r2, r3, r4, r5, r6, r7, r8, r9⟩ := box10 (HD.out.1.rcd.turn hSw HG.out.2.1); go_simp; try (with_reducible rfl))
  simp only [Act.put, List.setIfInBounds_toArray, List.set_cons_zero, List.set_cons_succ]
  refine wpG_take (i := 3) (d := 46) (v := ?v14x3) rfl rfl (by kernel_rfl) (by kernel_rfl) (by kernel_rfl) (fun _ _ _ h => h) (by rfl) ?y14x3 ?r14x3
  case y14x3 => (intro w' hSw; obtain ⟨s0, s1, s2, s3, s4, s5, s6, s7, s8, s9, s10, s11, s12, s13, s14⟩ := box15 (HD.out.1.var.turn hSw HG.out.1); obtain ⟨r0, r1, r2, r3, r4, r5, r6, r7, r8, r9⟩ := box10 (HD.out.1.rcd.turn hSw HG.out.2.1); rw [HQ.out.1] at r3; go_simp; try (with_reducible rfl))
  simp only [Act.put, List.setIfInBounds_toArray, List.set_cons_zero, List.set_cons_succ]
  refine wpG_take (i := 4) (d := 47) (v := ?v14x4) rfl rfl (by kernel_rfl) (by kernel_rfl) (by kernel_rfl) (fun _ _ _ h => h) (by rfl) ?y14x4 ?r14x4
  case y14x4 => (intro w' hSw; refine exec_load27 (.tmp 2) ?_ w.heap.size #[.int .i64 c.id, .int .i64 c.m, .int .i64 c.u, .int .i64 c.b, .int .i64 c.cp, .int .i64 c.z, .int .i64 c.s, .int .i64 c.mt, .int .i64 c.o, .int .i64 c.a, .int .i64 c.l, .int .i64 ep, .int .i64 (n 2), .slice A st.length k, .slice (some ⟨g, 0, none⟩) zs.length d] (HD.out.1.var.turn hSw HG.out.1) rfl ?_ <;> rfl)
  simp only [Act.put, List.setIfInBounds_toArray, List.set_cons_zero, List.set_cons_succ]
  refine wpG_take (i := 5) (d := 48) (v := ?v14x5) rfl rfl (by kernel_rfl) (by kernel_rfl) (by kernel_rfl) (fun _ _ _ h => h) (by rfl) ?y14x5 ?r14x5
  case y14x5 => (intro w' hSw; obtain ⟨s0, s1, s2, s3, s4, s5, s6, s7, s8, s9, s10, s11, s12, s13, s14⟩ := box15 (HD.out.1.var.turn hSw HG.out.1); obtain ⟨r0, r1, r2, r3, r4, r5, r6, r7, r8, r9⟩ := box10 (HD.out.1.rcd.turn hSw HG.out.2.1); go_simp; try (with_reducible rfl))
  simp only [Act.put, List.setIfInBounds_toArray, List.set_cons_zero, List.set_cons_succ]
  refine wpG_do (i := 6) (by kernel_rfl) rfl (by rfl) (fun K hK => ?_)
  go_simp
  refine HCH.out.mono ?_
  rintro e w6 ⟨Y2, y2, rfl, hp2, hy2, ht⟩
  dsimp only at hp2 hy2 ⊢
  have HE : Hid ((Box w6 w.heap.size 27 #[.int .i64 c.id, .int .i64 c.m, .int .i64 c.u, .int .i64 c.b, .int .i64 c.cp, .int .i64 c.z, .int .i64 c.s, .int .i64 c.mt, .int .i64 c.o, .int .i64 c.a, .int .i64 c.l, .int .i64 ep, .int .i64 (n 2), .slice A st.length k, .slice (some ⟨g, 0, none⟩) zs.length d] ∧ Box w6 (w.heap.size + 2) 27 #[.int .i64 0, .int .i64 0, .int .i64 0, .int .i64 0, .int .i64 0, .int .i64 0, .int .i64 0, .int .i64 0, .int .i64 0, .int .i64 0, .int .i64 0, .int .i64 0, .int .i64 0, .slice none 0 0, .slice none 0 0] ∧ w6.ownsRow lo 3 1 (.slice A st.length k) st.length (st.map (Value.int .i64)) ∧ w6.ownsRow lo 51 6 (.slice (some ⟨g, 0, none⟩) zs.length d) zs.length zx ∧ Below w.heap.size w w6 ∧ (w.heap.size + 3 ≤ lo ∧ lo ≤ w6.heap.size)) ∧ ZsRow w6 (TB lo w6) (zs.set q ⟨zg, zsl, zf, zv, zh, zps⟩) (set6 zx (q * 6) (.int .i64 zg) (.int .i64 zsl) (.bool zf) (.int .i64 zv) (.bool zh) (.slice Y2 zps.length y2))) := by
    have hg : wd.grownBy w6 v.ownBlock := ⟨ht.os, ht.tape, ht.output, ht.size, fun k hk hn => ht.block k hk (fun hm => hn (own_list hm).symm)⟩
    have hlo := HD.out.1.lo_
    have hkb : KeepB lo wd w6 := fun k hk hb => hg.block k hb.lt (hb.own HD.out.2.1 (by decide))
    refine ⟨⟨HD.out.1.var.ownRow HD.out.2.1 hg (by decide), HD.out.1.ret.ownRow HD.out.2.1 hg (by decide), own_other HD.out.1.ints HD.out.2.1 hg (by decide), own_other HD.out.1.zons HD.out.2.1 hg (by decide), HD.out.1.below.trans (ht.below (fun k hk => ?_) HD.out.1.below.size), hlo.1, Nat.le_trans hlo.2 ht.size⟩, ?_⟩
    · have := (World.ownsRow.lt HD.out.2.1 k (own_list hk)).1
      omega
    · exact HD.out.1.new.other hkb (z := ⟨zg, zsl, zf, zv, zh, zps⟩) hp2 hy2 (by have := HLN.out; dsimp only at this ⊢; omega) v HD.out.1.nod HQ.out.2 HPA.out HD.out.2.2 (fun k hk hn => ht.block k hk hn)
  refine hK.out _ _ (ht.mono HG.out.2.2.2) ?_
  try simp only [Act.put, List.setIfInBounds_toArray, List.set_cons_zero, List.set_cons_succ]
  clear hK hp2 hy2 ht HD HCH
  refine wpG_take (i := 7) (d := 50) (v := ?v14x7) rfl rfl (by kernel_rfl) (by kernel_rfl) (by kernel_rfl) (fun _ _ _ h => h) (by rfl) ?y14x7 ?r14x7
  case y14x7 => (intro w' hSw; have hqn := HQ.out.2; go_simp; try (with_reducible rfl))
  simp only [Act.put, List.setIfInBounds_toArray, List.set_cons_zero, List.set_cons_succ]
  have hqn := HQ.out.2
  obtain ⟨u0, e0⟩ := own_cell HE.out.1.2.2.2.1 (i := q * 6) (by omega)
  have f0 := own_frozen HE.out.1.2.2.2.1 (q * 6)
  obtain ⟨u1, e1⟩ := own_cell HE.out.1.2.2.2.1 (i := q * 6 + 1) (by omega)
  have f1 := own_frozen HE.out.1.2.2.2.1 (q * 6 + 1)
  obtain ⟨u2, e2⟩ := own_cell HE.out.1.2.2.2.1 (i := q * 6 + 2) (by omega)
  have f2 := own_frozen HE.out.1.2.2.2.1 (q * 6 + 2)
  obtain ⟨u3, e3⟩ := own_cell HE.out.1.2.2.2.1 (i := q * 6 + 3) (by omega)
  have f3 := own_frozen HE.out.1.2.2.2.1 (q * 6 + 3)
  obtain ⟨u4, e4⟩ := own_cell HE.out.1.2.2.2.1 (i := q * 6 + 4) (by omega)
  have f4 := own_frozen HE.out.1.2.2.2.1 (q * 6 + 4)
  obtain ⟨u5, e5⟩ := own_cell HE.out.1.2.2.2.1 (i := q * 6 + 5) (by omega)
  have f5 := own_frozen HE.out.1.2.2.2.1 (q * 6 + 5)
  refine wpG_do (i := 8) (by kernel_rfl) rfl (by rfl) (fun K hK => ?_)
  go_simp
  have HF : Hid (ApC c ep (n 2) st (zs.set q ⟨zg, zsl, zf, zv, zh, zps⟩) A k (some ⟨g, 0, none⟩) d (set6 zx (q * 6) (.int .i64 zg) (.int .i64 zsl) (.bool zf) (.int .i64 zv) (.bool zh) (.slice Y2 zps.length y2)) lo w (((((((w6.setCell ⟨g, q * 6, none⟩ (.int .i64 zg)).setCell ⟨g, q * 6 + 1, none⟩ (.int .i64 zsl)).setCell ⟨g, q * 6 + 2, none⟩ (.bool zf)).setCell ⟨g, q * 6 + 3, none⟩ (.int .i64 zv)).setCell ⟨g, q * 6 + 4, none⟩ (.bool zh)).setCell ⟨g, q * 6 + 5, none⟩ (.slice Y2 zps.length y2)))) := by
    have ht := turn_set6 (w := w6) (g := g) (i := q * 6) (.int .i64 zg) (.int .i64 zsl) (.bool zf) (.int .i64 zv) (.bool zh) (.slice Y2 zps.length y2)
    obtain ⟨cur, hcur⟩ := own_box HE.out.1.2.2.2.1
    have hgl := World.ownsRow.lt HE.out.1.2.2.2.1 g rfl
    have hlo := HE.out.1.2.2.2.2.2
    refine ⟨?_, HE.out.1.2.1.turn ht (by simp; omega), own_turn HE.out.1.2.2.1 hcur (by decide) ht, ?_, HE.out.2.tb (fun k hk => ht.block k hk.lt (by simpa using hk.box hcur (by decide) (by decide))), HE.out.1.2.2.2.2.1.trans (ht.below (fun k hk => by have : k = g := by { simpa using hk }; omega) HE.out.1.2.2.2.2.1.size), hlo.1, Nat.le_trans hlo.2 ht.size⟩
    · rw [List.length_set]
      exact HE.out.1.1.turn ht (by simp; omega)
    · rw [List.length_set]
      exact own_set6 _ _ _ _ _ _ HE.out.1.2.2.2.1 (by omega)
  refine hK.out _ _ ((turn_set6 (.int .i64 zg) (.int .i64 zsl) (.bool zf) (.int .i64 zv) (.bool zh) (.slice Y2 zps.length y2)).mono (fun k hk => by have : k = g := by { simpa using hk }; subst this; exact HG.out.2.2.1)) ?_
  generalize ((((((w6.setCell ⟨g, q * 6, none⟩ (.int .i64 zg)).setCell ⟨g, q * 6 + 1, none⟩ (.int .i64 zsl)).setCell ⟨g, q * 6 + 2, none⟩ (.bool zf)).setCell ⟨g, q * 6 + 3, none⟩ (.int .i64 zv)).setCell ⟨g, q * 6 + 4, none⟩ (.bool zh)).setCell ⟨g, q * 6 + 5, none⟩ (.slice Y2 zps.length y2)) = w7 at HF ⊢
  clear hK HE hqn u0 u1 u2 u3 u4 u5 e0 e1 e2 e3 e4 e5 f0 f1 f2 f3 f4 f5
  refine wpG_done (by kernel_rfl) ?_
  go_wp2_with (first | (refine list_load27 rfl (.tmp 2) rfl w.heap.size #[.int .i64 c.id, .int .i64 c.m, .int .i64 c.u, .int .i64 c.b, .int .i64 c.cp, .int .i64 c.z, .int .i64 c.s, .int .i64 c.mt, .int .i64 c.o, .int .i64 c.a, .int .i64 c.l, .int .i64 ep, .int .i64 (n 2), .slice A st.length k, .slice (some ⟨g, 0, none⟩) (zs.set q ⟨zg, zsl, zf, zv, zh, zps⟩).length d] HF.out.var rfl rfl ?_) | (refine list_store27 rfl (.tmp 4) (.tmp 51) rfl (w.heap.size + 2) #[.int .i64 c.id, .int .i64 c.m, .int .i64 c.u, .int .i64 c.b, .int .i64 c.cp, .int .i64 c.z, .int .i64 c.s, .int .i64 c.mt, .int .i64 c.o, .int .i64 c.a, .int .i64 c.l, .int .i64 ep, .int .i64 (n 2), .slice A st.length k, .slice (some ⟨g, 0, none⟩) (zs.set q ⟨zg, zsl, zf, zv, zh, zps⟩).length d] _ HF.out.ret rfl rfl (by first | kernel_rfl | simp [Value.oneCell']) rfl rfl (fun w8 q1 q2 => ?_)))
  obtain ⟨hst, hbel⟩ := HF.out.fin (q2 [w.heap.size + 2] (by simp))
  exact bodyPost_ret (v := .tuple #[.agg #[.int .i64 c.id, .int .i64 c.m, .int .i64 c.u, .int .i64 c.b, .int .i64 c.cp, .int .i64 c.z, .int .i64 c.s, .int .i64 c.mt, .int .i64 c.o, .int .i64 c.a, .int .i64 c.l, .int .i64 ep, .int .i64 (n 2), .slice A st.length k, .slice (some ⟨g, 0, none⟩) (zs.set q ⟨zg, zsl, zf, zv, zh, zps⟩).length d], .int .i64 0]) (res9 rfl rfl q1 rfl) rfl (GotAN.next HR.out HFO.out HNX.out.symm hst hbel)
theorem apply_any (c : Cf) (ep sq : Int) (A : Option Addr) (st : List Int) (k : Nat) (D : Option Addr) (zs : List Zn) (d : Nat) (n : Nat → Int) (X : Option Addr) (b : List UInt8) (x : Nat) (w : World) (h : StAt w (LT w.heap.size) A st k D zs d) (hl1 : st.length ≤ 1000000) (hl2 : zs.length ≤ 1000000) (hb : Rd w w.heap.size X b) (hbl : b.length ≤ 10000000) (hbx : b.length ≤ x) :
    Calls Try.prog 9 #[(.agg #[.int .i64 c.id, .int .i64 c.m, .int .i64 c.u, .int .i64 c.b, .int .i64 c.cp, .int .i64 c.z, .int .i64 c.s, .int .i64 c.mt, .int .i64 c.o, .int .i64 c.a, .int .i64 c.l, .int .i64 ep, .int .i64 sq, .slice A st.length k, .slice D zs.length d]), (.agg #[.int .i64 (n 0), .int .i64 (n 1), .int .i64 (n 2), .int .i64 (n 3), .int .i64 (n 4), .int .i64 (n 5), .int .i64 (n 6), .int .i64 (n 7), .int .i64 (n 8), .slice X b.length x])] w (GotA w ⟨c, ep, sq, st, zs⟩ n b) := (apply_new c ep sq A st k D zs d n X b x w h hl1 hl2 hb hbl hbx).mono fun _ _ h => h.gotA
end Go.Proofs.Ytaceaemombnhkaa
namespace Go.Proofs.Ytaceaemombnhkaa
set_option linter.unusedVariables false
set_option linter.unusedSimpArgs false
open Go.RowKit
open Go.RowKit (wrap64)

open Go.ChangeShapes Go.WideShapes Go.ChangeAt

theorem Try.cells30 : Try.prog.cellsOf 30 = 10 := by kernel_rfl
theorem Try.cells28 : Try.prog.cellsOf 28 = 1 := by kernel_rfl
theorem Try.bytes5 : Try.prog.bytesOf 5 = 1 := by kernel_rfl
/-- Nine numbers by their places. -/
def nine (m0 m1 m2 m3 m4 m5 m6 m7 m8 : Int) : Nat → Int
  | 0 => m0
  | 1 => m1
  | 2 => m2
  | 3 => m3
  | 4 => m4
  | 5 => m5
  | 6 => m6
  | 7 => m7
  | 8 => m8
  | _ => 0
section
variable {H : Type} {enc : TypeId × Value → H}
theorem weights_mem_all {P : Program} {e : TypeId} : ∀ {l : List (DataW H)} {d : DataW H}, d ∈ l → ∀ n ∈ d.weights P e, n ∈ DataW.weightsAll P e l
  | d0 :: l, d, h, n, hn => by
    simp only [DataW.weightsAll, List.mem_append]
    rcases List.mem_cons.1 h with rfl | h
    · exact Or.inl hn
    · exact Or.inr (weights_mem_all h n hn)
  | [], _, h, _, _ => by cases h
/-- One block out of its reading. -/
theorem block_trod {w : World} {base : Nat} {spare : Nat → Bool} {held : Bool} {fuel : Nat} {v : Value} {D : DataW H} {Pl : List MemPlace}
    (h : DataW.trod enc Try.prog w base spare held fuel 28 [v] = some (D, Pl)) (hw : ∀ n ∈ D.weights Try.prog 28, n ≤ reachBytes) :
    ∃ X c, ∃ l : List UInt8, v = .slice X l.length c ∧ Rd w w.heap.size X l ∧ l.length ≤ c ∧ l.length ≤ 140737488351232 := by
  rcases open_ints Try.underlying28 Try.underlying5 (by kernel_rfl) h with ⟨hcs, _⟩ | ⟨x, l, c, zs, hcs, _, hl, hm, hz, hx, hcell, hwz⟩
  · simp at hcs
    subst hcs
    exact ⟨none, 0, [], rfl, Rd.nil, Nat.le_refl _, by simp⟩
  · simp at hcs
    subst hcs
    injection hx with hD _
    subst hD
    have hzl : l ≤ zs.length := by rw [hz]; split <;> omega
    have hb := hw ((((lits .u8 (zs.take l) : List (DataW H)).length) + (lits .u8 (zs.drop l) : List (DataW H)).length) * Try.prog.bytesOf 5) (by simp [DataW.weights, Try.underlying28])
    rw [Try.bytes5] at hb
    simp only [lits, List.length_map, List.length_take, List.length_drop, reachBytes] at hb
    refine ⟨some x, c, (zs.take l).map fun n => UInt8.ofNat n.toNat, ?_, fun h0 => ⟨x, rfl, ?_, fun j u hu => ?_⟩, by simp; omega, by simp; omega⟩
    · simp [Nat.min_eq_left hzl]
    · have h := hcell 0 (by simp at h0; omega)
      have hb : (x.add 0).block < w.heap.size := by
        rcases Nat.lt_or_ge (x.add 0).block w.heap.size with h1 | h1
        · exact h1
        · simp [World.cell?, Array.getElem?_eq_none h1] at h
      rwa [step_block] at hb
    · have hj : j < l := by
        have := (List.getElem?_eq_some_iff.1 hu).1
        simp [cBs] at this
        omega
      have hjz : j < zs.length := by omega
      have hb := bounds_u8 (hwz zs[j] (List.getElem_mem hjz))
      have hu' : u = .int .u8 zs[j] := by
        simp [cBs, cB, hj, hjz] at hu
        rw [← hu]
        congr 1
        omega
      rw [hcell j hjz, hu']
      simp [List.getD, hjz]
theorem open_bytes {w : World} {base : Nat} {spare : Nat → Bool} {held : Bool} {A : Option Addr} {len cap : Nat} {d : DataW H} {p : List MemPlace} (h : DataW.Trod enc Try.prog w base spare held 28 (.slice A len cap) d p) (hw : ∀ n ∈ d.weights Try.prog 28, n ≤ reachBytes) :
    ∃ l : List UInt8, l.length = len ∧ Rd w w.heap.size A l ∧ len ≤ cap ∧ len ≤ 140737488351232 := by
  obtain ⟨fuel, hf⟩ := h
  obtain ⟨X, c, l, e, h1, h2, h3⟩ := block_trod (by simpa [Value.cells] using hf) hw
  injection e with e1 e2 e3
  subst e1 e2 e3
  exact ⟨l, rfl, h1, h2, h3⟩
end
end Go.Proofs.Ytaceaemombnhkaa
namespace Go.Proofs.Ytaceaemombnhkaa
set_option linter.unusedVariables false
set_option linter.unusedSimpArgs false
set_option maxRecDepth 100000
open Go.RowKit
open Go.RowKit (wrap64)
open Go.ChangeShapes Go.WideShapes Go.ChangeAt
theorem Try.cells27 : Try.prog.cellsOf 27 = 15 := by kernel_rfl
theorem Try.cells24 : Try.prog.cellsOf 24 = 1 := by kernel_rfl
theorem Try.cells25 : Try.prog.cellsOf 25 = 1 := by kernel_rfl
theorem Try.cells49 : Try.prog.cellsOf 49 = 1 := by kernel_rfl
theorem Try.cells4 : Try.prog.cellsOf 4 = 1 := by kernel_rfl
theorem Try.cells51 : Try.prog.cellsOf 51 = 6 := by kernel_rfl
theorem Try.cells55 : Try.prog.cellsOf 55 = 2 := by kernel_rfl
/-- A row of things out of their places. -/
theorem row_of {α : Type} [Inhabited α] {w : World} {a : Addr} {len sz : Nat} {R : Nat → Nat → α → Prop} (hR : ∀ g off t, R g off t → g < w.heap.size) (h : ∀ i, i < len → ∃ t g off, a.add (i * sz) = ⟨g, off, none⟩ ∧ R g off t) :
    ∃ l : List α, l.length = len ∧ (0 < l.length → ∃ g off, some a = some ⟨g, off, none⟩ ∧ g < w.heap.size ∧ ∀ j (hj : j < l.length), R g (off + j * sz) l[j]) := by
  have h' : ∀ i : Nat, ∃ t : α, i < len → ∃ g off, a.add (i * sz) = ⟨g, off, none⟩ ∧ R g off t := fun i => by
    by_cases hi : i < len
    · obtain ⟨t, h1⟩ := h i hi
      exact ⟨t, fun _ => h1⟩
    · exact ⟨default, fun hl => absurd hl hi⟩
  obtain ⟨f, hf⟩ := Classical.axiomOfChoice h'
  refine ⟨(List.range len).map f, by simp, fun h0 => ?_⟩
  have hlen : 0 < len := by simpa using h0
  obtain ⟨g0, off0, e0, r0⟩ := hf 0 hlen
  have ha : a.add (0 * sz) = a := by rw [Nat.zero_mul]; simp [Addr.add]
  rw [ha] at e0
  subst e0
  have hadd : ∀ j, (⟨g0, off0, none⟩ : Addr).add j = ⟨g0, off0 + j, none⟩ := fun j => by unfold Addr.add; split <;> simp_all
  refine ⟨g0, off0, rfl, hR _ _ _ r0, fun j hj => ?_⟩
  obtain ⟨g, off, e, r⟩ := hf j (by simpa using hj)
  rw [hadd] at e
  simp only [Addr.mk.injEq, and_true] at e
  obtain ⟨rfl, rfl⟩ := e
  simpa using r
theorem add_spot {w : World} {a : Addr} {n : Nat} {v : Value} (h : w.cell? (a.add n) = some v) : ∃ g off, a.add n = ⟨g, off, none⟩ ∧ g < w.heap.size := by
  by_cases hn : n = 0
  · subst hn
    have ha : a.add 0 = a := by simp [Addr.add]
    rw [ha] at h ⊢
    have hs := World.cell?_spot h
    obtain ⟨g, off, spot⟩ := a
    simp only at hs
    subst hs
    refine ⟨g, off, rfl, ?_⟩
    rcases Nat.lt_or_ge g w.heap.size with h1 | h1
    · exact h1
    · simp [World.cell?, Array.getElem?_eq_none h1] at h
  · obtain ⟨g, off, spot⟩ := a
    have hadd : (⟨g, off, spot⟩ : Addr).add n = ⟨g, off + n, none⟩ := by simp [Addr.add, hn]
    refine ⟨g, off + n, hadd, ?_⟩
    rw [hadd] at h
    rcases Nat.lt_or_ge g w.heap.size with h1 | h1
    · exact h1
    · simp [World.cell?, Array.getElem?_eq_none h1] at h
theorem add_two (a : Addr) (n k : Nat) : (a.add n).add k = a.add (n + k) := step_step a n k
instance : Inhabited Pr := ⟨⟨0, []⟩⟩
instance : Inhabited Zn := ⟨⟨0, 0, false, 0, false, []⟩⟩
section
variable {H : Type} {enc : TypeId × Value → H}
/-- Ints out of their reading. -/
theorem ints_trod {w : World} {base : Nat} {spare : Nat → Bool} {held : Bool} {fuel : Nat} {v : Value} {D : DataW H} {Pl : List MemPlace}
    (h : DataW.trod enc Try.prog w base spare held fuel 24 [v] = some (D, Pl)) : ∃ A k, ∃ st : List Int, v = .slice A st.length k ∧ IntsAt w (LT w.heap.size) A st ∧ st.length ≤ k ∧ st.length ≤ maxLen := by
  rcases open_ints Try.underlying24 Try.underlying3 (by kernel_rfl) h with ⟨hcs, _⟩ | ⟨x, l, c, zs, hcs, _, hl, hm, hz, hx, hcell, hwz⟩
  · simp at hcs
    subst hcs
    exact ⟨none, 0, [], rfl, IntsAt.nil, Nat.le_refl _, Nat.zero_le _⟩
  · simp at hcs
    subst hcs
    have hzl : l ≤ zs.length := by rw [hz]; split <;> omega
    have hlen : (zs.take l).length = l := by rw [List.length_take]; omega
    refine ⟨some x, c, zs.take l, by rw [hlen], fun h0 => ?_, by omega, by omega⟩
    rw [hlen] at h0
    have hc0 := hcell 0 (by omega)
    obtain ⟨g, off, e, hg⟩ := add_spot hc0
    have ha : x.add 0 = x := by simp [Addr.add]
    rw [ha] at e
    subst e
    have hadd : ∀ j, (⟨g, off, none⟩ : Addr).add j = ⟨g, off + j, none⟩ := fun j => by unfold Addr.add; split <;> simp_all
    refine ⟨g, off, rfl, hg, fun j hj => ?_⟩
    have hj2 : j < zs.length := by omega
    have h1 := hcell j hj2
    rw [hadd] at h1
    rw [h1]
    simp [List.getD, hj2]
/-- A parity out of its reading. -/
theorem par_trod {w : World} {base : Nat} {spare : Nat → Bool} {held : Bool} {fuel : Nat} {a : Addr} {cs : List Value} {D : DataW H} {Pl : List MemPlace} {i : Nat}
    (hc : w.cells? base (a.add i) 2 = some cs) (h : DataW.trod enc Try.prog w base spare held fuel 55 cs = some (D, Pl)) (hw : ∀ n ∈ D.weights Try.prog 55, n ≤ reachBytes) :
    ∃ p : Pr, ∃ g off, a.add i = ⟨g, off, none⟩ ∧ PrAt w (LT w.heap.size) g off p := by
  obtain ⟨_, hl, hat⟩ := World.cells?_some hc
  obtain ⟨xs, n, _, hx, _, hxs, hf⟩ := DataW.trod_struct Try.underlying55 h
  match cs, hl with
  | [v0, v1], _ =>
    have f0 : DataW.trod enc Try.prog w base spare held n 3 (([v0, v1].drop 0).take (Try.prog.cellsOf 3)) = xs[0]? := hf 0 _ rfl
    have f1 : DataW.trod enc Try.prog w base spare held n 28 (([v0, v1].drop 1).take (Try.prog.cellsOf 28)) = xs[1]? := hf 1 _ rfl
    match xs, hxs with
    | [y0, (D1, P1)], _ =>
      have g0 : DataW.trod enc Try.prog w base spare held n 3 [v0] = some y0 := by rw [Try.cells3] at f0; exact f0
      have g1 : DataW.trod enc Try.prog w base spare held n 28 [v1] = some (D1, P1) := by rw [Try.cells28] at f1; exact f1
      injection hx with hD _
      obtain ⟨m, e0, _, _⟩ := DataW.trod_int Try.underlying3 g0
      obtain ⟨X, c, l, e1, h3, h4, h5⟩ := block_trod g1 (fun k hk => hw k (by
        subst hD
        simp only [DataW.weights, Try.underlying55, List.map_cons, List.map_nil, DataW.weightsEach, List.mem_append]
        exact Or.inr (Or.inl hk)))
      simp only [List.cons.injEq, and_true] at e0
      subst e0 e1
      have c0 := hat 0 (by omega)
      have c1 := hat 1 (by omega)
      rw [add_two] at c0 c1
      obtain ⟨g, off, e, hg⟩ := add_spot c0
      rw [Nat.add_zero] at e c0
      rw [e] at c0
      have e1 : a.add (i + 1) = ⟨g, off + 1, none⟩ := by
        rw [← add_two, e]
        unfold Addr.add
        split <;> simp_all
      rw [e1] at c1
      exact ⟨⟨m, l⟩, g, off, e, X, c, c0, c1, RdS.of_rd h3, h4, h5⟩
theorem pars_trod {w : World} {base : Nat} {spare : Nat → Bool} {held : Bool} {fuel : Nat} {v : Value} {D : DataW H} {Pl : List MemPlace}
    (h : DataW.trod enc Try.prog w base spare held fuel 49 [v] = some (D, Pl)) (hw : ∀ n ∈ D.weights Try.prog 49, n ≤ reachBytes) : ∃ A k, ∃ ps : List Pr, v = .slice A ps.length k ∧ PrsAt w (LT w.heap.size) A ps ∧ ps.length ≤ k ∧ ps.length ≤ 140737488351232 := by
  rcases Go.Deep.open_slice Try.underlying49 h with ⟨hcs, _⟩ | ⟨x, l, c, m, n, V, Pl', hcs, _, hl, hm, hmm, hx, hi⟩
  · simp at hcs
    subst hcs
    exact ⟨none, 0, [], rfl, PrsAt.nil, Nat.le_refl _, Nat.zero_le _⟩
  · simp at hcs
    subst hcs
    injection hx with hD _
    subst hD
    obtain ⟨ps, hn, hp⟩ := row_of (w := w) (a := x) (len := l) (sz := 2) (R := fun g off p => PrAt w (LT w.heap.size) g off p ∧ g < w.heap.size) (fun _ _ _ h => h.2) (fun i hil => by
      obtain ⟨cs', h1, h2⟩ := hi i (by rw [hmm]; split <;> omega)
      rw [Try.cells55] at h1
      obtain ⟨p, g, off, e, hp⟩ := par_trod h1 h2 (fun k hk => hw k (by
        simp only [DataW.weights, Try.underlying49, List.mem_cons, List.mem_append]
        exact Or.inr (Or.inl (weights_mem_all (List.mem_map.2 ⟨i, by simpa using hil, rfl⟩) k hk))))
      refine ⟨p, g, off, e, hp, ?_⟩
      obtain ⟨_, _, c0, _⟩ := hp
      rcases Nat.lt_or_ge g w.heap.size with h1 | h1
      · exact h1
      · simp [World.cell?, Array.getElem?_eq_none h1] at c0)
    have hb := hw _ (by simp only [DataW.weights, Try.underlying49]; exact List.mem_cons_self)
    rw [show Try.prog.bytesOf 55 = 32 by kernel_rfl] at hb
    simp only [List.length_map, List.length_range, reachBytes] at hb
    refine ⟨some x, c, ps, by rw [hn], fun h0 => ?_, by omega, by omega⟩
    obtain ⟨g, off, e, hg, hall⟩ := hp h0
    exact ⟨g, off, e, hg, fun j hj => (hall j hj).1⟩
/-- A zone out of its reading. -/
theorem zone_trod {w : World} {base : Nat} {spare : Nat → Bool} {held : Bool} {fuel : Nat} {a : Addr} {cs : List Value} {D : DataW H} {Pl : List MemPlace} {i : Nat}
    (hc : w.cells? base (a.add i) 6 = some cs) (h : DataW.trod enc Try.prog w base spare held fuel 51 cs = some (D, Pl)) (hw : ∀ n ∈ D.weights Try.prog 51, n ≤ reachBytes) :
    ∃ z : Zn, ∃ g off, a.add i = ⟨g, off, none⟩ ∧ ZnAt w (LT w.heap.size) g off z := by
  obtain ⟨_, hl, hat⟩ := World.cells?_some hc
  obtain ⟨xs, n, _, hx, _, hxs, hf⟩ := DataW.trod_struct Try.underlying51 h
  match cs, hl with
  | [v0, v1, v2, v3, v4, v5], _ =>
    have f0 : DataW.trod enc Try.prog w base spare held n 3 (([v0, v1, v2, v3, v4, v5].drop 0).take (Try.prog.cellsOf 3)) = xs[0]? := hf 0 _ rfl
    rw [Try.cells3] at f0
    have f1 : DataW.trod enc Try.prog w base spare held n 3 (([v0, v1, v2, v3, v4, v5].drop 1).take (Try.prog.cellsOf 3)) = xs[1]? := hf 1 _ rfl
    rw [Try.cells3] at f1
    have f2 : DataW.trod enc Try.prog w base spare held n 4 (([v0, v1, v2, v3, v4, v5].drop 2).take (Try.prog.cellsOf 4)) = xs[2]? := hf 2 _ rfl
    rw [Try.cells4] at f2
    have f3 : DataW.trod enc Try.prog w base spare held n 3 (([v0, v1, v2, v3, v4, v5].drop 3).take (Try.prog.cellsOf 3)) = xs[3]? := hf 3 _ rfl
    rw [Try.cells3] at f3
    have f4 : DataW.trod enc Try.prog w base spare held n 4 (([v0, v1, v2, v3, v4, v5].drop 4).take (Try.prog.cellsOf 4)) = xs[4]? := hf 4 _ rfl
    rw [Try.cells4] at f4
    have f5 : DataW.trod enc Try.prog w base spare held n 49 (([v0, v1, v2, v3, v4, v5].drop 5).take (Try.prog.cellsOf 49)) = xs[5]? := hf 5 _ rfl
    rw [Try.cells49] at f5
    match xs, hxs with
    | [y0, y1, y2, y3, y4, (D5, P5)], _ =>
      have g0 : DataW.trod enc Try.prog w base spare held n 3 [v0] = some y0 := f0
      obtain ⟨m0, e0, _, _⟩ := DataW.trod_int Try.underlying3 g0
      simp only [List.cons.injEq, and_true] at e0
      subst e0
      have g1 : DataW.trod enc Try.prog w base spare held n 3 [v1] = some y1 := f1
      obtain ⟨m1, e1, _, _⟩ := DataW.trod_int Try.underlying3 g1
      simp only [List.cons.injEq, and_true] at e1
      subst e1
      have g2 : DataW.trod enc Try.prog w base spare held n 4 [v2] = some y2 := f2
      obtain ⟨m2, e2, _⟩ := DataW.trod_bool Try.underlying4 g2
      simp only [List.cons.injEq, and_true] at e2
      subst e2
      have g3 : DataW.trod enc Try.prog w base spare held n 3 [v3] = some y3 := f3
      obtain ⟨m3, e3, _, _⟩ := DataW.trod_int Try.underlying3 g3
      simp only [List.cons.injEq, and_true] at e3
      subst e3
      have g4 : DataW.trod enc Try.prog w base spare held n 4 [v4] = some y4 := f4
      obtain ⟨m4, e4, _⟩ := DataW.trod_bool Try.underlying4 g4
      simp only [List.cons.injEq, and_true] at e4
      subst e4
      have g5 : DataW.trod enc Try.prog w base spare held n 49 [v5] = some (D5, P5) := f5
      injection hx with hD _
      obtain ⟨X, c, ps, e5, h3, h4, h5⟩ := pars_trod g5 (fun k hk => hw k (by
        subst hD
        simp only [DataW.weights, Try.underlying51, List.map_cons, List.map_nil, DataW.weightsEach, List.mem_append]
        exact Or.inr (Or.inr (Or.inr (Or.inr (Or.inr (Or.inl hk)))))))
      subst e5
      have c0 := hat 0 (by omega)
      have c1 := hat 1 (by omega)
      have c2 := hat 2 (by omega)
      have c3 := hat 3 (by omega)
      have c4 := hat 4 (by omega)
      have c5 := hat 5 (by omega)
      rw [add_two] at c0 c1 c2 c3 c4 c5
      obtain ⟨g, off, e, hg⟩ := add_spot c0
      rw [Nat.add_zero] at e c0
      rw [e] at c0
      have e1 : ∀ k, a.add (i + k) = ⟨g, off + k, none⟩ := fun k => by
        rw [← add_two, e]
        unfold Addr.add
        split <;> simp_all
      rw [e1] at c1 c2 c3 c4 c5
      exact ⟨⟨m0, m1, m2, m3, m4, ps⟩, g, off, e, X, c, c0, c1, c2, c3, c4, c5, h3, h4, h5⟩
theorem zones_trod {w : World} {base : Nat} {spare : Nat → Bool} {held : Bool} {fuel : Nat} {v : Value} {D : DataW H} {Pl : List MemPlace}
    (h : DataW.trod enc Try.prog w base spare held fuel 25 [v] = some (D, Pl)) (hw : ∀ n ∈ D.weights Try.prog 25, n ≤ reachBytes) : ∃ A k, ∃ zs : List Zn, v = .slice A zs.length k ∧ ZnsAt w (LT w.heap.size) A zs ∧ zs.length ≤ k ∧ zs.length ≤ maxLen := by
  rcases Go.Deep.open_slice Try.underlying25 h with ⟨hcs, _⟩ | ⟨x, l, c, m, n, V, Pl', hcs, _, hl, hm, hmm, hx, hi⟩
  · simp at hcs
    subst hcs
    exact ⟨none, 0, [], rfl, ZnsAt.nil, Nat.le_refl _, Nat.zero_le _⟩
  · simp at hcs
    subst hcs
    injection hx with hD _
    subst hD
    obtain ⟨zs, hn, hp⟩ := row_of (w := w) (a := x) (len := l) (sz := 6) (R := fun g off p => ZnAt w (LT w.heap.size) g off p ∧ g < w.heap.size) (fun _ _ _ h => h.2) (fun i hil => by
      obtain ⟨cs', h1, h2⟩ := hi i (by rw [hmm]; split <;> omega)
      rw [Try.cells51] at h1
      obtain ⟨p, g, off, e, hp⟩ := zone_trod h1 h2 (fun k hk => hw k (by
        simp only [DataW.weights, Try.underlying25, List.mem_cons, List.mem_append]
        exact Or.inr (Or.inl (weights_mem_all (List.mem_map.2 ⟨i, by simpa using hil, rfl⟩) k hk))))
      refine ⟨p, g, off, e, hp, ?_⟩
      obtain ⟨_, _, c0, _⟩ := hp
      rcases Nat.lt_or_ge g w.heap.size with h1 | h1
      · exact h1
      · simp [World.cell?, Array.getElem?_eq_none h1] at c0)
    refine ⟨some x, c, zs, by rw [hn], fun h0 => ?_, by omega, by omega⟩
    obtain ⟨g, off, e, hg, hall⟩ := hp h0
    exact ⟨g, off, e, hg, fun j hj => (hall j hj).1⟩
/-- A state out of its reading. -/
theorem state_trod {w : World} {base : Nat} {spare : Nat → Bool} {held : Bool} {fuel : Nat} {cs : List Value} {D : DataW H} {Pl : List MemPlace}
    (h : DataW.trod enc Try.prog w base spare held fuel 27 cs = some (D, Pl)) (hw : ∀ n ∈ D.weights Try.prog 27, n ≤ reachBytes) :
    ∃ c : Cf, ∃ ep sq : Int, ∃ A k, ∃ st : List Int, ∃ B d, ∃ zs : List Zn, cs = [.int .i64 c.id, .int .i64 c.m, .int .i64 c.u, .int .i64 c.b, .int .i64 c.cp, .int .i64 c.z, .int .i64 c.s, .int .i64 c.mt, .int .i64 c.o, .int .i64 c.a, .int .i64 c.l, .int .i64 ep, .int .i64 sq, .slice A st.length k, .slice B zs.length d] ∧ StAt w (LT w.heap.size) A st k B zs d ∧ st.length ≤ maxLen ∧ zs.length ≤ maxLen := by
  obtain ⟨xs, n, _, hx, hl, hxs, hf⟩ := DataW.trod_struct Try.underlying27 h
  rw [Try.cells27] at hl
  match cs, hl with
  | [v0, v1, v2, v3, v4, v5, v6, v7, v8, v9, v10, v11, v12, v13, v14], _ =>
    have f0 : DataW.trod enc Try.prog w base spare held n 23 (([v0, v1, v2, v3, v4, v5, v6, v7, v8, v9, v10, v11, v12, v13, v14].drop 0).take (Try.prog.cellsOf 23)) = xs[0]? := hf 0 _ rfl
    rw [Try.cells23] at f0
    have f1 : DataW.trod enc Try.prog w base spare held n 3 (([v0, v1, v2, v3, v4, v5, v6, v7, v8, v9, v10, v11, v12, v13, v14].drop 11).take (Try.prog.cellsOf 3)) = xs[1]? := hf 1 _ rfl
    rw [Try.cells3] at f1
    have f2 : DataW.trod enc Try.prog w base spare held n 3 (([v0, v1, v2, v3, v4, v5, v6, v7, v8, v9, v10, v11, v12, v13, v14].drop 12).take (Try.prog.cellsOf 3)) = xs[2]? := hf 2 _ rfl
    rw [Try.cells3] at f2
    have f3 : DataW.trod enc Try.prog w base spare held n 24 (([v0, v1, v2, v3, v4, v5, v6, v7, v8, v9, v10, v11, v12, v13, v14].drop 13).take (Try.prog.cellsOf 24)) = xs[3]? := hf 3 _ rfl
    rw [Try.cells24] at f3
    have f4 : DataW.trod enc Try.prog w base spare held n 25 (([v0, v1, v2, v3, v4, v5, v6, v7, v8, v9, v10, v11, v12, v13, v14].drop 14).take (Try.prog.cellsOf 25)) = xs[4]? := hf 4 _ rfl
    rw [Try.cells25] at f4
    match xs, hxs with
    | [y0, y1, y2, (D3, P3), (D4, P4)], _ =>
      have g0 : DataW.trod enc Try.prog w base spare held n 23 [v0, v1, v2, v3, v4, v5, v6, v7, v8, v9, v10] = some y0 := f0
      have g1 : DataW.trod enc Try.prog w base spare held n 3 [v11] = some y1 := f1
      have g2 : DataW.trod enc Try.prog w base spare held n 3 [v12] = some y2 := f2
      have g3 : DataW.trod enc Try.prog w base spare held n 24 [v13] = some (D3, P3) := f3
      have g4 : DataW.trod enc Try.prog w base spare held n 25 [v14] = some (D4, P4) := f4
      obtain ⟨c, e0, _⟩ := conf_trod g0
      simp only [List.cons.injEq, and_true] at e0
      obtain ⟨rfl, rfl, rfl, rfl, rfl, rfl, rfl, rfl, rfl, rfl, rfl⟩ := e0
      obtain ⟨ep, e1, _, _⟩ := DataW.trod_int Try.underlying3 g1
      obtain ⟨sq, e2, _, _⟩ := DataW.trod_int Try.underlying3 g2
      simp only [List.cons.injEq, and_true] at e1 e2
      subst e1 e2
      injection hx with hD _
      obtain ⟨A, k, st, rfl, h1, h2, h3⟩ := ints_trod g3
      obtain ⟨B, d, zs, rfl, h4, h5, h6⟩ := zones_trod g4 (fun k hk => hw k (by
        subst hD
        simp only [DataW.weights, Try.underlying27, List.map_cons, List.map_nil, DataW.weightsEach, List.mem_append]
        exact Or.inr (Or.inr (Or.inr (Or.inr (Or.inl hk))))))
      exact ⟨c, ep, sq, A, k, st, B, d, zs, rfl, ⟨h1, h4, h2, h5⟩, h3, h6⟩
theorem open_state {w : World} {base b0 : Nat} {spare : Nat → Bool} {held : Bool} {r : Reach} {v : Value} {d : DataW H} {p : List MemPlace} (hv : Value.okWide Try.prog w r b0 27 v) (h : DataW.Trod enc Try.prog w base spare held 27 v d p) (hw : ∀ n ∈ d.weights Try.prog 27, n ≤ reachBytes) :
    ∃ c : Cf, ∃ ep sq : Int, ∃ A k, ∃ st : List Int, ∃ B d, ∃ zs : List Zn, v = .agg #[.int .i64 c.id, .int .i64 c.m, .int .i64 c.u, .int .i64 c.b, .int .i64 c.cp, .int .i64 c.z, .int .i64 c.s, .int .i64 c.mt, .int .i64 c.o, .int .i64 c.a, .int .i64 c.l, .int .i64 ep, .int .i64 sq, .slice A st.length k, .slice B zs.length d] ∧ StAt w (LT w.heap.size) A st k B zs d ∧ st.length ≤ maxLen ∧ zs.length ≤ maxLen := by
  obtain ⟨cs, rfl, hsz⟩ := okWide_struct Try.underlying27 hv
  obtain ⟨fuel, hf⟩ := h
  obtain ⟨c, ep, sq, A, k, st, B, d, zs, hc, h1⟩ := state_trod hf hw
  refine ⟨c, ep, sq, A, k, st, B, d, zs, ?_, h1⟩
  rcases cs with ⟨cl⟩
  simp only [Value.cells] at hc
  rw [hc]
end
end Go.Proofs.Ytaceaemombnhkaa
namespace Go.Proofs.Ytaceaemombnhkaa
set_option linter.unusedVariables false
set_option linter.unusedSimpArgs false
set_option maxRecDepth 100000
open Go.RowKit
open Go.RowKit (wrap64)
open Go.ChangeShapes Go.WideShapes Go.ChangeAt
section
variable {H : Type} {enc : TypeId × Value → H}
/-- One record out of its reading. -/
theorem rec_trod {w : World} {base : Nat} {spare : Nat → Bool} {held : Bool} {fuel : Nat} {cs : List Value} {D : DataW H} {Pl : List MemPlace}
    (h : DataW.trod enc Try.prog w base spare held fuel 30 cs = some (D, Pl)) (hw : ∀ n ∈ D.weights Try.prog 30, n ≤ reachBytes) :
    ∃ n : Nat → Int, ∃ X c, ∃ l : List UInt8, cs = [.int .i64 (n 0), .int .i64 (n 1), .int .i64 (n 2), .int .i64 (n 3), .int .i64 (n 4), .int .i64 (n 5), .int .i64 (n 6), .int .i64 (n 7), .int .i64 (n 8), .slice X l.length c] ∧ Rd w w.heap.size X l ∧ l.length ≤ c ∧ l.length ≤ 140737488351232 ∧ (∀ i, -9223372036854775808 ≤ n i ∧ n i ≤ 9223372036854775807) := by
  obtain ⟨xs, n, _, hx, hl, hxs, hf⟩ := DataW.trod_struct Try.underlying30 h
  rw [Try.cells30] at hl
  match cs, hl with
  | [v0, v1, v2, v3, v4, v5, v6, v7, v8, v9], _ =>
    have f0 : DataW.trod enc Try.prog w base spare held n 3 (([v0, v1, v2, v3, v4, v5, v6, v7, v8, v9].drop 0).take (Try.prog.cellsOf 3)) = xs[0]? := hf 0 _ rfl
    rw [Try.cells3] at f0
    have f1 : DataW.trod enc Try.prog w base spare held n 3 (([v0, v1, v2, v3, v4, v5, v6, v7, v8, v9].drop 1).take (Try.prog.cellsOf 3)) = xs[1]? := hf 1 _ rfl
    rw [Try.cells3] at f1
    have f2 : DataW.trod enc Try.prog w base spare held n 3 (([v0, v1, v2, v3, v4, v5, v6, v7, v8, v9].drop 2).take (Try.prog.cellsOf 3)) = xs[2]? := hf 2 _ rfl
    rw [Try.cells3] at f2
    have f3 : DataW.trod enc Try.prog w base spare held n 3 (([v0, v1, v2, v3, v4, v5, v6, v7, v8, v9].drop 3).take (Try.prog.cellsOf 3)) = xs[3]? := hf 3 _ rfl
    rw [Try.cells3] at f3
    have f4 : DataW.trod enc Try.prog w base spare held n 3 (([v0, v1, v2, v3, v4, v5, v6, v7, v8, v9].drop 4).take (Try.prog.cellsOf 3)) = xs[4]? := hf 4 _ rfl
    rw [Try.cells3] at f4
    have f5 : DataW.trod enc Try.prog w base spare held n 3 (([v0, v1, v2, v3, v4, v5, v6, v7, v8, v9].drop 5).take (Try.prog.cellsOf 3)) = xs[5]? := hf 5 _ rfl
    rw [Try.cells3] at f5
    have f6 : DataW.trod enc Try.prog w base spare held n 3 (([v0, v1, v2, v3, v4, v5, v6, v7, v8, v9].drop 6).take (Try.prog.cellsOf 3)) = xs[6]? := hf 6 _ rfl
    rw [Try.cells3] at f6
    have f7 : DataW.trod enc Try.prog w base spare held n 3 (([v0, v1, v2, v3, v4, v5, v6, v7, v8, v9].drop 7).take (Try.prog.cellsOf 3)) = xs[7]? := hf 7 _ rfl
    rw [Try.cells3] at f7
    have f8 : DataW.trod enc Try.prog w base spare held n 3 (([v0, v1, v2, v3, v4, v5, v6, v7, v8, v9].drop 8).take (Try.prog.cellsOf 3)) = xs[8]? := hf 8 _ rfl
    rw [Try.cells3] at f8
    have f9 : DataW.trod enc Try.prog w base spare held n 28 (([v0, v1, v2, v3, v4, v5, v6, v7, v8, v9].drop 9).take (Try.prog.cellsOf 28)) = xs[9]? := hf 9 _ rfl
    rw [Try.cells28] at f9
    match xs, hxs with
    | [y0, y1, y2, y3, y4, y5, y6, y7, y8, (D9, P9)], _ =>
      have g0 : DataW.trod enc Try.prog w base spare held n 3 [v0] = some y0 := f0
      obtain ⟨m0, e0, _, b0⟩ := DataW.trod_int Try.underlying3 g0
      simp only [List.cons.injEq, and_true] at e0
      subst e0
      have g1 : DataW.trod enc Try.prog w base spare held n 3 [v1] = some y1 := f1
      obtain ⟨m1, e1, _, b1⟩ := DataW.trod_int Try.underlying3 g1
      simp only [List.cons.injEq, and_true] at e1
      subst e1
      have g2 : DataW.trod enc Try.prog w base spare held n 3 [v2] = some y2 := f2
      obtain ⟨m2, e2, _, b2⟩ := DataW.trod_int Try.underlying3 g2
      simp only [List.cons.injEq, and_true] at e2
      subst e2
      have g3 : DataW.trod enc Try.prog w base spare held n 3 [v3] = some y3 := f3
      obtain ⟨m3, e3, _, b3⟩ := DataW.trod_int Try.underlying3 g3
      simp only [List.cons.injEq, and_true] at e3
      subst e3
      have g4 : DataW.trod enc Try.prog w base spare held n 3 [v4] = some y4 := f4
      obtain ⟨m4, e4, _, b4⟩ := DataW.trod_int Try.underlying3 g4
      simp only [List.cons.injEq, and_true] at e4
      subst e4
      have g5 : DataW.trod enc Try.prog w base spare held n 3 [v5] = some y5 := f5
      obtain ⟨m5, e5, _, b5⟩ := DataW.trod_int Try.underlying3 g5
      simp only [List.cons.injEq, and_true] at e5
      subst e5
      have g6 : DataW.trod enc Try.prog w base spare held n 3 [v6] = some y6 := f6
      obtain ⟨m6, e6, _, b6⟩ := DataW.trod_int Try.underlying3 g6
      simp only [List.cons.injEq, and_true] at e6
      subst e6
      have g7 : DataW.trod enc Try.prog w base spare held n 3 [v7] = some y7 := f7
      obtain ⟨m7, e7, _, b7⟩ := DataW.trod_int Try.underlying3 g7
      simp only [List.cons.injEq, and_true] at e7
      subst e7
      have g8 : DataW.trod enc Try.prog w base spare held n 3 [v8] = some y8 := f8
      obtain ⟨m8, e8, _, b8⟩ := DataW.trod_int Try.underlying3 g8
      simp only [List.cons.injEq, and_true] at e8
      subst e8
      have g9 : DataW.trod enc Try.prog w base spare held n 28 [v9] = some (D9, P9) := f9
      injection hx with hD _
      obtain ⟨X, c, l, e9, h3, h4, h5⟩ := block_trod g9 (fun k hk => hw k (by
        subst hD
        simp only [DataW.weights, Try.underlying30, List.map_cons, List.map_nil, DataW.weightsEach, List.mem_append]
        exact Or.inr (Or.inr (Or.inr (Or.inr (Or.inr (Or.inr (Or.inr (Or.inr (Or.inr (Or.inl hk)))))))))))
      subst e9
      refine ⟨nine m0 m1 m2 m3 m4 m5 m6 m7 m8, X, c, l, rfl, h3, h4, h5, fun i => ?_⟩
      match i with
      | 0 => exact bounds_i64 b0
      | 1 => exact bounds_i64 b1
      | 2 => exact bounds_i64 b2
      | 3 => exact bounds_i64 b3
      | 4 => exact bounds_i64 b4
      | 5 => exact bounds_i64 b5
      | 6 => exact bounds_i64 b6
      | 7 => exact bounds_i64 b7
      | 8 => exact bounds_i64 b8
      | i + 9 => exact ⟨by show _ ≤ (0 : Int); omega, by show (0 : Int) ≤ _; omega⟩
theorem open_rec {w : World} {base b0 : Nat} {spare : Nat → Bool} {held : Bool} {r : Reach} {v : Value} {d : DataW H} {p : List MemPlace} (hv : Value.okWide Try.prog w r b0 30 v) (h : DataW.Trod enc Try.prog w base spare held 30 v d p) (hw : ∀ n ∈ d.weights Try.prog 30, n ≤ reachBytes) :
    ∃ n : Nat → Int, ∃ X c, ∃ l : List UInt8, v = .agg #[.int .i64 (n 0), .int .i64 (n 1), .int .i64 (n 2), .int .i64 (n 3), .int .i64 (n 4), .int .i64 (n 5), .int .i64 (n 6), .int .i64 (n 7), .int .i64 (n 8), .slice X l.length c] ∧ Rd w w.heap.size X l ∧ l.length ≤ c ∧ l.length ≤ 140737488351232 ∧ (∀ i, -9223372036854775808 ≤ n i ∧ n i ≤ 9223372036854775807) := by
  obtain ⟨cs, rfl, hsz⟩ := okWide_struct Try.underlying30 hv
  obtain ⟨fuel, hf⟩ := h
  obtain ⟨n, X, c, l, hc, h1, h2, h3, h4⟩ := rec_trod hf hw
  refine ⟨n, X, c, l, ?_, h1, h2, h3, h4⟩
  rcases cs with ⟨cl⟩
  simp only [Value.cells] at hc
  rw [hc]
end
end Go.Proofs.Ytaceaemombnhkaa
namespace Go.Proofs.Ytaceaemombnhkaa
set_option linter.unusedVariables false
set_option maxRecDepth 100000
set_option linter.unusedSimpArgs false
open Go.RowKit
open Go.RowKit (wrap64)

/-- The two boxes of the law. -/
def ApTwo (cs : Array Value) (n : Nat → Int) (X : Option Addr) (b : List UInt8) (x : Nat) (w w0 : World) : Prop := Box w0 w.heap.size 27 cs ∧ Box w0 (w.heap.size + 1) 30 #[.int .i64 (n 0), .int .i64 (n 1), .int .i64 (n 2), .int .i64 (n 3), .int .i64 (n 4), .int .i64 (n 5), .int .i64 (n 6), .int .i64 (n 7), .int .i64 (n 8), .slice X b.length x] ∧ Below w.heap.size w w0 ∧ w.heap.size + 2 ≤ w0.heap.size
theorem ApTwo.later {cs : Array Value} {n : Nat → Int} {X : Option Addr} {b : List UInt8} {x : Nat} {w w0 w1 : World} (h : ApTwo cs n X b x w w0) (hb : Below w0.heap.size w0 w1) : ApTwo cs n X b x w w1 :=
  ⟨h.1.later hb, h.2.1.later hb, h.2.2.1.trans (hb.mono h.2.2.1.size), Nat.le_trans h.2.2.2 hb.size⟩
theorem ApTwo.turn {cs : Array Value} {n : Nat → Int} {X : Option Addr} {b : List UInt8} {x g : Nat} {w w0 w1 : World} (h : ApTwo cs n X b x w w0) (ht : Turn [g] w0 w1) (hg : w.heap.size + 2 ≤ g) : ApTwo cs n X b x w w1 :=
  ⟨h.1.turn ht (by simp; omega), h.2.1.turn ht (by simp; omega), h.2.2.1.trans (ht.below (fun k hk => by have : k = g := by { simpa using hk }; omega) h.2.2.1.size), Nat.le_trans h.2.2.2 ht.size⟩
theorem Applied.len {s t : St} {n : Nat → Int} {b : List UInt8} {er : Int} (h : Applied s n b t er) : t.st.length ≤ s.st.length ∧ t.zs.length ≤ s.zs.length := by
  rcases h with ⟨_, rfl, _⟩ | ⟨_, _, rfl, _⟩ | ⟨_, _, rfl, _⟩
  · exact ⟨Nat.zero_le _, Nat.zero_le _⟩
  · exact ⟨Nat.zero_le _, Nat.zero_le _⟩
  · unfold nextS
    split
    · exact ⟨Nat.le_of_eq (List.length_set ..), Nat.le_of_eq (List.length_map ..)⟩
    · refine ⟨Nat.le_refl _, ?_⟩
      show (nextZs s.st s.zs n b).length ≤ _
      unfold nextZs
      split
      · exact Nat.le_of_eq (List.length_set ..)
      · exact Nat.le_refl _
/-- An answer, boxed: its rows lie below. -/
def ApAns (cs : Array Value) (s t : St) (n : Nat → Int) (b : List UInt8) (er : Int) (A : Option Addr) (k : Nat) (D : Option Addr) (d : Nat) (g : Nat) (w1 : World) : Prop :=
  cs = #[.int .i64 t.c.id, .int .i64 t.c.m, .int .i64 t.c.u, .int .i64 t.c.b, .int .i64 t.c.cp, .int .i64 t.c.z, .int .i64 t.c.s, .int .i64 t.c.mt, .int .i64 t.c.o, .int .i64 t.c.a, .int .i64 t.c.l, .int .i64 t.ep, .int .i64 t.sq, .slice A t.st.length k, .slice D t.zs.length d] ∧ Applied s n b t er ∧ StAt w1 (LT g) A t.st k D t.zs d ∧ Box w1 g 27 cs ∧ g + 1 ≤ w1.heap.size
theorem ApAns.later {cs : Array Value} {s t : St} {n : Nat → Int} {b : List UInt8} {er : Int} {A : Option Addr} {k : Nat} {D : Option Addr} {d g : Nat} {w1 w2 : World} (h : ApAns cs s t n b er A k D d g w1) (hb : Below w1.heap.size w1 w2) : ApAns cs s t n b er A k D d g w2 :=
  ⟨h.1, h.2.1, h.2.2.1.keep (Kept.of_below hb (fun k hk => by have h1 := h.2.2.2.2; have : k < g := hk; omega)), h.2.2.2.1.later hb, Nat.le_trans h.2.2.2.2 hb.size⟩
theorem ApAns.turn {cs : Array Value} {s t : St} {n : Nat → Int} {b : List UInt8} {er : Int} {A : Option Addr} {k : Nat} {D : Option Addr} {d g g2 : Nat} {w1 w2 : World} (h : ApAns cs s t n b er A k D d g w1) (ht : Turn [g2] w1 w2) (hg : g < g2) : ApAns cs s t n b er A k D d g w2 :=
  ⟨h.1, h.2.1, h.2.2.1.keep (Kept.turn ht (fun k hk => ⟨by have h1 := h.2.2.2.2; have : k < g := hk; omega, by have : k < g := hk; simp; omega⟩)), h.2.2.2.1.turn ht (by simp; omega), Nat.le_trans h.2.2.2.2 ht.size⟩
set_option maxHeartbeats 4000000 in
theorem stateApplies_walk (c : Cf) (ep sq : Int) (A : Option Addr) (st : List Int) (k : Nat) (D : Option Addr) (zs : List Zn) (d : Nat) (n : Nat → Int) (X : Option Addr) (b : List UInt8) (x : Nat) (w : World) (h : StAt w (LT w.heap.size) A st k D zs d) (hl1 : st.length ≤ maxLen) (hl2 : zs.length ≤ maxLen) (hnw : ∀ i, -9223372036854775808 ≤ n i ∧ n i ≤ 9223372036854775807) (hb : Rd w w.heap.size X b) (hbx : b.length ≤ x) :
    Calls Try.prog 3 #[(.agg #[.int .i64 c.id, .int .i64 c.m, .int .i64 c.u, .int .i64 c.b, .int .i64 c.cp, .int .i64 c.z, .int .i64 c.s, .int .i64 c.mt, .int .i64 c.o, .int .i64 c.a, .int .i64 c.l, .int .i64 ep, .int .i64 sq, .slice A st.length k, .slice D zs.length d]), (.agg #[.int .i64 (n 0), .int .i64 (n 1), .int .i64 (n 2), .int .i64 (n 3), .int .i64 (n 4), .int .i64 (n 5), .int .i64 (n 6), .int .i64 (n 7), .int .i64 (n 8), .slice X b.length x])] w (Says w (.bool true)) := by
  obtain ⟨cs, hcs⟩ : ∃ cs : Array Value, cs = #[.int .i64 c.id, .int .i64 c.m, .int .i64 c.u, .int .i64 c.b, .int .i64 c.cp, .int .i64 c.z, .int .i64 c.s, .int .i64 c.mt, .int .i64 c.o, .int .i64 c.a, .int .i64 c.l, .int .i64 ep, .int .i64 sq, .slice A st.length k, .slice D zs.length d] := ⟨_, rfl⟩
  have HCN : Hid (cs.size = 15 ∧ cs.all (·.oneCell') = true) := by rw [hcs]; exact ⟨rfl, by first | kernel_rfl | simp [Value.oneCell']⟩
  have HM : Hid (∀ w', Below w.heap.size w w' → Calls Try.prog 7 #[.agg cs] w' (MuchG w' st zs)) := fun w' hb => by rw [hcs]; exact much_any c ep sq A st k D zs d w' (h.later hb) hl1 hl2
  have HAP : Hid (st.length ≤ 30 ∧ zs.length ≤ 70 ∧ b.length ≤ 2000 → ∀ w', Below w.heap.size w w' → Calls Try.prog 9 #[.agg cs, (.agg #[.int .i64 (n 0), .int .i64 (n 1), .int .i64 (n 2), .int .i64 (n 3), .int .i64 (n 4), .int .i64 (n 5), .int .i64 (n 6), .int .i64 (n 7), .int .i64 (n 8), .slice X b.length x])] w' (GotA w' ⟨c, ep, sq, st, zs⟩ n b) ∧ Calls Try.prog 10 #[.agg cs, (.agg #[.int .i64 (n 0), .int .i64 (n 1), .int .i64 (n 2), .int .i64 (n 3), .int .i64 (n 4), .int .i64 (n 5), .int .i64 (n 6), .int .i64 (n 7), .int .i64 (n 8), .slice X b.length x])] w' (GotA w' ⟨c, ep, sq, st, zs⟩ n b)) := fun hl w' hb2 => by
    rw [hcs]
    have hr := (hb.below hb2).more hb2.size
    exact ⟨apply_any c ep sq A st k D zs d n X b x w' (h.later hb2) (by omega) (by omega) hr (by omega) hbx, rapply_any c ep sq A st k D zs d n X b x w' (h.later hb2) (by omega) (by omega) hnw hr (by omega) hbx⟩
  rw [← hcs]
  clear h hl1 hl2 hnw hb hbx hcs
  go_enter Try.func3, Try.ntmps3
  go_upto_region 1 with (first | (refine list_box27 rfl (.tmp 0) rfl cs rfl ?_))
  have HV : Hid (ApTwo cs n X b x w ((w.alloc (.cells cs 27)).alloc (.cells #[.int .i64 (n 0), .int .i64 (n 1), .int .i64 (n 2), .int .i64 (n 3), .int .i64 (n 4), .int .i64 (n 5), .int .i64 (n 6), .int .i64 (n 7), .int .i64 (n 8), .slice X b.length x] 30))) := by
    obtain ⟨q1, q2, q3, q4⟩ := two_boxes' w 27 30 cs #[.int .i64 (n 0), .int .i64 (n 1), .int .i64 (n 2), .int .i64 (n 3), .int .i64 (n 4), .int .i64 (n 5), .int .i64 (n 6), .int .i64 (n 7), .int .i64 (n 8), .slice X b.length x]
    exact ⟨q1, q2, q3, by omega⟩
  generalize ((w.alloc (.cells cs 27)).alloc (.cells #[.int .i64 (n 0), .int .i64 (n 1), .int .i64 (n 2), .int .i64 (n 3), .int .i64 (n 4), .int .i64 (n 5), .int .i64 (n 6), .int .i64 (n 7), .int .i64 (n 8), .slice X b.length x] 30)) = w0 at HV ⊢
  go_wp2_with (first | (refine list_load27 rfl (.tmp 2) rfl w.heap.size cs HV.out.1 HCN.out.1 rfl ?_))
  refine (HM.out w0 HV.out.2.2.1).mono ?_
  rintro e w1 ⟨bm, rfl, hm, hb⟩
  have HV1 := Lib.hid (HV.out.later hb)
  have HBM := Lib.hid hm
  clear hb hm HV HM
  obtain ⟨r0, r1, r2, r3, r4, r5, r6, r7, r8, r9⟩ := box10 HV1.out.2.1
  cases bm with
  | true =>
    go_wp2_with fail
    refine (live_any w1).mono ?_
    rintro e w9 ⟨rfl, hb⟩
    have HE := Lib.hid (HV1.out.2.2.1.trans (hb.mono HV1.out.2.2.1.size))
    clear hb
    go_wp2
    go_ret
    exact ⟨rfl, HE.out⟩
  | false =>
    have HSM := Lib.hid (HBM.out rfl)
    clear HBM
    by_cases hlb : (2000 : Int) < (b.length : Int)
    · skip
      go_wp2_with fail
      refine (live_any w1).mono ?_
      rintro e w9 ⟨rfl, hb⟩
      have HE := Lib.hid (HV1.out.2.2.1.trans (hb.mono HV1.out.2.2.1.size))
      clear hb
      go_wp2
      go_ret
      exact ⟨rfl, HE.out⟩
    have HL : Hid (st.length ≤ 30 ∧ zs.length ≤ 70 ∧ b.length ≤ 2000) := ⟨HSM.out.2.1, HSM.out.1, by omega⟩
    go_wp2_with (refine list_load27 rfl (.tmp 2) rfl w.heap.size cs HV1.out.1 HCN.out.1 rfl ?_)
    refine (HAP.out HL.out w1 HV1.out.2.2.1).1.mono ?_
    rintro e w2 ⟨t, er, A2, k2, D2, d2, rfl, hap, hst, hb⟩
    obtain ⟨cs2, hcs2⟩ : ∃ cs2 : Array Value, cs2 = #[.int .i64 t.c.id, .int .i64 t.c.m, .int .i64 t.c.u, .int .i64 t.c.b, .int .i64 t.c.cp, .int .i64 t.c.z, .int .i64 t.c.s, .int .i64 t.c.mt, .int .i64 t.c.o, .int .i64 t.c.a, .int .i64 t.c.l, .int .i64 t.ep, .int .i64 t.sq, .slice A2 t.st.length k2, .slice D2 t.zs.length d2] := ⟨_, rfl⟩
    have HCN2 : Hid (cs2.size = 15 ∧ cs2.all (·.oneCell') = true) := by rw [hcs2]; exact ⟨rfl, by first | kernel_rfl | simp [Value.oneCell']⟩
    have HBF := Lib.hid (Box.fresh w2 27 #[.int .i64 0, .int .i64 0, .int .i64 0, .int .i64 0, .int .i64 0, .int .i64 0, .int .i64 0, .int .i64 0, .int .i64 0, .int .i64 0, .int .i64 0, .int .i64 0, .int .i64 0, .slice none 0 0, .slice none 0 0])
    have HV2 := Lib.hid (HV1.out.later hb)
    have HST := Lib.hid hst
    have HAD := Lib.hid hap
    have HC2 := Lib.hid hcs2
    rw [← hcs2]
    clear hb hst hap hcs2 HV1 hlb r0 r1 r2 r3 r4 r5 r6 r7 r8 r9
    go_upto_region 4 with (refine list_store27 rfl (.tmp 5) (.tmp 22) rfl w2.heap.size cs2 #[.int .i64 0, .int .i64 0, .int .i64 0, .int .i64 0, .int .i64 0, .int .i64 0, .int .i64 0, .int .i64 0, .int .i64 0, .int .i64 0, .int .i64 0, .int .i64 0, .int .i64 0, .slice none 0 0, .slice none 0 0] HBF.out rfl HCN2.out.1 HCN2.out.2 rfl rfl (fun w3 q1 q2 => ?_))
    have HV3 : Hid (ApTwo cs n X b x w w3) := (HV2.out.later (below_one w2 (.cells #[.int .i64 0, .int .i64 0, .int .i64 0, .int .i64 0, .int .i64 0, .int .i64 0, .int .i64 0, .int .i64 0, .int .i64 0, .int .i64 0, .int .i64 0, .int .i64 0, .int .i64 0, .slice none 0 0, .slice none 0 0] 27))).turn (q2 [w2.heap.size] (by simp)) HV2.out.2.2.2
    have HA3 : Hid (ApAns cs2 ⟨c, ep, sq, st, zs⟩ t n b er A2 k2 D2 d2 w2.heap.size w3) := by
      have hb1 := below_one w2 (.cells #[.int .i64 0, .int .i64 0, .int .i64 0, .int .i64 0, .int .i64 0, .int .i64 0, .int .i64 0, .int .i64 0, .int .i64 0, .int .i64 0, .int .i64 0, .int .i64 0, .int .i64 0, .slice none 0 0, .slice none 0 0] 27)
      have ht := q2 [w2.heap.size] (by simp)
      have hb3 : Below w2.heap.size w2 w3 := hb1.trans (ht.below (by simp) hb1.size)
      exact ⟨HC2.out, HAD.out, HST.out.keep (Kept.below hb3), q1, q1.lt⟩
    have HG2 : Hid (w.heap.size + 2 ≤ w2.heap.size) := HV2.out.2.2.2
    clear q1 q2 HBF HV2 HST HC2
    generalize w2.heap.size = g2 at HA3 HG2 ⊢
    obtain ⟨r0, r1, r2, r3, r4, r5, r6, r7, r8, r9⟩ := box10 HV3.out.2.1
    go_wp2_with (refine list_load27 rfl (.tmp 2) rfl w.heap.size cs HV3.out.1 HCN.out.1 rfl ?_)
    refine (HAP.out HL.out w3 HV3.out.2.2.1).2.mono ?_
    rintro e w4 ⟨t2, er2, A4, k4, D4, d4, rfl, hap, hst, hb⟩
    obtain ⟨rfl, rfl⟩ := HAD.out.same hap
    obtain ⟨cs4, hcs4⟩ : ∃ cs4 : Array Value, cs4 = #[.int .i64 t.c.id, .int .i64 t.c.m, .int .i64 t.c.u, .int .i64 t.c.b, .int .i64 t.c.cp, .int .i64 t.c.z, .int .i64 t.c.s, .int .i64 t.c.mt, .int .i64 t.c.o, .int .i64 t.c.a, .int .i64 t.c.l, .int .i64 t.ep, .int .i64 t.sq, .slice A4 t.st.length k4, .slice D4 t.zs.length d4] := ⟨_, rfl⟩
    have HCN4 : Hid (cs4.size = 15 ∧ cs4.all (·.oneCell') = true) := by rw [hcs4]; exact ⟨rfl, by first | kernel_rfl | simp [Value.oneCell']⟩
    have HBF := Lib.hid (Box.fresh w4 27 #[.int .i64 0, .int .i64 0, .int .i64 0, .int .i64 0, .int .i64 0, .int .i64 0, .int .i64 0, .int .i64 0, .int .i64 0, .int .i64 0, .int .i64 0, .int .i64 0, .int .i64 0, .slice none 0 0, .slice none 0 0])
    have HV4 := Lib.hid (HV3.out.later hb)
    have HA4 := Lib.hid (HA3.out.later hb)
    have HST := Lib.hid hst
    have HC4 := Lib.hid hcs4
    rw [← hcs4]
    clear hb hst hap hcs4 HV3 HA3 HAP r0 r1 r2 r3 r4 r5 r6 r7 r8 r9
    go_upto_region 5 with (refine list_store27 rfl (.tmp 7) (.tmp 28) rfl w4.heap.size cs4 #[.int .i64 0, .int .i64 0, .int .i64 0, .int .i64 0, .int .i64 0, .int .i64 0, .int .i64 0, .int .i64 0, .int .i64 0, .int .i64 0, .int .i64 0, .int .i64 0, .int .i64 0, .slice none 0 0, .slice none 0 0] HBF.out rfl HCN4.out.1 HCN4.out.2 rfl rfl (fun w5 q1 q2 => ?_))
    have HE5 : Hid (ApAns cs2 ⟨c, ep, sq, st, zs⟩ t n b er A2 k2 D2 d2 g2 w5 ∧ ApAns cs4 ⟨c, ep, sq, st, zs⟩ t n b er A4 k4 D4 d4 w4.heap.size w5 ∧ Below w.heap.size w w5) := by
      have hb1 := below_one w4 (.cells #[.int .i64 0, .int .i64 0, .int .i64 0, .int .i64 0, .int .i64 0, .int .i64 0, .int .i64 0, .int .i64 0, .int .i64 0, .int .i64 0, .int .i64 0, .int .i64 0, .int .i64 0, .slice none 0 0, .slice none 0 0] 27)
      have ht := q2 [w4.heap.size] (by simp)
      have hb3 : Below w4.heap.size w4 w5 := hb1.trans (ht.below (by simp) hb1.size)
      exact ⟨HA4.out.later hb3, ⟨HC4.out, HAD.out, HST.out.keep (Kept.below hb3), q1, q1.lt⟩, HV4.out.2.2.1.trans (hb3.mono HV4.out.2.2.1.size)⟩
    clear q1 q2 HBF HV4 HA4 HST HC4
    generalize w4.heap.size = g4 at HE5 ⊢
    have HSA : Hid (Calls Try.prog 11 #[.agg cs2, .agg cs4] w5 (SaysP w5 True)) := by
      have hln := HAD.out.len
      have hl := HL.out
      dsimp only at hln
      rw [HE5.out.1.1, HE5.out.2.1.1]
      refine (rsame_any t.c t.ep t.sq A2 t.st k2 D2 t.zs d2 t.c t.ep t.sq A4 t.st k4 D4 t.zs d4 w5 (HE5.out.1.2.2.1.mono (LT.up (by have := HE5.out.1.2.2.2.2; omega))) (HE5.out.2.1.2.2.1.mono (LT.up (by have := HE5.out.2.1.2.2.2.2; omega))) (by omega) (by omega)).mono ?_
      rintro e w6 ⟨bb, rfl, h1, h2⟩
      exact ⟨bb, rfl, by rw [h1]; simp, h2⟩
    go_wp2_with (first | (refine list_load27g (by rfl) (.tmp 5) rfl g2 cs2 HE5.out.1.2.2.2.1 HCN2.out.1 rfl ?_) | (refine list_load27g (by rfl) (.tmp 7) rfl g4 cs4 HE5.out.2.1.2.2.2.1 HCN4.out.1 rfl ?_))
    refine HSA.out.mono ?_
    rintro e w6 ⟨bb, rfl, h1, h2⟩
    obtain rfl : bb = true := h1.2 trivial
    have HB6 := Lib.hid (HE5.out.2.2.trans (h2.mono HE5.out.2.2.size))
    clear h1 h2 HE5 HSA
    go_wp2_with fail
    refine (code_any er w6).mono ?_
    rintro e w7 ⟨rfl, hb⟩
    have HB7 : Hid (Below w.heap.size w w7) := by rw [← hb]; exact HB6.out
    clear hb HB6
    go_wp2_with fail
    refine (live_any w7).mono ?_
    rintro e w9 ⟨rfl, hb⟩
    have HE := Lib.hid (HB7.out.trans (hb.mono HB7.out.size))
    clear hb
    go_wp2
    go_ret
    exact ⟨rfl, HE.out⟩
end Go.Proofs.Ytaceaemombnhkaa
namespace Go.Proofs.Ytaceaemombnhkaa.stateApplies
open Go.ChangeShapes Go.WideShapes Go.ChangeAt Go.RowKit
open Go.ChangeMaps (open_string shut_string)
set_option linter.unusedVariables false

theorem own : ownKnob Try.prog.godebug = none := by kernel_rfl
theorem laidOut : laidOutB Try.prog = true := by kernel_rfl

set_option maxRecDepth 100000 in
theorem lifted (os : Os) (started : os.Started) (H : Type) (enc : TypeId × Value → H) :
    ReturnsInHanded {} Try.checked os 3 .any (Rows.stateAppliesSpec.pre6 enc Try.prog Try.f3 Rows.stateAppliesRow.domain false) (Rows.stateAppliesSpec.post enc Try.prog Try.f3 false true false false) := by
  refine returnsInHanded_of_change_sized (C := Try.checked) own started (by kernel_rfl) Try.func3
    (ChangeSpec.witness6 (enc := enc) (C := Try.checked) false ⟨#[], #[.agg #[.int .i64 0, .int .i64 0, .int .i64 0, .int .i64 0, .int .i64 0, .int .i64 0, .int .i64 0, .int .i64 0, .int .i64 0, .int .i64 0, .int .i64 0, .int .i64 0, .int .i64 0, .slice none 0 0, .slice none 0 0], .agg #[.int .i64 0, .int .i64 0, .int .i64 0, .int .i64 0, .int .i64 0, .int .i64 0, .int .i64 0, .int .i64 0, .int .i64 0, .slice none 0 0]], []⟩ 8 (by kernel_rfl) (by kernel_rfl) (by kernel_rfl) (by kernel_rfl)) ?_
  intro W base args ds gs before hval0 hW hcnd hsz0 _
  have hval : ∀ (j : Nat) t v, Try.f3.params[j]? = some t → args[j]? = some v → Value.okWide Try.prog W .any base t v := hval0
  have hsz : (DataW.weightsEach Try.prog (Try.f3.params.toList ++ Rows.stateAppliesSpec.plain.varTypes Try.prog) (ds ++ gs)).all (· ≤ reachBytes) = true := hsz0
  have hW' := hW
  obtain ⟨p, q, hA0, hV, rfl, hfz, hnd⟩ := hW
  have hA : DataW.TrodAll enc Try.prog W 0 (fun _ => true) true Try.f3.params.toList args.toList ds p := hA0
  rw [Try.params3] at hA hval hsz
  obtain ⟨v0, vs0, d0, ds0, p0, q0, hargs, rfl, rfl, h0, r0⟩ := trodAll_cons hA
  obtain ⟨v1, vs1, d1, ds1, p1, q1, rfl, rfl, rfl, h1, r1⟩ := trodAll_cons r0
  obtain ⟨rfl, rfl, rfl⟩ := trodAll_nil r1
  obtain rfl : args = #[v0, v1] := by cases args; simp_all
  obtain ⟨rfl, rfl⟩ := trodVars_none hV
  have k0 := h0
  have lt0 : ∀ x ∈ p0, x.block < W.heap.size := by obtain ⟨m, hm⟩ := k0; exact DataW.trod_lt m _ _ _ hm
  have hw0 : ∀ n ∈ d0.weights Try.prog 27, n ≤ reachBytes := fun n hn => by
    have := List.all_eq_true.1 hsz n (DataW.weights_mem_each (j := 0) rfl rfl n hn)
    simpa using this
  obtain ⟨cc0, ep0, sq0, AA0, kk0, st0, BB0, dd0, zs0, rfl, hR0, hL0, hM0⟩ := open_state (hval 0 27 v0 rfl rfl) h0 hw0
  have k1 := h1
  have lt1 : ∀ x ∈ p1, x.block < W.heap.size := by obtain ⟨m, hm⟩ := k1; exact DataW.trod_lt m _ _ _ hm
  have hw1 : ∀ n ∈ d1.weights Try.prog 30, n ≤ reachBytes := fun n hn => by
    have := List.all_eq_true.1 hsz n (DataW.weights_mem_each (j := 1) rfl rfl n hn)
    simpa using this
  obtain ⟨n1, A1, c1, l1, rfl, hR1, hC1, hL1, hN1⟩ := open_rec (hval 1 30 v1 rfl rfl) h1 hw1
  clear hA0 hval0 hsz0
  refine (stateApplies_walk cc0 ep0 sq0 AA0 st0 kk0 BB0 zs0 dd0 n1 A1 l1 c1 W hR0 hL0 hM0 hN1 hR1 hC1).mono fun e W' ⟨he, bel⟩ => ?_
  subst he
  exact ⟨_, rfl, _, _, _, [], _, [], hW', trodAll_mk1 (shut_bool Try.underlying4 _), (trodAll_cons_mk (Below.trod laidOut (by kernel_rfl) (of_decide_eq_true (by kernel_rfl)) k0 bel lt0) (trodAll_cons_mk (Below.trod laidOut (by kernel_rfl) (of_decide_eq_true (by kernel_rfl)) k1 bel lt1) trodAll_mk0)), rfl, bel.frame _, fun h => by cases h⟩

theorem over : Rows.stateAppliesRow.holds Try.pinned (OpenSpec.ofChange Rows.stateAppliesSpec) :=
  OpenClaim.holds_of_wide 3 Try.f3 rfl rfl rfl rfl rfl rfl rfl ⟨rfl, rfl, rfl, rfl, rfl⟩ rfl rfl rfl rfl rfl (by kernel_rfl) Try.func3 (by kernel_rfl)
    (of_decide_eq_true (by kernel_rfl)) (by unfold Func.isWrapper; first | (rw [if_pos (by decide +kernel)]; kernel_rfl) | (rw [if_neg (by decide +kernel)]; exact ⟨rfl, rfl⟩))
    (fun os started H enc _ => lifted os started H enc)

end Go.Proofs.Ytaceaemombnhkaa.stateApplies

namespace Go.Proofs.Ytaceaemombnhkaa
theorem stateApplies_holds : Rows.StateAppliesSaid := stateApplies.over
#print axioms stateApplies_holds
end Go.Proofs.Ytaceaemombnhkaa
