/- Contract of the reference's Append. -/
import Derived.Test.YtajkcodcoehbgaaJ
import Derived.Deep.LoopGhost
namespace Go.Proofs.Ytajkcodcoehbgaa
set_option linter.unusedVariables false
set_option linter.unusedSimpArgs false
open Go.RowKit
open Go.RowKit (wrap64)

theorem Try.info9 : (Try.prog.info? 9).map (fun i => (i.zero, i.size, i.bytes)) = some (some (.string ⟨#[]⟩), 1, 16) := by kernel_rfl

/-- The j-th block of b. -/
def cut (blk : Nat) (b : List UInt8) (j : Nat) : List UInt8 := (b.drop (j * blk)).take blk
/-- The first j blocks of b. -/
def cuts (blk : Nat) (b : List UInt8) (j : Nat) : List (List UInt8) := (List.range j).map (cut blk b)
theorem cuts_length (blk : Nat) (b : List UInt8) (j : Nat) : (cuts blk b j).length = j := by simp [cuts]
theorem cuts_succ (blk : Nat) (b : List UInt8) (j : Nat) : cuts blk b (j + 1) = cuts blk b j ++ [cut blk b j] := by simp [cuts, List.range_succ]
theorem cuts_flat (blk : Nat) (b : List UInt8) : ∀ j, (cuts blk b j).flatten = b.take (j * blk)
  | 0 => by simp [cuts]
  | j + 1 => by
    rw [cuts_succ, List.flatten_append, cuts_flat blk b j, Nat.add_mul, Nat.one_mul, List.take_add]
    simp [cut]
theorem cuts_all {blk : Nat} {b : List UInt8} (h : b.length % blk = 0) : (cuts blk b (b.length / blk)).flatten = b := by
  rw [cuts_flat, Nat.div_mul_cancel (Nat.dvd_of_mod_eq_zero h), List.take_length]
theorem cut_length {blk : Nat} {b : List UInt8} {j : Nat} (h : (j + 1) * blk ≤ b.length) : (cut blk b j).length = blk := by
  rw [Nat.add_mul, Nat.one_mul] at h
  simp [cut]; omega
theorem cuts_mem {blk : Nat} {b : List UInt8} {q : Nat} (h : q * blk ≤ b.length) : ∀ l ∈ cuts blk b q, l.length = blk := fun l hl => by
  obtain ⟨j, hj, rfl⟩ := List.mem_map.1 hl
  have hjq : j < q := by simpa using hj
  exact cut_length (Nat.le_trans (Nat.mul_le_mul_right _ hjq) h)

/-- Bytes as a string's cell. -/
def cS (l : List UInt8) : Value := .string ⟨l.toArray⟩

theorem wpList_appS (w : World) {ops : Array Oper} {rest : List Oper} {o : Oper} {a : Act} {Q : Exit → Act → World → Prop} (hgd : o.guard = none) (s x : Operand)
    (ho : o.op = .call { callee := .builtin .append, args := #[s, x], argTypes := #[29, 29] })
    (base n m : Nat) (v : Value) (xs : List Value) (hs : a.eval s = v) (hown : w.ownsRow base 9 1 v n xs) (X : Option Addr) (c : Nat) (news : List Value) (hx : a.eval x = .slice X m c) (hm : news.length = m) (hr : Mem 9 w X news) (h1 : ∀ u ∈ news, u.oneCell' = true)
    (hl : n + m ≤ 1000000) (hbase : base ≤ w.heap.size)
    (h : ∀ v' w', w'.ownsRow base 9 1 v' (n + m) (xs ++ news) → w.grownBy w' v.ownBlock → wpList Try.prog ops Q rest (a.put o.dst v') w') : wpList Try.prog ops Q (o :: rest) a w := by
  obtain ⟨i0, hi, hz0, hz1, hz2⟩ := info_parts Try.info9
  rcases X with _ | ad
  · have h0 : news = [] := by
      rcases Nat.eq_zero_or_pos news.length with h0 | h0
      · exact List.eq_nil_of_length_eq_zero h0
      · obtain ⟨ad, _, _, h, _⟩ := hr h0
        cases h
    subst h0
    obtain rfl : 0 = m := by simpa using hm
    have hrun : (Builtin.append_ #[29, 29] o.type #[v, .slice none 0 c]).run Try.prog w = .ok v w := by
      rcases hown.2 with ⟨rfl, hl0⟩ | ⟨g, cap, cur, rfl, _, _, hnc, _⟩
      · simp [Builtin.append_, run_underlying Try.underlying29, sizeOf, typeInfo, hi, Builtin.lenOf, Builtin.firstCells]
      · simp [Builtin.append_, run_underlying Try.underlying29, sizeOf, typeInfo, hi, Builtin.lenOf, Builtin.firstCells, hnc, storeCells]
    refine wpList_plain hgd fun K hK => ?_
    unfold Oper.wp
    simp [execOp, ho, resolve, invoke, builtin, hs, hx, hrun, Result.andThen]
    exact hK _ _ (h v w (by simpa using hown) (World.grownBy.refl w _))
  · refine wpList_append_own_at (P := Try.prog) w hgd s x 29 ho base 9 i0 (.string ⟨#[]⟩) 1 16 Try.underlying29 hi hz0 hz1 hz2 rfl (by omega) v n xs hs hown ad m c news hx (by omega) ?_ h1 (by unfold maxLen; omega) (by omega) hbase ?_
    · intro j u hj
      obtain ⟨ad', _, _, e, _, hc⟩ := hr (by have := (List.getElem?_eq_some_iff.1 hj).1; omega)
      injection e with e
      subst e
      exact hc j u hj
    · intro v' w' k1 k2 _ _
      exact h v' w' k1 k2

theorem mem_one (w : World) (u : Value) (t : TypeId) : Mem t (w.alloc (.cells #[u] t)) (some ⟨w.heap.size, 0, none⟩) [u] := fun _ => ⟨_, _, _, rfl, heap_alloc_new w _, cell_one_new w u t⟩

set_option maxHeartbeats 1000000 in
theorem rappend_align (cap : Int) (blk k c m cb : Nat) (safe : Int) (A B : Option Addr) (done : Bool) (w : World) (h1 : 1 ≤ blk) (h2 : blk ≤ 4096) (hm : m ≤ maxLen) (hE : m = 0 ∨ m % blk ≠ 0) :
    Calls Try.prog 19 #[.agg #[.int .i64 cap, .int .i64 (blk : Int), .slice A k c, .int .i64 safe, .bool done], .slice B m cb] w fun e w' => e = .returned (.tuple #[.agg #[.int .i64 cap, .int .i64 (blk : Int), .slice A k c, .int .i64 safe, .bool done], .int .i64 3]) ∧ Below w.heap.size w w' := by
  unfold maxLen at hm
  have hz : ((blk : Int) == 0) = false := by simp; omega
  by_cases m0 : m = 0
  · have hm0 : ((m : Int) == 0) = true := by simp; omega
    clear m0 hE
    go_enter Try.func19, Try.ntmps19
    go_wp2
    exact bodyPost_ret (v := .tuple #[.agg #[.int .i64 cap, .int .i64 (blk : Int), .slice A k c, .int .i64 safe, .bool done], .int .i64 3]) (by simp [results, Try.results19, go_sem]) rfl ⟨rfl, (by repeat (first | with_reducible exact Below.refl _ _ | with_reducible refine Below.drew ?_ | with_reducible refine Below.alloc ?_ (by first | (simp; done) | (simp; omega)) _ | with_reducible refine Below.setCell ?_ (by first | (simp; done) | (simp; omega)) _))⟩
  · have hm0 : ((m : Int) == 0) = false := by simp; omega
    have hr : (m : Int) % (blk : Int) = ((m % blk : Nat) : Int) := by simp
    have hgt : 0 < (m : Int) % (blk : Int) := by omega
    have hr1 : (m : Int) % (blk : Int) ≤ 4096 := by have := Nat.mod_lt m (show 0 < blk by omega); omega
    clear m0 hE hr
    go_enter Try.func19, Try.ntmps19
    go_wp2
    exact bodyPost_ret (v := .tuple #[.agg #[.int .i64 cap, .int .i64 (blk : Int), .slice A k c, .int .i64 safe, .bool done], .int .i64 3]) (by simp [results, Try.results19, go_sem]) rfl ⟨rfl, (by repeat (first | with_reducible exact Below.refl _ _ | with_reducible refine Below.drew ?_ | with_reducible refine Below.alloc ?_ (by first | (simp; done) | (simp; omega)) _ | with_reducible refine Below.setCell ?_ (by first | (simp; done) | (simp; omega)) _))⟩

set_option maxHeartbeats 1000000 in
theorem rappend_full (cap blk k c m cb : Nat) (safe : Int) (A B : Option Addr) (done : Bool) (w : World) (h1 : 1 ≤ blk) (h2 : blk ≤ 4096) (hc : cap ≤ 4096) (hk : k ≤ 4096) (hm : m ≤ 140737488351232) (m0 : m ≠ 0) (r0 : m % blk = 0) (hE : done = true ∨ cap < k + m / blk) :
    Calls Try.prog 19 #[.agg #[.int .i64 (cap : Int), .int .i64 (blk : Int), .slice A k c, .int .i64 safe, .bool done], .slice B m cb] w fun e w' => e = .returned (.tuple #[.agg #[.int .i64 (cap : Int), .int .i64 (blk : Int), .slice A k c, .int .i64 safe, .bool done], .int .i64 6]) ∧ Below w.heap.size w w' := by
  have hz : ((blk : Int) == 0) = false := by simp; omega
  have hm0 : ((m : Int) == 0) = false := by simp; omega
  have hgt : (m : Int) % (blk : Int) = 0 := by omega
  cases done
  · have hlt : cap < k + m / blk := by simpa using hE
    have hd : (m : Int) / (blk : Int) = ((m / blk : Nat) : Int) := by simp
    have hq := Nat.div_le_self m blk
    clear hE r0
    generalize m / blk = q at hlt hd hq
    have hgt2 : (cap : Int) < (k : Int) + (q : Int) := by omega
    go_enter Try.func19, Try.ntmps19
    go_wp2_with fail
    go_region
    go_wp2
    exact bodyPost_ret (v := .tuple #[.agg #[.int .i64 (cap : Int), .int .i64 (blk : Int), .slice A k c, .int .i64 safe, .bool false], .int .i64 6]) (by simp [results, Try.results19, go_sem]) rfl ⟨rfl, (by repeat (first | with_reducible exact Below.refl _ _ | with_reducible refine Below.drew ?_ | with_reducible refine Below.alloc ?_ (by first | (simp; done) | (simp; omega)) _ | with_reducible refine Below.setCell ?_ (by first | (simp; done) | (simp; omega)) _))⟩
  · clear hE r0
    go_enter Try.func19, Try.ntmps19
    go_wp2_with fail
    go_region
    go_wp2
    exact bodyPost_ret (v := .tuple #[.agg #[.int .i64 (cap : Int), .int .i64 (blk : Int), .slice A k c, .int .i64 safe, .bool true], .int .i64 6]) (by simp [results, Try.results19, go_sem]) rfl ⟨rfl, (by repeat (first | with_reducible exact Below.refl _ _ | with_reducible refine Below.drew ?_ | with_reducible refine Below.alloc ?_ (by first | (simp; done) | (simp; omega)) _ | with_reducible refine Below.setCell ?_ (by first | (simp; done) | (simp; omega)) _))⟩

theorem Mem.last {w : World} {A : Option Addr} {xs : List Value} {n : Nat} {v : Value} {base : Nat} (h : w.ownsRow base 9 1 v n xs) : ∃ A c, v = .slice A n c ∧ Mem 9 w A xs ∧ n ≤ c := Mem.of_own h
/-- 'string(b[i:j])'. -/
theorem conv_cut (B : Option Addr) (cb lo m : Nat) (b : List UInt8) (w : World) (hb : Rd w w.heap.size B b) (hl : lo + m ≤ b.length) (hc : b.length ≤ cb) (h0 : 0 < m) :
    (convert 25 9 (.slice (Option.map (fun x => x.add lo) B) m (cb - lo))).run Try.prog w = .ok (.string ⟨((b.drop lo).take m).toArray⟩) w := by
  have h := (hb.cut (n := lo) (cap := cb) (by omega) hc).take m
  rw [if_neg (by omega)] at h
  have h2 := run_conv (P := Try.prog) w 25 9 5 Try.underlying25 Try.underlying5 Try.underlying9 _ (cb - lo) _ _ h
  rw [show ((b.drop lo).take m).length = m by simp; omega] at h2
  exact h2

/-- Two blocks of the call's own, known whole. -/
def Held (w wr : World) (bx rs : Array Value) : Prop := Box wr w.heap.size 31 bx ∧ Box wr (w.heap.size + 1) 31 rs ∧ Below w.heap.size w wr ∧ w.heap.size + 1 + 1 ≤ wr.heap.size
theorem Held.grown {w wr w' : World} {bx rs : Array Value} {row : Option Nat} (h : Held w wr bx rs) (hg : wr.grownBy w' row) (hr : ∀ g, row = some g → w.heap.size + 1 + 1 ≤ g) : Held w w' bx rs := by
  have hb : Below (w.heap.size + 1 + 1) wr w' := (Below.refl _ _).grown hg h.2.2.2 hr
  exact ⟨h.1.under hb (by omega), h.2.1.under hb (by omega), h.2.2.1.trans (hb.mono (by omega)), Nat.le_trans h.2.2.2 hb.size⟩
theorem Held.alloc {w wr : World} {bx rs : Array Value} (h : Held w wr bx rs) (o : Obj) : Held w (wr.alloc o) bx rs := by
  have hb : Below (w.heap.size + 1 + 1) wr (wr.alloc o) := (Below.refl _ _).alloc h.2.2.2 o
  exact ⟨h.1.under hb (by omega), h.2.1.under hb (by omega), h.2.2.1.trans (hb.mono (by omega)), Nat.le_trans h.2.2.2 hb.size⟩
theorem held_first {w w2 : World} {bx rs : Array Value} {v : Value} (h : ((((w.alloc (.cells bx 31)).alloc (.cells rs 31)).alloc (.cells #[] 9)).drew).grownBy w2 v.ownBlock) (hv : v = .slice (some ⟨w.heap.size + 1 + 1, 0, none⟩) 0 0) : Held w w2 bx rs := by
  subst hv
  have hb : Below (w.heap.size + 1 + 1) ((w.alloc (.cells bx 31)).alloc (.cells rs 31)) w2 := by
    refine Below.grown ?_ h (by simp) (fun g hg => by injection hg with hg; subst hg; exact Nat.le_refl _)
    exact ((Below.refl _ _).alloc (by simp) _).drew
  obtain ⟨h1, h2, h3⟩ := two_boxes hb (Nat.le_refl _)
  exact ⟨h1, h2, h3, by have := hb.size; simp at this; omega⟩
theorem own_none (w : World) (o1 o2 : Obj) : World.ownsRow (((w.alloc o1).alloc o2).alloc (.cells #[] 9)).drew (w.heap.size + 1 + 1) 9 1 (.slice (some ⟨w.heap.size + 1 + 1, 0, none⟩) 0 0) 0 [] := by
  have h := World.ownsRow_made (base := ((w.alloc o1).alloc o2).heap.size) (e := 9) (size := 1) ((w.alloc o1).alloc o2) #[] 0 (Nat.le_refl _) (Nat.zero_le _) (by simp)
  simp only [World.size_alloc] at h
  exact h

set_option maxHeartbeats 2000000 in
theorem rappend_ok (cap blk k c cb : Nat) (safe : Int) (A B : Option Addr) (ss : List Value) (b : List UInt8) (w : World) (h1 : 1 ≤ blk) (h2 : blk ≤ 4096) (hc : cap ≤ 4096) (hk : k ≤ 4096) (hkl : ss.length = k) (hm : b.length ≤ 140737488351232) (hcb : b.length ≤ cb) (m0 : b.length ≠ 0) (r0 : b.length % blk = 0) (hE : k + b.length / blk ≤ cap)
    (hA : Mem 9 w A ss) (hs1 : ∀ u ∈ ss, u.oneCell' = true) (hb : Rd w w.heap.size B b) :
    Calls Try.prog 19 #[.agg #[.int .i64 (cap : Int), .int .i64 (blk : Int), .slice A k c, .int .i64 safe, .bool false], .slice B b.length cb] w fun e w' => ∃ A' c', e = .returned (.tuple #[.agg #[.int .i64 (cap : Int), .int .i64 (blk : Int), .slice A' (k + b.length / blk) c', .int .i64 safe, .bool false], .int .i64 0]) ∧ Mem 9 w' A' (ss ++ (cuts blk b (b.length / blk)).map cS) ∧ k + b.length / blk ≤ c' ∧ Below w.heap.size w w' := by
  have hz : ((blk : Int) == 0) = false := by simp; omega
  have hm0 : ((b.length : Int) == 0) = false := beq_eq_false_iff_ne.2 (by omega)
  have hgt : (b.length : Int) % (blk : Int) = 0 := by rw [← Int.natCast_emod, r0]; rfl
  have hd : (b.length : Int) / (blk : Int) = ((b.length / blk : Nat) : Int) := by simp
  have hbl : b.length = b.length / blk * blk := by have := Nat.div_add_mod b.length blk; rw [r0, Nat.mul_comm, Nat.add_zero] at this; exact this.symm
  have HB := Lib.hid hb
  have HA := Lib.hid hA
  have H1 := Lib.hid hs1
  have HBL := Lib.hid hbl
  have HKL := Lib.hid hkl
  have hpos : 0 < b.length := by omega
  clear r0 m0 hb hA hs1 hbl hkl
  generalize b.length / blk = q at hE hd HBL ⊢
  have hle : ¬ ((cap : Int) < (k : Int) + (q : Int)) := by omega
  go_enter Try.func19, Try.ntmps19
  have HM3 : Hid (∀ o1 o2, Mem 9 (((w.alloc o1).alloc o2).alloc (.cells #[] 9)).drew A ss) := fun o1 o2 => HA.out.later (by repeat (first | with_reducible exact Below.refl _ _ | with_reducible refine Below.drew ?_ | with_reducible refine Below.alloc ?_ (by first | (simp; done) | (simp; omega)) _ | with_reducible refine Below.setCell ?_ (by first | (simp; done) | (simp; omega)) _))
  have HN : Hid (∀ o1 o2, World.ownsRow (((w.alloc o1).alloc o2).alloc (.cells #[] 9)).drew (w.heap.size + 1 + 1) 9 1 (.slice (some ⟨w.heap.size + 1 + 1, 0, none⟩) 0 0) 0 []) := own_none w
  go_wp2_with fail
  go_region
  go_wp2_with (at_builtin; go_loud (refine wpList_appS _ rfl (.tmp 37) (.tmp 39) rfl (w.heap.size + 1 + 1) 0 k _ [] rfl (HN.out _ _) A c ss rfl HKL.out (HM3.out _ _) H1.out (by omega) (by first | (simp; done) | (simp; omega)) ?_; intro v0 w2 k1 k2; have HG := Lib.hid (held_first k2 rfl); have HO := Lib.hid k1; clear k1 k2))
  rw [Nat.zero_add, List.nil_append] at HO
  clear HN HM3 HA H1
  go_loopw [6, 7] (fun v i wr => ∃ j : Nat, j ≤ q ∧ i = .int .i64 ((j * blk : Nat) : Int) ∧ wr.ownsRow (w.heap.size + 1 + 1) 9 1 v (k + j) (ss ++ (cuts blk b j).map cS) ∧ Held w wr #[.int .i64 (cap : Int), .int .i64 (blk : Int), .slice A k c, .int .i64 safe, .bool false] #[.int .i64 0, .int .i64 0, .slice none 0 0, .int .i64 0, .bool false]) (fun _ i _ => b.length - (intOf i).toNat)
  case atStart => exact ⟨0, by omega, by simp, by simpa [cuts] using HO.out, HG.out⟩
  case round =>
    clear HO HG
    obtain ⟨j, hj, rfl, hown, hheld⟩ := hrel
    obtain ⟨⟨q0, q1, q2, q3, q4⟩, f0, f1, f2, f3, f4⟩ := box5 hheld.1
    by_cases hlt : j < q
    · have hlo : j * blk + blk ≤ b.length := by
        rw [HBL.out]
        have := Nat.mul_le_mul_right blk hlt
        rw [Nat.succ_mul] at this
        exact this
      have HNX : Hid ((j + 1) * blk = j * blk + blk) := Nat.succ_mul _ _
      have hcv := conv_cut B cb (j * blk) blk b wr (HB.out.later hheld.2.2.1) hlo hcb (by omega)
      have HCU : Hid ((cuts blk b j).map cS ++ [.string ⟨((b.drop (j * blk)).take blk).toArray⟩] = (cuts blk b (j + 1)).map cS) := by
        show (cuts blk b j).map cS ++ [.string ⟨((b.drop (j * blk)).take blk).toArray⟩] = (cuts blk b (j + 1)).map cS
        rw [cuts_succ]; simp [cut, cS]
      have HOW := Lib.hid hown
      have HHE := Lib.hid hheld
      have hne : ¬ cb = j * blk := by omega
      clear hown hheld
      generalize (b.drop (j * blk)).take blk = T at hcv HCU
      generalize j * blk = lo at hlo hcv HNX hne ⊢
      have hlt2 : (lo : Int) < (b.length : Int) := by omega
      go_wp2_with (at_builtin; go_loud (refine wpList_appS _ rfl (.tmp 49) (.tmp 58) rfl (w.heap.size + 1 + 1) (k + j) 1 _ (ss ++ (cuts blk b j).map cS) rfl (World.ownsRow.alloc HOW.out _) _ 1 [.string ⟨T.toArray⟩] rfl rfl (mem_one _ _ _) (by simp [Value.oneCell']) (by omega) (by have := HHE.out.2.2.2; simp; omega) ?_; intro v' w3 k1 k2; have HO3 := Lib.hid k1; have HG3 := Lib.hid ((HHE.out.alloc _).grown k2 (fun g hg => (World.ownsRow.lt HOW.out g hg).1)); clear k1 k2 HOW HHE q0 q1 q2 q3 q4 f0 f1 f2 f3 f4; obtain ⟨⟨q0, q1, q2, q3, q4⟩, f0, f1, f2, f3, f4⟩ := box5 HG3.out.1))
      go_roundw
      case rel => exact ⟨j + 1, by omega, by rw [HNX.out]; go_num, by rw [← Nat.add_assoc, ← HCU.out, ← List.append_assoc]; exact HO3.out, HG3.out⟩
      case measure => simp [intOf]; omega
    · obtain rfl : j = q := by omega
      obtain ⟨A1, c1, rfl, hA1, hc1⟩ := Mem.of_own hown
      obtain ⟨⟨p0, p1, p2, p3, p4⟩, g0, g1, g2, g3, g4⟩ := box5 hheld.2.1
      have HX := Lib.hid (And.intro hA1 (And.intro hc1 hheld))
      have hsz := hheld.2.2.2
      clear hown hheld hA1 hc1
      rw [← HBL.out]
      go_wp2
      refine bodyPost_ret (v := .tuple #[.agg #[.int .i64 (cap : Int), .int .i64 (blk : Int), .slice A1 (k + j) c1, .int .i64 safe, .bool false], .int .i64 0]) (by simp [results, Try.results19, go_sem, *]) rfl ?_
      refine ⟨A1, c1, rfl, HX.out.1.turn (gs := [w.heap.size, w.heap.size + 1]) ?_ ?_, HX.out.2.1, HX.out.2.2.2.2.1.trans (by repeat (first | with_reducible exact Below.refl _ _ | with_reducible refine Below.drew ?_ | with_reducible refine Below.alloc ?_ (by first | (simp; done) | (simp; omega)) _ | with_reducible refine Below.setCell ?_ (by first | (simp; done) | (simp; omega)) _))⟩
      · repeat (first | with_reducible exact Turn.refl _ _ | with_reducible refine Turn.put ?_ (by simp) _ | with_reducible refine Turn.alloc ?_ _ | with_reducible refine Turn.drew ?_)
      · simp only [List.mem_cons, List.not_mem_nil, or_false]
        rintro g (rfl | rfl)
        · exact HX.out.2.2.1.else_ (by decide)
        · exact HX.out.2.2.2.1.else_ (by decide)
end Go.Proofs.Ytajkcodcoehbgaa
