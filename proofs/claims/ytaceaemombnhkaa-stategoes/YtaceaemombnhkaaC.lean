/- Contracts of bytes.Clone and of the Reader's Left, Err, Bytes, and of New; what is laid is read. -/
import Derived.Test.YtaceaemombnhkaaB
namespace Go.Proofs.Ytaceaemombnhkaa
set_option linter.unusedVariables false
set_option maxRecDepth 100000
set_option linter.unusedSimpArgs false
open Go.RowKit
open Go.RowKit (wrap64)

/-- The bytes that a call hands back lie in new memory. -/
def Gave (w : World) (l : List UInt8) (e : Ending) (w' : World) : Prop := ∃ A c, e = .returned (.slice A l.length c) ∧ Rd w' w'.heap.size A l ∧ l.length ≤ c ∧ Below w.heap.size w w' ∧ Fresh w.heap.size A
set_option maxHeartbeats 400000 in
theorem clone_some (ad : Addr) (c B : Nat) (l : List UInt8) (w : World) (hr : Rd w B (some ad) l) (hB : B ≤ w.heap.size) (hl : l.length ≤ 10000000) :
    Calls Try.prog 62 #[.slice (some ad) l.length c] w (Gave w l) := by
  obtain ⟨i0, hi, hz0, hz1, hz2⟩ := info_parts Try.info5
  have hnil := fun w => Lib.run_eql_slice_nil (P := Try.prog) w 28 5 (some ad) l.length c 0 0 Try.underlying28
  have ho : Own (w.alloc (.cells #[] 5)) w.heap.size 5 (.slice (some ⟨w.heap.size, 0, none⟩) 0 0) [] := World.ownsRow_lit w #[] 0 (Nat.le_refl _) (by simp [maxLen]) rfl
  have H0 := Lib.hid ho
  have H1 := Lib.hid hi
  have H2 := Lib.hid hz0
  have H3 := Lib.hid hz1
  have H4 := Lib.hid hz2
  clear ho hi hz0 hz1 hz2
  go_enter Try.func62, Try.ntmps62
  go_wp2_with (at_builtin; refine wpList_app _ rfl (.tmp 5) (.tmp 6) 28 rfl w.heap.size 5 i0 Try.underlying28 H1.out H2.out H3.out H4.out _ [] rfl H0.out B (some ad) c l rfl (hr.alloc hB _) (by simp; omega) (by simp) ?_; intro v' w' ho' hg hb')
  go_ret
  obtain ⟨A, c', rfl, hrd, hc, hfr⟩ := ho'.rd
  exact ⟨A, c', rfl, hrd, hc, ((Below.refl _ _).alloc (Nat.le_refl _) _).grown hg (by simp) (fun k hk => Nat.le_of_eq (Option.some.inj hk)), hfr⟩
theorem clone_any (A : Option Addr) (c B : Nat) (l : List UInt8) (w : World) (hr : Rd w B A l) (hB : B ≤ w.heap.size) (hl : l.length ≤ 10000000) :
    Calls Try.prog 62 #[.slice A l.length c] w (Gave w l) := by
  rcases A with _ | ad
  · obtain rfl : l = [] := by
      rcases Nat.eq_zero_or_pos l.length with h0 | h0
      · exact List.eq_nil_of_length_eq_zero h0
      · obtain ⟨ad, h, _⟩ := hr h0
        cases h
    have hnil := fun w => Lib.run_eql_slice_nil (P := Try.prog) w 28 5 none 0 c 0 0 Try.underlying28
    go_enter Try.func62, Try.ntmps62
    go_wp2
    go_ret
    exact ⟨none, 0, rfl, Rd.nil, Nat.le_refl _, Below.refl _ _, Fresh.none⟩
  · exact clone_some ad c B l w hr hB hl
theorem clone_of (A : Option Addr) (c B n : Nat) (l : List UInt8) (w : World) (hn : l.length = n) (hr : Rd w B A l) (hB : B ≤ w.heap.size) (hl : l.length ≤ 10000000) :
    Calls Try.prog 62 #[.slice A n c] w (Gave w l) := by
  subst hn
  exact clone_any A c B l w hr hB hl
theorem Rdr.below {w w' : World} {p B : Nat} {l : List UInt8} {er : Int} (h : Rdr w p l er) (hb : Below B w w') (hp : p < B) : Rdr w' p l er := by
  obtain ⟨A, c, hbk, hr, hk, hc⟩ := h
  exact ⟨A, c, hbk.under hb hp, hr.below (hb.mono (by omega)), hk, hc⟩
theorem left_any (l : List UInt8) (er : Int) (p : Nat) (w : World) (h : Rdr w p l er) : Calls Try.prog 47 #[.pointer (some ⟨p, 0, none⟩)] w fun e w' => e = .returned (.int .i64 l.length) ∧ w = w' := by
  obtain ⟨A, c, hb, hr, hk, hc⟩ := h
  have h0 : w.cell? ⟨p, 0, none⟩ = some (.slice A l.length c) := hb.cell 0
  clear hb hr
  go_enter Try.func47, Try.ntmps47
  go_wp2
  go_ret
  exact ⟨rfl, rfl⟩
theorem err_any (l : List UInt8) (er : Int) (p : Nat) (w : World) (h : Rdr w p l er) : Calls Try.prog 46 #[.pointer (some ⟨p, 0, none⟩)] w fun e w' => e = .returned (.int .i64 er) ∧ w = w' := by
  obtain ⟨A, c, hb, hr, hk, hc⟩ := h
  have h0 : w.cell? ⟨p, 1, none⟩ = some (.int .i64 er) := hb.cell 1
  clear hb hr
  go_enter Try.func46, Try.ntmps46
  go_wp2
  go_ret
  exact ⟨rfl, rfl⟩
theorem code_any (er : Int) (w : World) : Calls Try.prog 12 #[.int .i64 er] w fun e w' => e = .returned (.int .i64 er) ∧ w = w' := by
  go_enter Try.func12, Try.ntmps12
  go_wp2
  go_ret
  exact ⟨rfl, rfl⟩
/-- A new reader. -/
def Made (w : World) (l : List UInt8) (e : Ending) (w' : World) : Prop := e = .returned (.pointer (some ⟨w.heap.size + 1, 0, none⟩)) ∧ Rdr w' (w.heap.size + 1) l 0 ∧ w'.heap.size = w.heap.size + 2 ∧ Below w.heap.size w w'
set_option maxHeartbeats 400000 in
theorem new_any (A : Option Addr) (c : Nat) (l : List UInt8) (w : World) (hr : Rd w w.heap.size A l) (hl : l.length ≤ 10000000) :
    Calls Try.prog 43 #[.slice A l.length c] w (Made w l) := by
  go_enter Try.func43, Try.ntmps43
  go_wp2_with fail
  refine (grown_any A c 0 l w hr hl (by omega)).mono ?_
  rintro e w' ⟨rfl, rfl⟩
  go_wp2
  go_ret
  have e0 : l ++ zeros 0 = l := by simp [zeros]
  rw [e0]
  refine ⟨rfl, ⟨some ⟨w.heap.size, 0, none⟩, l.length, ?_, (Rd.new w l 5).alloc (by simp) _, Nat.le_refl _, hl⟩, by simp, ((Below.refl _ _).alloc (Nat.le_refl _) _).alloc (by simp) _⟩
  have h := Box.fresh (w.alloc (.cells (cBs l).toArray 5)) 115 #[.slice (some ⟨w.heap.size, 0, none⟩) l.length l.length, .int .i64 0]
  simpa using h
/-- What Bytes reads: the bytes, what is left, the error. -/
def rB (l : List UInt8) (er most : Int) : List UInt8 × List UInt8 × Int :=
  if (rI l er 0 most).2.2 = 0 then
    if (rI l er 0 most).2.1.length < (rI l er 0 most).1.toNat then ([], (rI l er 0 most).2.1, 14)
    else ((rI l er 0 most).2.1.take (rI l er 0 most).1.toNat, (rI l er 0 most).2.1.drop (rI l er 0 most).1.toNat, 0)
  else ([], (rI l er 0 most).2.1, (rI l er 0 most).2.2)
theorem rI_nonneg (l : List UInt8) (er most : Int) (h : (rI l er 0 most).2.2 = 0) : 0 ≤ (rI l er 0 most).1 := by
  unfold rI at h ⊢
  generalize wrap64 (numLE (l.take 8) : Nat) = n at h ⊢
  split at h <;> rename_i h1
  · rw [if_pos h1]
    split at h <;> rename_i h2
    · rw [if_pos h2]; exact Int.le_refl _
    · rw [if_neg h2]
      split at h <;> rename_i h3
      · rw [if_pos h3]; exact Int.le_refl _
      · rw [if_neg h3]
        show 0 ≤ n
        omega
  · rw [if_neg h1]; exact Int.le_refl _
/-- The bytes handed back, and the reader behind it. -/
def Got (w : World) (p : Nat) (q : List UInt8 × List UInt8 × Int) (e : Ending) (w' : World) : Prop :=
  ∃ A c, e = .returned (.slice A q.1.length c) ∧ Rd w' w'.heap.size A q.1 ∧ Rdr w' p q.2.1 q.2.2 ∧ w.grownBy w' (some p) ∧ Fresh w.heap.size A
set_option maxHeartbeats 400000 in
theorem rBytes_any (l : List UInt8) (er most : Int) (p : Nat) (w : World) (h : Rdr w p l er) :
    Calls Try.prog 95 #[.pointer (some ⟨p, 0, none⟩), .int .i64 most] w (Got w p (rB l er most)) := by
  have hnn := rI_nonneg l er most
  have hI := rInt_any l er 0 most p w h
  unfold rB
  generalize rI l er 0 most = q at hnn hI ⊢
  obtain ⟨v, l1, e1⟩ := q
  simp only at hnn hI ⊢
  have HI := Lib.hid hI
  clear hI
  by_cases he : e1 = 0
  · subst he
    have hv := hnn rfl
    obtain ⟨n, rfl⟩ : ∃ n : Nat, v = (n : Int) := ⟨v.toNat, by omega⟩
    clear hnn hv
    by_cases hn : l1.length < n
    · have eq : (if (0 : Int) = 0 then if l1.length < ((n : Int)).toNat then (([] : List UInt8), l1, (14 : Int)) else (l1.take (n : Int).toNat, l1.drop (n : Int).toNat, 0) else ([], l1, 0)) = ([], l1, 14) := by
        simp [hn]
      rw [eq]
      go_enter Try.func95, Try.ntmps95
      go_wp2_with fail
      refine HI.out.mono ?_
      rintro e w1 ⟨rfl, ⟨A, c, hb, hr, hk, hc⟩, hg⟩
      go_wp2_with fail
      refine (take_short n n rfl _ A l1.length c _ hb hn).mono ?_
      rintro e w' ⟨rfl, rfl⟩
      have hB := Lib.hid (hb.store 1 (.int .i64 14))
      have hr' := hr.setCell (p := ⟨p, 1, none⟩) (Nat.le_refl p) (.int .i64 14)
      have g1 : w.grownBy (w1.setCell ⟨p, 1, none⟩ (.int .i64 14)) (some p) := turned_store hg (.inl rfl) _
      have HK := Lib.hid (And.intro hk hc)
      clear hn hk hc hb hr hg eq HI h
      go_wp2
      go_ret
      exact ⟨none, 0, rfl, Rd.nil, ⟨A, c, hB.out, hr', HK.out.1, HK.out.2⟩, g1, Fresh.none⟩
    · have eq : (if (0 : Int) = 0 then if l1.length < ((n : Int)).toNat then (([] : List UInt8), l1, (14 : Int)) else (l1.take (n : Int).toNat, l1.drop (n : Int).toNat, 0) else ([], l1, 0)) = (l1.take n, l1.drop n, 0) := by
        simp [hn]
      rw [eq]
      go_enter Try.func95, Try.ntmps95
      go_wp2_with fail
      refine HI.out.mono ?_
      rintro e w1 ⟨rfl, ⟨A, c, hb, hr, hk, hc⟩, hg⟩
      go_wp2_with fail
      refine (take_ok n n rfl _ A l1.length c _ hb (by omega) hk hc).mono ?_
      rintro e w' ⟨rfl, rfl⟩
      have hB := Lib.hid (hb.store 0 (cutS A l1.length c n))
      have hr' := hr.setCell (p := ⟨p, 0, none⟩) (Nat.le_refl p) (cutS A l1.length c n)
      have hp : p ≤ (w1.setCell ⟨p, 0, none⟩ (cutS A l1.length c n)).heap.size := by have := hb.lt; simp [World.setCell]; omega
      have hp' : p < (w1.setCell ⟨p, 0, none⟩ (cutS A l1.length c n)).heap.size := by have := hb.lt; simp [World.setCell]; omega
      have g1 : w.grownBy (w1.setCell ⟨p, 0, none⟩ (cutS A l1.length c n)) (some p) := turned_store hg (.inl rfl) _
      have hnl : (l1.take n).length = n := by rw [List.length_take]; omega
      have hR : Rdr (w1.setCell ⟨p, 0, none⟩ (cutS A l1.length c n)) p (l1.drop n) 0 := Rdr.cut (A := A) (c := c) (n := n) hB.out hr' (by omega) hk hc
      have HN := Lib.hid hnl
      clear hb hr hg eq HI h hnl hB
      go_wp2_with fail
      refine (clone_of A c p n (l1.take n) _ HN.out (hr'.take n) hp (by rw [HN.out]; omega)).mono ?_
      rintro e w' ⟨A', c', rfl, hrd, hlc, hbel, hfr⟩
      have hoff : Fresh w.heap.size A' := fun ad e => Nat.le_trans g1.size (hfr ad e)
      have hR' := hR.below hbel hp'
      have g2 := turned_trans g1 (turned_of_below hbel (some p))
      clear hR g1 hbel hp hp' hr' hk hc hn hfr
      rw [HN.out]
      go_wp2
      go_ret
      exact ⟨A', c', by rw [HN.out]; rfl, hrd, hR', g2, hoff⟩
  · have eq : (if e1 = 0 then if l1.length < v.toNat then (([] : List UInt8), l1, (14 : Int)) else (l1.take v.toNat, l1.drop v.toNat, 0) else ([], l1, e1)) = ([], l1, e1) := by
      simp [he]
    rw [eq]
    go_enter Try.func95, Try.ntmps95
    go_wp2_with fail
    refine HI.out.mono ?_
    rintro e w1 ⟨rfl, hR, hg⟩
    obtain ⟨A, c, hb, hr, hk, hc⟩ := id hR
    go_wp2_with fail
    refine (take_err v e1 _ _ _ hb (by simpa using he)).mono ?_
    rintro e w' ⟨rfl, rfl⟩
    clear hb hr hk hc he hnn
    go_wp2
    go_ret
    exact ⟨none, 0, rfl, Rd.nil, hR, hg, Fresh.none⟩
theorem numLE_leK : ∀ (k u : Nat), numLE (leK u k) = u % 256 ^ k
  | 0, u => by simp [leK, numLE, Nat.mod_one]
  | k + 1, u => by
    rw [leK_succ, numLE_snoc, leK_length, numLE_leK k u]
    have h : (UInt8.ofNat (u / 256 ^ k)).toNat = u / 256 ^ k % 256 := by simp
    rw [h, Nat.pow_succ, Nat.mod_mul, Nat.mul_comm]
theorem numLE_le8 (v : Int) : numLE (le8 v) = u64 v := by
  unfold le8
  rw [numLE_leK]
  apply Nat.mod_eq_of_lt
  unfold u64
  have : (256 : Nat) ^ 8 = 18446744073709551616 := by decide
  omega
theorem wrap_back {v : Int} (h : (Lit.int .i64 v).wf = true) : wrap64 (u64 v : Nat) = v := by
  have hb := bounds_i64 h
  unfold u64
  unfold wrap64
  omega
theorem rI_back {v lo hi : Int} (h : (Lit.int .i64 v).wf = true) (h1 : lo ≤ v) (h2 : v ≤ hi) (r : List UInt8) : rI (le8 v ++ r) 0 lo hi = (v, r, 0) := by
  have ht : (le8 v ++ r).take 8 = le8 v := by
    rw [List.take_append_of_le_length (by rw [le8_length]; omega)]
    exact List.take_of_length_le (by rw [le8_length]; omega)
  have hd : (le8 v ++ r).drop 8 = r := by
    have := List.drop_left (l₁ := le8 v) (l₂ := r)
    rwa [le8_length] at this
  unfold rI
  rw [ht, hd, numLE_le8, wrap_back h, if_pos rfl, if_neg (by rw [List.length_append, le8_length]; omega), if_neg (by omega)]
theorem wf_len {n : Nat} (h : n ≤ 10000000) : (Lit.int .i64 (n : Int)).wf = true :=
  WalkArith.wf_i64 (by omega)
theorem int_gave (A : Option Addr) (c : Nat) (v : Int) (l : List UInt8) (w : World) (hr : Rd w w.heap.size A l) (hl : l.length ≤ 10000000) : Calls Try.prog 32 #[.slice A l.length c, .int .i64 v] w (Gave w (l ++ le8 v)) := by
  refine (int_any A c v l w hr hl).mono ?_
  rintro e w' ⟨rfl, rfl⟩
  exact ⟨_, _, by rw [List.length_append, le8_length], (Rd.new w _ 5).more (by simp), by rw [List.length_append, le8_length]; omega, (Below.refl _ _).alloc (Nat.le_refl _) _, Fresh.some (Nat.le_refl _)⟩
theorem below_trans {a b c : World} (h : Below a.heap.size a b) (k : Below b.heap.size b c) : Below a.heap.size a c := h.trans (k.mono h.size)
/-- What Flag reads. -/
def rF (l : List UInt8) (er : Int) : Bool × List UInt8 × Int :=
  if er = 0 then
    match l with
    | [] => (false, [], 14)
    | b :: r => if 1 < b.toNat then (false, r, 13) else ((b.toNat : Int) == 1, r, 0)
  else (false, l, er)
theorem rFlag_nil (w : World) : Calls Try.prog 94 #[.pointer none] w fun e w' => e = .returned (.bool false) ∧ w = w' := by
  go_enter Try.func94, Try.ntmps94
  go_wp2_with (go_at_call 99; refine (take_nil _ _).mono ?_; rintro e w' ⟨rfl, rfl⟩)
  go_ret
  exact ⟨rfl, rfl⟩
theorem rFlag_err (er : Int) (p : Nat) (a : Value) (w : World) (hb : Box w p 115 #[a, .int .i64 er]) (he : (er == 0) = false) :
    Calls Try.prog 94 #[.pointer (some ⟨p, 0, none⟩)] w fun e w' => e = .returned (.bool false) ∧ w = w' := by
  go_enter Try.func94, Try.ntmps94
  go_wp2_with (go_at_call 99; refine (take_err _ er _ a _ hb he).mono ?_; rintro e w' ⟨rfl, rfl⟩)
  go_ret
  exact ⟨rfl, rfl⟩
theorem rFlag_short (p : Nat) (A : Option Addr) (c : Nat) (w : World) (hb : Box w p 115 #[.slice A 0 c, .int .i64 0]) :
    Calls Try.prog 94 #[.pointer (some ⟨p, 0, none⟩)] w fun e w' => e = .returned (.bool false) ∧ w.setCell ⟨p, 1, none⟩ (.int .i64 14) = w' := by
  go_enter Try.func94, Try.ntmps94
  go_wp2_with (go_at_call 99; refine (take_short 1 1 rfl _ A 0 c _ hb (by omega)).mono ?_; rintro e w' ⟨rfl, rfl⟩)
  go_ret
  exact ⟨rfl, rfl⟩
set_option maxHeartbeats 400000 in
theorem rFlag_ok (p g off k c : Nat) (b : UInt8) (w : World) (hb : Box w p 115 #[.slice (some ⟨g, off, none⟩) k c, .int .i64 0]) (hc0 : (w.setCell ⟨p, 0, none⟩ (cutS (some ⟨g, off, none⟩) k c 1)).cell? ⟨g, off, none⟩ = some (.int .u8 b.toNat)) (h0 : 1 ≤ k) (hk : k ≤ c) (hc : c ≤ 10000000) (h1 : (b.toNat : Int) ≤ 1) :
    Calls Try.prog 94 #[.pointer (some ⟨p, 0, none⟩)] w fun e w' => e = .returned (.bool ((b.toNat : Int) == 1)) ∧
      w.setCell ⟨p, 0, none⟩ (cutS (some ⟨g, off, none⟩) k c 1) = w' := by
  go_enter Try.func94, Try.ntmps94
  go_wp2_with fail
  refine (take_ok 1 1 rfl _ _ k c _ hb h0 hk hc).mono ?_
  rintro e w' ⟨rfl, rfl⟩
  go_wp2
  go_ret
  exact ⟨rfl, rfl⟩
set_option maxHeartbeats 400000 in
theorem rFlag_form (p g off k c : Nat) (b : UInt8) (w : World) (hb : Box w p 115 #[.slice (some ⟨g, off, none⟩) k c, .int .i64 0]) (hc0 : (w.setCell ⟨p, 0, none⟩ (cutS (some ⟨g, off, none⟩) k c 1)).cell? ⟨g, off, none⟩ = some (.int .u8 b.toNat)) (h0 : 1 ≤ k) (hk : k ≤ c) (hc : c ≤ 10000000) (h1 : 1 < (b.toNat : Int)) :
    Calls Try.prog 94 #[.pointer (some ⟨p, 0, none⟩)] w fun e w' => e = .returned (.bool false) ∧
      (w.setCell ⟨p, 0, none⟩ (cutS (some ⟨g, off, none⟩) k c 1)).setCell ⟨p, 1, none⟩ (.int .i64 13) = w' := by
  have hb2 := hb.store 0 (cutS (some ⟨g, off, none⟩) k c 1)
  have c1 : (w.setCell ⟨p, 0, none⟩ (cutS (some ⟨g, off, none⟩) k c 1)).cell? ⟨p, 1, none⟩ = some (.int .i64 0) := hb2.cell 1
  have f1 : (w.setCell ⟨p, 0, none⟩ (cutS (some ⟨g, off, none⟩) k c 1)).frozen? ⟨p, 1, none⟩ = false := hb2.frozen 1
  clear hb2
  go_enter Try.func94, Try.ntmps94
  go_wp2_with fail
  refine (take_ok 1 1 rfl _ _ k c _ hb h0 hk hc).mono ?_
  rintro e w' ⟨rfl, rfl⟩
  go_wp2
  go_ret
  exact ⟨rfl, rfl⟩
theorem rFlag_any (l : List UInt8) (er : Int) (p : Nat) (w : World) (h : Rdr w p l er) :
    Calls Try.prog 94 #[.pointer (some ⟨p, 0, none⟩)] w fun e w' => e = .returned (.bool (rF l er).1) ∧ Rdr w' p (rF l er).2.1 (rF l er).2.2 ∧ w.grownBy w' (some p) := by
  have h' := h
  obtain ⟨A, c, hb, hr, hk, hc⟩ := h'
  by_cases he : er = 0
  · subst he
    rcases l with _ | ⟨b, r⟩
    · have e1 : rF [] 0 = (false, [], 14) := rfl
      rw [e1]
      refine (rFlag_short p A c w hb).mono ?_
      rintro e w' ⟨rfl, rfl⟩
      exact ⟨rfl, ⟨A, c, hb.store 1 _, Rd.nil, hk, hc⟩, turned_store (World.grownBy.refl w _) (.inl rfl) _⟩
    · obtain ⟨g, off, rfl, hg, hcell⟩ := (hr.setCell (p := ⟨p, 0, none⟩) (Nat.le_refl p) (cutS A (b :: r).length c 1)).at_ (by simp)
      have hr' := hr.setCell (p := ⟨p, 0, none⟩) (Nat.le_refl p) (cutS (some ⟨g, off, none⟩) (b :: r).length c 1)
      have g1 : w.grownBy (w.setCell ⟨p, 0, none⟩ (cutS (some ⟨g, off, none⟩) (b :: r).length c 1)) (some p) := turned_store (World.grownBy.refl w _) (.inl rfl) _
      by_cases h1 : 1 < b.toNat
      · have e1 : rF (b :: r) 0 = (false, r, 13) := by simp [rF, h1]
        rw [e1]
        refine (rFlag_form p g off (b :: r).length c b w hb (hcell 0 (by simp)) (by simp) hk hc (by omega)).mono ?_
        rintro e w' ⟨rfl, rfl⟩
        have hR : Rdr ((w.setCell ⟨p, 0, none⟩ (cutS (some ⟨g, off, none⟩) (b :: r).length c 1)).setCell ⟨p, 1, none⟩ (.int .i64 13)) p ((b :: r).drop 1) 13 :=
          Rdr.cut (A := some ⟨g, off, none⟩) (c := c) (n := 1) ((hb.store 0 _).store 1 _) (hr'.setCell (p := ⟨p, 1, none⟩) (Nat.le_refl p) _) (by simp) hk hc
        have g2 : w.grownBy ((w.setCell ⟨p, 0, none⟩ (cutS (some ⟨g, off, none⟩) (b :: r).length c 1)).setCell ⟨p, 1, none⟩ (.int .i64 13)) (some p) := turned_store g1 (.inl rfl) _
        exact ⟨rfl, hR, g2⟩
      · have e1 : rF (b :: r) 0 = ((b.toNat : Int) == 1, r, 0) := by simp [rF, h1]
        rw [e1]
        refine (rFlag_ok p g off (b :: r).length c b w hb (hcell 0 (by simp)) (by simp) hk hc (by omega)).mono ?_
        rintro e w' ⟨rfl, rfl⟩
        have hR : Rdr (w.setCell ⟨p, 0, none⟩ (cutS (some ⟨g, off, none⟩) (b :: r).length c 1)) p ((b :: r).drop 1) 0 :=
          Rdr.cut (A := some ⟨g, off, none⟩) (c := c) (n := 1) (hb.store 0 _) hr' (by simp) hk hc
        exact ⟨rfl, hR, g1⟩
  · have e1 : rF l er = (false, l, er) := by simp [rF, he]
    rw [e1]
    refine (rFlag_err er p _ w hb (by simpa using he)).mono ?_
    rintro e w' ⟨rfl, rfl⟩
    exact ⟨rfl, h, World.grownBy.refl w _⟩
theorem rF_back (is : Bool) (r : List UInt8) : rF ((if is then 1 else 0) :: r) 0 = (is, r, 0) := by
  cases is <;> simp [rF]
end Go.Proofs.Ytaceaemombnhkaa
