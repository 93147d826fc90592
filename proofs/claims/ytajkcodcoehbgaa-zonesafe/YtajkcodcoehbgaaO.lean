/- The zone as plain data: what each act makes of it; the contracts of 'does' and 'should' over it. -/
import Derived.Test.YtajkcodcoehbgaaN
namespace Go.Proofs.Ytajkcodcoehbgaa
set_option linter.unusedVariables false
open Go.RowKit

/-- A zone: blocks, how many of them are safe, whether it is finished. -/
structure Zn where
  cap : Nat
  blk : Nat
  ls : List (List UInt8)
  safe : Nat
  done : Bool
structure Zn.Ok (z : Zn) : Prop where
  c1 : 1 ≤ z.cap
  c2 : z.cap ≤ 4096
  h1 : 1 ≤ z.blk
  h2 : z.blk ≤ 4096
  hk : z.ls.length ≤ z.cap
  hl : ∀ l ∈ z.ls, l.length = z.blk
  hs : z.safe ≤ z.ls.length

theorem flat_len {n : Nat} : ∀ {ls : List (List UInt8)}, (∀ l ∈ ls, l.length = n) → ls.flatten.length = ls.length * n
  | [], _ => by simp
  | l :: r, h => by
    have h1 := h l (by simp)
    have h2 := flat_len (ls := r) (fun x hx => h x (by simp [hx]))
    simp only [List.flatten_cons, List.length_append, List.length_cons, h1, h2, Nat.succ_mul]
    omega
theorem flat_take {n : Nat} : ∀ {ls : List (List UInt8)} (j : Nat), (∀ l ∈ ls, l.length = n) → ls.flatten.take (j * n) = (ls.take j).flatten
  | [], j, _ => by simp
  | l :: r, 0, _ => by simp
  | l :: r, j + 1, h => by
    have h1 := h l (by simp)
    have h2 := flat_take (ls := r) j (fun x hx => h x (by simp [hx]))
    simp only [List.flatten_cons, List.take_succ_cons, Nat.succ_mul]
    rw [List.take_append, h1, ← h2]
    have e : j * n + n - n = j * n := by omega
    rw [e, List.take_of_length_le (by omega)]
theorem flat_drop {n : Nat} : ∀ {ls : List (List UInt8)} (j : Nat), (∀ l ∈ ls, l.length = n) → ls.flatten.drop (j * n) = (ls.drop j).flatten
  | [], j, _ => by simp
  | l :: r, 0, _ => by simp
  | l :: r, j + 1, h => by
    have h1 := h l (by simp)
    have h2 := flat_drop (ls := r) j (fun x hx => h x (by simp [hx]))
    simp only [List.flatten_cons, List.drop_succ_cons, Nat.succ_mul]
    rw [List.drop_append, h1, ← h2]
    have e : j * n + n - n = j * n := by omega
    rw [e, List.drop_of_length_le (by omega)]
    simp

theorem Zn.Ok.small {z : Zn} (h : z.Ok) : z.ls.flatten.length ≤ 16777216 := by
  rw [flat_len h.hl]
  exact Nat.le_trans (Nat.mul_le_mul (Nat.le_trans h.hk h.c2) h.h2) (by decide)
theorem Zn.Ok.zok {z : Zn} (h : z.Ok) {c : Nat} (hc : z.ls.flatten.length ≤ c) : Zok z.cap z.blk z.ls.length z.safe z.ls.flatten.length c :=
  ⟨h.c1, h.c2, h.h1, h.h2, flat_len h.hl, h.hk, h.small, hc, h.hs⟩

/-- What a crash leaves. -/
def Zn.left (z : Zn) (n : Int) : Nat := z.safe + n.toNat % (z.ls.length - z.safe + 1)
/-- What an act makes of a zone. -/
def Zn.after (z : Zn) (d : Int) (b : List UInt8) (n : Int) : Zn :=
  if d = 0 then (if appE z.cap z.blk z.ls.length b.length z.done = 0 then { z with ls := z.ls ++ cuts z.blk b (b.length / z.blk) } else z)
  else if d = 1 then { z with safe := z.ls.length }
  else if d = 2 then { z with ls := [], safe := 0, done := false }
  else if d = 3 then { z with safe := z.ls.length, done := true }
  else if d = 4 then { z with ls := z.ls.take (z.left n), safe := z.left n }
  else z
/-- The error of an act. -/
def Zn.err (z : Zn) (d : Int) (b : List UInt8) : Nat := if d = 0 then appE z.cap z.blk z.ls.length b.length z.done else 0

theorem Zn.left_le {z : Zn} (h : z.Ok) (n : Int) : z.left n ≤ z.ls.length ∧ z.safe ≤ z.left n := by
  have h1 := Nat.mod_lt n.toNat (show 0 < z.ls.length - z.safe + 1 by omega)
  have h2 := h.hs
  unfold Zn.left
  omega
theorem Zn.Ok.after {z : Zn} (h : z.Ok) (d : Int) (b : List UInt8) (n : Int) : (z.after d b n).Ok := by
  unfold Zn.after
  split
  · split
    · rename_i hE
      obtain ⟨_, _, _, hcap, hr0, _⟩ := app_fits (n := z.ls.length * z.blk) h.h1 rfl hE
      refine ⟨h.c1, h.c2, h.h1, h.h2, by simp [cuts_length]; omega, fun l hl => ?_, Nat.le_trans h.hs (by simp)⟩
      rcases List.mem_append.1 hl with hl | hl
      · exact h.hl l hl
      · exact cuts_mem (Nat.div_mul_le_self _ _) l hl
    · exact h
  · split
    · exact ⟨h.c1, h.c2, h.h1, h.h2, h.hk, h.hl, Nat.le_refl _⟩
    · split
      · exact ⟨h.c1, h.c2, h.h1, h.h2, Nat.zero_le _, (fun l hl => by cases hl), Nat.le_refl _⟩
      · split
        · exact ⟨h.c1, h.c2, h.h1, h.h2, h.hk, h.hl, Nat.le_refl _⟩
        · split
          · have hj := Zn.left_le h n
            refine ⟨h.c1, h.c2, h.h1, h.h2, ?_, fun l hl => h.hl l (List.mem_of_mem_take hl), ?_⟩
            · simp only [List.length_take]; have := h.hk; omega
            · simp only [List.length_take]; omega
          · exact h

/-- The program's zone holds z. -/
def PZ (w : World) (v : Value) (z : Zn) : Prop :=
  ∃ A c, v = .agg #[.int .i64 (z.cap : Int), .int .i64 (z.blk : Int), .slice A z.ls.flatten.length c, .int .i64 (z.safe : Int), .bool z.done] ∧ Mem 5 w A (cBs z.ls.flatten) ∧ z.ls.flatten.length ≤ c
/-- The reference's zone holds z. -/
def RZ (w : World) (v : Value) (z : Zn) : Prop :=
  ∃ A c, v = .agg #[.int .i64 (z.cap : Int), .int .i64 (z.blk : Int), .slice A z.ls.length c, .int .i64 (z.safe : Int), .bool z.done] ∧ Mem 9 w A (z.ls.map cS) ∧ z.ls.length ≤ c

theorem PZ.of_gave {z : Zn} {E : Nat} {w : World} {e : Ending} {w' : World} (h : GaveE z.cap z.blk z.safe z.done z.ls.flatten E w e w') : ∃ v, e = .returned (.tuple #[v, .int .i64 (E : Int)]) ∧ PZ w' v z ∧ Below w.heap.size w w' := by
  obtain ⟨A, c, h1, h2, h3, h4⟩ := h
  exact ⟨_, h1, ⟨A, c, rfl, h2, h3⟩, h4⟩
theorem RZ.of_gave {z : Zn} {E : Nat} {w : World} {e : Ending} {w' : World} (h : GaveS z.cap z.blk z.safe z.done z.ls.length (z.ls.map cS) E w e w') : ∃ v, e = .returned (.tuple #[v, .int .i64 (E : Int)]) ∧ RZ w' v z ∧ Below w.heap.size w w' := by
  obtain ⟨A, c, h1, h2, h3, h4⟩ := h
  exact ⟨_, h1, ⟨A, c, rfl, h2, h3⟩, h4⟩

theorem does_any {z : Zn} {v : Value} (hz : z.Ok) (B : Option Addr) (cb : Nat) (b : List UInt8) (d n : Int) (w : World) (hv : PZ w v z) (hm : b.length ≤ maxLen) (hb : Rd w w.heap.size B b) :
    Calls Try.prog 10 #[v, .agg #[.int .i64 d, .slice B b.length cb, .int .i64 n]] w fun e w' => ∃ v', e = .returned (.tuple #[v', .int .i64 (z.err d b : Nat)]) ∧ PZ w' v' (z.after d b n) ∧ Below w.heap.size w w' := by
  obtain ⟨A, c, rfl, hA, hc⟩ := hv
  have hk := hz.zok hc
  by_cases d0 : d = 0
  · by_cases hE : appE z.cap z.blk z.ls.length b.length z.done = 0
    · refine (does_app A B cb _ b z.done d n w hk hA d0 hm hb hE).mono fun e w' h => ?_
      have e1 : z.err d b = 0 := by simp [Zn.err, d0, hE]
      have e2 : z.after d b n = { z with ls := z.ls ++ cuts z.blk b (b.length / z.blk) } := by simp [Zn.after, d0, hE]
      have e3 : z.ls.flatten ++ b = (z.ls ++ cuts z.blk b (b.length / z.blk)).flatten := by
        rw [List.flatten_append, cuts_all (app_fits (n := z.ls.length * z.blk) hz.h1 rfl hE).2.2.2.2.1]
      rw [e1, e2]
      rw [e3] at h
      exact PZ.of_gave (z := { z with ls := z.ls ++ cuts z.blk b (b.length / z.blk) }) h
    · refine (does_err A B cb _ b z.done d n w hk hA d0 hm hE).mono fun e w' h => ?_
      have e1 : z.err d b = appE z.cap z.blk z.ls.length b.length z.done := by simp [Zn.err, d0]
      have e2 : z.after d b n = z := by simp [Zn.after, d0, hE]
      rw [e1, e2]
      exact PZ.of_gave h
  · have e1 : z.err d b = 0 := by simp [Zn.err, d0]
    rw [e1]
    by_cases d1 : d = 1
    · refine (does_flush A B cb _ b z.done d n w hk hA d1).mono fun e w' h => ?_
      have e2 : z.after d b n = { z with safe := z.ls.length } := by simp [Zn.after, d1]
      rw [e2]
      exact PZ.of_gave (z := { z with safe := z.ls.length }) h
    · by_cases d2 : d = 2
      · refine (does_reset A B cb _ b z.done d n w hk hA d2).mono fun e w' h => ?_
        have e2 : z.after d b n = { z with ls := [], safe := 0, done := false } := by simp [Zn.after, d2]
        rw [e2]
        exact PZ.of_gave (z := { z with ls := [], safe := 0, done := false }) h
      · by_cases d3 : d = 3
        · refine (does_finish A B cb _ b z.done d n w hk hA d3).mono fun e w' h => ?_
          have e2 : z.after d b n = { z with safe := z.ls.length, done := true } := by simp [Zn.after, d3]
          rw [e2]
          exact PZ.of_gave (z := { z with safe := z.ls.length, done := true }) h
        · by_cases d4 : d = 4
          · refine (does_crash A B cb _ b z.done d n w hk hA d4).mono fun e w' h => ?_
            have e2 : z.after d b n = { z with ls := z.ls.take (z.left n), safe := z.left n } := by simp [Zn.after, d4]
            have h' : GaveE z.cap z.blk (z.left n) z.done (z.ls.flatten.take (z.left n * z.blk)) 0 w e w' := h
            rw [e2]
            rw [flat_take _ hz.hl] at h'
            exact PZ.of_gave (z := { z with ls := z.ls.take (z.left n), safe := z.left n }) h'
          · refine (does_none A B cb _ b z.done d n w hk hA ⟨d0, d1, d2, d3, d4⟩).mono fun e w' h => ?_
            have e2 : z.after d b n = z := by simp [Zn.after, d0, d1, d2, d3, d4]
            rw [e2]
            exact PZ.of_gave h

theorem should_any {z : Zn} {v : Value} (hz : z.Ok) (B : Option Addr) (cb : Nat) (b : List UInt8) (d n : Int) (w : World) (hv : RZ w v z) (hm : b.length ≤ 140737488351232) (hcb : b.length ≤ cb) (hb : Rd w w.heap.size B b) :
    Calls Try.prog 11 #[v, .agg #[.int .i64 d, .slice B b.length cb, .int .i64 n]] w fun e w' => ∃ v', e = .returned (.tuple #[v', .int .i64 (z.err d b : Nat)]) ∧ RZ w' v' (z.after d b n) ∧ Below w.heap.size w w' := by
  obtain ⟨A, c, rfl, hA, hc⟩ := hv
  by_cases d0 : d = 0
  · by_cases hE : appE z.cap z.blk z.ls.length b.length z.done = 0
    · refine (should_app z.cap z.blk z.ls.length z.safe c A B cb (z.ls.map cS) b z.done d n w hz.c2 hz.h1 hz.h2 hz.hk hz.hs hc hA d0 hm hcb hb (by simp) (fun u hu => by
          obtain ⟨l, _, rfl⟩ := List.mem_map.1 hu
          rfl) hE).mono fun e w' h => ?_
      have e1 : z.err d b = 0 := by simp [Zn.err, d0, hE]
      have e2 : z.after d b n = { z with ls := z.ls ++ cuts z.blk b (b.length / z.blk) } := by simp [Zn.after, d0, hE]
      have e3 : z.ls.length + b.length / z.blk = (z.ls ++ cuts z.blk b (b.length / z.blk)).length := by simp [cuts_length]
      rw [e1, e2]
      rw [← List.map_append, e3] at h
      exact RZ.of_gave (z := { z with ls := z.ls ++ cuts z.blk b (b.length / z.blk) }) h
    · refine (should_err z.cap z.blk z.ls.length z.safe c A B cb (z.ls.map cS) b z.done d n w hz.c2 hz.h1 hz.h2 hz.hk hz.hs hc hA d0 hm hE).mono fun e w' h => ?_
      have e1 : z.err d b = appE z.cap z.blk z.ls.length b.length z.done := by simp [Zn.err, d0]
      have e2 : z.after d b n = z := by simp [Zn.after, d0, hE]
      rw [e1, e2]
      exact RZ.of_gave h
  · have e1 : z.err d b = 0 := by simp [Zn.err, d0]
    rw [e1]
    by_cases d1 : d = 1
    · refine (should_flush z.cap z.blk z.ls.length z.safe c A B cb (z.ls.map cS) b z.done d n w hz.c2 hz.h1 hz.h2 hz.hk hz.hs hc hA d1).mono fun e w' h => ?_
      have e2 : z.after d b n = { z with safe := z.ls.length } := by simp [Zn.after, d1]
      rw [e2]
      exact RZ.of_gave (z := { z with safe := z.ls.length }) h
    · by_cases d2 : d = 2
      · refine (should_reset z.cap z.blk z.ls.length z.safe c A B cb (z.ls.map cS) b z.done d n w hz.c2 hz.h1 hz.h2 hz.hk hz.hs hc hA d2).mono fun e w' h => ?_
        have e2 : z.after d b n = { z with ls := [], safe := 0, done := false } := by simp [Zn.after, d2]
        rw [e2]
        exact RZ.of_gave (z := { z with ls := [], safe := 0, done := false }) h
      · by_cases d3 : d = 3
        · refine (should_finish z.cap z.blk z.ls.length z.safe c A B cb (z.ls.map cS) b z.done d n w hz.c2 hz.h1 hz.h2 hz.hk hz.hs hc hA d3).mono fun e w' h => ?_
          have e2 : z.after d b n = { z with safe := z.ls.length, done := true } := by simp [Zn.after, d3]
          rw [e2]
          exact RZ.of_gave (z := { z with safe := z.ls.length, done := true }) h
        · by_cases d4 : d = 4
          · refine (should_crash z.cap z.blk z.ls.length z.safe c A B cb (z.ls.map cS) b z.done d n w hz.c2 hz.h1 hz.h2 hz.hk hz.hs hc hA d4).mono fun e w' h => ?_
            have e2 : z.after d b n = { z with ls := z.ls.take (z.left n), safe := z.left n } := by simp [Zn.after, d4]
            have h' : GaveS z.cap z.blk (z.left n) z.done (z.left n) ((z.ls.map cS).take (z.left n)) 0 w e w' := h
            have e3 : (z.ls.take (z.left n)).length = z.left n := by have := (Zn.left_le hz n).1; simp; omega
            rw [e2]
            rw [← List.map_take] at h'
            refine RZ.of_gave (z := { z with ls := z.ls.take (z.left n), safe := z.left n }) ?_
            show GaveS z.cap z.blk (z.left n) z.done (z.ls.take (z.left n)).length ((z.ls.take (z.left n)).map cS) 0 w e w'
            rw [e3]
            exact h'
          · refine (should_none z.cap z.blk z.ls.length z.safe c A B cb (z.ls.map cS) b z.done d n w hz.c2 hz.h1 hz.h2 hz.hk hz.hs hc hA ⟨d0, d1, d2, d3, d4⟩).mono fun e w' h => ?_
            have e2 : z.after d b n = z := by simp [Zn.after, d0, d1, d2, d3, d4]
            rw [e2]
            exact RZ.of_gave h

theorem PZ.later {w w' : World} {v : Value} {z : Zn} (h : PZ w v z) (hb : Below w.heap.size w w') : PZ w' v z := by
  obtain ⟨A, c, h1, h2, h3⟩ := h
  exact ⟨A, c, h1, h2.later hb, h3⟩
theorem RZ.later {w w' : World} {v : Value} {z : Zn} (h : RZ w v z) (hb : Below w.heap.size w w') : RZ w' v z := by
  obtain ⟨A, c, h1, h2, h3⟩ := h
  exact ⟨A, c, h1, h2.later hb, h3⟩
theorem PZ.turn {gs : List Nat} {w w' : World} {v : Value} {z : Zn} (h : PZ w v z) (ht : Turn gs w w') (hg : ∀ g ∈ gs, Else 5 w g) : PZ w' v z := by
  obtain ⟨A, c, h1, h2, h3⟩ := h
  exact ⟨A, c, h1, h2.turn ht hg, h3⟩
theorem RZ.turn {gs : List Nat} {w w' : World} {v : Value} {z : Zn} (h : RZ w v z) (ht : Turn gs w w') (hg : ∀ g ∈ gs, Else 9 w g) : RZ w' v z := by
  obtain ⟨A, c, h1, h2, h3⟩ := h
  exact ⟨A, c, h1, h2.turn ht hg, h3⟩
end Go.Proofs.Ytajkcodcoehbgaa
