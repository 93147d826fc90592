/- Contract of the reference's Read. -/
import Derived.Test.YtajkcodcoehbgaaK
namespace Go.Proofs.Ytajkcodcoehbgaa
set_option linter.unusedVariables false
set_option linter.unusedSimpArgs false
open Go.RowKit
open Go.RowKit (wrap64)

theorem Mem.at_ {T : TypeId} {w : World} {A : Option Addr} {us : List Value} (h : Mem T w A us) (h0 : 0 < us.length) :
    ∃ b off, A = some ⟨b, off, none⟩ ∧ ∀ (j : Nat) u, us[j]? = some u → w.cell? ⟨b, off + j, none⟩ = some u := by
  obtain ⟨⟨b, off, spot⟩, cs, m, rfl, hh, hc⟩ := h h0
  have hc0 := hc 0 us[0] (by simp [h0])
  have hspot : spot = none := by simpa [Addr.add] using World.cell?_spot hc0
  subst hspot
  refine ⟨b, off, rfl, fun j u hj => ?_⟩
  have h1 := hc j u hj
  have hadd : (⟨b, off, none⟩ : Addr).add j = ⟨b, off + j, none⟩ := by unfold Addr.add; split <;> simp_all
  rw [hadd] at h1
  exact h1

/-- The bytes of m blocks from the i-th on. -/
def part (ls : List (List UInt8)) (i m : Nat) : List UInt8 := ((ls.drop i).take m).flatten
theorem part_succ {ls : List (List UInt8)} {i m : Nat} (h : i + m < ls.length) : part ls i m ++ ls[i + m] = part ls i (m + 1) := by
  unfold part
  rw [List.take_succ_eq_append_getElem (by simp; omega), List.flatten_append]
  simp

theorem part_le (ls : List (List UInt8)) (i m : Nat) : (part ls i m).length ≤ ls.flatten.length := by
  have h1 : ls.flatten = (ls.take i).flatten ++ (ls.drop i).flatten := by rw [← List.flatten_append, List.take_append_drop]
  have h2 : (ls.drop i).flatten = ((ls.drop i).take m).flatten ++ ((ls.drop i).drop m).flatten := by rw [← List.flatten_append, List.take_append_drop]
  rw [h1, h2]
  unfold part
  simp only [List.length_append]
  omega

set_option maxHeartbeats 1000000 in
theorem rread_neg (cap blk safe : Int) (k c : Nat) (A : Option Addr) (done : Bool) (i m : Int) (w : World) (hi : i < 0 ∨ m < 0) :
    Calls Try.prog 13 #[.agg #[.int .i64 cap, .int .i64 blk, .slice A k c, .int .i64 safe, .bool done], .int .i64 i, .int .i64 m] w fun e w' => e = .returned (.tuple #[.string ⟨#[]⟩, .int .i64 4]) ∧ Below w.heap.size w w' := by
  by_cases h0 : i < 0
  · clear hi
    go_enter Try.func13, Try.ntmps13
    go_wp2
    exact bodyPost_ret (v := .tuple #[.string ⟨#[]⟩, .int .i64 4]) (by simp [results, Try.results13, go_sem]) rfl ⟨rfl, (by repeat (first | with_reducible exact Below.refl _ _ | with_reducible refine Below.drew ?_ | with_reducible refine Below.alloc ?_ (by first | (simp; done) | (simp; omega)) _ | with_reducible refine Below.setCell ?_ (by first | (simp; done) | (simp; omega)) _))⟩
  · have h2 : m < 0 := by omega
    clear hi
    go_enter Try.func13, Try.ntmps13
    go_wp2
    exact bodyPost_ret (v := .tuple #[.string ⟨#[]⟩, .int .i64 4]) (by simp [results, Try.results13, go_sem]) rfl ⟨rfl, (by repeat (first | with_reducible exact Below.refl _ _ | with_reducible refine Below.drew ?_ | with_reducible refine Below.alloc ?_ (by first | (simp; done) | (simp; omega)) _ | with_reducible refine Below.setCell ?_ (by first | (simp; done) | (simp; omega)) _))⟩
set_option maxHeartbeats 1000000 in
theorem rread_far (cap blk safe : Int) (k c : Nat) (A : Option Addr) (done : Bool) (i m : Nat) (w : World) (hk : k ≤ 4096) (hi : i ≤ 9223372036854775807) (hm : m ≤ 9223372036854775807) (hf : k < i + m) :
    Calls Try.prog 13 #[.agg #[.int .i64 cap, .int .i64 blk, .slice A k c, .int .i64 safe, .bool done], .int .i64 (i : Int), .int .i64 (m : Int)] w fun e w' => e = .returned (.tuple #[.string ⟨#[]⟩, .int .i64 4]) ∧ Below w.heap.size w w' := by
  by_cases h0 : k < i
  · have hgt : (k : Int) < (i : Int) := by omega
    clear hf
    go_enter Try.func13, Try.ntmps13
    go_wp2
    exact bodyPost_ret (v := .tuple #[.string ⟨#[]⟩, .int .i64 4]) (by simp [results, Try.results13, go_sem]) rfl ⟨rfl, (by repeat (first | with_reducible exact Below.refl _ _ | with_reducible refine Below.drew ?_ | with_reducible refine Below.alloc ?_ (by first | (simp; done) | (simp; omega)) _ | with_reducible refine Below.setCell ?_ (by first | (simp; done) | (simp; omega)) _))⟩
  · have hgt : ¬ (k : Int) < (i : Int) := by omega
    have hg2 : (k : Int) - (i : Int) < (m : Int) := by omega
    clear hf
    go_enter Try.func13, Try.ntmps13
    go_wp2
    exact bodyPost_ret (v := .tuple #[.string ⟨#[]⟩, .int .i64 4]) (by simp [results, Try.results13, go_sem]) rfl ⟨rfl, (by repeat (first | with_reducible exact Below.refl _ _ | with_reducible refine Below.drew ?_ | with_reducible refine Below.alloc ?_ (by first | (simp; done) | (simp; omega)) _ | with_reducible refine Below.setCell ?_ (by first | (simp; done) | (simp; omega)) _))⟩

set_option maxHeartbeats 1000000 in
theorem rread_ok (cap blk safe : Int) (c : Nat) (A : Option Addr) (ls : List (List UInt8)) (done : Bool) (i m : Nat) (w : World) (hk : ls.length ≤ 4096) (hfl : ls.flatten.length ≤ 16777216) (hf : i + m ≤ ls.length) (hr : Mem 9 w A (ls.map cS)) :
    Calls Try.prog 13 #[.agg #[.int .i64 cap, .int .i64 blk, .slice A ls.length c, .int .i64 safe, .bool done], .int .i64 (i : Int), .int .i64 (m : Int)] w fun e w' => e = .returned (.tuple #[.string ⟨(part ls i m).toArray⟩, .int .i64 0]) ∧ Below w.heap.size w w' := by
  have HR : Hid (∀ o, Mem 9 (w.alloc o) A (ls.map cS)) := fun o => hr.later ((Below.refl _ _).alloc (Nat.le_refl _) _)
  have hgt : ¬ (ls.length : Int) < (i : Int) := by omega
  have hg2 : ¬ (ls.length : Int) - (i : Int) < (m : Int) := by omega
  have HFL := Lib.hid hfl
  clear hr hfl
  generalize hK : ls.length = k at *
  have HK := Lib.hid hK
  clear hK
  go_enter Try.func13, Try.ntmps13
  go_wp2
  go_loop [8, 9] (fun s x => ∃ j : Nat, j ≤ m ∧ x = .int .i64 ((i + j : Nat) : Int) ∧ s = .string ⟨(part ls i j).toArray⟩) (fun _ x => i + m - (intOf x).toNat)
  case atStart => exact ⟨0, by omega, rfl, by simp [part]⟩
  case round =>
    obtain ⟨j, hj, rfl, rfl⟩ := hrel
    by_cases hlt : j < m
    · have hij : i + j < ls.length := by have := HK.out; omega
      have hij2 : i + j < k := by omega
      obtain ⟨b, off, rfl, hc⟩ := (HR.out (.cells #[.int .i64 cap, .int .i64 blk, .slice A k c, .int .i64 safe, .bool done] 31)).at_ (by simp; omega)
      have hci := hc (i + j) (.string ⟨ls[i + j].toArray⟩) (by simp [hij, cS])
      have HP := Lib.hid (part_succ hij)
      have hsz : (part ls i j).length + ls[i + j].length ≤ 16777216 := by
        have h1 := part_le ls i (j + 1)
        rw [← part_succ hij, List.length_append] at h1
        have := HFL.out
        omega
      clear hc
      generalize ls[i + j] = l at hci HP hsz
      generalize part ls i j = acc at HP hsz ⊢
      have hx2 : ((i + j : Nat) : Int) < (i : Int) + (m : Int) := by omega
      have HX : Hid (i + (j + 1) = i + j + 1) := rfl
      generalize i + j = x at hci hij hij2 hx2 HX ⊢
      go_wp2
      go_round
      case rel => exact ⟨j + 1, by omega, by rw [HX.out]; go_num, by rw [← HP.out, ByteArray.mk_append_mk]⟩
      case measure => simp [intOf]; omega
    · obtain rfl : j = m := by omega
      go_wp2
      exact bodyPost_ret (v := .tuple #[.string ⟨(part ls i j).toArray⟩, .int .i64 0]) (by simp [results, Try.results13, go_sem]) rfl ⟨rfl, (by repeat (first | with_reducible exact Below.refl _ _ | with_reducible refine Below.drew ?_ | with_reducible refine Below.alloc ?_ (by first | (simp; done) | (simp; omega)) _ | with_reducible refine Below.setCell ?_ (by first | (simp; done) | (simp; omega)) _))⟩
end Go.Proofs.Ytajkcodcoehbgaa
