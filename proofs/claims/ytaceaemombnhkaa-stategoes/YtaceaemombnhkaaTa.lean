/- The contract of the reference's New. -/
import Derived.Test.YtaceaemombnhkaaSk
import Derived.Deep.DeepCutAuto
namespace Go.Proofs.Ytaceaemombnhkaa
set_option linter.unusedVariables false
set_option maxRecDepth 100000
set_option linter.unusedSimpArgs false
open Go.RowKit
open Go.RowKit (wrap64)

/-- A state as a value. -/
def GotV (w : World) (s : St) (e : Ending) (w' : World) : Prop := ∃ A k D d, e = .returned (.agg #[.int .i64 s.c.id, .int .i64 s.c.m, .int .i64 s.c.u, .int .i64 s.c.b, .int .i64 s.c.cp, .int .i64 s.c.z, .int .i64 s.c.s, .int .i64 s.c.mt, .int .i64 s.c.o, .int .i64 s.c.a, .int .i64 s.c.l, .int .i64 s.ep, .int .i64 s.sq, .slice A s.st.length k, .slice D s.zs.length d]) ∧ StAt w' (LT w'.heap.size) A s.st k D s.zs d ∧ Below w.heap.size w w'
def zrow : Nat → List Value
  | 0 => []
  | n + 1 => zrow n ++ [.int .i64 0, .int .i64 (-1), .bool false, .int .i64 0, .bool false, .slice none 0 0]
theorem zrow_length : ∀ n, (zrow n).length = n * 6
  | 0 => rfl
  | n + 1 => by show (zrow n ++ _).length = _; rw [List.length_append, zrow_length n]; simp; omega
theorem zrow_at : ∀ {n j k : Nat} (hj : j < n) (hk : k < 6), (zrow n)[j * 6 + k]? = [.int .i64 0, .int .i64 (-1), .bool false, .int .i64 0, .bool false, .slice none 0 0][k]?
  | 0, j, k, hj, _ => absurd hj (Nat.not_lt_zero j)
  | n + 1, j, k, hj, hk => by
    show (zrow n ++ _)[_]? = _
    rcases Nat.lt_or_ge j n with h1 | h1
    · rw [List.getElem?_append_left (by rw [zrow_length]; omega), zrow_at h1 hk]
    · obtain rfl : j = n := by omega
      rw [List.getElem?_append_right (by rw [zrow_length]; omega), zrow_length]
      congr 1
      omega
theorem zns_own {w : World} {base n : Nat} {v : Value} (h : w.ownsRow base 51 6 v n (zrow n)) : ∃ X cp, v = .slice X n cp ∧ ZnsAt w (LT w.heap.size) X (List.replicate n ⟨0, -1, false, 0, false, []⟩) ∧ n ≤ cp := by
  rcases h.2 with ⟨rfl, h0⟩ | ⟨g, cap, cur, rfl, hb, hg, hc, _⟩
  · refine ⟨none, 0, by rw [h0], fun hn => absurd hn (by simp [h0]), by omega⟩
  · refine ⟨_, cap, rfl, fun hn => ⟨g, 0, rfl, (Array.getElem?_eq_some_iff.1 hg).1, fun j hj => ?_⟩, hc⟩
    rw [List.length_replicate] at hj
    rw [List.getElem_replicate, Nat.zero_add]
    have hk : ∀ k, k < 6 → w.cell? ⟨g, j * 6 + k, none⟩ = [.int .i64 0, .int .i64 (-1), .bool false, .int .i64 0, .bool false, .slice none 0 0][k]? := fun k hk => by
      rw [World.ownsRow.cellAt h (j * 6 + k) (by omega), zrow_at hj hk]
    exact ⟨none, 0, hk 0 (by omega), hk 1 (by omega), hk 2 (by omega), hk 3 (by omega), hk 4 (by omega), hk 5 (by omega), PrsAt.nil, by simp, by simp⟩
theorem own_form {w : World} {base e size n : Nat} {v : Value} {xs : List Value} (h : w.ownsRow base e size v n xs) : ∃ A c, v = .slice A n c := by
  rcases h.2 with ⟨rfl, h0⟩ | ⟨g, cap, cur, rfl, _⟩
  · exact ⟨none, 0, by rw [h0]⟩
  · exact ⟨_, _, rfl⟩
theorem Box.ownRow {w w' : World} {g base e size n : Nat} {t : TypeId} {cs : Array Value} {v : Value} {xs : List Value} (h : Box w g t cs) (ho : w.ownsRow base e size v n xs) (hg : w.grownBy w' v.ownBlock) (ht : t ≠ e) : Box w' g t cs := by
  refine (hg.block g h.lt ?_).trans h
  rcases ho.2 with ⟨rfl, _⟩ | ⟨g', cap, cur, rfl, _, hh, _⟩
  · simp [Value.ownBlock]
  · simp only [Value.ownBlock, ne_eq, Option.some.injEq]
    rintro rfl
    have h' : w.heap[g]? = some (.cells cs t (0, 0)) := h
    rw [h'] at hh
    simp at hh
    exact ht hh.2
theorem own_other {w w' : World} {base base2 e e2 size size2 n n2 : Nat} {v v2 : Value} {xs xs2 : List Value} (h : w.ownsRow base e size v n xs) (h2 : w.ownsRow base2 e2 size2 v2 n2 xs2) (hg : w.grownBy w' v2.ownBlock) (hne : e ≠ e2) : w'.ownsRow base e size v n xs := by
  refine h.kept hg ?_
  rcases h.2 with ⟨rfl, _⟩ | ⟨g, cap, cur, rfl, _, hh, _⟩
  · exact Or.inl rfl
  · right
    rcases h2.2 with ⟨rfl, _⟩ | ⟨g', cap', cur', rfl, _, hh', _⟩
    · simp [Value.ownBlock]
    · simp only [Value.ownBlock, ne_eq, Option.some.injEq]
      rintro rfl
      rw [hh] at hh'
      simp at hh'
      exact hne hh'.2
theorem own_set {w : World} {base e size n g k : Nat} {v u : Value} {xs : List Value} {t : TypeId} {cs : Array Value} (h : w.ownsRow base e size v n xs) (hb : Box w g t cs) (ht : t ≠ e) : (w.setCell ⟨g, k, none⟩ u).ownsRow base e size v n xs := by
  refine ownsRow_setCell_other h ?_ u
  rcases h.2 with ⟨rfl, _⟩ | ⟨g', cap, cur, rfl, _, hh, _⟩
  · simp [Value.ownBlock]
  · simp only [Value.ownBlock, ne_eq, Option.some.injEq]
    rintro rfl
    have h' : w.heap[g']? = some (.cells cs t (0, 0)) := hb
    rw [h'] at hh
    simp at hh
    exact ht hh.2
theorem zintRow_succ (q : Nat) : zintRow (q + 1) = zintRow q ++ [.int .i64 0] := by simp [zintRow, List.replicate_succ']
/-- Within New: q Status and z zones are laid. -/
structure NewR (c : Cf) (w : World) (q : Nat) (vS : Value) (z : Nat) (vZ : Value) (wr : World) : Prop where
  conf : Box wr w.heap.size 23 #[.int .i64 c.id, .int .i64 c.m, .int .i64 c.u, .int .i64 c.b, .int .i64 c.cp, .int .i64 c.z, .int .i64 c.s, .int .i64 c.mt, .int .i64 c.o, .int .i64 c.a, .int .i64 c.l]
  ret : Box wr (w.heap.size + 1) 27 #[.int .i64 0, .int .i64 0, .int .i64 0, .int .i64 0, .int .i64 0, .int .i64 0, .int .i64 0, .int .i64 0, .int .i64 0, .int .i64 0, .int .i64 0, .int .i64 0, .int .i64 0, .slice none 0 0, .slice none 0 0]
  var : Box wr (w.heap.size + 1 + 1) 27 #[.int .i64 c.id, .int .i64 c.m, .int .i64 c.u, .int .i64 c.b, .int .i64 c.cp, .int .i64 c.z, .int .i64 c.s, .int .i64 c.mt, .int .i64 c.o, .int .i64 c.a, .int .i64 c.l, .int .i64 1, .int .i64 0, vS, vZ]
  ints : wr.ownsRow w.heap.size 3 1 vS q (zintRow q)
  zones : wr.ownsRow w.heap.size 51 6 vZ z (zrow z)
  below : Below w.heap.size w wr
theorem NewR.later {c : Cf} {w wr w2 : World} {q z : Nat} {vS vZ : Value} (h : NewR c w q vS z vZ wr) (hb : Below wr.heap.size wr w2) : NewR c w q vS z vZ w2 :=
  ⟨h.conf.later hb, h.ret.later hb, h.var.later hb, h.ints.kept (turned_of_below hb none) (by rcases vS.ownBlock with _ | _ <;> simp), h.zones.kept (turned_of_below hb none) (by rcases vZ.ownBlock with _ | _ <;> simp), h.below.trans (hb.mono h.below.size)⟩
theorem NewR.grownI {c : Cf} {w wr w2 : World} {q z : Nat} {vS vZ : Value} (h : NewR c w q vS z vZ wr) (hg : wr.grownBy w2 vS.ownBlock) : Box w2 (w.heap.size + 1 + 1) 27 #[.int .i64 c.id, .int .i64 c.m, .int .i64 c.u, .int .i64 c.b, .int .i64 c.cp, .int .i64 c.z, .int .i64 c.s, .int .i64 c.mt, .int .i64 c.o, .int .i64 c.a, .int .i64 c.l, .int .i64 1, .int .i64 0, vS, vZ] ∧ Box w2 w.heap.size 23 #[.int .i64 c.id, .int .i64 c.m, .int .i64 c.u, .int .i64 c.b, .int .i64 c.cp, .int .i64 c.z, .int .i64 c.s, .int .i64 c.mt, .int .i64 c.o, .int .i64 c.a, .int .i64 c.l] ∧ Box w2 (w.heap.size + 1) 27 #[.int .i64 0, .int .i64 0, .int .i64 0, .int .i64 0, .int .i64 0, .int .i64 0, .int .i64 0, .int .i64 0, .int .i64 0, .int .i64 0, .int .i64 0, .int .i64 0, .int .i64 0, .slice none 0 0, .slice none 0 0] ∧ w2.ownsRow w.heap.size 51 6 vZ z (zrow z) ∧ Below w.heap.size w w2 :=
  ⟨h.var.ownRow h.ints hg (by decide), h.conf.ownRow h.ints hg (by decide), h.ret.ownRow h.ints hg (by decide), own_other h.zones h.ints hg (by decide), h.below.trans ((Below.refl _ _).grown hg h.below.size (fun g hg' => (World.ownsRow.lt h.ints g hg').1))⟩
theorem NewR.grownZ {c : Cf} {w wr w2 : World} {q z : Nat} {vS vZ : Value} (h : NewR c w q vS z vZ wr) (hg : wr.grownBy w2 vZ.ownBlock) : Box w2 (w.heap.size + 1 + 1) 27 #[.int .i64 c.id, .int .i64 c.m, .int .i64 c.u, .int .i64 c.b, .int .i64 c.cp, .int .i64 c.z, .int .i64 c.s, .int .i64 c.mt, .int .i64 c.o, .int .i64 c.a, .int .i64 c.l, .int .i64 1, .int .i64 0, vS, vZ] ∧ Box w2 w.heap.size 23 #[.int .i64 c.id, .int .i64 c.m, .int .i64 c.u, .int .i64 c.b, .int .i64 c.cp, .int .i64 c.z, .int .i64 c.s, .int .i64 c.mt, .int .i64 c.o, .int .i64 c.a, .int .i64 c.l] ∧ Box w2 (w.heap.size + 1) 27 #[.int .i64 0, .int .i64 0, .int .i64 0, .int .i64 0, .int .i64 0, .int .i64 0, .int .i64 0, .int .i64 0, .int .i64 0, .int .i64 0, .int .i64 0, .int .i64 0, .int .i64 0, .slice none 0 0, .slice none 0 0] ∧ w2.ownsRow w.heap.size 3 1 vS q (zintRow q) ∧ Below w.heap.size w w2 :=
  ⟨h.var.ownRow h.zones hg (by decide), h.conf.ownRow h.zones hg (by decide), h.ret.ownRow h.zones hg (by decide), own_other h.ints h.zones hg (by decide), h.below.trans ((Below.refl _ _).grown hg h.below.size (fun g hg' => (World.ownsRow.lt h.zones g hg').1))⟩
set_option maxHeartbeats 8000000 in
theorem rnew_any (c : Cf) (w : World) (hc : checkC c = 0) : Calls Try.prog 21 #[(.agg #[.int .i64 c.id, .int .i64 c.m, .int .i64 c.u, .int .i64 c.b, .int .i64 c.cp, .int .i64 c.z, .int .i64 c.s, .int .i64 c.mt, .int .i64 c.o, .int .i64 c.a, .int .i64 c.l])] w (GotV w (newS c)) := by
  have hgd := check_good0 hc
  obtain ⟨m, hm⟩ : ∃ m : Nat, c.m = (m : Int) := ⟨c.m.toNat, by have := hgd.2.2.1; omega⟩
  obtain ⟨n, hn⟩ : ∃ n : Nat, c.z = (n : Int) := ⟨c.z.toNat, by unfold Good at hgd; omega⟩
  have hm2 : m ≤ 64 := by unfold Good at hgd; omega
  have hn2 : n ≤ 64 := by unfold Good at hgd; omega
  have HNS : Hid (newS c = ⟨c, 1, 0, List.replicate m 0, List.replicate n ⟨0, -1, false, 0, false, []⟩⟩) := by
    show newS c = _
    unfold newS
    rw [hm, hn, Int.toNat_natCast, Int.toNat_natCast]
  have HM := Lib.hid hm
  have HN := Lib.hid hn
  clear hc hgd hm hn
  go_enter Try.func21, Try.ntmps21
  go_upto_region 2 with fail
  have HV : Hid (Box (((w.alloc (.cells #[.int .i64 c.id, .int .i64 c.m, .int .i64 c.u, .int .i64 c.b, .int .i64 c.cp, .int .i64 c.z, .int .i64 c.s, .int .i64 c.mt, .int .i64 c.o, .int .i64 c.a, .int .i64 c.l] 23)).alloc (.cells #[.int .i64 0, .int .i64 0, .int .i64 0, .int .i64 0, .int .i64 0, .int .i64 0, .int .i64 0, .int .i64 0, .int .i64 0, .int .i64 0, .int .i64 0, .int .i64 0, .int .i64 0, .slice none 0 0, .slice none 0 0] 27)).alloc (.cells #[.int .i64 c.id, .int .i64 c.m, .int .i64 c.u, .int .i64 c.b, .int .i64 c.cp, .int .i64 c.z, .int .i64 c.s, .int .i64 c.mt, .int .i64 c.o, .int .i64 c.a, .int .i64 c.l, .int .i64 1, .int .i64 0, .slice none 0 0, .slice none 0 0] 27)) w.heap.size 23 #[.int .i64 c.id, .int .i64 c.m, .int .i64 c.u, .int .i64 c.b, .int .i64 c.cp, .int .i64 c.z, .int .i64 c.s, .int .i64 c.mt, .int .i64 c.o, .int .i64 c.a, .int .i64 c.l] ∧ Box (((w.alloc (.cells #[.int .i64 c.id, .int .i64 c.m, .int .i64 c.u, .int .i64 c.b, .int .i64 c.cp, .int .i64 c.z, .int .i64 c.s, .int .i64 c.mt, .int .i64 c.o, .int .i64 c.a, .int .i64 c.l] 23)).alloc (.cells #[.int .i64 0, .int .i64 0, .int .i64 0, .int .i64 0, .int .i64 0, .int .i64 0, .int .i64 0, .int .i64 0, .int .i64 0, .int .i64 0, .int .i64 0, .int .i64 0, .int .i64 0, .slice none 0 0, .slice none 0 0] 27)).alloc (.cells #[.int .i64 c.id, .int .i64 c.m, .int .i64 c.u, .int .i64 c.b, .int .i64 c.cp, .int .i64 c.z, .int .i64 c.s, .int .i64 c.mt, .int .i64 c.o, .int .i64 c.a, .int .i64 c.l, .int .i64 1, .int .i64 0, .slice none 0 0, .slice none 0 0] 27)) (w.heap.size + 1) 27 #[.int .i64 0, .int .i64 0, .int .i64 0, .int .i64 0, .int .i64 0, .int .i64 0, .int .i64 0, .int .i64 0, .int .i64 0, .int .i64 0, .int .i64 0, .int .i64 0, .int .i64 0, .slice none 0 0, .slice none 0 0] ∧ Box (((w.alloc (.cells #[.int .i64 c.id, .int .i64 c.m, .int .i64 c.u, .int .i64 c.b, .int .i64 c.cp, .int .i64 c.z, .int .i64 c.s, .int .i64 c.mt, .int .i64 c.o, .int .i64 c.a, .int .i64 c.l] 23)).alloc (.cells #[.int .i64 0, .int .i64 0, .int .i64 0, .int .i64 0, .int .i64 0, .int .i64 0, .int .i64 0, .int .i64 0, .int .i64 0, .int .i64 0, .int .i64 0, .int .i64 0, .int .i64 0, .slice none 0 0, .slice none 0 0] 27)).alloc (.cells #[.int .i64 c.id, .int .i64 c.m, .int .i64 c.u, .int .i64 c.b, .int .i64 c.cp, .int .i64 c.z, .int .i64 c.s, .int .i64 c.mt, .int .i64 c.o, .int .i64 c.a, .int .i64 c.l, .int .i64 1, .int .i64 0, .slice none 0 0, .slice none 0 0] 27)) (w.heap.size + 1 + 1) 27 #[.int .i64 c.id, .int .i64 c.m, .int .i64 c.u, .int .i64 c.b, .int .i64 c.cp, .int .i64 c.z, .int .i64 c.s, .int .i64 c.mt, .int .i64 c.o, .int .i64 c.a, .int .i64 c.l, .int .i64 1, .int .i64 0, .slice none 0 0, .slice none 0 0] ∧ Below w.heap.size w (((w.alloc (.cells #[.int .i64 c.id, .int .i64 c.m, .int .i64 c.u, .int .i64 c.b, .int .i64 c.cp, .int .i64 c.z, .int .i64 c.s, .int .i64 c.mt, .int .i64 c.o, .int .i64 c.a, .int .i64 c.l] 23)).alloc (.cells #[.int .i64 0, .int .i64 0, .int .i64 0, .int .i64 0, .int .i64 0, .int .i64 0, .int .i64 0, .int .i64 0, .int .i64 0, .int .i64 0, .int .i64 0, .int .i64 0, .int .i64 0, .slice none 0 0, .slice none 0 0] 27)).alloc (.cells #[.int .i64 c.id, .int .i64 c.m, .int .i64 c.u, .int .i64 c.b, .int .i64 c.cp, .int .i64 c.z, .int .i64 c.s, .int .i64 c.mt, .int .i64 c.o, .int .i64 c.a, .int .i64 c.l, .int .i64 1, .int .i64 0, .slice none 0 0, .slice none 0 0] 27))) := by
    obtain ⟨b1, b2, b3, b4⟩ := boxes3 w 23 27 27 #[.int .i64 c.id, .int .i64 c.m, .int .i64 c.u, .int .i64 c.b, .int .i64 c.cp, .int .i64 c.z, .int .i64 c.s, .int .i64 c.mt, .int .i64 c.o, .int .i64 c.a, .int .i64 c.l] #[.int .i64 0, .int .i64 0, .int .i64 0, .int .i64 0, .int .i64 0, .int .i64 0, .int .i64 0, .int .i64 0, .int .i64 0, .int .i64 0, .int .i64 0, .int .i64 0, .int .i64 0, .slice none 0 0, .slice none 0 0] #[.int .i64 c.id, .int .i64 c.m, .int .i64 c.u, .int .i64 c.b, .int .i64 c.cp, .int .i64 c.z, .int .i64 c.s, .int .i64 c.mt, .int .i64 c.o, .int .i64 c.a, .int .i64 c.l, .int .i64 1, .int .i64 0, .slice none 0 0, .slice none 0 0]
    exact ⟨b1, b2, b3, b4⟩
  generalize (((w.alloc (.cells #[.int .i64 c.id, .int .i64 c.m, .int .i64 c.u, .int .i64 c.b, .int .i64 c.cp, .int .i64 c.z, .int .i64 c.s, .int .i64 c.mt, .int .i64 c.o, .int .i64 c.a, .int .i64 c.l] 23)).alloc (.cells #[.int .i64 0, .int .i64 0, .int .i64 0, .int .i64 0, .int .i64 0, .int .i64 0, .int .i64 0, .int .i64 0, .int .i64 0, .int .i64 0, .int .i64 0, .int .i64 0, .int .i64 0, .slice none 0 0, .slice none 0 0] 27)).alloc (.cells #[.int .i64 c.id, .int .i64 c.m, .int .i64 c.u, .int .i64 c.b, .int .i64 c.cp, .int .i64 c.z, .int .i64 c.s, .int .i64 c.mt, .int .i64 c.o, .int .i64 c.a, .int .i64 c.l, .int .i64 1, .int .i64 0, .slice none 0 0, .slice none 0 0] 27)) = w0 at HV ⊢
  obtain ⟨y0, y1, y2, y3, y4, y5, y6, y7, y8, y9, y10⟩ := box11 HV.out.1
  go_wp2
  clear y0 y1 y2 y3 y4 y5 y6 y7 y8 y9 y10
  go_loopw [4] (fun i wr => ∃ q vS, q ≤ m ∧ i = .int .i64 (q : Nat) ∧ NewR c w q vS 0 (.slice none 0 0) wr) (fun i _ => m - (intOf i).toNat)
  case atStart => exact ⟨0, .slice none 0 0, by omega, rfl, HV.out.1, HV.out.2.1, HV.out.2.2.1, World.ownsRow_nil _ _ _ _, World.ownsRow_nil _ _ _ _, HV.out.2.2.2⟩
  case round =>
    clear HV
    obtain ⟨q, vS, hq, rfl, hst⟩ := hrel
    have HS := Lib.hid hst
    clear hst
    obtain ⟨A, a, hvS⟩ := own_form HS.out.ints
    subst hvS
    obtain ⟨y0, y1, y2, y3, y4, y5, y6, y7, y8, y9, y10⟩ := box11 HS.out.conf
    obtain ⟨x0, x1, x2, x3, x4, x5, x6, x7, x8, x9, x10, x11, x12, x13, x14⟩ := box15 HS.out.var
    by_cases hlt : (q : Int) < c.m
    · have HS2 := Lib.hid (HS.out.later (below_one wr (.cells #[.int .i64 0] 3)))
      go_upto_region 4 with (at_builtin; refine wpList_own _ rfl 24 3 (.int .i64 0) 1 8 (.tmp 15) (.tmp 16) rfl Try.underlying24 Try.info3 rfl (by omega) w.heap.size _ q _ ⟨wr.heap.size, 0, none⟩ 1 1 [.int .i64 0] rfl rfl HS2.out.ints rfl (fun j u hu => by have h := (Box.fresh wr 3 #[.int .i64 0]).cell j; have hadd : (⟨wr.heap.size, 0, none⟩ : Addr).add j = ⟨wr.heap.size, j, none⟩ := by { unfold Addr.add; split <;> simp_all }; rw [hadd, h]; simpa using hu) (by simp [Value.oneCell']) (by omega) (by omega) HS2.out.below.size ?_; intro v' w4 ho' hg'; obtain ⟨A2, a2, hv2⟩ := own_form ho'; subst hv2; have HR := Lib.hid (And.intro (HS2.out.grownI hg') (And.intro ho' hg')); obtain ⟨p0, p1, p2, p3, p4, p5, p6, p7, p8, p9, p10, p11, p12, p13, p14⟩ := box15 HR.out.1.1; obtain ⟨f0, f1, f2, f3, f4, f5, f6, f7, f8, f9, f10, f11, f12, f13, f14⟩ := froz15 HR.out.1.1)
      have HQ : Hid (NewR c w (q + 1) (.slice A2 (q + 1) a2) 0 (.slice none 0 0) (w4.setCell ⟨w.heap.size + 1 + 1, 13, none⟩ (.slice A2 (q + 1) a2))) := by
        have hr := HR.out
        have ht : Turn [w.heap.size + 1 + 1] w4 (w4.setCell ⟨w.heap.size + 1 + 1, 13, none⟩ (.slice A2 (q + 1) a2)) := (Turn.refl _ _).put (Or.inl (by simp)) _
        refine ⟨hr.1.2.1.turn ht (by simp; omega), hr.1.2.2.1.turn ht (by simp), by simpa using hr.1.1.store 13 (.slice A2 (q + 1) a2), ?_, own_set hr.1.2.2.2.1 hr.1.1 (by decide), hr.1.2.2.2.2.setCell (by show w.heap.size ≤ w.heap.size + 1 + 1; omega) _⟩
        have h := own_set (k := 13) (u := .slice A2 (q + 1) a2) hr.2.1 hr.1.1 (by decide)
        rw [zintRow_succ]
        exact h
      clear HR HS HS2 y0 y1 y2 y3 y4 y5 y6 y7 y8 y9 y10 x0 x1 x2 x3 x4 x5 x6 x7 x8 x9 x10 x11 x12 x13 x14 p0 p1 p2 p3 p4 p5 p6 p7 p8 p9 p10 p11 p12 p13 p14 f0 f1 f2 f3 f4 f5 f6 f7 f8 f9 f10 f11 f12 f13 f14 ho' hg'
      go_wp2
      go_roundw
      case rel => exact ⟨q + 1, _, by have := HM.out; omega, by go_num, HQ.out⟩
      case measure => have := HM.out; simp [intOf]; omega
    · obtain rfl : q = m := by have := HM.out; omega
      go_wp2
      clear y0 y1 y2 y3 y4 y5 y6 y7 y8 y9 y10 x0 x1 x2 x3 x4 x5 x6 x7 x8 x9 x10 x11 x12 x13 x14
      go_loopw [5] (fun i wr => ∃ z vZ, z ≤ n ∧ i = .int .i64 (z : Nat) ∧ NewR c w q (.slice A q a) z vZ wr) (fun i _ => n - (intOf i).toNat)
      case atStart => exact ⟨0, .slice none 0 0, by omega, rfl, HS.out⟩
      case round =>
        clear HS
        obtain ⟨z, vZ, hz, rfl, hst⟩ := hrel
        have HS := Lib.hid hst
        clear hst
        obtain ⟨D, d, hvZ⟩ := own_form HS.out.zones
        subst hvZ
        obtain ⟨y0, y1, y2, y3, y4, y5, y6, y7, y8, y9, y10⟩ := box11 HS.out.conf
        obtain ⟨x0, x1, x2, x3, x4, x5, x6, x7, x8, x9, x10, x11, x12, x13, x14⟩ := box15 HS.out.var
        by_cases hlz : (z : Int) < c.z
        · have HS2 := Lib.hid (HS.out.later (below_one wr (.cells #[.int .i64 0, .int .i64 (-1), .bool false, .int .i64 0, .bool false, .slice none 0 0] 51)))
          go_upto_region 8 with (at_builtin; refine wpList_own _ rfl 25 51 (.agg #[.int .i64 0, .int .i64 0, .bool false, .int .i64 0, .bool false, .slice none 0 0]) 6 64 (.tmp 26) (.tmp 28) rfl Try.underlying25 Try.info51 rfl (by omega) w.heap.size _ z _ ⟨wr.heap.size, 0, none⟩ 1 1 [.int .i64 0, .int .i64 (-1), .bool false, .int .i64 0, .bool false, .slice none 0 0] rfl rfl HS2.out.zones rfl (fun j u hu => by have h := (Box.fresh wr 51 #[.int .i64 0, .int .i64 (-1), .bool false, .int .i64 0, .bool false, .slice none 0 0]).cell j; have hadd : (⟨wr.heap.size, 0, none⟩ : Addr).add j = ⟨wr.heap.size, j, none⟩ := by { unfold Addr.add; split <;> simp_all }; rw [hadd, h, List.getElem?_toArray]; exact hu) (by simp [Value.oneCell']) (by omega) (by omega) HS2.out.below.size ?_; intro v' w4 ho' hg'; obtain ⟨A2, a2, hv2⟩ := own_form ho'; subst hv2; have HR := Lib.hid (And.intro (HS2.out.grownZ hg') (And.intro ho' hg')); obtain ⟨p0, p1, p2, p3, p4, p5, p6, p7, p8, p9, p10, p11, p12, p13, p14⟩ := box15 HR.out.1.1; obtain ⟨f0, f1, f2, f3, f4, f5, f6, f7, f8, f9, f10, f11, f12, f13, f14⟩ := froz15 HR.out.1.1)
          have HQ : Hid (NewR c w q (.slice A q a) (z + 1) (.slice A2 (z + 1) a2) (w4.setCell ⟨w.heap.size + 1 + 1, 14, none⟩ (.slice A2 (z + 1) a2))) := by
            have hr := HR.out
            have ht : Turn [w.heap.size + 1 + 1] w4 (w4.setCell ⟨w.heap.size + 1 + 1, 14, none⟩ (.slice A2 (z + 1) a2)) := (Turn.refl _ _).put (Or.inl (by simp)) _
            refine ⟨hr.1.2.1.turn ht (by simp; omega), hr.1.2.2.1.turn ht (by simp), by simpa using hr.1.1.store 14 (.slice A2 (z + 1) a2), own_set hr.1.2.2.2.1 hr.1.1 (by decide), ?_, hr.1.2.2.2.2.setCell (by show w.heap.size ≤ w.heap.size + 1 + 1; omega) _⟩
            exact own_set (k := 14) (u := .slice A2 (z + 1) a2) hr.2.1 hr.1.1 (by decide)
          clear HR HS HS2 y0 y1 y2 y3 y4 y5 y6 y7 y8 y9 y10 x0 x1 x2 x3 x4 x5 x6 x7 x8 x9 x10 x11 x12 x13 x14 p0 p1 p2 p3 p4 p5 p6 p7 p8 p9 p10 p11 p12 p13 p14 f0 f1 f2 f3 f4 f5 f6 f7 f8 f9 f10 f11 f12 f13 f14 ho' hg'
          go_wp2
          go_roundw
          case rel => exact ⟨z + 1, _, by have := HN.out; omega, by go_num, HQ.out⟩
          case measure => have := HN.out; simp [intOf]; omega
        · obtain rfl : z = n := by have := HN.out; omega
          obtain ⟨u0, u1, u2, u3, u4, u5, u6, u7, u8, u9, u10, u11, u12, u13, u14⟩ := box15 HS.out.ret
          obtain ⟨f0, f1, f2, f3, f4, f5, f6, f7, f8, f9, f10, f11, f12, f13, f14⟩ := froz15 HS.out.ret
          have h1 := sets_box0 [.int .i64 c.id, .int .i64 c.m, .int .i64 c.u, .int .i64 c.b, .int .i64 c.cp, .int .i64 c.z, .int .i64 c.s, .int .i64 c.mt, .int .i64 c.o, .int .i64 c.a, .int .i64 c.l, .int .i64 1, .int .i64 0, .slice A q a, .slice D z d] HS.out.ret rfl
          have h3 := sets_turn (g := w.heap.size + 1) (gs := [w.heap.size + 1]) [.int .i64 c.id, .int .i64 c.m, .int .i64 c.u, .int .i64 c.b, .int .i64 c.cp, .int .i64 c.z, .int .i64 c.s, .int .i64 c.mt, .int .i64 c.o, .int .i64 c.a, .int .i64 c.l, .int .i64 1, .int .i64 0, .slice A q a, .slice D z d] 0 wr (Turn.refl _ _) (by simp)
          have h2 := sets_below (g := w.heap.size + 1) [.int .i64 c.id, .int .i64 c.m, .int .i64 c.u, .int .i64 c.b, .int .i64 c.cp, .int .i64 c.z, .int .i64 c.s, .int .i64 c.mt, .int .i64 c.o, .int .i64 c.a, .int .i64 c.l, .int .i64 1, .int .i64 0, .slice A q a, .slice D z d] 0 wr HS.out.below (Nat.le_succ _)
          simp only [sets, Nat.zero_add, Nat.reduceAdd] at h1 h2 h3
          have HX : Hid (Box (((((((((((((((wr.setCell ⟨w.heap.size + 1, 0, none⟩ (.int .i64 c.id)).setCell ⟨w.heap.size + 1, 1, none⟩ (.int .i64 c.m)).setCell ⟨w.heap.size + 1, 2, none⟩ (.int .i64 c.u)).setCell ⟨w.heap.size + 1, 3, none⟩ (.int .i64 c.b)).setCell ⟨w.heap.size + 1, 4, none⟩ (.int .i64 c.cp)).setCell ⟨w.heap.size + 1, 5, none⟩ (.int .i64 c.z)).setCell ⟨w.heap.size + 1, 6, none⟩ (.int .i64 c.s)).setCell ⟨w.heap.size + 1, 7, none⟩ (.int .i64 c.mt)).setCell ⟨w.heap.size + 1, 8, none⟩ (.int .i64 c.o)).setCell ⟨w.heap.size + 1, 9, none⟩ (.int .i64 c.a)).setCell ⟨w.heap.size + 1, 10, none⟩ (.int .i64 c.l)).setCell ⟨w.heap.size + 1, 11, none⟩ (.int .i64 1)).setCell ⟨w.heap.size + 1, 12, none⟩ (.int .i64 0)).setCell ⟨w.heap.size + 1, 13, none⟩ (.slice A q a)).setCell ⟨w.heap.size + 1, 14, none⟩ (.slice D z d)) (w.heap.size + 1) 27 #[.int .i64 c.id, .int .i64 c.m, .int .i64 c.u, .int .i64 c.b, .int .i64 c.cp, .int .i64 c.z, .int .i64 c.s, .int .i64 c.mt, .int .i64 c.o, .int .i64 c.a, .int .i64 c.l, .int .i64 1, .int .i64 0, .slice A q a, .slice D z d] ∧ Below w.heap.size w (((((((((((((((wr.setCell ⟨w.heap.size + 1, 0, none⟩ (.int .i64 c.id)).setCell ⟨w.heap.size + 1, 1, none⟩ (.int .i64 c.m)).setCell ⟨w.heap.size + 1, 2, none⟩ (.int .i64 c.u)).setCell ⟨w.heap.size + 1, 3, none⟩ (.int .i64 c.b)).setCell ⟨w.heap.size + 1, 4, none⟩ (.int .i64 c.cp)).setCell ⟨w.heap.size + 1, 5, none⟩ (.int .i64 c.z)).setCell ⟨w.heap.size + 1, 6, none⟩ (.int .i64 c.s)).setCell ⟨w.heap.size + 1, 7, none⟩ (.int .i64 c.mt)).setCell ⟨w.heap.size + 1, 8, none⟩ (.int .i64 c.o)).setCell ⟨w.heap.size + 1, 9, none⟩ (.int .i64 c.a)).setCell ⟨w.heap.size + 1, 10, none⟩ (.int .i64 c.l)).setCell ⟨w.heap.size + 1, 11, none⟩ (.int .i64 1)).setCell ⟨w.heap.size + 1, 12, none⟩ (.int .i64 0)).setCell ⟨w.heap.size + 1, 13, none⟩ (.slice A q a)).setCell ⟨w.heap.size + 1, 14, none⟩ (.slice D z d)) ∧ Turn [w.heap.size + 1] wr (((((((((((((((wr.setCell ⟨w.heap.size + 1, 0, none⟩ (.int .i64 c.id)).setCell ⟨w.heap.size + 1, 1, none⟩ (.int .i64 c.m)).setCell ⟨w.heap.size + 1, 2, none⟩ (.int .i64 c.u)).setCell ⟨w.heap.size + 1, 3, none⟩ (.int .i64 c.b)).setCell ⟨w.heap.size + 1, 4, none⟩ (.int .i64 c.cp)).setCell ⟨w.heap.size + 1, 5, none⟩ (.int .i64 c.z)).setCell ⟨w.heap.size + 1, 6, none⟩ (.int .i64 c.s)).setCell ⟨w.heap.size + 1, 7, none⟩ (.int .i64 c.mt)).setCell ⟨w.heap.size + 1, 8, none⟩ (.int .i64 c.o)).setCell ⟨w.heap.size + 1, 9, none⟩ (.int .i64 c.a)).setCell ⟨w.heap.size + 1, 10, none⟩ (.int .i64 c.l)).setCell ⟨w.heap.size + 1, 11, none⟩ (.int .i64 1)).setCell ⟨w.heap.size + 1, 12, none⟩ (.int .i64 0)).setCell ⟨w.heap.size + 1, 13, none⟩ (.slice A q a)).setCell ⟨w.heap.size + 1, 14, none⟩ (.slice D z d))) := ⟨h1, h2, h3⟩
          have HI : Hid (IntsAt (((((((((((((((wr.setCell ⟨w.heap.size + 1, 0, none⟩ (.int .i64 c.id)).setCell ⟨w.heap.size + 1, 1, none⟩ (.int .i64 c.m)).setCell ⟨w.heap.size + 1, 2, none⟩ (.int .i64 c.u)).setCell ⟨w.heap.size + 1, 3, none⟩ (.int .i64 c.b)).setCell ⟨w.heap.size + 1, 4, none⟩ (.int .i64 c.cp)).setCell ⟨w.heap.size + 1, 5, none⟩ (.int .i64 c.z)).setCell ⟨w.heap.size + 1, 6, none⟩ (.int .i64 c.s)).setCell ⟨w.heap.size + 1, 7, none⟩ (.int .i64 c.mt)).setCell ⟨w.heap.size + 1, 8, none⟩ (.int .i64 c.o)).setCell ⟨w.heap.size + 1, 9, none⟩ (.int .i64 c.a)).setCell ⟨w.heap.size + 1, 10, none⟩ (.int .i64 c.l)).setCell ⟨w.heap.size + 1, 11, none⟩ (.int .i64 1)).setCell ⟨w.heap.size + 1, 12, none⟩ (.int .i64 0)).setCell ⟨w.heap.size + 1, 13, none⟩ (.slice A q a)).setCell ⟨w.heap.size + 1, 14, none⟩ (.slice D z d)) (LT (((((((((((((((wr.setCell ⟨w.heap.size + 1, 0, none⟩ (.int .i64 c.id)).setCell ⟨w.heap.size + 1, 1, none⟩ (.int .i64 c.m)).setCell ⟨w.heap.size + 1, 2, none⟩ (.int .i64 c.u)).setCell ⟨w.heap.size + 1, 3, none⟩ (.int .i64 c.b)).setCell ⟨w.heap.size + 1, 4, none⟩ (.int .i64 c.cp)).setCell ⟨w.heap.size + 1, 5, none⟩ (.int .i64 c.z)).setCell ⟨w.heap.size + 1, 6, none⟩ (.int .i64 c.s)).setCell ⟨w.heap.size + 1, 7, none⟩ (.int .i64 c.mt)).setCell ⟨w.heap.size + 1, 8, none⟩ (.int .i64 c.o)).setCell ⟨w.heap.size + 1, 9, none⟩ (.int .i64 c.a)).setCell ⟨w.heap.size + 1, 10, none⟩ (.int .i64 c.l)).setCell ⟨w.heap.size + 1, 11, none⟩ (.int .i64 1)).setCell ⟨w.heap.size + 1, 12, none⟩ (.int .i64 0)).setCell ⟨w.heap.size + 1, 13, none⟩ (.slice A q a)).setCell ⟨w.heap.size + 1, 14, none⟩ (.slice D z d)).heap.size) A (List.replicate q 0) ∧ ZnsAt (((((((((((((((wr.setCell ⟨w.heap.size + 1, 0, none⟩ (.int .i64 c.id)).setCell ⟨w.heap.size + 1, 1, none⟩ (.int .i64 c.m)).setCell ⟨w.heap.size + 1, 2, none⟩ (.int .i64 c.u)).setCell ⟨w.heap.size + 1, 3, none⟩ (.int .i64 c.b)).setCell ⟨w.heap.size + 1, 4, none⟩ (.int .i64 c.cp)).setCell ⟨w.heap.size + 1, 5, none⟩ (.int .i64 c.z)).setCell ⟨w.heap.size + 1, 6, none⟩ (.int .i64 c.s)).setCell ⟨w.heap.size + 1, 7, none⟩ (.int .i64 c.mt)).setCell ⟨w.heap.size + 1, 8, none⟩ (.int .i64 c.o)).setCell ⟨w.heap.size + 1, 9, none⟩ (.int .i64 c.a)).setCell ⟨w.heap.size + 1, 10, none⟩ (.int .i64 c.l)).setCell ⟨w.heap.size + 1, 11, none⟩ (.int .i64 1)).setCell ⟨w.heap.size + 1, 12, none⟩ (.int .i64 0)).setCell ⟨w.heap.size + 1, 13, none⟩ (.slice A q a)).setCell ⟨w.heap.size + 1, 14, none⟩ (.slice D z d)) (LT (((((((((((((((wr.setCell ⟨w.heap.size + 1, 0, none⟩ (.int .i64 c.id)).setCell ⟨w.heap.size + 1, 1, none⟩ (.int .i64 c.m)).setCell ⟨w.heap.size + 1, 2, none⟩ (.int .i64 c.u)).setCell ⟨w.heap.size + 1, 3, none⟩ (.int .i64 c.b)).setCell ⟨w.heap.size + 1, 4, none⟩ (.int .i64 c.cp)).setCell ⟨w.heap.size + 1, 5, none⟩ (.int .i64 c.z)).setCell ⟨w.heap.size + 1, 6, none⟩ (.int .i64 c.s)).setCell ⟨w.heap.size + 1, 7, none⟩ (.int .i64 c.mt)).setCell ⟨w.heap.size + 1, 8, none⟩ (.int .i64 c.o)).setCell ⟨w.heap.size + 1, 9, none⟩ (.int .i64 c.a)).setCell ⟨w.heap.size + 1, 10, none⟩ (.int .i64 c.l)).setCell ⟨w.heap.size + 1, 11, none⟩ (.int .i64 1)).setCell ⟨w.heap.size + 1, 12, none⟩ (.int .i64 0)).setCell ⟨w.heap.size + 1, 13, none⟩ (.slice A q a)).setCell ⟨w.heap.size + 1, 14, none⟩ (.slice D z d)).heap.size) D (List.replicate z ⟨0, -1, false, 0, false, []⟩) ∧ q ≤ a ∧ z ≤ d) := by
            have hg : wr.grownBy (((((((((((((((wr.setCell ⟨w.heap.size + 1, 0, none⟩ (.int .i64 c.id)).setCell ⟨w.heap.size + 1, 1, none⟩ (.int .i64 c.m)).setCell ⟨w.heap.size + 1, 2, none⟩ (.int .i64 c.u)).setCell ⟨w.heap.size + 1, 3, none⟩ (.int .i64 c.b)).setCell ⟨w.heap.size + 1, 4, none⟩ (.int .i64 c.cp)).setCell ⟨w.heap.size + 1, 5, none⟩ (.int .i64 c.z)).setCell ⟨w.heap.size + 1, 6, none⟩ (.int .i64 c.s)).setCell ⟨w.heap.size + 1, 7, none⟩ (.int .i64 c.mt)).setCell ⟨w.heap.size + 1, 8, none⟩ (.int .i64 c.o)).setCell ⟨w.heap.size + 1, 9, none⟩ (.int .i64 c.a)).setCell ⟨w.heap.size + 1, 10, none⟩ (.int .i64 c.l)).setCell ⟨w.heap.size + 1, 11, none⟩ (.int .i64 1)).setCell ⟨w.heap.size + 1, 12, none⟩ (.int .i64 0)).setCell ⟨w.heap.size + 1, 13, none⟩ (.slice A q a)).setCell ⟨w.heap.size + 1, 14, none⟩ (.slice D z d)) (some (w.heap.size + 1)) := ⟨h3.os, h3.tape, h3.output, h3.size, fun k hk hne => h3.block k hk (by simp at hne ⊢; exact hne)⟩
            have hret := HS.out.ret
            have i1 := HS.out.ints
            have i2 := HS.out.zones
            have o1 : (((((((((((((((wr.setCell ⟨w.heap.size + 1, 0, none⟩ (.int .i64 c.id)).setCell ⟨w.heap.size + 1, 1, none⟩ (.int .i64 c.m)).setCell ⟨w.heap.size + 1, 2, none⟩ (.int .i64 c.u)).setCell ⟨w.heap.size + 1, 3, none⟩ (.int .i64 c.b)).setCell ⟨w.heap.size + 1, 4, none⟩ (.int .i64 c.cp)).setCell ⟨w.heap.size + 1, 5, none⟩ (.int .i64 c.z)).setCell ⟨w.heap.size + 1, 6, none⟩ (.int .i64 c.s)).setCell ⟨w.heap.size + 1, 7, none⟩ (.int .i64 c.mt)).setCell ⟨w.heap.size + 1, 8, none⟩ (.int .i64 c.o)).setCell ⟨w.heap.size + 1, 9, none⟩ (.int .i64 c.a)).setCell ⟨w.heap.size + 1, 10, none⟩ (.int .i64 c.l)).setCell ⟨w.heap.size + 1, 11, none⟩ (.int .i64 1)).setCell ⟨w.heap.size + 1, 12, none⟩ (.int .i64 0)).setCell ⟨w.heap.size + 1, 13, none⟩ (.slice A q a)).setCell ⟨w.heap.size + 1, 14, none⟩ (.slice D z d)).ownsRow w.heap.size 3 1 (.slice A q a) q (zintRow q) := by
              refine i1.kept hg (Or.inr ?_)
              intro e
              rcases i1.2 with ⟨e2, _⟩ | ⟨g, cap, cur, e2, _, hh, _⟩
              · rw [e2] at e; simp [Value.ownBlock] at e
              · rw [e2] at e
                simp only [Value.ownBlock, Option.some.injEq] at e
                subst e
                have h' : wr.heap[w.heap.size + 1]? = some (.cells _ 27 (0, 0)) := hret
                rw [h'] at hh
                simp at hh
            have o2 : (((((((((((((((wr.setCell ⟨w.heap.size + 1, 0, none⟩ (.int .i64 c.id)).setCell ⟨w.heap.size + 1, 1, none⟩ (.int .i64 c.m)).setCell ⟨w.heap.size + 1, 2, none⟩ (.int .i64 c.u)).setCell ⟨w.heap.size + 1, 3, none⟩ (.int .i64 c.b)).setCell ⟨w.heap.size + 1, 4, none⟩ (.int .i64 c.cp)).setCell ⟨w.heap.size + 1, 5, none⟩ (.int .i64 c.z)).setCell ⟨w.heap.size + 1, 6, none⟩ (.int .i64 c.s)).setCell ⟨w.heap.size + 1, 7, none⟩ (.int .i64 c.mt)).setCell ⟨w.heap.size + 1, 8, none⟩ (.int .i64 c.o)).setCell ⟨w.heap.size + 1, 9, none⟩ (.int .i64 c.a)).setCell ⟨w.heap.size + 1, 10, none⟩ (.int .i64 c.l)).setCell ⟨w.heap.size + 1, 11, none⟩ (.int .i64 1)).setCell ⟨w.heap.size + 1, 12, none⟩ (.int .i64 0)).setCell ⟨w.heap.size + 1, 13, none⟩ (.slice A q a)).setCell ⟨w.heap.size + 1, 14, none⟩ (.slice D z d)).ownsRow w.heap.size 51 6 (.slice D z d) z (zrow z) := by
              refine i2.kept hg (Or.inr ?_)
              intro e
              rcases i2.2 with ⟨e2, _⟩ | ⟨g, cap, cur, e2, _, hh, _⟩
              · rw [e2] at e; simp [Value.ownBlock] at e
              · rw [e2] at e
                simp only [Value.ownBlock, Option.some.injEq] at e
                subst e
                have h' : wr.heap[w.heap.size + 1]? = some (.cells _ 27 (0, 0)) := hret
                rw [h'] at hh
                simp at hh
            obtain ⟨X, cp, e1, hX, hc1⟩ := own_ints (l := List.replicate q 0) (by rw [List.length_replicate]; exact o1)
            rw [List.length_replicate] at e1 hc1
            simp only [Value.slice.injEq, true_and] at e1
            obtain ⟨rfl, rfl⟩ := e1
            obtain ⟨X2, cp2, e2, hX2, hc2⟩ := zns_own o2
            simp only [Value.slice.injEq, true_and] at e2
            obtain ⟨rfl, rfl⟩ := e2
            exact ⟨hX, hX2, hc1, hc2⟩
          clear h1 h2 h3
          go_wp2
          generalize (((((((((((((((wr.setCell ⟨w.heap.size + 1, 0, none⟩ (.int .i64 c.id)).setCell ⟨w.heap.size + 1, 1, none⟩ (.int .i64 c.m)).setCell ⟨w.heap.size + 1, 2, none⟩ (.int .i64 c.u)).setCell ⟨w.heap.size + 1, 3, none⟩ (.int .i64 c.b)).setCell ⟨w.heap.size + 1, 4, none⟩ (.int .i64 c.cp)).setCell ⟨w.heap.size + 1, 5, none⟩ (.int .i64 c.z)).setCell ⟨w.heap.size + 1, 6, none⟩ (.int .i64 c.s)).setCell ⟨w.heap.size + 1, 7, none⟩ (.int .i64 c.mt)).setCell ⟨w.heap.size + 1, 8, none⟩ (.int .i64 c.o)).setCell ⟨w.heap.size + 1, 9, none⟩ (.int .i64 c.a)).setCell ⟨w.heap.size + 1, 10, none⟩ (.int .i64 c.l)).setCell ⟨w.heap.size + 1, 11, none⟩ (.int .i64 1)).setCell ⟨w.heap.size + 1, 12, none⟩ (.int .i64 0)).setCell ⟨w.heap.size + 1, 13, none⟩ (.slice A q a)).setCell ⟨w.heap.size + 1, 14, none⟩ (.slice D z d)) = w5 at HX HI ⊢
          clear y0 y1 y2 y3 y4 y5 y6 y7 y8 y9 y10 x0 x1 x2 x3 x4 x5 x6 x7 x8 x9 x10 x11 x12 x13 x14 u0 u1 u2 u3 u4 u5 u6 u7 u8 u9 u10 u11 u12 u13 u14 f0 f1 f2 f3 f4 f5 f6 f7 f8 f9 f10 f11 f12 f13 f14 HS
          obtain ⟨y0, y1, y2, y3, y4, y5, y6, y7, y8, y9, y10, y11, y12, y13, y14⟩ := box15 HX.out.1
          rw [HNS.out]
          refine bodyPost_ret (v := .agg #[.int .i64 c.id, .int .i64 c.m, .int .i64 c.u, .int .i64 c.b, .int .i64 c.cp, .int .i64 c.z, .int .i64 c.s, .int .i64 c.mt, .int .i64 c.o, .int .i64 c.a, .int .i64 c.l, .int .i64 1, .int .i64 0, .slice A q a, .slice D z d]) (by simp [results, Try.results21, go_sem, *]) rfl ⟨A, a, D, d, by simp, ⟨HI.out.1, HI.out.2.1, by simpa using HI.out.2.2.1, by simpa using HI.out.2.2.2⟩, HX.out.2.1⟩
end Go.Proofs.Ytaceaemombnhkaa
