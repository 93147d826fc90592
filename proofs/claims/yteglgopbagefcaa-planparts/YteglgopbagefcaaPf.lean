/- Appends to rows of things of five cells. -/
import Derived.Test.YteglgopbagefcaaPe
namespace Go.Proofs.Yteglgopbagefcaa
set_option linter.unusedVariables false
set_option linter.unusedSimpArgs false
open Go.RowKit Go.Shelf
open Go.RowKit (wrap64)

theorem Try.info36 : (Try.prog.info? 36).map (fun i => (i.zero, i.size, i.bytes)) = some (some (.agg #[.int .i64 0, .int .i64 0, .int .i64 0, .int .i64 0, .int .i64 0]), 5, 40) := by kernel_rfl
theorem oper_app {P : Program} {o : Oper} {a : Act} {w : World} {K : Act → World → Prop} {Q : Exit → Act → World → Prop} (s x : Operand) (t : TypeId)
    (ho : o.op = .call { callee := .builtin .append, args := #[s, x], argTypes := #[t, t] }) (vs vx v' : Value) (w' : World) (hs : a.eval s = vs) (hx : a.eval x = vx)
    (hrun : (Builtin.append_ #[t, t] o.type #[vs, vx]).run P w = .ok v' w') (hK : K (a.put o.dst v') w') : Oper.wp P o a w K Q := by
  unfold Oper.wp execOp
  simp only [ho, resolve, invoke, builtin, Sem.run_bind, Sem.run_pure, Result.andThen_ok, List.map_toArray, List.map_cons, List.map_nil, hs, hx, hrun]
  exact hK
theorem turn_of_grown {w w' : World} {row : Option Nat} (h : w.grownBy w' row) : Turn row.toList w w' :=
  ⟨h.os, h.tape, h.output, h.size, fun k hk hn => h.block k hk (by rintro e; exact hn (by rw [← e]; simp))⟩
section
variable {α : Type} {f : α → List Value}
theorem Rw.apart {te t : TypeId} {W : World} {base k : Nat} {v : Value} {l : List α} {cs : Array Value} (h : Rw f te W base v l) (hb : Box W k t cs) (hne : t ≠ te) : k ∉ v.ownBlock.toList := by
  rcases h.2 with ⟨rfl, _⟩ | ⟨g, cap, cur, rfl, _, hgb, _⟩
  · simp [Value.ownBlock]
  · intro e
    obtain rfl : k = g := by simpa [Value.ownBlock] using e
    rw [show W.heap[k]? = _ from hb] at hgb
    cases hgb
    exact hne rfl
theorem Rw.ge {te : TypeId} {W : World} {base k : Nat} {v : Value} {l : List α} (h : Rw f te W base v l) (hk : k ∈ v.ownBlock.toList) : base ≤ k := by
  rcases h.2 with ⟨rfl, _⟩ | ⟨g, cap, cur, rfl, hb, _⟩
  · simp [Value.ownBlock] at hk
  · obtain rfl : k = g := by simpa [Value.ownBlock] using hk
    exact hb
/-- Behind an append: blocks of other types, and all below the base, are as they were. -/
theorem Rw.grown {te t : TypeId} {W w1 : World} {base k : Nat} {v : Value} {l : List α} {cs : Array Value} (h : Rw f te W base v l) (hg : W.grownBy w1 v.ownBlock) (hb : Box W k t cs) (hne : t ≠ te) : Box w1 k t cs :=
  hb.turn (turn_of_grown hg) (h.apart hb hne)
theorem Rw.below {te : TypeId} {W w1 : World} {base : Nat} {v : Value} {l : List α} (h : Rw f te W base v l) (hg : W.grownBy w1 v.ownBlock) (hB : base ≤ W.heap.size) : Below base W w1 :=
  (turn_of_grown hg).below (fun g hm => h.ge hm) hB
theorem run_app5 {ts te ty : TypeId} {i0 : TypeInfo} {z : Value} (ht : Try.prog.underlying ts = some (.slice te)) (hi : Try.prog.info? te = some i0) (hz : i0.zero = some z) (h4 : i0.size = 5) (h5 : i0.bytes = 40) (h6 : z.cells.size = 5)
    (hf : ∀ x, (f x).length = 5) (h1 : ∀ x, ∀ u ∈ f x, u.oneCell' = true) (W : World) (base : Nat) (v : Value) (l : List α) (x : α) (ad : Addr) (hrow : Rw f te W base v l) (hc : ∀ j u, (f x)[j]? = some u → W.cell? (ad.add j) = some u) (hl : l.length ≤ 999999) (hb : base ≤ W.heap.size) :
    ∃ v' w', (Builtin.append_ #[ts, ts] ty #[v, .slice (some ad) 1 1]).run Try.prog W = .ok v' w' ∧ Rw f te w' base v' (l ++ [x]) ∧ W.grownBy w' v.ownBlock := by
  obtain ⟨v', w', h, h2, h3, _⟩ := run_append_own (P := Try.prog) W base ts ty te i0 z 5 40 ht hi hz h4 h5 h6 (by omega) v l.length (rcells f l) hrow ad 1 1 (f x) (by rw [hf]) hc (h1 x) (by unfold maxLen; omega) (by omega) hb
  refine ⟨v', w', h, ?_, h3⟩
  show w'.ownsRow base te 5 v' (l ++ [x]).length (rcells f (l ++ [x]))
  rw [rcells_snoc]
  simpa using h2
theorem wpList_app5 {ts te : TypeId} {i0 : TypeInfo} {z : Value} (ht : Try.prog.underlying ts = some (.slice te)) (hi : Try.prog.info? te = some i0) (hz : i0.zero = some z) (h4 : i0.size = 5) (h5 : i0.bytes = 40) (h6 : z.cells.size = 5)
    (hf : ∀ x, (f x).length = 5) (h1 : ∀ x, ∀ u ∈ f x, u.oneCell' = true) (W : World) {ops : Array Oper} {rest : List Oper} {o : Oper} {a : Act} {Q : Exit → Act → World → Prop} (hgd : o.guard = none) (s y : Operand)
    (ho : o.op = .call { callee := .builtin .append, args := #[s, y], argTypes := #[ts, ts] }) (base : Nat) (v : Value) (l : List α) (x : α) (ad : Addr) (hs : a.eval s = v) (hy : a.eval y = .slice (some ad) 1 1) (hrow : Rw f te W base v l) (hc : ∀ j u, (f x)[j]? = some u → W.cell? (ad.add j) = some u) (hl : l.length ≤ 999999) (hb : base ≤ W.heap.size)
    (h : ∀ v' w', Rw f te w' base v' (l ++ [x]) → W.grownBy w' v.ownBlock → wpList Try.prog ops Q rest (a.put o.dst v') w') : wpList Try.prog ops Q (o :: rest) a W := by
  obtain ⟨v', w', hrun, h2, h3⟩ := run_app5 (ty := o.type) ht hi hz h4 h5 h6 hf h1 W base v l x ad hrow hc hl hb
  exact wpList_plain hgd fun K hK => oper_app s y ts ho _ _ _ _ hs hy hrun (hK _ _ (h v' w' h2 h3))
end
theorem St.one (x : St) : ∀ u ∈ x.cs, u.oneCell' = true := by simp [St.cs, Value.oneCell']
theorem Pl.one (x : Pl) : ∀ u ∈ x.cs, u.oneCell' = true := by simp [Pl.cs, Value.oneCell']
theorem wpList_appSt (W : World) {ops : Array Oper} {rest : List Oper} {o : Oper} {a : Act} {Q : Exit → Act → World → Prop} (hgd : o.guard = none) (s y : Operand)
    (ho : o.op = .call { callee := .builtin .append, args := #[s, y], argTypes := #[27, 27] }) (base : Nat) (v : Value) (l : List St) (x : St) (ad : Addr) (hs : a.eval s = v) (hy : a.eval y = .slice (some ad) 1 1) (hrow : Rw St.cs 41 W base v l) (hc : ∀ j u, (St.cs x)[j]? = some u → W.cell? (ad.add j) = some u) (hl : l.length ≤ 999999) (hb : base ≤ W.heap.size)
    (h : ∀ v' w', Rw St.cs 41 w' base v' (l ++ [x]) → W.grownBy w' v.ownBlock → wpList Try.prog ops Q rest (a.put o.dst v') w') : wpList Try.prog ops Q (o :: rest) a W := by
  obtain ⟨i0, hi, hz0, hz1, hz2⟩ := info_parts Try.info41
  exact wpList_app5 Try.underlying27 hi hz0 hz1 hz2 rfl St.len St.one W hgd s y ho base v l x ad hs hy hrow hc hl hb h
theorem wpList_appPl (W : World) {ops : Array Oper} {rest : List Oper} {o : Oper} {a : Act} {Q : Exit → Act → World → Prop} (hgd : o.guard = none) (s y : Operand)
    (ho : o.op = .call { callee := .builtin .append, args := #[s, y], argTypes := #[32, 32] }) (base : Nat) (v : Value) (l : List Pl) (x : Pl) (ad : Addr) (hs : a.eval s = v) (hy : a.eval y = .slice (some ad) 1 1) (hrow : Rw Pl.cs 36 W base v l) (hc : ∀ j u, (Pl.cs x)[j]? = some u → W.cell? (ad.add j) = some u) (hl : l.length ≤ 999999) (hb : base ≤ W.heap.size)
    (h : ∀ v' w', Rw Pl.cs 36 w' base v' (l ++ [x]) → W.grownBy w' v.ownBlock → wpList Try.prog ops Q rest (a.put o.dst v') w') : wpList Try.prog ops Q (o :: rest) a W := by
  obtain ⟨i0, hi, hz0, hz1, hz2⟩ := info_parts Try.info36
  exact wpList_app5 Try.underlying32 hi hz0 hz1 hz2 rfl Pl.len Pl.one W hgd s y ho base v l x ad hs hy hrow hc hl hb h
theorem run_appSt {ty : TypeId} (W : World) (base : Nat) (v : Value) (l : List St) (x : St) (ad : Addr) (hrow : Rw St.cs 41 W base v l) (hc : ∀ j u, (St.cs x)[j]? = some u → W.cell? (ad.add j) = some u) (hl : l.length ≤ 999999) (hb : base ≤ W.heap.size) :
    ∃ v' w', (Builtin.append_ #[27, 27] ty #[v, .slice (some ad) 1 1]).run Try.prog W = .ok v' w' ∧ Rw St.cs 41 w' base v' (l ++ [x]) ∧ W.grownBy w' v.ownBlock := by
  obtain ⟨i0, hi, hz0, hz1, hz2⟩ := info_parts Try.info41
  exact run_app5 Try.underlying27 hi hz0 hz1 hz2 rfl St.len St.one W base v l x ad hrow hc hl hb
theorem At.kept {c : Cf} {w w' w2 : World} (h : At c w w') (hb : Below (w.heap.size + 1) w' w2) : At c w w2 := ⟨h.below hb, h.2.1.trans (hb.mono (by omega)), Nat.le_trans h.2.2 hb.size⟩
/-- The last block of its stripe. -/
theorem last_iff {c : Cf} (hc : checkC c = 0) {lb : Int} (h0 : 0 ≤ lb) : (lb + 1) % (dataC c * c.u) = 0 ↔ ((ofIn c lb).u = c.m - 2 ∧ (ofIn c lb).i = c.u - 1) := by
  have ho := ok_of hc
  have o1 := ho.r1
  have o2 := ho.u1
  have o3 := ho.d
  show (lb + 1) % (dataC c * c.u) = 0 ↔ (lb % (dataC c * c.u) / c.u = c.m - 2 ∧ lb % (dataC c * c.u) % c.u = c.u - 1)
  have hR : dataC c * c.u = (c.m - 2) * c.u + c.u := by rw [o3]; have : c.m - 1 = c.m - 2 + 1 := by omega
                                                        rw [this, Int.add_mul]; omega
  have hx := div_succ (x := lb) (R := dataC c * c.u) (by omega)
  generalize dataC c * c.u = R at o1 hR hx ⊢
  have h1 := Int.mul_ediv_add_emod lb R
  have h2 := Int.emod_nonneg lb (show R ≠ 0 by omega)
  have h3 := Int.emod_lt_of_pos lb (show 0 < R by omega)
  have h4 := Int.mul_ediv_add_emod (lb % R) c.u
  have h5 := Int.emod_nonneg (lb % R) (show c.u ≠ 0 by omega)
  have h6 := Int.emod_lt_of_pos (lb % R) (show 0 < c.u by omega)
  constructor
  · intro h
    have e : lb % R = R - 1 := by
      rcases Int.lt_or_le (lb % R) (R - 1) with hl | hl
      · have : (lb + 1) / R = lb / R ∧ (lb + 1) % R = lb % R + 1 := (Int.ediv_emod_unique (by omega)).2 ⟨by omega, by omega, by omega⟩
        omega
      · omega
    have : lb % R / c.u = c.m - 2 ∧ lb % R % c.u = c.u - 1 := (Int.ediv_emod_unique (by omega)).2 ⟨by rw [e, hR, Int.mul_comm]; omega, by omega, by omega⟩
    exact this
  · rintro ⟨e1, e2⟩
    rw [e1, e2] at h4
    have e : lb % R = R - 1 := by rw [← h4, hR, Int.mul_comm]; omega
    have : (lb + 1) / R = lb / R + 1 ∧ (lb + 1) % R = 0 := (Int.ediv_emod_unique (by omega)).2 ⟨by rw [Int.mul_add]; omega, by omega, by omega⟩
    exact this.2
end Go.Proofs.Yteglgopbagefcaa
