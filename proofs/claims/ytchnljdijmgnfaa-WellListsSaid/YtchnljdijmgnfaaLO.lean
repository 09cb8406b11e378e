/- Words for a list of pairs that the call itself has made; what an append answers; one pair stored in place. -/
import Derived.Test.YtchnljdijmgnfaaLS
namespace Go.Proofs.Ytchnljdijmgnfaa
open Go.RowKit

/-- A pair's cells, a list's cells. -/
def pv (p : Int × Int) : List Value := [.int .i64 p.1, .int .i64 p.2]
def pvs (xs : List (Int × Int)) : List Value := xs.flatMap pv
theorem pvs_length (xs : List (Int × Int)) : (pvs xs).length = xs.length * 2 := by
  induction xs with
  | nil => rfl
  | cons x r ih =>
    show (pv x ++ pvs r).length = _
    rw [List.length_append, ih, List.length_cons]
    show 2 + _ = _
    omega
theorem pvs_append (xs ys : List (Int × Int)) : pvs (xs ++ ys) = pvs xs ++ pvs ys := List.flatMap_append
theorem pvs_at (xs : List (Int × Int)) (i : Nat) (h : i < xs.length) : (pvs xs)[i * 2]? = some (.int .i64 (xs.getD i (0, 0)).1) ∧ (pvs xs)[i * 2 + 1]? = some (.int .i64 (xs.getD i (0, 0)).2) := by
  induction xs generalizing i with
  | nil => simp at h
  | cons x r ih =>
    show (pv x ++ pvs r)[i * 2]? = _ ∧ (pv x ++ pvs r)[i * 2 + 1]? = _
    cases i with
    | zero => exact ⟨rfl, rfl⟩
    | succ k =>
      have := ih k (by simpa using h)
      rw [List.getElem?_append_right (by show 2 ≤ _; omega), List.getElem?_append_right (by show 2 ≤ _; omega)]
      rw [show (k + 1) * 2 - (pv x).length = k * 2 by show _ - 2 = _; omega, show (k + 1) * 2 + 1 - (pv x).length = k * 2 + 1 by show _ - 2 = _; omega]
      exact this
theorem pvs_set (xs : List (Int × Int)) (i : Nat) (h : i < xs.length) (p : Int × Int) : ((pvs xs).set (i * 2) (.int .i64 p.1)).set (i * 2 + 1) (.int .i64 p.2) = pvs (xs.set i p) := by
  induction xs generalizing i with
  | nil => simp at h
  | cons x r ih =>
    show ((pv x ++ pvs r).set (i * 2) _).set (i * 2 + 1) _ = _
    cases i with
    | zero => rfl
    | succ k =>
      have := ih k (by simpa using h)
      rw [List.set_append_right _ _ (by show 2 ≤ _; omega), List.set_append_right _ _ (by show 2 ≤ _; omega)]
      rw [show (k + 1) * 2 - (pv x).length = k * 2 by show _ - 2 = _; omega, show (k + 1) * 2 + 1 - (pv x).length = k * 2 + 1 by show _ - 2 = _; omega, this]
      rfl
theorem one_pvs (xs : List (Int × Int)) : ∀ u ∈ pvs xs, u.oneCell' = true := by
  intro u hu
  obtain ⟨x, _, hx⟩ := List.mem_flatMap.1 hu
  simp only [pv, List.mem_cons, List.not_mem_nil, or_false] at hx
  rcases hx with rfl | rfl <;> rfl

/-- A slice of the call's own that holds a list. -/
def Own (w : World) (base : Nat) (v : Value) (xs : List (Int × Int)) : Prop := w.ownsRow base 23 2 v xs.length (pvs xs) ∧ ∀ x ∈ xs, fits x.1 ∧ fits x.2
theorem pair_info : (Try.prog.info? 23).map (fun i => (i.zero, i.size, i.bytes)) = some (some (.agg #[.int .i64 0, .int .i64 0]), 2, 16) := by kernel_rfl
theorem Own.isL {w : World} {base : Nat} {v : Value} {xs : List (Int × Int)} (h : Own w base v xs) (hl : xs.length ≤ 9223372036854775807) : IsL w w.heap.size v xs := by
  obtain ⟨h, hf⟩ := h
  rcases h.2 with ⟨rfl, h0⟩ | ⟨g, cap, cur, rfl, hb, hg, hnc, _⟩
  · obtain rfl : xs = [] := List.eq_nil_of_length_eq_zero h0
    exact IsL.nil _ _ _ _
  · refine ⟨⟨_, cap, rfl, hnc, fun h0 => ⟨g, 0, rfl, (Array.getElem?_eq_some_iff.1 hg).1, fun i hi => ?_⟩⟩, hf, hl⟩
    rw [Nat.zero_add, h.cellAt (i * 2) (by omega), h.cellAt (i * 2 + 1) (by omega)]
    exact pvs_at xs i hi
theorem Own.nil (w : World) (base : Nat) : Own w base (.slice none 0 0) [] := ⟨World.ownsRow_nil _ _ _ _, fun x hx => by simp at hx⟩
theorem Own.alloc {w : World} {base : Nat} {v : Value} {xs : List (Int × Int)} (h : Own w base v xs) (o : Obj) : Own (w.alloc o) base v xs := ⟨h.1.alloc o, h.2⟩
theorem Own.drewN {w : World} {base : Nat} {v : Value} {xs : List (Int × Int)} (h : Own w base v xs) (d : Nat) : Own (w.drewN d) base v xs := h
theorem Own.drew {w : World} {base : Nat} {v : Value} {xs : List (Int × Int)} (h : Own w base v xs) : Own w.drew base v xs := h
theorem Own.mono {w : World} {base base' : Nat} {v : Value} {xs : List (Int × Int)} (h : Own w base v xs) (hb : base' ≤ base) : Own w base' v xs := ⟨h.1.mono hb, h.2⟩
theorem Own.kept {w w' : World} {row : Option Nat} {base : Nat} {v : Value} {xs : List (Int × Int)} (h : Own w base v xs) (hg : w.grownBy w' row) (hne : v.ownBlock = none ∨ v.ownBlock ≠ row) : Own w' base v xs := ⟨h.1.kept hg hne, h.2⟩
theorem Own.lt {w : World} {base : Nat} {v : Value} {xs : List (Int × Int)} (h : Own w base v xs) : ∀ k, v.ownBlock = some k → base ≤ k ∧ k < w.heap.size := h.1.lt
theorem Own.below {w w' : World} {base : Nat} {v : Value} {xs : List (Int × Int)} (h : Own w base v xs) (hb : Below w.heap.size w w') : Own w' base v xs := by
  obtain ⟨⟨h1, h2⟩, hf⟩ := h
  refine ⟨⟨h1, ?_⟩, hf⟩
  rcases h2 with hn | ⟨g, cap, cur, rfl, hb2, hg, rest⟩
  · exact .inl hn
  · exact .inr ⟨g, cap, cur, rfl, hb2, (hb.block g (Array.getElem?_eq_some_iff.1 hg).1).trans hg, rest⟩
/-- A new slice with room. -/
theorem Own.made (w : World) (base cap : Nat) (cur : Array Value) (hb : base ≤ w.heap.size) (hm : cap ≤ maxLen) (hs : cur.size = cap * 2) : Own (w.alloc (.cells cur 23)) base (.slice (some ⟨w.heap.size, 0, none⟩) 0 cap) [] :=
  ⟨World.ownsRow_made w cur cap hb hm hs, fun x hx => by simp at hx⟩
/-- One pair, laid as a slice. -/
theorem Own.lit (w : World) (base : Nat) (x y : Int) (hx : fits x) (hy : fits y) (hb : base ≤ w.heap.size) : Own (w.alloc (.cells #[.int .i64 x, .int .i64 y] 23)) base (.slice (some ⟨w.heap.size, 0, none⟩) 1 1) [(x, y)] := by
  refine ⟨World.ownsRow_lit w #[.int .i64 x, .int .i64 y] 1 hb (by unfold maxLen; omega) rfl, fun z hz => ?_⟩
  rw [List.mem_singleton] at hz
  subst hz
  exact ⟨hx, hy⟩
theorem IsL.lit (w : World) (x y : Int) (hx : fits x) (hy : fits y) : IsL (w.alloc (.cells #[.int .i64 x, .int .i64 y] 23)) (w.heap.size + 1) (.slice (some ⟨w.heap.size, 0, none⟩) 1 1) [(x, y)] := by
  have h := (Own.lit w w.heap.size x y hx hy (Nat.le_refl _)).isL (by simp)
  simpa using h
/-- One pair of a row of one's own is stored anew. -/
theorem Own.set {w : World} {base g cap : Nat} {xs : List (Int × Int)} (h : Own w base (.slice (some ⟨g, 0, none⟩) xs.length cap) xs) (i : Nat) (hi : i < xs.length) (p : Int × Int) (hp : fits p.1 ∧ fits p.2) :
    Own ((w.setCell ⟨g, i * 2, none⟩ (.int .i64 p.1)).setCell ⟨g, i * 2 + 1, none⟩ (.int .i64 p.2)) base (.slice (some ⟨g, 0, none⟩) (xs.set i p).length cap) (xs.set i p) := by
  obtain ⟨h1, h2⟩ := h
  have a := (h1.stored (i * 2) (.int .i64 p.1)).1
  have b := (a.stored (i * 2 + 1) (.int .i64 p.2)).1
  rw [pvs_set xs i hi p] at b
  refine ⟨by rw [List.length_set]; exact b, fun x hx => ?_⟩
  rcases List.mem_or_eq_of_mem_set hx with hx | rfl
  · exact h2 x hx
  · exact hp

theorem sizeOfE (w : World) : (sizeOf (Try.prog.elem 30)).run Try.prog w = .ok 2 w := by kernel_rfl
theorem elemS : Try.prog.elem 30 = 23 := by kernel_rfl
theorem undS : Try.prog.underlying 30 = some (.slice (Try.prog.elem 30)) := by rw [elemS]; exact Try.underlying30
theorem run_append_nothing (w : World) (base : Nat) (ty : TypeId) (v : Value) (xs : List (Int × Int)) (h : Own w base v xs) (c : Nat) : (Builtin.append_ #[30, 30] ty #[v, .slice none 0 c]).run Try.prog w = .ok v w := by
  obtain ⟨i0, hi, hz0, hz1, hz2⟩ := info_parts pair_info
  rcases h.1.2 with ⟨rfl, _⟩ | ⟨g, cap, cur, rfl, _, _, hnc, _⟩
  · simp [Builtin.append_, run_underlying Try.underlying30, sizeOf, typeInfo, hi, Builtin.lenOf, Builtin.firstCells]
  · simp [Builtin.append_, run_underlying Try.underlying30, sizeOf, typeInfo, hi, Builtin.lenOf, Builtin.firstCells, hnc, storeCells]
theorem run_app (w : World) (base B : Nat) (ty : TypeId) (v src : Value) (xs ys : List (Int × Int)) (h : Own w base v xs) (hs : IsL w B src ys) (hl : xs.length + ys.length ≤ 1000000) (hb : base ≤ w.heap.size) :
    ∃ v' w', (Builtin.append_ #[30, 30] ty #[v, src]).run Try.prog w = .ok v' w' ∧ Own w' base v' (xs ++ ys) ∧ w.grownBy w' v.ownBlock ∧ (v'.ownBlock = v.ownBlock ∨ v'.ownBlock = some w.heap.size) := by
  obtain ⟨i0, hi, hz0, hz1, hz2⟩ := info_parts pair_info
  obtain ⟨⟨A, cap, rfl, hc, hA⟩, hf, hll⟩ := hs
  have hfa : ∀ x ∈ xs ++ ys, fits x.1 ∧ fits x.2 := fun x hx => by
    rcases List.mem_append.1 hx with hx | hx
    · exact h.2 x hx
    · exact hf x hx
  by_cases h0 : ys = []
  · subst h0
    match A with
    | none => exact ⟨v, w, run_append_nothing w base ty v xs h cap, by simpa using h, World.grownBy.refl w _, .inl rfl⟩
    | some ad =>
      obtain ⟨v', w', hrun, h2, h3, _, h5⟩ := run_append_own_at (P := Try.prog) w base 30 ty 23 i0 (.agg #[.int .i64 0, .int .i64 0]) 2 16 Try.underlying30 hi hz0 hz1 hz2 rfl (by decide) v xs.length (pvs xs) h.1 ad 0 cap [] rfl
        (fun j u hu => by simp at hu) (fun u hu => by simp at hu) (by unfold maxLen; simp at hl; omega) (by simp at hl; omega) hb
      exact ⟨v', w', hrun, ⟨by simpa using h2, hfa⟩, h3, h5⟩
  · have hpos : 0 < ys.length := by
      rcases Nat.eq_zero_or_pos ys.length with h | h
      · exact absurd (List.eq_nil_of_length_eq_zero h) h0
      · exact h
    obtain ⟨b, off, rfl, hbB, hcell⟩ := hA hpos
    obtain ⟨v', w', hrun, h2, h3, _, h5⟩ := run_append_own_at (P := Try.prog) w base 30 ty 23 i0 (.agg #[.int .i64 0, .int .i64 0]) 2 16 Try.underlying30 hi hz0 hz1 hz2 rfl (by decide) v xs.length (pvs xs) h.1 ⟨b, off, none⟩ ys.length cap (pvs ys) (pvs_length ys)
      (fun j u hu => by
        have hj : j < ys.length * 2 := by
          have := (List.getElem?_eq_some_iff.1 hu).1
          rw [pvs_length] at this
          exact this
        have hp := pvs_at ys (j / 2) (by omega)
        have hq := hcell (j / 2) (by omega)
        rw [Go.WideShapes.add_plain]
        rcases Nat.mod_two_eq_zero_or_one j with hm | hm
        · have ej : j / 2 * 2 = j := by omega
          rw [ej] at hp hq
          rw [hq.1, ← hp.1]
          exact hu
        · have ej : j / 2 * 2 + 1 = j := by omega
          rw [Nat.add_assoc, ej] at hq
          rw [ej] at hp
          rw [hq.2, ← hp.2]
          exact hu) (one_pvs ys) (by unfold maxLen; omega) (by omega) hb
    exact ⟨v', w', hrun, ⟨by rw [List.length_append, pvs_append]; exact h2, hfa⟩, h3, h5⟩
theorem wp_app {o : Oper} {a : Act} {K : Act → World → Prop} {Q : Exit → Act → World → Prop} (w : World) (s x : Operand)
    (ho : o.op = .call { callee := .builtin .append, args := #[s, x], argTypes := #[30, 30] }) (base B : Nat) (v src : Value) (xs ys : List (Int × Int)) (hs : a.eval s = v) (hx : a.eval x = src)
    (h : Own w base v xs) (hy : IsL w B src ys) (hl : xs.length + ys.length ≤ 1000000) (hb : base ≤ w.heap.size)
    (hk : ∀ v' w', Own w' base v' (xs ++ ys) → w.grownBy w' v.ownBlock → (v'.ownBlock = v.ownBlock ∨ v'.ownBlock = some w.heap.size) → K (a.put o.dst v') w') : o.wp Try.prog a w K Q := by
  obtain ⟨v', w', hrun, h2, h3, h4⟩ := run_app w base B o.type v src xs ys h hy hl hb
  unfold Oper.wp execOp
  simp only [ho, resolve, invoke, builtin, Sem.run_bind, Sem.run_pure, Result.andThen_ok, List.map_toArray, List.map_cons, List.map_nil, hs, hx, hrun]
  exact hk v' w' h2 h3 h4
theorem wpList_app {ops : Array Oper} {rest : List Oper} {o : Oper} {a : Act} {Q : Exit → Act → World → Prop} (w : World) (hgd : o.guard = none) (s x : Operand)
    (ho : o.op = .call { callee := .builtin .append, args := #[s, x], argTypes := #[30, 30] }) (base B : Nat) (v src : Value) (xs ys : List (Int × Int)) (hs : a.eval s = v) (hx : a.eval x = src)
    (h : Own w base v xs) (hy : IsL w B src ys) (hl : xs.length + ys.length ≤ 1000000) (hb : base ≤ w.heap.size)
    (hk : ∀ v' w', Own w' base v' (xs ++ ys) → w.grownBy w' v.ownBlock → (v'.ownBlock = v.ownBlock ∨ v'.ownBlock = some w.heap.size) → wpList Try.prog ops Q rest (a.put o.dst v') w') : wpList Try.prog ops Q (o :: rest) a w :=
  wpList_plain hgd fun _ hK => wp_app w s x ho base B v src xs ys hs hx h hy hl hb fun v' w' h2 h3 h4 => hK _ _ (hk v' w' h2 h3 h4)
theorem step_app {w : World} {ops : Array Oper} {o : Oper} {a : Act} {K : Act → World → Prop} {Q : Exit → Act → World → Prop} {E : Prop} (hgd : o.guard = none) (s x : Operand)
    (ho : o.op = .call { callee := .builtin .append, args := #[s, x], argTypes := #[30, 30] }) (base B : Nat) (v src : Value) (xs ys : List (Int × Int)) (hs : a.eval s = v) (hx : a.eval x = src)
    (h : Own w base v xs) (hy : IsL w B src ys) (hl : xs.length + ys.length ≤ 1000000) (hb : base ≤ w.heap.size)
    (hk : ∀ v' w', Own w' base v' (xs ++ ys) → w.grownBy w' v.ownBlock → K (a.put o.dst v') w') : if Region.wanted o (yielded ops a.tmps) = true then Oper.wp Try.prog o a w K Q else E := by
  have hw : Region.wanted o (yielded ops a.tmps) = true := by simp [Region.wanted, hgd]
  rw [if_pos hw]
  exact wp_app w s x ho base B v src xs ys hs hx h hy hl hb fun v' w' k1 k2 _ => hk v' w' k1 k2
theorem Own.grow' {S : Nat} {X W W' : World} {v : Value} {xs : List (Int × Int)} (h : Own W S v xs) (hb : Below S X W) (hs : S ≤ W.heap.size) (hg : W.grownBy W' v.ownBlock) : Below S X W' := hb.grown hg hs fun k hk => (h.lt k hk).1
theorem IsL.takeLit {w : World} {B b off cap : Nat} {xs : List (Int × Int)} (hb : b < B) (hc : ∀ i, i < xs.length → w.cell? ⟨b, off + i * 2, none⟩ = some (.int .i64 (xs.getD i (0, 0)).1) ∧ w.cell? ⟨b, off + i * 2 + 1, none⟩ = some (.int .i64 (xs.getD i (0, 0)).2)) (hf : ∀ x ∈ xs, fits x.1 ∧ fits x.2) (k : Nat) (hk : k ≤ xs.length) (hcap : k ≤ cap) (hl : xs.length ≤ 9223372036854775807) :
    IsL w B (.slice (some ⟨b, off, none⟩) k cap) (xs.take k) := by
  have e : (xs.take k).length = k := by rw [List.length_take]; omega
  refine ⟨⟨_, cap, by rw [e], by omega, fun _ => ⟨b, off, rfl, hb, fun i hi => ?_⟩⟩, fun x hx => hf x (List.mem_of_mem_take hx), by omega⟩
  rw [e] at hi
  have e2 : (xs.take k).getD i (0, 0) = xs.getD i (0, 0) := by rw [List.getD_eq_getElem?_getD, List.getD_eq_getElem?_getD, List.getElem?_take, if_pos hi]
  rw [e2]
  exact hc i (by omega)
theorem IsL.dropIf {w : World} {B b off cap : Nat} {xs : List (Int × Int)} (hb : b < B) (hc : ∀ i, i < xs.length → w.cell? ⟨b, off + i * 2, none⟩ = some (.int .i64 (xs.getD i (0, 0)).1) ∧ w.cell? ⟨b, off + i * 2 + 1, none⟩ = some (.int .i64 (xs.getD i (0, 0)).2)) (hf : ∀ x ∈ xs, fits x.1 ∧ fits x.2) (k : Nat) (hk : k ≤ xs.length) (hcap : xs.length ≤ cap) (hl : xs.length ≤ 9223372036854775807) (A : Addr) (hA : k < xs.length → A = ⟨b, off + k * 2, none⟩) :
    IsL w B (.slice (some A) (xs.length - k) (cap - k)) (xs.drop k) := by
  have e : (xs.drop k).length = xs.length - k := List.length_drop
  refine ⟨⟨_, cap - k, by rw [e], by omega, fun h0 => ⟨b, off + k * 2, ?_, hb, fun i hi => ?_⟩⟩, fun x hx => hf x (List.mem_of_mem_drop hx), by omega⟩
  · rw [hA (by omega)]
  · have e2 : (xs.drop k).getD i (0, 0) = xs.getD (k + i) (0, 0) := by rw [List.getD_eq_getElem?_getD, List.getD_eq_getElem?_getD, List.getElem?_drop]
    rw [e2, show off + k * 2 + i * 2 = off + (k + i) * 2 by omega]
    exact hc (k + i) (by omega)
theorem IsL.dropIte {w : World} {B b off cap : Nat} {xs : List (Int × Int)} (hb : b < B) (hc : ∀ i, i < xs.length → w.cell? ⟨b, off + i * 2, none⟩ = some (.int .i64 (xs.getD i (0, 0)).1) ∧ w.cell? ⟨b, off + i * 2 + 1, none⟩ = some (.int .i64 (xs.getD i (0, 0)).2)) (hf : ∀ x ∈ xs, fits x.1 ∧ fits x.2) (k : Nat) (hk : k ≤ xs.length) (hcap : xs.length ≤ cap) (hl : xs.length ≤ 9223372036854775807) :
    IsL w B (.slice (if cap = k then some ⟨b, off, none⟩ else some ⟨b, off + k * 2, none⟩) (xs.length - k) (cap - k)) (xs.drop k) := by
  by_cases e : cap = k
  · rw [if_pos e]; exact IsL.dropIf hb hc hf k hk hcap hl _ (fun h => by omega)
  · rw [if_neg e]; exact IsL.dropIf hb hc hf k hk hcap hl _ (fun _ => rfl)
end Go.Proofs.Ytchnljdijmgnfaa
