/- Words for a list of whole numbers that the call itself has made; cuts of lists; what an append answers. -/
import Derived.Test.YtjpojidpmmodnaaLW
import Derived.Maps.AppendAt
import Derived.Laws.OwnMore
import Derived.Deep.AppendLies
import Derived.Deep.Onto
import Derived.OwnWalk
namespace Go.Proofs.Ytjpojidpmmodnaa
open Go.RowKit

/-- A whole number as a value. -/
def iv (x : Int) : Value := .int .i64 x
/-- A slice of the call's own that holds a list. -/
def Own (w : World) (base : Nat) (v : Value) (xs : List Int) : Prop := w.ownsRow base 3 1 v xs.length (xs.map iv) ∧ ∀ x ∈ xs, fits x
theorem int_info : (Try.prog.info? 3).map (fun i => (i.zero, i.size, i.bytes)) = some (some (.int .i64 0), 1, 8) := by kernel_rfl

theorem getD_map (xs : List Int) (i : Nat) (h : i < xs.length) : (xs.map iv)[i]? = some (.int .i64 (xs.getD i 0)) := by
  rw [List.getElem?_map, List.getD_eq_getElem?_getD, List.getElem?_eq_getElem h]
  rfl
theorem Own.isL {w : World} {base : Nat} {v : Value} {xs : List Int} (h : Own w base v xs) (hl : xs.length ≤ 9223372036854775807) : IsL w w.heap.size v xs := by
  obtain ⟨h, hf⟩ := h
  rcases h.2 with ⟨rfl, h0⟩ | ⟨g, cap, cur, rfl, hb, hg, hnc, _⟩
  · obtain rfl : xs = [] := List.eq_nil_of_length_eq_zero h0
    exact IsL.nil _ _ _ _
  · refine ⟨⟨_, cap, rfl, hnc, fun h0 => ⟨g, 0, rfl, (Array.getElem?_eq_some_iff.1 hg).1, fun i hi => ?_⟩⟩, hf, hl⟩
    rw [Nat.zero_add, h.cellAt i (by omega), getD_map xs i hi]
theorem Own.nil (w : World) (base : Nat) : Own w base (.slice none 0 0) [] := ⟨World.ownsRow_nil _ _ _ _, fun x hx => by simp at hx⟩
theorem Own.alloc {w : World} {base : Nat} {v : Value} {xs : List Int} (h : Own w base v xs) (o : Obj) : Own (w.alloc o) base v xs := ⟨h.1.alloc o, h.2⟩
theorem Own.drewN {w : World} {base : Nat} {v : Value} {xs : List Int} (h : Own w base v xs) (d : Nat) : Own (w.drewN d) base v xs := h
theorem Own.mono {w : World} {base base' : Nat} {v : Value} {xs : List Int} (h : Own w base v xs) (hb : base' ≤ base) : Own w base' v xs := ⟨h.1.mono hb, h.2⟩
theorem Own.kept {w w' : World} {row : Option Nat} {base : Nat} {v : Value} {xs : List Int} (h : Own w base v xs) (hg : w.grownBy w' row) (hne : v.ownBlock = none ∨ v.ownBlock ≠ row) : Own w' base v xs := ⟨h.1.kept hg hne, h.2⟩
theorem Own.lt {w : World} {base : Nat} {v : Value} {xs : List Int} (h : Own w base v xs) : ∀ k, v.ownBlock = some k → base ≤ k ∧ k < w.heap.size := h.1.lt
theorem Own.below {w w' : World} {base : Nat} {v : Value} {xs : List Int} (h : Own w base v xs) (hb : Below w.heap.size w w') : Own w' base v xs := by
  obtain ⟨⟨h1, h2⟩, hf⟩ := h
  refine ⟨⟨h1, ?_⟩, hf⟩
  rcases h2 with hn | ⟨g, cap, cur, rfl, hb2, hg, rest⟩
  · exact .inl hn
  · exact .inr ⟨g, cap, cur, rfl, hb2, (hb.block g (Array.getElem?_eq_some_iff.1 hg).1).trans hg, rest⟩
/-- A new slice with room. -/
theorem Own.made (w : World) (base cap : Nat) (cur : Array Value) (hb : base ≤ w.heap.size) (hm : cap ≤ maxLen) (hs : cur.size = cap) : Own (w.alloc (.cells cur 3)) base (.slice (some ⟨w.heap.size, 0, none⟩) 0 cap) [] :=
  ⟨World.ownsRow_made w cur cap hb hm (by omega), fun x hx => by simp at hx⟩

theorem sizeOf3 (w : World) : (sizeOf (Try.prog.elem 27)).run Try.prog w = .ok 1 w := by kernel_rfl
theorem elem27 : Try.prog.elem 27 = 3 := by kernel_rfl
theorem und27 : Try.prog.underlying 27 = some (.slice (Try.prog.elem 27)) := by rw [elem27]; exact Try.underlying27
/-- A list from a place on. -/
theorem IsL.from_ {w : World} {B : Nat} {v : Value} {xs : List Int} (h : IsL w B v xs) (k : Nat) (hk : k ≤ xs.length) :
    ∃ v', (∀ w' : World, (Instr.slice 27 v (some (.int .i64 (k : Int))) none none).run Try.prog w' = .ok v' w') ∧ IsL w B v' (xs.drop k) := by
  obtain ⟨⟨A, cap, rfl, hc, hA⟩, hf, hl⟩ := h
  refine ⟨_, fun w' => by rw [run_slice_l (P := Try.prog) w' 27 _ _ _ und27 .i64 k (by omega) (by omega), sizeOf3]; rfl, ?_⟩
  refine ⟨⟨_, cap - k, by rw [sliced, Int.toNat_natCast, List.length_drop], by rw [List.length_drop]; omega, fun h0 => ?_⟩, fun x hx => hf x (List.mem_of_mem_drop hx), by rw [List.length_drop]; omega⟩
  rw [List.length_drop] at h0
  obtain ⟨b, off, rfl, hb, hcell⟩ := hA (by omega)
  refine ⟨b, off + k, ?_, hb, fun i hi => ?_⟩
  · rw [if_neg (by omega), Nat.mul_one]
    simp [Go.WideShapes.add_plain]
  · rw [List.length_drop] at hi
    rw [Nat.add_assoc, hcell (k + i) (by omega), List.getD_eq_getElem?_getD, List.getD_eq_getElem?_getD, List.getElem?_drop]
/-- A list up to a place. -/
theorem IsL.to_ {w : World} {B : Nat} {v : Value} {xs : List Int} (h : IsL w B v xs) (k : Nat) (hk : k ≤ xs.length) :
    ∃ v', (∀ w' : World, (Instr.slice 27 v none (some (.int .i64 (k : Int))) none).run Try.prog w' = .ok v' w') ∧ IsL w B v' (xs.take k) := by
  obtain ⟨⟨A, cap, rfl, hc, hA⟩, hf, hl⟩ := h
  refine ⟨_, fun w' => by rw [run_slice_h (P := Try.prog) w' 27 _ _ _ und27 .i64 k (by omega) (by omega), sizeOf3]; rfl, ?_⟩
  refine ⟨⟨_, cap, by rw [sliced, Int.toNat_natCast, List.length_take, Nat.min_eq_left hk, Nat.sub_zero, Nat.sub_zero], by rw [List.length_take]; omega, fun h0 => ?_⟩, fun x hx => hf x (List.mem_of_mem_take hx), by rw [List.length_take]; omega⟩
  rw [List.length_take] at h0
  obtain ⟨b, off, rfl, hb, hcell⟩ := hA (by omega)
  refine ⟨b, off, ?_, hb, fun i hi => ?_⟩
  · simp [Go.WideShapes.add_plain]
  · rw [List.length_take] at hi
    rw [hcell i (by omega), List.getD_eq_getElem?_getD, List.getD_eq_getElem?_getD, List.getElem?_take, if_pos (by omega)]

/-- One number, laid as a slice. -/
theorem IsL.lit (w : World) (x : Int) (hx : fits x) : IsL (w.alloc (.cells #[.int .i64 x] 3)) (w.heap.size + 1) (.slice (some ⟨w.heap.size, 0, none⟩) 1 1) [x] := by
  refine ⟨⟨_, 1, rfl, by simp, fun _ => ⟨w.heap.size, 0, rfl, by omega, fun i hi => ?_⟩⟩, fun y hy => by simp at hy; rw [hy]; exact hx, by simp⟩
  have : i = 0 := by simpa using hi
  subst this
  rw [cell_of_row _ w.heap.size _ _ _ (0, 0) (heap_alloc_new w _)]
  rfl
theorem oneCell_iv (xs : List Int) : ∀ u ∈ xs.map iv, u.oneCell' = true := by
  intro u hu
  obtain ⟨x, _, rfl⟩ := List.mem_map.1 hu
  rfl
theorem run_append_nothing (w : World) (base : Nat) (ty : TypeId) (v : Value) (xs : List Int) (h : Own w base v xs) (c : Nat) : (Builtin.append_ #[27, 27] ty #[v, .slice none 0 c]).run Try.prog w = .ok v w := by
  obtain ⟨i0, hi, hz0, hz1, hz2⟩ := info_parts int_info
  rcases h.1.2 with ⟨rfl, _⟩ | ⟨g, cap, cur, rfl, _, _, hnc, _⟩
  · simp [Builtin.append_, run_underlying Try.underlying27, sizeOf, typeInfo, hi, Builtin.lenOf, Builtin.firstCells]
  · simp [Builtin.append_, run_underlying Try.underlying27, sizeOf, typeInfo, hi, Builtin.lenOf, Builtin.firstCells, hnc, storeCells]
theorem run_app (w : World) (base B : Nat) (ty : TypeId) (v src : Value) (xs ys : List Int) (h : Own w base v xs) (hs : IsL w B src ys) (hl : xs.length + ys.length ≤ 1000000) (hb : base ≤ w.heap.size) :
    ∃ v' w', (Builtin.append_ #[27, 27] ty #[v, src]).run Try.prog w = .ok v' w' ∧ Own w' base v' (xs ++ ys) ∧ w.grownBy w' v.ownBlock ∧ (v'.ownBlock = v.ownBlock ∨ v'.ownBlock = some w.heap.size) := by
  obtain ⟨i0, hi, hz0, hz1, hz2⟩ := info_parts int_info
  obtain ⟨⟨A, cap, rfl, hc, hA⟩, hf, hll⟩ := hs
  have hfa : ∀ x ∈ xs ++ ys, fits x := fun x hx => by
    rcases List.mem_append.1 hx with hx | hx
    · exact h.2 x hx
    · exact hf x hx
  by_cases h0 : ys = []
  · subst h0
    match A with
    | none => exact ⟨v, w, run_append_nothing w base ty v xs h cap, by simpa using h, World.grownBy.refl w _, .inl rfl⟩
    | some ad =>
      obtain ⟨v', w', hrun, h2, h3, _, h5⟩ := run_append_own_at (P := Try.prog) w base 27 ty 3 i0 (.int .i64 0) 1 8 Try.underlying27 hi hz0 hz1 hz2 rfl (by decide) v xs.length (xs.map iv) h.1 ad 0 cap [] rfl
        (fun j u hu => by simp at hu) (fun u hu => by simp at hu) (by unfold maxLen; simp at hl; omega) (by simp at hl; omega) hb
      exact ⟨v', w', hrun, ⟨by simpa using h2, hfa⟩, h3, h5⟩
  · have hpos : 0 < ys.length := by
      rcases Nat.eq_zero_or_pos ys.length with h | h
      · exact absurd (List.eq_nil_of_length_eq_zero h) h0
      · exact h
    obtain ⟨b, off, rfl, hbB, hcell⟩ := hA hpos
    obtain ⟨v', w', hrun, h2, h3, _, h5⟩ := run_append_own_at (P := Try.prog) w base 27 ty 3 i0 (.int .i64 0) 1 8 Try.underlying27 hi hz0 hz1 hz2 rfl (by decide) v xs.length (xs.map iv) h.1 ⟨b, off, none⟩ ys.length cap (ys.map iv) (by simp)
      (fun j u hu => by
        have hj : j < ys.length := by
          have := (List.getElem?_eq_some_iff.1 hu).1
          simpa using this
        rw [getD_map ys j hj] at hu
        rw [Go.WideShapes.add_plain, hcell j hj]
        exact hu) (oneCell_iv ys) (by unfold maxLen; omega) (by omega) hb
    exact ⟨v', w', hrun, ⟨by rw [List.length_append, List.map_append]; exact h2, hfa⟩, h3, h5⟩
theorem wp_app {o : Oper} {a : Act} {K : Act → World → Prop} {Q : Exit → Act → World → Prop} (w : World) (s x : Operand)
    (ho : o.op = .call { callee := .builtin .append, args := #[s, x], argTypes := #[27, 27] }) (base B : Nat) (v src : Value) (xs ys : List Int) (hs : a.eval s = v) (hx : a.eval x = src)
    (h : Own w base v xs) (hy : IsL w B src ys) (hl : xs.length + ys.length ≤ 1000000) (hb : base ≤ w.heap.size)
    (hk : ∀ v' w', Own w' base v' (xs ++ ys) → w.grownBy w' v.ownBlock → (v'.ownBlock = v.ownBlock ∨ v'.ownBlock = some w.heap.size) → K (a.put o.dst v') w') : o.wp Try.prog a w K Q := by
  obtain ⟨v', w', hrun, h2, h3, h4⟩ := run_app w base B o.type v src xs ys h hy hl hb
  unfold Oper.wp execOp
  simp only [ho, resolve, invoke, builtin, Sem.run_bind, Sem.run_pure, Result.andThen_ok, List.map_toArray, List.map_cons, List.map_nil, hs, hx, hrun]
  exact hk v' w' h2 h3 h4
theorem wpList_app {ops : Array Oper} {rest : List Oper} {o : Oper} {a : Act} {Q : Exit → Act → World → Prop} (w : World) (hgd : o.guard = none) (s x : Operand)
    (ho : o.op = .call { callee := .builtin .append, args := #[s, x], argTypes := #[27, 27] }) (base B : Nat) (v src : Value) (xs ys : List Int) (hs : a.eval s = v) (hx : a.eval x = src)
    (h : Own w base v xs) (hy : IsL w B src ys) (hl : xs.length + ys.length ≤ 1000000) (hb : base ≤ w.heap.size)
    (hk : ∀ v' w', Own w' base v' (xs ++ ys) → w.grownBy w' v.ownBlock → (v'.ownBlock = v.ownBlock ∨ v'.ownBlock = some w.heap.size) → wpList Try.prog ops Q rest (a.put o.dst v') w') : wpList Try.prog ops Q (o :: rest) a w :=
  wpList_plain hgd fun _ hK => wp_app w s x ho base B v src xs ys hs hx h hy hl hb fun v' w' h2 h3 h4 => hK _ _ (hk v' w' h2 h3 h4)
end Go.Proofs.Ytjpojidpmmodnaa
