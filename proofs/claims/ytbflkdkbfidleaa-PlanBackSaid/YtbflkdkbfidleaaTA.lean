/- Lists of whole numbers in memory, and rising lists. -/
import Derived.Test.YtbflkdkbfidleaaNA
import Derived.Test.YtbflkdkbfidleaaBA
import Derived.Maps.AppendAt
import Derived.Laws.OwnMore
import Derived.Deep.AppendLies
import Derived.Deep.Onto
import Derived.OwnWalk
namespace Go.Proofs.Ytbflkdkbfidleaa.Two
open Go.RowKit
theorem snoc_ind {α : Type} {p : List α → Prop} (h0 : p []) (h1 : ∀ l c, p l → p (l ++ [c])) (l : List α) : p l := by
  suffices h : ∀ r : List α, p r.reverse by
    have := h l.reverse
    rwa [List.reverse_reverse] at this
  intro r
  induction r with
  | nil => exact h0
  | cons c r ih => rw [List.reverse_cons]; exact h1 _ _ ih

/-- A slice value whose numbers are a list, in memory below a block. -/
def IsL (w : World) (B : Nat) (v : Value) (xs : List Int) : Prop :=
  (∃ A cap, v = .slice A xs.length cap ∧ xs.length ≤ cap ∧ (0 < xs.length → ∃ b off, A = some ⟨b, off, none⟩ ∧ b < B ∧ ∀ i, i < xs.length → w.cell? ⟨b, off + i, none⟩ = some (.int .i64 (xs.getD i 0)))) ∧
    (∀ x ∈ xs, fits x) ∧ xs.length ≤ 9223372036854775807

theorem IsL.below {w w' : World} {B : Nat} {v : Value} {xs : List Int} (h : IsL w B v xs) (hb : Below B w w') : IsL w' B v xs := by
  obtain ⟨⟨A, cap, rfl, hc, hA⟩, hf, hl⟩ := h
  refine ⟨⟨A, cap, rfl, hc, fun h0 => ?_⟩, hf, hl⟩
  obtain ⟨b, off, rfl, hbB, hcell⟩ := hA h0
  exact ⟨b, off, rfl, hbB, fun i hi => (hb.cell (p := ⟨b, off + i, none⟩) hbB).trans (hcell i hi)⟩
theorem IsL.more {w : World} {B B' : Nat} {v : Value} {xs : List Int} (h : IsL w B v xs) (hB : B ≤ B') : IsL w B' v xs := by
  obtain ⟨⟨A, cap, rfl, hc, hA⟩, hf, hl⟩ := h
  refine ⟨⟨A, cap, rfl, hc, fun h0 => ?_⟩, hf, hl⟩
  obtain ⟨b, off, rfl, hbB, hcell⟩ := hA h0
  exact ⟨b, off, rfl, by omega, hcell⟩
theorem IsL.drewN {w : World} {B : Nat} {v : Value} {xs : List Int} (h : IsL w B v xs) (d : Nat) : IsL (w.drewN d) B v xs := h
theorem IsL.nil (w : World) (B : Nat) (A : Option Addr) (cap : Nat) : IsL w B (.slice A 0 cap) [] :=
  ⟨⟨A, cap, rfl, Nat.zero_le _, fun h => absurd h (by simp)⟩, fun x hx => by simp at hx, by simp⟩
theorem below_drewN {B : Nat} {a w : World} (h : Below B a w) (d : Nat) : Below B a (w.drewN d) := ⟨h.os, h.tape, h.output, h.size, h.block⟩
theorem getD_fits {xs : List Int} (h : ∀ x ∈ xs, fits x) (i : Nat) : fits (xs.getD i 0) := by
  rw [List.getD_eq_getElem?_getD]
  by_cases hi : i < xs.length
  · rw [List.getElem?_eq_getElem hi]; exact h _ (List.getElem_mem hi)
  · rw [List.getElem?_eq_none (by omega)]; decide
end Go.Proofs.Ytbflkdkbfidleaa.Two
namespace Go.Proofs.Ytbflkdkbfidleaa.Two
open Go.RowKit

/-- A whole number as a value. -/
def iv (x : Int) : Value := .int .i64 x
/-- A slice of the call's own that holds a list. -/
def Own (w : World) (base : Nat) (v : Value) (xs : List Int) : Prop := w.ownsRow base 3 1 v xs.length (xs.map iv) ∧ ∀ x ∈ xs, fits x
theorem int_info : (Try.prog.info? 3).map (fun i => (i.zero, i.size, i.bytes)) = some (some (.int .i64 0), 1, 8) := by kernel_rfl

theorem getD_map (xs : List Int) (i : Nat) (h : i < xs.length) : (xs.map iv)[i]? = some (.int .i64 (xs.getD i 0)) := by
  rw [List.getElem?_map, List.getD_eq_getElem?_getD, List.getElem?_eq_getElem h]
  rfl
theorem Own.isL {w : World} {base : Nat} {v : Value} {xs : List Int} (h : Own w base v xs) (hl : xs.length ≤ 9223372036854775807) : IsL w w.heap.size v xs := by
  obtain ⟨h, hf⟩ := h
  rcases h.2 with ⟨rfl, h0⟩ | ⟨g, cap, cur, rfl, hb, hg, hnc, _⟩
  · obtain rfl : xs = [] := List.eq_nil_of_length_eq_zero h0
    exact IsL.nil _ _ _ _
  · refine ⟨⟨_, cap, rfl, hnc, fun h0 => ⟨g, 0, rfl, (Array.getElem?_eq_some_iff.1 hg).1, fun i hi => ?_⟩⟩, hf, hl⟩
    rw [Nat.zero_add, h.cellAt i (by omega), getD_map xs i hi]
theorem Own.nil (w : World) (base : Nat) : Own w base (.slice none 0 0) [] := ⟨World.ownsRow_nil _ _ _ _, fun x hx => by simp at hx⟩
theorem Own.alloc {w : World} {base : Nat} {v : Value} {xs : List Int} (h : Own w base v xs) (o : Obj) : Own (w.alloc o) base v xs := ⟨h.1.alloc o, h.2⟩
theorem Own.drewN {w : World} {base : Nat} {v : Value} {xs : List Int} (h : Own w base v xs) (d : Nat) : Own (w.drewN d) base v xs := h
theorem Own.mono {w : World} {base base' : Nat} {v : Value} {xs : List Int} (h : Own w base v xs) (hb : base' ≤ base) : Own w base' v xs := ⟨h.1.mono hb, h.2⟩
theorem Own.kept {w w' : World} {row : Option Nat} {base : Nat} {v : Value} {xs : List Int} (h : Own w base v xs) (hg : w.grownBy w' row) (hne : v.ownBlock = none ∨ v.ownBlock ≠ row) : Own w' base v xs := ⟨h.1.kept hg hne, h.2⟩
theorem Own.lt {w : World} {base : Nat} {v : Value} {xs : List Int} (h : Own w base v xs) : ∀ k, v.ownBlock = some k → base ≤ k ∧ k < w.heap.size := h.1.lt
theorem Own.below {w w' : World} {base : Nat} {v : Value} {xs : List Int} (h : Own w base v xs) (hb : Below w.heap.size w w') : Own w' base v xs := by
  obtain ⟨⟨h1, h2⟩, hf⟩ := h
  refine ⟨⟨h1, ?_⟩, hf⟩
  rcases h2 with hn | ⟨g, cap, cur, rfl, hb2, hg, rest⟩
  · exact .inl hn
  · exact .inr ⟨g, cap, cur, rfl, hb2, (hb.block g (Array.getElem?_eq_some_iff.1 hg).1).trans hg, rest⟩
/-- A new slice with room. -/
theorem Own.made (w : World) (base cap : Nat) (cur : Array Value) (hb : base ≤ w.heap.size) (hm : cap ≤ maxLen) (hs : cur.size = cap) : Own (w.alloc (.cells cur 3)) base (.slice (some ⟨w.heap.size, 0, none⟩) 0 cap) [] :=
  ⟨World.ownsRow_made w cur cap hb hm (by omega), fun x hx => by simp at hx⟩

theorem sizeOf3 (w : World) : (sizeOf (Try.prog.elem 22)).run Try.prog w = .ok 1 w := by kernel_rfl
theorem elem27 : Try.prog.elem 22 = 3 := by kernel_rfl
theorem und27 : Try.prog.underlying 22 = some (.slice (Try.prog.elem 22)) := by rw [elem27]; exact Try.underlying22
/-- A list from a place on. -/
theorem IsL.from_ {w : World} {B : Nat} {v : Value} {xs : List Int} (h : IsL w B v xs) (k : Nat) (hk : k ≤ xs.length) :
    ∃ v', (∀ w' : World, (Instr.slice 22 v (some (.int .i64 (k : Int))) none none).run Try.prog w' = .ok v' w') ∧ IsL w B v' (xs.drop k) := by
  obtain ⟨⟨A, cap, rfl, hc, hA⟩, hf, hl⟩ := h
  refine ⟨_, fun w' => by rw [run_slice_l (P := Try.prog) w' 22 _ _ _ und27 .i64 k (by omega) (by omega), sizeOf3]; rfl, ?_⟩
  refine ⟨⟨_, cap - k, by rw [sliced, Int.toNat_natCast, List.length_drop], by rw [List.length_drop]; omega, fun h0 => ?_⟩, fun x hx => hf x (List.mem_of_mem_drop hx), by rw [List.length_drop]; omega⟩
  rw [List.length_drop] at h0
  obtain ⟨b, off, rfl, hb, hcell⟩ := hA (by omega)
  refine ⟨b, off + k, ?_, hb, fun i hi => ?_⟩
  · rw [if_neg (by omega), Nat.mul_one]
    simp [Go.WideShapes.add_plain]
  · rw [List.length_drop] at hi
    rw [Nat.add_assoc, hcell (k + i) (by omega), List.getD_eq_getElem?_getD, List.getD_eq_getElem?_getD, List.getElem?_drop]
/-- A list up to a place. -/
theorem IsL.to_ {w : World} {B : Nat} {v : Value} {xs : List Int} (h : IsL w B v xs) (k : Nat) (hk : k ≤ xs.length) :
    ∃ v', (∀ w' : World, (Instr.slice 22 v none (some (.int .i64 (k : Int))) none).run Try.prog w' = .ok v' w') ∧ IsL w B v' (xs.take k) := by
  obtain ⟨⟨A, cap, rfl, hc, hA⟩, hf, hl⟩ := h
  refine ⟨_, fun w' => by rw [run_slice_h (P := Try.prog) w' 22 _ _ _ und27 .i64 k (by omega) (by omega), sizeOf3]; rfl, ?_⟩
  refine ⟨⟨_, cap, by rw [sliced, Int.toNat_natCast, List.length_take, Nat.min_eq_left hk, Nat.sub_zero, Nat.sub_zero], by rw [List.length_take]; omega, fun h0 => ?_⟩, fun x hx => hf x (List.mem_of_mem_take hx), by rw [List.length_take]; omega⟩
  rw [List.length_take] at h0
  obtain ⟨b, off, rfl, hb, hcell⟩ := hA (by omega)
  refine ⟨b, off, ?_, hb, fun i hi => ?_⟩
  · simp [Go.WideShapes.add_plain]
  · rw [List.length_take] at hi
    rw [hcell i (by omega), List.getD_eq_getElem?_getD, List.getD_eq_getElem?_getD, List.getElem?_take, if_pos (by omega)]

/-- One number, laid as a slice. -/
theorem IsL.lit (w : World) (x : Int) (hx : fits x) : IsL (w.alloc (.cells #[.int .i64 x] 3)) (w.heap.size + 1) (.slice (some ⟨w.heap.size, 0, none⟩) 1 1) [x] := by
  refine ⟨⟨_, 1, rfl, by simp, fun _ => ⟨w.heap.size, 0, rfl, by omega, fun i hi => ?_⟩⟩, fun y hy => by simp at hy; rw [hy]; exact hx, by simp⟩
  have : i = 0 := by simpa using hi
  subst this
  rw [cell_of_row _ w.heap.size _ _ _ (0, 0) (heap_alloc_new w _)]
  rfl
theorem oneCell_iv (xs : List Int) : ∀ u ∈ xs.map iv, u.oneCell' = true := by
  intro u hu
  obtain ⟨x, _, rfl⟩ := List.mem_map.1 hu
  rfl
theorem run_append_nothing (w : World) (base : Nat) (ty : TypeId) (v : Value) (xs : List Int) (h : Own w base v xs) (c : Nat) : (Builtin.append_ #[22, 22] ty #[v, .slice none 0 c]).run Try.prog w = .ok v w := by
  obtain ⟨i0, hi, hz0, hz1, hz2⟩ := info_parts int_info
  rcases h.1.2 with ⟨rfl, _⟩ | ⟨g, cap, cur, rfl, _, _, hnc, _⟩
  · simp [Builtin.append_, run_underlying Try.underlying22, sizeOf, typeInfo, hi, Builtin.lenOf, Builtin.firstCells]
  · simp [Builtin.append_, run_underlying Try.underlying22, sizeOf, typeInfo, hi, Builtin.lenOf, Builtin.firstCells, hnc, storeCells]
theorem run_app (w : World) (base B : Nat) (ty : TypeId) (v src : Value) (xs ys : List Int) (h : Own w base v xs) (hs : IsL w B src ys) (hl : xs.length + ys.length ≤ 1000000) (hb : base ≤ w.heap.size) :
    ∃ v' w', (Builtin.append_ #[22, 22] ty #[v, src]).run Try.prog w = .ok v' w' ∧ Own w' base v' (xs ++ ys) ∧ w.grownBy w' v.ownBlock ∧ (v'.ownBlock = v.ownBlock ∨ v'.ownBlock = some w.heap.size) := by
  obtain ⟨i0, hi, hz0, hz1, hz2⟩ := info_parts int_info
  obtain ⟨⟨A, cap, rfl, hc, hA⟩, hf, hll⟩ := hs
  have hfa : ∀ x ∈ xs ++ ys, fits x := fun x hx => by
    rcases List.mem_append.1 hx with hx | hx
    · exact h.2 x hx
    · exact hf x hx
  by_cases h0 : ys = []
  · subst h0
    match A with
    | none => exact ⟨v, w, run_append_nothing w base ty v xs h cap, by simpa using h, World.grownBy.refl w _, .inl rfl⟩
    | some ad =>
      obtain ⟨v', w', hrun, h2, h3, _, h5⟩ := run_append_own_at (P := Try.prog) w base 22 ty 3 i0 (.int .i64 0) 1 8 Try.underlying22 hi hz0 hz1 hz2 rfl (by decide) v xs.length (xs.map iv) h.1 ad 0 cap [] rfl
        (fun j u hu => by simp at hu) (fun u hu => by simp at hu) (by unfold maxLen; simp at hl; omega) (by simp at hl; omega) hb
      exact ⟨v', w', hrun, ⟨by simpa using h2, hfa⟩, h3, h5⟩
  · have hpos : 0 < ys.length := by
      rcases Nat.eq_zero_or_pos ys.length with h | h
      · exact absurd (List.eq_nil_of_length_eq_zero h) h0
      · exact h
    obtain ⟨b, off, rfl, hbB, hcell⟩ := hA hpos
    obtain ⟨v', w', hrun, h2, h3, _, h5⟩ := run_append_own_at (P := Try.prog) w base 22 ty 3 i0 (.int .i64 0) 1 8 Try.underlying22 hi hz0 hz1 hz2 rfl (by decide) v xs.length (xs.map iv) h.1 ⟨b, off, none⟩ ys.length cap (ys.map iv) (by simp)
      (fun j u hu => by
        have hj : j < ys.length := by
          have := (List.getElem?_eq_some_iff.1 hu).1
          simpa using this
        rw [getD_map ys j hj] at hu
        rw [Go.WideShapes.add_plain, hcell j hj]
        exact hu) (oneCell_iv ys) (by unfold maxLen; omega) (by omega) hb
    exact ⟨v', w', hrun, ⟨by rw [List.length_append, List.map_append]; exact h2, hfa⟩, h3, h5⟩
theorem wp_app {o : Oper} {a : Act} {K : Act → World → Prop} {Q : Exit → Act → World → Prop} (w : World) (s x : Operand)
    (ho : o.op = .call { callee := .builtin .append, args := #[s, x], argTypes := #[22, 22] }) (base B : Nat) (v src : Value) (xs ys : List Int) (hs : a.eval s = v) (hx : a.eval x = src)
    (h : Own w base v xs) (hy : IsL w B src ys) (hl : xs.length + ys.length ≤ 1000000) (hb : base ≤ w.heap.size)
    (hk : ∀ v' w', Own w' base v' (xs ++ ys) → w.grownBy w' v.ownBlock → (v'.ownBlock = v.ownBlock ∨ v'.ownBlock = some w.heap.size) → K (a.put o.dst v') w') : o.wp Try.prog a w K Q := by
  obtain ⟨v', w', hrun, h2, h3, h4⟩ := run_app w base B o.type v src xs ys h hy hl hb
  unfold Oper.wp execOp
  simp only [ho, resolve, invoke, builtin, Sem.run_bind, Sem.run_pure, Result.andThen_ok, List.map_toArray, List.map_cons, List.map_nil, hs, hx, hrun]
  exact hk v' w' h2 h3 h4
theorem wpList_app {ops : Array Oper} {rest : List Oper} {o : Oper} {a : Act} {Q : Exit → Act → World → Prop} (w : World) (hgd : o.guard = none) (s x : Operand)
    (ho : o.op = .call { callee := .builtin .append, args := #[s, x], argTypes := #[22, 22] }) (base B : Nat) (v src : Value) (xs ys : List Int) (hs : a.eval s = v) (hx : a.eval x = src)
    (h : Own w base v xs) (hy : IsL w B src ys) (hl : xs.length + ys.length ≤ 1000000) (hb : base ≤ w.heap.size)
    (hk : ∀ v' w', Own w' base v' (xs ++ ys) → w.grownBy w' v.ownBlock → (v'.ownBlock = v.ownBlock ∨ v'.ownBlock = some w.heap.size) → wpList Try.prog ops Q rest (a.put o.dst v') w') : wpList Try.prog ops Q (o :: rest) a w :=
  wpList_plain hgd fun _ hK => wp_app w s x ho base B v src xs ys hs hx h hy hl hb fun v' w' h2 h3 h4 => hK _ _ (hk v' w' h2 h3 h4)
end Go.Proofs.Ytbflkdkbfidleaa.Two
namespace Go.Proofs.Ytbflkdkbfidleaa.Two

/-- Does a list rise? -/
def Inc (l : List Int) : Prop := l.Pairwise (· < ·)
instance (l : List Int) : Decidable (Inc l) := inferInstanceAs (Decidable (List.Pairwise _ l))
/-- A number put into a set. -/
def put : List Int → Int → List Int
  | [], n => [n]
  | x :: r, n => if x < n then x :: put r n else if x = n then x :: r else n :: x :: r
/-- The set of a list. -/
def mk (l : List Int) : List Int := l.foldl put []

theorem inc_cons {x : Int} {r : List Int} : Inc (x :: r) ↔ (∀ y ∈ r, x < y) ∧ Inc r := List.pairwise_cons
theorem inc_nil : Inc [] := List.Pairwise.nil
theorem inc_append {a b : List Int} : Inc (a ++ b) ↔ Inc a ∧ Inc b ∧ ∀ x ∈ a, ∀ y ∈ b, x < y := List.pairwise_append
theorem inc_filter {a : List Int} (p : Int → Bool) (h : Inc a) : Inc (a.filter p) := List.Pairwise.filter p h
theorem inc_drop {a : List Int} (k : Nat) (h : Inc a) : Inc (a.drop k) := List.Pairwise.sublist (List.drop_sublist k a) h
theorem inc_take {a : List Int} (k : Nat) (h : Inc a) : Inc (a.take k) := List.Pairwise.sublist (List.take_sublist k a) h
theorem inc_snoc {a : List Int} {x : Int} (h : Inc a) (hx : ∀ y ∈ a, y < x) : Inc (a ++ [x]) := inc_append.2 ⟨h, List.pairwise_singleton _ _, fun y hy z hz => by simp at hz; rw [hz]; exact hx y hy⟩
theorem inc_ext : ∀ {a b : List Int}, Inc a → Inc b → (∀ x, x ∈ a ↔ x ∈ b) → a = b
  | [], [], _, _, _ => rfl
  | [], y :: s, _, _, h => absurd ((h y).2 (by simp)) (by simp)
  | x :: r, [], _, _, h => absurd ((h x).1 (by simp)) (by simp)
  | x :: r, y :: s, ha, hb, h => by
    obtain ⟨h1, h2⟩ := inc_cons.1 ha
    obtain ⟨h3, h4⟩ := inc_cons.1 hb
    have hxy : x = y := by
      have e1 := (h x).1 (by simp)
      have e2 := (h y).2 (by simp)
      rcases List.mem_cons.1 e1 with e1 | e1
      · exact e1
      · rcases List.mem_cons.1 e2 with e2 | e2
        · exact e2.symm
        · have := h1 y e2
          have := h3 x e1
          omega
    subst hxy
    rw [inc_ext h2 h4 (fun z => ?_)]
    constructor
    · intro hz
      rcases List.mem_cons.1 ((h z).1 (by simp [hz])) with e | e
      · have := h1 z hz; omega
      · exact e
    · intro hz
      rcases List.mem_cons.1 ((h z).2 (by simp [hz])) with e | e
      · have := h3 z hz; omega
      · exact e
theorem mem_put (s : List Int) (n x : Int) : x ∈ put s n ↔ x ∈ s ∨ x = n := by
  induction s with
  | nil => simp [put]
  | cons y r ih =>
    rw [put]
    split
    · rw [List.mem_cons, List.mem_cons, ih, or_assoc]
    · split
      · rename_i h; subst h; simp; intro h; exact Or.inl h
      · rw [List.mem_cons, or_comm]
theorem inc_put {s : List Int} (n : Int) (h : Inc s) : Inc (put s n) := by
  induction s with
  | nil => exact List.pairwise_singleton _ _
  | cons y r ih =>
    obtain ⟨h1, h2⟩ := inc_cons.1 h
    rw [put]
    split
    · rename_i hy
      refine inc_cons.2 ⟨fun z hz => ?_, ih h2⟩
      rcases (mem_put r n z).1 hz with hz | hz
      · exact h1 z hz
      · omega
    · split
      · exact h
      · refine inc_cons.2 ⟨fun z hz => ?_, h⟩
        rcases List.mem_cons.1 hz with hz | hz
        · omega
        · have := h1 z hz; omega
theorem foldl_put (l : List Int) : ∀ s : List Int, Inc s → Inc (l.foldl put s) ∧ ∀ x, x ∈ l.foldl put s ↔ x ∈ s ∨ x ∈ l := by
  induction l with
  | nil => intro s h; exact ⟨h, fun x => by simp⟩
  | cons y r ih =>
    intro s h
    obtain ⟨h1, h2⟩ := ih (put s y) (inc_put y h)
    refine ⟨h1, fun x => ?_⟩
    rw [List.foldl_cons, h2, mem_put, List.mem_cons, or_assoc]
theorem inc_mk (l : List Int) : Inc (mk l) := (foldl_put l [] inc_nil).1
theorem mem_mk (l : List Int) (x : Int) : x ∈ mk l ↔ x ∈ l := by rw [mk, (foldl_put l [] inc_nil).2]; simp
theorem mk_inc {l : List Int} (h : Inc l) : mk l = l := inc_ext (inc_mk l) h (mem_mk l)
theorem mk_of {s l : List Int} (h : Inc s) (hm : ∀ x, x ∈ s ↔ x ∈ l) : s = mk l := inc_ext h (inc_mk l) fun x => by rw [hm, mem_mk]
theorem mk_snoc (l : List Int) (x : Int) : mk (l ++ [x]) = put (mk l) x := by rw [mk, List.foldl_append]; rfl
theorem foldl_put_eq {s : List Int} (h : Inc s) (l : List Int) : l.foldl put s = mk (s ++ l) := mk_of (foldl_put l s h).1 fun x => by rw [(foldl_put l s h).2, List.mem_append]

/-- Where a number is put. -/
theorem put_at : ∀ (s : List Int) (n : Int) (k : Nat), k ≤ s.length → (∀ i, i < k → s.getD i 0 < n) → (k < s.length → n < s.getD k 0) → put s n = s.take k ++ [n] ++ s.drop k
  | [], n, k, hk, _, _ => by
    have : k = 0 := by simpa using hk
    subst this; rfl
  | x :: r, n, 0, _, _, h2 => by
    have := h2 (by simp)
    simp at this
    rw [put, if_neg (by omega), if_neg (by omega)]
    rfl
  | x :: r, n, k + 1, hk, h1, h2 => by
    have h0 := h1 0 (by omega)
    simp at h0
    rw [put, if_pos h0, put_at r n k (by simpa using hk) (fun i hi => by simpa using h1 (i + 1) (by omega)) (fun hh => by simpa using h2 (by simpa using hh))]
    rfl
theorem put_there : ∀ (s : List Int) (n : Int) (k : Nat), k < s.length → (∀ i, i < k → s.getD i 0 < n) → s.getD k 0 = n → put s n = s
  | [], n, k, hk, _, _ => by simp at hk
  | x :: r, n, 0, _, _, h2 => by
    simp at h2
    rw [put, if_neg (by omega), if_pos h2]
  | x :: r, n, k + 1, hk, h1, h2 => by
    have h0 := h1 0 (by omega)
    simp at h0
    rw [put, if_pos h0, put_there r n k (by simpa using hk) (fun i hi => by simpa using h1 (i + 1) (by omega)) (by simpa using h2)]
theorem put_len_new (s : List Int) (n : Int) (h : n ∉ s) : (put s n).length = s.length + 1 := by
  induction s with
  | nil => rfl
  | cons y r ih =>
    rw [put]
    split
    · rw [List.length_cons, ih (fun hh => h (by simp [hh])), List.length_cons]
    · split
      · rename_i hy; exact absurd hy.symm (fun e => h (by simp [e]))
      · rfl
theorem put_old {s : List Int} (hs : Inc s) (n : Int) (h : n ∈ s) : put s n = s := inc_ext (inc_put n hs) hs fun x => by
  rw [mem_put]
  exact ⟨fun k => k.elim id (fun e => e ▸ h), Or.inl⟩
theorem mk_len_snoc (l : List Int) (x : Int) : (mk (l ++ [x])).length = (mk l).length + (if x ∈ l then 0 else 1) := by
  rw [mk_snoc]
  by_cases h : x ∈ l
  · rw [put_old (inc_mk l) x ((mem_mk l x).2 h), if_pos h, Nat.add_zero]
  · rw [put_len_new _ _ (fun k => h ((mem_mk l x).1 k)), if_neg h]
theorem mk_len_le (l : List Int) : (mk l).length ≤ l.length := by
  refine snoc_ind (p := fun l => (mk l).length ≤ l.length) (Nat.le_refl _) ?_ l
  intro l c ih
  rw [mk_len_snoc, List.length_append, List.length_cons, List.length_nil]
  split <;> omega

/-- The place of the first number that was there already. -/
def Tw (l : List Int) (t : Int) : Prop :=
  (t = -1 ∧ ∀ i, i < l.length → l.getD i 0 ∉ l.take i) ∨ (∃ i : Nat, i < l.length ∧ t = i ∧ l.getD i 0 ∈ l.take i ∧ ∀ j, j < i → l.getD j 0 ∉ l.take j)
theorem Tw.uniq {l : List Int} {t u : Int} (h : Tw l t) (k : Tw l u) : t = u := by
  rcases h with ⟨rfl, h⟩ | ⟨i, hi, rfl, h1, h2⟩ <;> rcases k with ⟨rfl, k⟩ | ⟨j, hj, rfl, k1, k2⟩
  · rfl
  · exact absurd k1 (h j hj)
  · exact absurd h1 (k i hi)
  · rcases Nat.lt_trichotomy i j with hh | hh | hh
    · exact absurd h1 (k2 i hh)
    · rw [hh]
    · exact absurd k1 (h2 j hh)
theorem mk_len_all (l : List Int) : (mk l).length = l.length ↔ ∀ i, i < l.length → l.getD i 0 ∉ l.take i := by
  refine snoc_ind (p := fun l => (mk l).length = l.length ↔ ∀ i, i < l.length → l.getD i 0 ∉ l.take i) ?_ ?_ l
  · simp [mk]
  · intro l c ih
    have hle := mk_len_le l
    have hlast : (l ++ [c]).getD l.length 0 = c := by simp
    have htake : (l ++ [c]).take l.length = l := by simp
    rw [mk_len_snoc, List.length_append, List.length_cons, List.length_nil]
    constructor
    · intro h i hi
      by_cases hc : c ∈ l
      · rw [if_pos hc] at h; omega
      · rw [if_neg hc] at h
        by_cases hil : i < l.length
        · have := ih.1 (by omega) i hil
          rw [List.take_append_of_le_length (by omega)]
          rw [List.getD_eq_getElem?_getD, List.getElem?_append_left hil, ← List.getD_eq_getElem?_getD]
          exact this
        · obtain rfl : i = l.length := by omega
          rw [hlast, htake]
          exact hc
    · intro h
      have hc : c ∉ l := by
        have := h l.length (by omega)
        rwa [hlast, htake] at this
      have := ih.2 (fun i hi => by
        have := h i (by omega)
        rw [List.take_append_of_le_length (by omega), List.getD_eq_getElem?_getD, List.getElem?_append_left hi, ← List.getD_eq_getElem?_getD] at this
        exact this)
      rw [if_neg hc]
      omega
theorem Tw.len {l : List Int} {t : Int} (h : Tw l t) : decide ((mk l).length = l.length) = decide (t = -1) := by
  rw [decide_eq_decide, mk_len_all]
  rcases h with ⟨rfl, h⟩ | ⟨i, hi, rfl, h1, h2⟩
  · exact ⟨fun _ => rfl, fun _ => h⟩
  · exact ⟨fun k => absurd h1 (k i hi), fun k => by omega⟩
end Go.Proofs.Ytbflkdkbfidleaa.Two
namespace Go.Proofs.Ytbflkdkbfidleaa.Two

theorem takeS (l : List Int) (k : Nat) (h : k < l.length) : l.take (k + 1) = l.take k ++ [l.getD k 0] := by
  rw [List.take_succ_eq_append_getElem h, List.getD_eq_getElem?_getD, List.getElem?_eq_getElem h]
  rfl
theorem dropS (l : List Int) (k : Nat) (h : k < l.length) : l.drop k = l.getD k 0 :: l.drop (k + 1) := by
  rw [List.drop_eq_getElem_cons h, List.getD_eq_getElem?_getD, List.getElem?_eq_getElem h]
  rfl
theorem inc_after {l : List Int} (k : Nat) (h : k < l.length) (hi : Inc l) : ∀ y ∈ l.drop (k + 1), l.getD k 0 < y := by
  have h2 := inc_drop k hi
  rw [dropS l k h] at h2
  exact (inc_cons.1 h2).1

/-- What has been gathered of two lists, k of the one and t of the other passed. -/
structure OInv (a b : List Int) (k t : Nat) (all : List Int) : Prop where
  inc : Inc all
  mem : ∀ x, x ∈ all ↔ x ∈ a.take k ∨ x ∈ b.take t
  crossA : ∀ x ∈ all, ∀ y ∈ a.drop k, x < y
  crossB : ∀ x ∈ all, ∀ y ∈ b.drop t, x < y
  len : all.length ≤ k + t
/-- The same while the other list is gone along below n. -/
structure IInv (a b : List Int) (k : Nat) (n : Int) (t : Nat) (all : List Int) : Prop where
  inc : Inc all
  low : ∀ x ∈ all, x < n
  mem : ∀ x, (x ∈ all ∨ x = n) ↔ (x ∈ a.take k ∨ x ∈ b.take t) ∨ x = n
  crossB : ∀ x ∈ all, ∀ y ∈ b.drop t, x < y
  len : all.length ≤ k + t
theorem OInv.start (a b : List Int) : OInv a b 0 0 [] := ⟨inc_nil, fun x => by simp, fun x hx => by simp at hx, fun x hx => by simp at hx, by simp⟩
theorem OInv.enter {a b : List Int} {k t : Nat} {all : List Int} (h : OInv a b k t all) (hk : k < a.length) : IInv a b k (a.getD k 0) t all :=
  ⟨h.inc, fun x hx => h.crossA x hx _ (by rw [dropS a k hk]; simp), fun x => by rw [h.mem], h.crossB, h.len⟩
theorem IInv.less {a b : List Int} {k t : Nat} {n : Int} {all : List Int} (h : IInv a b k n t all) (hb : Inc b) (ht : t < b.length) (hx : b.getD t 0 < n) : IInv a b k n (t + 1) (all ++ [b.getD t 0]) := by
  have hd := dropS b t ht
  refine ⟨inc_snoc h.inc fun y hy => h.crossB y hy _ (by rw [hd]; simp), fun x hx2 => ?_, fun x => ?_, fun x hx2 y hy => ?_, by have := h.len; simp; omega⟩
  · rcases List.mem_append.1 hx2 with hx2 | hx2
    · exact h.low x hx2
    · have : x = b.getD t 0 := by simpa using hx2
      omega
  · have hm := h.mem x
    rw [takeS b t ht, List.mem_append, List.mem_append, List.mem_singleton]
    constructor
    · rintro ((h1 | h1) | h1)
      · rcases hm.1 (Or.inl h1) with (h2 | h2) | h2
        · exact Or.inl (Or.inl h2)
        · exact Or.inl (Or.inr (Or.inl h2))
        · exact Or.inr h2
      · exact Or.inl (Or.inr (Or.inr h1))
      · exact Or.inr h1
    · rintro ((h1 | h1 | h1) | h1)
      · rcases hm.2 (Or.inl (Or.inl h1)) with h2 | h2
        · exact Or.inl (Or.inl h2)
        · exact Or.inr h2
      · rcases hm.2 (Or.inl (Or.inr h1)) with h2 | h2
        · exact Or.inl (Or.inl h2)
        · exact Or.inr h2
      · exact Or.inl (Or.inr h1)
      · exact Or.inr h1
  · rcases List.mem_append.1 hx2 with hx2 | hx2
    · exact h.crossB x hx2 y (by rw [hd]; simp [hy])
    · have : x = b.getD t 0 := by simpa using hx2
      rw [this]
      exact inc_after t ht hb y hy
theorem IInv.same {a b : List Int} {k t : Nat} {n : Int} {all : List Int} (h : IInv a b k n t all) (ht : t < b.length) (hx : b.getD t 0 = n) : IInv a b k n (t + 1) all := by
  have hd := dropS b t ht
  refine ⟨h.inc, h.low, fun x => ?_, fun x hx2 y hy => h.crossB x hx2 y (by rw [hd]; simp [hy]), by have := h.len; omega⟩
  rw [takeS b t ht, List.mem_append, List.mem_singleton, hx, h.mem]
  constructor
  · rintro ((h1 | h1) | h1)
    · exact Or.inl (Or.inl h1)
    · exact Or.inl (Or.inr (Or.inl h1))
    · exact Or.inr h1
  · rintro ((h1 | h1 | h1) | h1)
    · exact Or.inl (Or.inl h1)
    · exact Or.inl (Or.inr h1)
    · exact Or.inr h1
    · exact Or.inr h1
theorem IInv.leave {a b : List Int} {k t : Nat} {all : List Int} (h : IInv a b k (a.getD k 0) t all) (ha : Inc a) (hb : Inc b) (hk : k < a.length) (hx : t < b.length → a.getD k 0 < b.getD t 0) : OInv a b (k + 1) t (all ++ [a.getD k 0]) := by
  refine ⟨inc_snoc h.inc h.low, fun x => ?_, fun x hx2 y hy => ?_, fun x hx2 y hy => ?_, by have := h.len; simp; omega⟩
  · rw [takeS a k hk, List.mem_append, List.mem_append, List.mem_singleton, h.mem]
    constructor
    · rintro ((h1 | h1) | h1)
      · exact Or.inl (Or.inl h1)
      · exact Or.inr h1
      · exact Or.inl (Or.inr h1)
    · rintro ((h1 | h1) | h1)
      · exact Or.inl (Or.inl h1)
      · exact Or.inr h1
      · exact Or.inl (Or.inr h1)
  · have h3 := inc_after k hk ha y hy
    rcases List.mem_append.1 hx2 with hx2 | hx2
    · have := h.low x hx2
      omega
    · have : x = a.getD k 0 := by simpa using hx2
      omega
  · rcases List.mem_append.1 hx2 with hx2 | hx2
    · exact h.crossB x hx2 y hy
    · have e : x = a.getD k 0 := by simpa using hx2
      rw [e]
      have ht : t < b.length := by
        rcases Nat.lt_or_ge t b.length with h | h
        · exact h
        · rw [List.drop_eq_nil_of_le h] at hy
          simp at hy
      have := hx ht
      rw [dropS b t ht] at hy
      rcases List.mem_cons.1 hy with hy | hy
      · omega
      · have := inc_after t ht hb y hy
        omega
theorem OInv.done {a b : List Int} {t : Nat} {all : List Int} (h : OInv a b a.length t all) (hb : Inc b) : all ++ b.drop t = Go.Proofs.Ytbflkdkbfidleaa.Two.mk (a ++ b) := by
  refine mk_of (inc_append.2 ⟨h.inc, inc_drop t hb, h.crossB⟩) fun x => ?_
  rw [List.mem_append, List.mem_append, h.mem, List.take_length, or_assoc, ← List.mem_append, List.take_append_drop]

/-- Two lists gone along, parted by what is in the other one. -/
structure PInv (a b : List Int) (k t : Nat) : Prop where
  low : ∀ y ∈ b.take t, ∀ x ∈ a.drop k, y < x
theorem PInv.start (a b : List Int) : PInv a b 0 0 := ⟨fun y hy => by simp at hy⟩
theorem PInv.next {a b : List Int} {k t : Nat} (h : PInv a b k t) : PInv a b (k + 1) t := ⟨fun y hy x hx => h.low y hy x (by
  have : a.drop (k + 1) = (a.drop k).drop 1 := by rw [List.drop_drop]
  rw [this] at hx
  exact List.mem_of_mem_drop hx)⟩
/-- The numbers passed are below n. -/
def Pass (b : List Int) (t : Nat) (n : Int) : Prop := ∀ y ∈ b.take t, y < n
theorem PInv.enter {a b : List Int} {k t : Nat} (h : PInv a b k t) (hk : k < a.length) : Pass b t (a.getD k 0) := fun y hy => h.low y hy _ (by rw [dropS a k hk]; simp)
theorem Pass.step {b : List Int} {t : Nat} {n : Int} (h : Pass b t n) (ht : t < b.length) (hx : b.getD t 0 < n) : Pass b (t + 1) n := fun y hy => by
  rw [takeS b t ht] at hy
  rcases List.mem_append.1 hy with hy | hy
  · exact h y hy
  · have : y = b.getD t 0 := by simpa using hy
    omega
theorem Pass.leave {a b : List Int} {k t : Nat} (h : Pass b t (a.getD k 0)) (ha : Inc a) (hk : k < a.length) : PInv a b (k + 1) t := ⟨fun y hy x hx => by
  have := h y hy
  have := inc_after k hk ha x hx
  omega⟩
theorem Pass.not_mem {b : List Int} {t : Nat} {n : Int} (h : Pass b t n) (hb : Inc b) (hx : t < b.length → n < b.getD t 0) : n ∉ b := by
  intro hn
  rw [← List.take_append_drop t b] at hn
  rcases List.mem_append.1 hn with hn | hn
  · have := h n hn
    omega
  · have ht : t < b.length := by
      rcases Nat.lt_or_ge t b.length with h | h
      · exact h
      · rw [List.drop_eq_nil_of_le h] at hn
        simp at hn
    have := hx ht
    rw [dropS b t ht] at hn
    rcases List.mem_cons.1 hn with hn | hn
    · omega
    · have := inc_after t ht hb n hn
      omega
end Go.Proofs.Ytbflkdkbfidleaa.Two
