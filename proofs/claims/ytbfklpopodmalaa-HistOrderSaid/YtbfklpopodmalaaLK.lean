/- Words for lists in memory, whatever their elements are: read, or the call's own; what an append answers. -/
import Derived.Test.YtbfklpopodmalaaBA
namespace Go.Proofs.Ytbfklpopodmalaa
open Go.RowKit
/-- A kind of list: the slice's type, its element's, how many cells an element has, which ones. -/
structure Lk (P : Program) (α : Type) where
  S : TypeId
  E : TypeId
  n : Nat
  zero : Value
  bytes : Nat
  cells : α → List Value
  dflt : α
  ok : α → Prop
  und : P.underlying S = some (.slice E)
  info : (P.info? E).map (fun i => (i.zero, i.size, i.bytes)) = some (some zero, n, bytes)
  zs : zero.cells.size = n
  pos : 0 < n
  small : bytes ≤ 100000
  len : ∀ x, (cells x).length = n
  one : ∀ x, ∀ u ∈ cells x, u.oneCell' = true
namespace Lk
variable {P : Program} {α : Type} (K : Lk P α)
def flat (xs : List α) : List Value := xs.flatMap K.cells
theorem flat_len (xs : List α) : (K.flat xs).length = xs.length * K.n := by
  induction xs with
  | nil => simp [flat]
  | cons x r ih =>
    show (K.cells x ++ K.flat r).length = _
    rw [List.length_append, ih, K.len, List.length_cons, Nat.succ_mul, Nat.add_comm]
theorem flat_append (xs ys : List α) : K.flat (xs ++ ys) = K.flat xs ++ K.flat ys := List.flatMap_append
theorem flat_at (xs : List α) (i j : Nat) (h : i < xs.length) (hj : j < K.n) : (K.flat xs)[i * K.n + j]? = (K.cells (xs.getD i K.dflt))[j]? := by
  induction xs generalizing i with
  | nil => simp at h
  | cons x r ih =>
    show (K.cells x ++ K.flat r)[i * K.n + j]? = _
    cases i with
    | zero => rw [Nat.zero_mul, Nat.zero_add, List.getElem?_append_left (by rw [K.len]; exact hj)]; rfl
    | succ k =>
      rw [List.getElem?_append_right (by rw [K.len, Nat.succ_mul]; omega), K.len]
      rw [show (k + 1) * K.n + j - K.n = k * K.n + j by rw [Nat.succ_mul]; omega]
      exact ih k (by simpa using h)
theorem flat_one (xs : List α) : ∀ u ∈ K.flat xs, u.oneCell' = true := by
  intro u hu
  obtain ⟨x, _, hx⟩ := List.mem_flatMap.1 hu
  exact K.one x u hx
/-- A slice value whose elements are a list, in memory below a block. -/
def IsL (w : World) (B : Nat) (v : Value) (xs : List α) : Prop :=
  (∃ A cap, v = .slice A xs.length cap ∧ xs.length ≤ cap ∧ (0 < xs.length → ∃ b off, A = some ⟨b, off, none⟩ ∧ b < B ∧
      ∀ i, i < xs.length → ∀ j u, (K.cells (xs.getD i K.dflt))[j]? = some u → w.cell? ⟨b, off + (i * K.n + j), none⟩ = some u)) ∧
    (∀ x ∈ xs, K.ok x) ∧ xs.length ≤ 9223372036854775807
variable {K}
theorem IsL.below {w w' : World} {B : Nat} {v : Value} {xs : List α} (h : K.IsL w B v xs) (hb : Below B w w') : K.IsL w' B v xs := by
  obtain ⟨⟨A, cap, rfl, hc, hA⟩, hf, hl⟩ := h
  refine ⟨⟨A, cap, rfl, hc, fun h0 => ?_⟩, hf, hl⟩
  obtain ⟨b, off, rfl, hbB, hcell⟩ := hA h0
  exact ⟨b, off, rfl, hbB, fun i hi j u hu => (hb.cell (p := ⟨b, off + (i * K.n + j), none⟩) hbB).trans (hcell i hi j u hu)⟩
theorem IsL.more {w : World} {B B' : Nat} {v : Value} {xs : List α} (h : K.IsL w B v xs) (hB : B ≤ B') : K.IsL w B' v xs := by
  obtain ⟨⟨A, cap, rfl, hc, hA⟩, hf, hl⟩ := h
  refine ⟨⟨A, cap, rfl, hc, fun h0 => ?_⟩, hf, hl⟩
  obtain ⟨b, off, rfl, hbB, hcell⟩ := hA h0
  exact ⟨b, off, rfl, by omega, hcell⟩
theorem IsL.drewN {w : World} {B : Nat} {v : Value} {xs : List α} (h : K.IsL w B v xs) (d : Nat) : K.IsL (w.drewN d) B v xs := h
theorem IsL.nil (w : World) (B : Nat) (A : Option Addr) (cap : Nat) : K.IsL w B (.slice A 0 cap) [] :=
  ⟨⟨A, cap, rfl, Nat.zero_le _, fun h => absurd h (by simp)⟩, fun x hx => by simp at hx, by simp⟩
theorem IsL.then {w w' : World} {v : Value} {xs : List α} (h : K.IsL w w.heap.size v xs) (hb : Below w.heap.size w w') : K.IsL w' w'.heap.size v xs := (h.below hb).more hb.size
variable (K)
/-- A slice of the call's own that holds a list. -/
def Own (w : World) (base : Nat) (v : Value) (xs : List α) : Prop := w.ownsRow base K.E K.n v xs.length (K.flat xs) ∧ ∀ x ∈ xs, K.ok x
variable {K}
theorem Own.isL {w : World} {base : Nat} {v : Value} {xs : List α} (h : K.Own w base v xs) (hl : xs.length ≤ 9223372036854775807) : K.IsL w w.heap.size v xs := by
  obtain ⟨h, hf⟩ := h
  rcases h.2 with ⟨rfl, h0⟩ | ⟨g, cap, cur, rfl, hb, hg, hnc, _⟩
  · obtain rfl : xs = [] := List.eq_nil_of_length_eq_zero h0
    exact IsL.nil _ _ _ _
  · refine ⟨⟨_, cap, rfl, hnc, fun h0 => ⟨g, 0, rfl, (Array.getElem?_eq_some_iff.1 hg).1, fun i hi j u hu => ?_⟩⟩, hf, hl⟩
    have hj : j < K.n := by
      have := (List.getElem?_eq_some_iff.1 hu).1
      rw [K.len] at this
      exact this
    have hij : i * K.n + j < xs.length * K.n := by
      have : (i + 1) * K.n ≤ xs.length * K.n := Nat.mul_le_mul_right _ hi
      rw [Nat.succ_mul] at this
      omega
    rw [Nat.zero_add, h.cellAt (i * K.n + j) hij, K.flat_at xs i j hi hj, hu]
theorem Own.nil (w : World) (base : Nat) : K.Own w base (.slice none 0 0) [] := ⟨World.ownsRow_nil _ _ _ _, fun x hx => by simp at hx⟩
theorem Own.alloc {w : World} {base : Nat} {v : Value} {xs : List α} (h : K.Own w base v xs) (o : Obj) : K.Own (w.alloc o) base v xs := ⟨h.1.alloc o, h.2⟩
theorem Own.drewN {w : World} {base : Nat} {v : Value} {xs : List α} (h : K.Own w base v xs) (d : Nat) : K.Own (w.drewN d) base v xs := h
theorem Own.drew {w : World} {base : Nat} {v : Value} {xs : List α} (h : K.Own w base v xs) : K.Own w.drew base v xs := h
theorem Own.mono {w : World} {base base' : Nat} {v : Value} {xs : List α} (h : K.Own w base v xs) (hb : base' ≤ base) : K.Own w base' v xs := ⟨h.1.mono hb, h.2⟩
theorem Own.kept {w w' : World} {row : Option Nat} {base : Nat} {v : Value} {xs : List α} (h : K.Own w base v xs) (hg : w.grownBy w' row) (hne : v.ownBlock = none ∨ v.ownBlock ≠ row) : K.Own w' base v xs := ⟨h.1.kept hg hne, h.2⟩
theorem Own.lt {w : World} {base : Nat} {v : Value} {xs : List α} (h : K.Own w base v xs) : ∀ k, v.ownBlock = some k → base ≤ k ∧ k < w.heap.size := h.1.lt
theorem Own.below {w w' : World} {base : Nat} {v : Value} {xs : List α} (h : K.Own w base v xs) (hb : Below w.heap.size w w') : K.Own w' base v xs := by
  obtain ⟨⟨h1, h2⟩, hf⟩ := h
  refine ⟨⟨h1, ?_⟩, hf⟩
  rcases h2 with hn | ⟨g, cap, cur, rfl, hb2, hg, rest⟩
  · exact .inl hn
  · exact .inr ⟨g, cap, cur, rfl, hb2, (hb.block g (Array.getElem?_eq_some_iff.1 hg).1).trans hg, rest⟩
/-- A new slice with room. -/
theorem Own.made (w : World) (base cap : Nat) (cur : Array Value) (hb : base ≤ w.heap.size) (hm : cap ≤ maxLen) (hs : cur.size = cap * K.n) : K.Own (w.alloc (.cells cur K.E)) base (.slice (some ⟨w.heap.size, 0, none⟩) 0 cap) [] :=
  ⟨World.ownsRow_made w cur cap hb hm hs, fun x hx => by simp at hx⟩
/-- One element, laid as a slice. -/
theorem Own.lit (w : World) (base : Nat) (x : α) (cs : Array Value) (hx : K.ok x) (hcs : cs = (K.cells x).toArray) (hb : base ≤ w.heap.size) : K.Own (w.alloc (.cells cs K.E)) base (.slice (some ⟨w.heap.size, 0, none⟩) 1 1) [x] := by
  subst hcs
  refine ⟨?_, fun z hz => ?_⟩
  · have q := World.ownsRow_lit (base := base) (e := K.E) (size := K.n) w (K.cells x).toArray 1 hb (by unfold maxLen; omega) (by simp [K.len])
    simpa [flat] using q
  · rw [List.mem_singleton] at hz
    subst hz
    exact hx
theorem IsL.lit (w : World) (x : α) (cs : Array Value) (hx : K.ok x) (hcs : cs = (K.cells x).toArray) (H : Nat) (e : w.heap.size = H) : K.IsL (w.alloc (.cells cs K.E)) (H + 1) (.slice (some ⟨H, 0, none⟩) 1 1) [x] := by
  subst e
  have h := (Own.lit w w.heap.size x cs hx hcs (Nat.le_refl _)).isL (by simp)
  simpa using h
theorem run_append_nothing (w : World) (base : Nat) (ty : TypeId) (v : Value) (xs : List α) (h : K.Own w base v xs) (c : Nat) : (Builtin.append_ #[K.S, K.S] ty #[v, .slice none 0 c]).run P w = .ok v w := by
  obtain ⟨i0, hi, hz0, hz1, hz2⟩ := info_parts K.info
  rcases h.1.2 with ⟨rfl, _⟩ | ⟨g, cap, cur, rfl, _, _, hnc, _⟩
  · simp [Builtin.append_, run_underlying K.und, sizeOf, typeInfo, hi, Builtin.lenOf, Builtin.firstCells]
  · simp [Builtin.append_, run_underlying K.und, sizeOf, typeInfo, hi, Builtin.lenOf, Builtin.firstCells, hnc, storeCells]
theorem run_app (w : World) (base B : Nat) (ty : TypeId) (v src : Value) (xs ys : List α) (h : K.Own w base v xs) (hs : K.IsL w B src ys) (hl : xs.length + ys.length ≤ 1000000) (hb : base ≤ w.heap.size) :
    ∃ v' w', (Builtin.append_ #[K.S, K.S] ty #[v, src]).run P w = .ok v' w' ∧ K.Own w' base v' (xs ++ ys) ∧ w.grownBy w' v.ownBlock ∧ (v'.ownBlock = v.ownBlock ∨ v'.ownBlock = some w.heap.size) := by
  obtain ⟨i0, hi, hz0, hz1, hz2⟩ := info_parts K.info
  obtain ⟨⟨A, cap, rfl, hc, hA⟩, hf, hll⟩ := hs
  have hfa : ∀ x ∈ xs ++ ys, K.ok x := fun x hx => by
    rcases List.mem_append.1 hx with hx | hx
    · exact h.2 x hx
    · exact hf x hx
  have hby : (xs.length + ys.length) * K.bytes ≤ 140737488355328 := by
    have := Nat.mul_le_mul hl K.small
    omega
  by_cases h0 : ys = []
  · subst h0
    match A with
    | none => exact ⟨v, w, run_append_nothing w base ty v xs h cap, by simpa using h, World.grownBy.refl w _, .inl rfl⟩
    | some ad =>
      obtain ⟨v', w', hrun, h2, h3, _, h5⟩ := run_append_own_at (P := P) w base K.S ty K.E i0 K.zero K.n K.bytes K.und hi hz0 hz1 hz2 K.zs K.pos v xs.length (K.flat xs) h.1 ad 0 cap [] (by simp)
        (fun j u hu => by simp at hu) (fun u hu => by simp at hu) (by unfold maxLen; simp at hl; omega) (by simpa using hby) hb
      exact ⟨v', w', hrun, ⟨by simpa using h2, hfa⟩, h3, h5⟩
  · have hpos : 0 < ys.length := by
      rcases Nat.eq_zero_or_pos ys.length with h | h
      · exact absurd (List.eq_nil_of_length_eq_zero h) h0
      · exact h
    obtain ⟨b, off, rfl, hbB, hcell⟩ := hA hpos
    obtain ⟨v', w', hrun, h2, h3, _, h5⟩ := run_append_own_at (P := P) w base K.S ty K.E i0 K.zero K.n K.bytes K.und hi hz0 hz1 hz2 K.zs K.pos v xs.length (K.flat xs) h.1 ⟨b, off, none⟩ ys.length cap (K.flat ys) (K.flat_len ys)
      (fun j u hu => by
        have hj : j < ys.length * K.n := by
          have := (List.getElem?_eq_some_iff.1 hu).1
          rw [K.flat_len] at this
          exact this
        have hn := K.pos
        have e := Nat.div_add_mod j K.n
        have hm := Nat.mod_lt j hn
        have hi2 : j / K.n < ys.length := (Nat.div_lt_iff_lt_mul hn).2 hj
        rw [Nat.mul_comm] at e
        rw [← e, K.flat_at ys _ _ hi2 hm] at hu
        have q := hcell (j / K.n) hi2 (j % K.n) u hu
        rw [e] at q
        rw [Go.WideShapes.add_plain]
        exact q) (K.flat_one ys) (by unfold maxLen; omega) hby hb
    exact ⟨v', w', hrun, ⟨by rw [List.length_append, K.flat_append]; exact h2, hfa⟩, h3, h5⟩
theorem wp_app {o : Oper} {a : Act} {R : Act → World → Prop} {Q : Exit → Act → World → Prop} (w : World) (s x : Operand) {T : TypeId} (hT : T = K.S)
    (ho : o.op = .call { callee := .builtin .append, args := #[s, x], argTypes := #[T, T] }) (base B : Nat) (v src : Value) (xs ys : List α) (hs : a.eval s = v) (hx : a.eval x = src)
    (h : K.Own w base v xs) (hy : K.IsL w B src ys) (hl : xs.length + ys.length ≤ 1000000) (hb : base ≤ w.heap.size)
    (hk : ∀ v' w', K.Own w' base v' (xs ++ ys) → w.grownBy w' v.ownBlock → (v'.ownBlock = v.ownBlock ∨ v'.ownBlock = some w.heap.size) → R (a.put o.dst v') w') : o.wp P a w R Q := by
  subst hT
  obtain ⟨v', w', hrun, h2, h3, h4⟩ := run_app w base B o.type v src xs ys h hy hl hb
  unfold Oper.wp execOp
  simp only [ho, resolve, invoke, builtin, Sem.run_bind, Sem.run_pure, Result.andThen_ok, List.map_toArray, List.map_cons, List.map_nil, hs, hx, hrun]
  exact hk v' w' h2 h3 h4
theorem wpList_app {ops : Array Oper} {rest : List Oper} {o : Oper} {a : Act} {Q : Exit → Act → World → Prop} (w : World) (hgd : o.guard = none) (s x : Operand) {T : TypeId} (hT : T = K.S)
    (ho : o.op = .call { callee := .builtin .append, args := #[s, x], argTypes := #[T, T] }) (base B : Nat) (v src : Value) (xs ys : List α) (hs : a.eval s = v) (hx : a.eval x = src)
    (h : K.Own w base v xs) (hy : K.IsL w B src ys) (hl : xs.length + ys.length ≤ 1000000) (hb : base ≤ w.heap.size)
    (hk : ∀ v' w', K.Own w' base v' (xs ++ ys) → w.grownBy w' v.ownBlock → (v'.ownBlock = v.ownBlock ∨ v'.ownBlock = some w.heap.size) → wpList P ops Q rest (a.put o.dst v') w') : wpList P ops Q (o :: rest) a w :=
  wpList_plain hgd fun _ hK => wp_app w s x hT ho base B v src xs ys hs hx h hy hl hb fun v' w' h2 h3 h4 => hK _ _ (hk v' w' h2 h3 h4)
theorem Own.grow' {S : Nat} {X W W' : World} {v : Value} {xs : List α} (h : K.Own W S v xs) (hb : Below S X W) (hs : S ≤ W.heap.size) (hg : W.grownBy W' v.ownBlock) : Below S X W' := hb.grown hg hs fun k hk => (h.lt k hk).1
end Lk
end Go.Proofs.Ytbfklpopodmalaa
