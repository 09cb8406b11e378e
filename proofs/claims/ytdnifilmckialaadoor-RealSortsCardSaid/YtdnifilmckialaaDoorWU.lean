/- The reference's order: each number put in its place, list after list. -/
import Derived.Test.YtdnifilmckialaaDoorWT
namespace Go.Proofs.YtdnifilmckialaaDoor
open Go.RowKit

/-- A slice's cells are these numbers. -/
def CellsR (w : World) (b off : Nat) (xs : List Nat) : Prop := ∀ i, i < xs.length → w.cell? ⟨b, off + i, none⟩ = some (.int .u64 (xs.getD i 0))
/-- What a spread append reads: some cells, or nothing. -/
def Src (w : World) (ao : Option Addr) (m c : Nat) (news : List Value) : Prop :=
  news.length = m ∧ (∀ u ∈ news, u.oneCell' = true) ∧ (ao = none → m = 0 ∧ c = 0) ∧ ∀ ad, ao = some ad → ∀ j u, news[j]? = some u → w.cell? (ad.add j) = some u
/-- What a value that owns a row of the call's looks like. -/
theorem own_form {w : World} {B : Nat} {v : Value} {i : Nat} {xs : List Nat} (hl : xs.length = i) (h : w.ownsRow B 23 1 v i (xs.map bitsR)) :
    ∃ ao cap, v = .slice ao i cap ∧ ((ao = none ∧ i = 0 ∧ cap = 0) ∨ ∃ G, ao = some ⟨G, 0, none⟩ ∧ B ≤ G ∧ G < w.heap.size ∧ i ≤ cap ∧ ∀ j, j < i → w.cell? ⟨G, j, none⟩ = some (.int .u64 (xs.getD j 0))) := by
  rcases h.2 with ⟨rfl, h0⟩ | ⟨g, cap, cur, rfl, hb, hg, hrest⟩
  · subst h0
    exact ⟨none, 0, rfl, Or.inl ⟨rfl, rfl, rfl⟩⟩
  · refine ⟨_, cap, rfl, Or.inr ⟨g, rfl, hb, (h.lt g rfl).2, ?_, fun j hj => ?_⟩⟩
    · exact hrest.1
    · have e := h.cellAt j (by simp; exact hj)
      rw [e, List.getElem?_map, List.getElem?_eq_getElem (by omega), List.getD_eq_getElem?_getD, List.getElem?_eq_getElem (by omega)]
      rfl
/-- An append, whatever it reads, at a step of a region that draws. -/
theorem step_app {w : World} {ops : Array Oper} {o : Oper} {a : Act} {K : Act → World → Prop} {Q : Exit → Act → World → Prop} {E : Prop} (hgd : o.guard = none) (s x : Operand)
    (ho : o.op = .call { callee := .builtin .append, args := #[s, x], argTypes := #[41, 41] })
    (base : Nat) (v : Value) (n : Nat) (xs : List Value) (hs : a.eval s = v) (hown : w.ownsRow base 23 1 v n xs)
    (ao : Option Addr) (m c : Nat) (news : List Value) (hx : a.eval x = .slice ao m c) (hsrc : Src w ao m c news) (hb : n + m ≤ 1000000) (hbase : base ≤ w.heap.size)
    (h : ∀ v' w', w'.ownsRow base 23 1 v' (n + m) (xs ++ news) → w.grownBy w' v.ownBlock → K (a.put o.dst v') w') :
    if Region.wanted o (yielded ops a.tmps) = true then Oper.wp Tryd.prog o a w K Q else E := by
  obtain ⟨i0, hi, hz0, hz1, hz2⟩ := info_parts infoR23
  obtain ⟨s1, s2, s3, s4⟩ := hsrc
  have hw : Region.wanted o (yielded ops a.tmps) = true := by simp [Region.wanted, hgd]
  rw [if_pos hw]
  cases ao with
  | none =>
    obtain ⟨rfl, rfl⟩ := s3 rfl
    obtain rfl : news = [] := List.eq_nil_of_length_eq_zero s1
    have hrun := run_append_owned_none (P := Tryd.prog) (w := w) base 41 o.type 23 i0 1 Tryd.underlying41 hi v n xs hown
    unfold Oper.wp execOp
    simp only [ho, resolve, invoke, builtin, Sem.run_bind, Sem.run_pure, Result.andThen_ok, List.map_toArray, List.map_cons, List.map_nil, hs, hx, hrun]
    exact h v w (by simpa using hown) (World.grownBy.refl _ _)
  | some ad =>
    exact wp_append_own w s x 41 ho base 23 i0 (.int .u64 0) 1 8 Tryd.underlying41 hi hz0 hz1 hz2 rfl (by decide) v n xs hs hown ad m c news hx (by omega) (s4 ad rfl) s2 (by unfold maxLen; omega) (by omega) hbase
      fun v' w' k1 k2 _ => h v' w' k1 k2

/-- The cells of a slice that lies where an older world says: still there. -/
theorem src_old {X W : World} {G i : Nat} {L : List Nat} (hL : L.length = i) (hG : G < X.heap.size) (hc : ∀ j, j < i → X.cell? ⟨G, j, none⟩ = some (.int .u64 (L.getD j 0))) (hb : Below X.heap.size X W) (kk cap : Nat) (hk : kk ≤ i) :
    Src W (some ⟨G, 0, none⟩) kk cap ((L.take kk).map bitsR) ∧ Src W (if cap = kk then some ⟨G, 0, none⟩ else some ⟨G, kk, none⟩) (i - kk) (cap - kk) ((L.drop kk).map bitsR) ∨ cap < i := by
  by_cases hcap : cap < i
  · exact Or.inr hcap
  have hone : ∀ l : List Nat, ∀ u ∈ l.map bitsR, u.oneCell' = true := fun l u hu => by
    obtain ⟨x, _, rfl⟩ := List.mem_map.1 hu
    rfl
  have hcW : ∀ j, j < i → W.cell? ⟨G, j, none⟩ = some (.int .u64 (L.getD j 0)) := fun j hj => (hb.cell (p := ⟨G, j, none⟩) hG).trans (hc j hj)
  refine Or.inl ⟨⟨by simp; omega, hone _, fun h => by simp at h, fun ad had j u hu => ?_⟩, ⟨by simp; omega, hone _, fun h => ?_, fun ad had j u hu => ?_⟩⟩
  · cases had
    obtain ⟨hj, rfl⟩ := List.getElem?_eq_some_iff.1 hu
    simp only [List.length_map, List.length_take] at hj
    rw [Go.WideShapes.add_plain, Nat.zero_add, hcW j (by omega)]
    simp only [List.getElem_map, List.getElem_take, bitsR]
    rw [List.getD_eq_getElem?_getD, List.getElem?_eq_getElem (by omega)]
    rfl
  · split at h <;> simp at h
  · obtain ⟨hj, rfl⟩ := List.getElem?_eq_some_iff.1 hu
    simp only [List.length_map, List.length_drop] at hj
    rw [if_neg (by omega)] at had
    cases had
    rw [Go.WideShapes.add_plain, hcW (kk + j) (by omega)]
    simp only [List.getElem_map, List.getElem_drop, bitsR]
    rw [List.getD_eq_getElem?_getD, List.getElem?_eq_getElem (by omega)]
    rfl
/-- The cell of a slice of one number that has just been made. -/
theorem src_one {W : World} {H x : Nat} {fr : Nat × Nat} (h : W.heap[H]? = some (.cells #[.int .u64 x] 23 fr)) : Src W (some ⟨H, 0, none⟩) 1 1 [bitsR x] := by
  refine ⟨rfl, fun u hu => by rw [List.mem_singleton.1 hu]; rfl, fun h => by simp at h, fun ad had j u hu => ?_⟩
  cases had
  exact World.news_of_block h j u hu
/-- An empty slice that has just been made. -/
theorem own_empty {W : World} {S : Nat} (hS : S ≤ W.heap.size) : (W.alloc (.cells #[] 23)).ownsRow S 23 1 (.slice (some ⟨W.heap.size, 0, none⟩) 0 0) 0 [] :=
  World.ownsRow_made (base := S) (e := 23) (size := 1) W #[] 0 hS (by unfold maxLen; omega) rfl
theorem own_base {W : World} {S B : Nat} (hB : B ≤ S) {v : Value} {n : Nat} {xs : List Value} (h : W.ownsRow S 23 1 v n xs) : W.ownsRow B 23 1 v n xs := by
  refine ⟨h.1, ?_⟩
  rcases h.2 with h1 | ⟨g, cap, cur, hv, hb, hr⟩
  · exact Or.inl h1
  · exact Or.inr ⟨g, cap, cur, hv, by omega, hr⟩
/-- An empty slice and a slice of one number, made in whichever order. -/
structure Made (X W : World) (H : Nat) : Prop where
  own : W.ownsRow X.heap.size 23 1 (.slice (some ⟨H, 0, none⟩) 0 0) 0 []
  below : Below X.heap.size X W
  size : X.heap.size ≤ W.heap.size
  at' : X.heap.size ≤ H
theorem made_A (X : World) : Made X (X.alloc (.cells #[] 23)).drew X.heap.size :=
  ⟨own_empty (W := X) (Nat.le_refl _), ((Below.refl _ X).alloc (Nat.le_refl _) _).drew, by simp, Nat.le_refl _⟩
theorem made_B (X : World) (x : Int) : Made X ((X.alloc (.cells #[] 23)).alloc (.cells #[.int .u64 x] 23)).drew X.heap.size :=
  ⟨(own_empty (W := X) (Nat.le_refl _)).alloc _, (((Below.refl _ X).alloc (Nat.le_refl _) _).alloc (by simp) _).drew, by simp; omega, Nat.le_refl _⟩
theorem made_C (X : World) (x : Int) : Made X ((X.alloc (.cells #[.int .u64 x] 23)).alloc (.cells #[] 23)).drew (X.heap.size + 1) := by
  have h := own_empty (W := X.alloc (.cells #[.int .u64 x] 23)) (S := X.heap.size) (by simp)
  rw [show (X.alloc (.cells #[.int .u64 x] 23)).heap.size = X.heap.size + 1 by simp] at h
  exact ⟨h, (((Below.refl _ X).alloc (Nat.le_refl _) _).alloc (by simp) _).drew, by simp; omega, by omega⟩
/-- The slice of one number, where it lies behind the first append. -/
theorem one_B {X W2 : World} {x : Int} (hg : ((X.alloc (.cells #[] 23)).alloc (.cells #[.int .u64 x] 23)).drew.grownBy W2 (some X.heap.size)) : W2.heap[X.heap.size + 1]? = some (.cells #[.int .u64 x] 23) := by
  rw [hg.block (X.heap.size + 1) (by simp) (by simp)]
  have h := heap_alloc_new (X.alloc (.cells #[] 23)) (.cells #[.int .u64 x] 23)
  rw [show (X.alloc (.cells #[] 23)).heap.size = X.heap.size + 1 by simp] at h
  exact h
theorem one_C {X W2 : World} {x : Int} (hg : ((X.alloc (.cells #[.int .u64 x] 23)).alloc (.cells #[] 23)).drew.grownBy W2 (some (X.heap.size + 1))) : W2.heap[X.heap.size]? = some (.cells #[.int .u64 x] 23) := by
  rw [hg.block X.heap.size (by simp; omega) (by simp)]
  show ((X.alloc (.cells #[.int .u64 x] 23)).alloc (.cells #[] 23)).heap[X.heap.size]? = _
  rw [Below.heap_alloc _ _ _ (by simp)]
  exact heap_alloc_new X _
theorem grow_own {S : Nat} {X W W' : World} {v : Value} {n : Nat} {xs : List Value} (hb : Below S X W) (hs : S ≤ W.heap.size) (ho : W.ownsRow S 23 1 v n xs) (hg : W.grownBy W' v.ownBlock) : Below S X W' := hb.grown hg hs fun k hk => (ho.lt k hk).1
end Go.Proofs.YtdnifilmckialaaDoor
