/- The reference's places of one piece: what it is by the program's ends. -/
import Derived.Test.YtchnljdijmgnfaaWS
import Derived.Test.YtchnljdijmgnfaaWQ
import Derived.Test.YtchnljdijmgnfaaWK
namespace Go.Proofs.Ytchnljdijmgnfaa
open Go.RowKit
theorem cut_yes (l : List UInt8) (c : UInt8) (h : cutF l c = true) : l = cutA l c ++ c :: cutB l c ∧ ∀ x ∈ cutA l c, x ≠ c := by
  induction l with
  | nil => simp [cutF] at h
  | cons x l ih =>
    by_cases hx : x = c
    · subst hx
      have e1 : cutA (x :: l) x = [] := by simp [cutA]
      have e2 : cutB (x :: l) x = l := by simp [cutB]
      rw [e1, e2]
      exact ⟨rfl, by simp⟩
    · have hb : (x == c) = false := by (rw [beq_eq_false_iff_ne]; exact hx)
      have hb2 : (x != c) = true := by (rw [bne_iff_ne]; exact hx)
      have f1 : cutF (x :: l) c = cutF l c := by unfold cutF; rw [List.any_cons, hb, Bool.false_or]
      have f2 : cutA (x :: l) c = x :: cutA l c := by unfold cutA; rw [List.takeWhile_cons, if_pos hb2]
      have f3 : cutB (x :: l) c = cutB l c := by unfold cutB; rw [List.dropWhile_cons, if_pos hb2]
      rw [f1] at h
      obtain ⟨i1, i2⟩ := ih h
      rw [f2, f3]
      refine ⟨?_, ?_⟩
      · rw [List.cons_append, ← i1]
      · intro y hy
        rcases List.mem_cons.1 hy with rfl | hy
        · exact hx
        · exact i2 y hy
theorem cut_no (l : List UInt8) (c : UInt8) (h : cutF l c = false) : ∀ x ∈ l, x ≠ c := by
  intro x hx e
  subst e
  unfold cutF at h
  rw [List.any_eq_false] at h
  exact h x hx (by simp)
theorem pieces_cut (c : UInt8) (l : List UInt8) : pieces c l = cutA l c :: (if cutF l c = true then pieces c (cutB l c) else []) := by
  cases h : cutF l c
  · rw [if_neg (by simp), pieces_whole c l (cut_no l c h), (cut_whole l c (cut_no l c h)).1]
  · obtain ⟨h1, h2⟩ := cut_yes l c h
    rw [if_pos rfl]
    conv => lhs; rw [h1]
    exact pieces_at c _ _ h2
theorem parse_colon (l : List UInt8) (h : cutF l 58 = true) : parseL l = none := by
  cases hp : parseL l with
  | none => rfl
  | some p =>
    obtain ⟨hr, hn⟩ := name_parse l p hp
    have := cut_whole (nameL p) 58 fun x hx => (signs p hr x hx).2
    rw [hn, h] at this
    exact absurd this.2.2 (by simp)
theorem ends_pieces (l : List UInt8) : (2 < (pieces 58 l).length → endsL l = none) ∧ ((pieces 58 l).length ≤ 2 → (pieces 58 l).getD 0 [] = cutA l 58 ∧ (pieces 58 l).getD ((pieces 58 l).length - 1) [] = lastL l) := by
  rw [pieces_cut]
  cases h : cutF l 58
  · rw [if_neg (by simp)]
    refine ⟨fun q => by simp at q, fun _ => ⟨rfl, ?_⟩⟩
    rw [lastL, h]
    rfl
  · rw [if_pos rfl, pieces_cut]
    have hl : lastL l = cutB l 58 := by rw [lastL, h]; rfl
    cases h2 : cutF (cutB l 58) 58
    · rw [if_neg (by simp)]
      refine ⟨fun q => by simp at q, fun _ => ⟨rfl, ?_⟩⟩
      rw [hl]
      exact (cut_whole _ 58 (cut_no _ 58 h2)).1
    · rw [if_pos rfl]
      have hn := List.length_pos_iff.2 (pieces_ne 58 (cutB (cutB l 58) 58))
      refine ⟨fun _ => ?_, fun q => by simp only [List.length_cons] at q; omega⟩
      unfold endsL
      cases parseL (cutA l 58) with
      | none => rfl
      | some a => simp only [hl, parse_colon _ h2]
/-- The walk over the pieces, as the reference goes. -/
def refGo : List (List UInt8) → Nat → List (Int × Int) → List (Int × Int) × Int × Int
  | [], _, m => (m, 0, 0)
  | p :: ps, i, m => match endsL p with
    | none => ([], 60, (i : Int))
    | some (f, t) => if 384 < ((m ++ rect f t).length : Int) then ([], 2, (i : Int)) else refGo ps (i + 1) (m ++ rect f t)
theorem listGo_ref (k : Nat) : ∀ (l : List UInt8) (i : Nat) (m : List (Int × Int)), l.length + 1 ≤ k → listGo k l i m = refGo (pieces 44 l) i m := by
  induction k with
  | zero => intro l i m h; omega
  | succ k ih =>
    intro l i m h
    rw [pieces_cut, listGo, refGo]
    cases he : endsL (cutA l 44) with
    | none => rfl
    | some ft =>
      obtain ⟨f, t⟩ := ft
      have hb := ends_right _ _ _ he
      simp only
      have hlen : ((m ++ rect f t).length : Int) = (m.length : Int) + (t.1 - f.1 + 1) * (t.2 - f.2 + 1) := by
        rw [List.length_append, Int.natCast_add, rect_len f t hb.2.1 (by omega)]
      rw [hlen]
      split
      · rfl
      · cases hc : cutF l 44
        · rw [if_neg (by simp), if_neg (by simp)]
          rfl
        · rw [if_pos rfl, if_pos rfl]
          have := cutB_lt l 44 hc
          exact ih _ _ _ (by omega)
theorem listV_ref (l : List UInt8) (h : l ≠ []) : listV l = refGo (pieces 44 l) 0 [] := by
  rw [listV, if_neg h]
  exact listGo_ref _ _ _ _ (Nat.le_refl _)
/-- A piece's places. -/
def pieceV (l : List UInt8) : List (Int × Int) := match endsL l with
  | none => []
  | some (f, t) => rect f t
def PieceR (w : World) (r : List (Int × Int)) (E : Int) (e : Ending) (w' : World) : Prop := ∃ v', e = .returned (.tuple #[v', .int .i64 E]) ∧ Pl.Own w' w.heap.size v' r ∧ Below w.heap.size w w'
set_option maxHeartbeats 1000000 in
theorem rorder_any (a b : Int) (w : World) : Calls Try.prog 62 #[.int .i64 a, .int .i64 b] w fun e w' => e = .returned (.tuple #[.int .i64 (min a b), .int .i64 (max a b)]) ∧ w = w' := by
  by_cases h : b < a
  · rw [Int.min_eq_right (by omega), Int.max_eq_left (by omega)]
    go_enter Try.func62, Try.ntmps62
    go_wp2
    go_ret2
    exact ⟨rfl, rfl⟩
  · rw [Int.min_eq_left (by omega), Int.max_eq_right (by omega)]
    go_enter Try.func62, Try.ntmps62
    go_wp2
    go_ret2
    exact ⟨rfl, rfl⟩
end Go.Proofs.Ytchnljdijmgnfaa
