/- Plans: the mathematics of a plan and of its way back. -/
import Derived.Test.YtbflkdkbfidleaaVC
import Derived.Test.YtbflkdkbfidleaaVE
import Derived.Test.YtbflkdkbfidleaaTC
namespace Go.Proofs.Ytbflkdkbfidleaa
open Go.RowKit
theorem fl_cons (l : Bool) (x : Int) (r : List Int) : (x :: r).flatMap (mkL l) = mkL l x ++ r.flatMap (mkL l) := rfl
theorem hd_mk (l : Bool) (h : List Int) (x : Int) : (mkL l x).foldl hdS h = Two.put h x := by
  cases l <;> rfl
theorem hd_fl (l : Bool) (ids : List Int) : ∀ h, (ids.flatMap (mkL l)).foldl hdS h = ids.foldl Two.put h := by
  induction ids with
  | nil => exact fun h => rfl
  | cons x r ih =>
    intro h
    rw [fl_cons, List.foldl_append, hd_mk, ih]
    rfl
theorem hd_all (l : Bool) (ids : List Int) (hi : Two.Inc ids) : hdL (ids.flatMap (mkL l)) = ids := by
  unfold hdL
  rw [hd_fl]
  exact Two.mk_inc hi
theorem fil_last (a : List Int) (x : Int) (hi : Two.Inc (a ++ [x])) : (a ++ [x]).filter (fun y => !decide (y ∈ [x])) = a := by
  have h := (Two.inc_append.1 hi).2.2
  rw [List.filter_append, List.filter_eq_self.2 (fun y hy => by
    have := h y hy x (by simp)
    have : y ≠ x := by omega
    simp [this])]
  simp
theorem hd_fr (a : List Int) (b : List Int) : Two.Inc (a ++ b) → (b.reverse.map frD).foldl hdS (a ++ b) = a := by
  refine Two.snoc_ind (p := fun b => Two.Inc (a ++ b) → (b.reverse.map frD).foldl hdS (a ++ b) = a) ?_ ?_ b
  · intro _
    simp
  · intro b x ih hi
    rw [← List.append_assoc] at hi
    rw [List.reverse_append, List.reverse_singleton, List.singleton_append, List.map_cons, List.foldl_cons]
    have e : hdS (a ++ (b ++ [x])) (frD x) = a ++ b := by
      rw [← List.append_assoc]
      exact fil_last (a ++ b) x hi
    rw [e]
    exact ih (Two.inc_append.1 hi).1
theorem tw_fl (l : Bool) (r : List (Int × Int)) (ids : List Int) : ∀ h, Two.Inc (h ++ ids) → tw 0 h (ids.flatMap (mkL l) ++ r) = tw 0 (h ++ ids) r := by
  induction ids with
  | nil => intro h _; simp
  | cons x s ih =>
    intro h hi
    have hx : h.all (fun y => decide (y < x)) = true := by
      rw [List.all_eq_true]
      intro y hy
      exact decide_eq_true ((Two.inc_append.1 hi).2.2 y hy x (by simp))
    have e1 : stS 0 h (1, x) = some (0, h ++ [x]) := by rw [st1, if_pos ⟨rfl, hx⟩]
    have e2 : stS 0 (h ++ [x]) (2, x) = some (0, h ++ [x]) := by rw [st2, if_pos ⟨rfl, by simp⟩]
    have hi' : Two.Inc ((h ++ [x]) ++ s) := by simpa using hi
    have := ih (h ++ [x]) hi'
    rw [fl_cons]
    cases l
    · show tw 0 h ((1, x) :: (s.flatMap (mkL false) ++ r)) = _
      rw [tw_some e1, this]
      simp
    · show tw 0 h ((1, x) :: (2, x) :: (s.flatMap (mkL true) ++ r)) = _
      rw [tw_some e1, tw_some e2, this]
      simp
theorem tw_fr (r : List (Int × Int)) (b : List Int) : Two.Inc b → tw 1 b (b.reverse.map frD ++ r) = tw 1 [] r := by
  refine Two.snoc_ind (p := fun b => Two.Inc b → tw 1 b (b.reverse.map frD ++ r) = tw 1 [] r) ?_ ?_ b
  · intro _
    simp
  · intro b x ih hi
    rw [List.reverse_append, List.reverse_singleton, List.singleton_append, List.map_cons, List.cons_append]
    have e : stS 1 (b ++ [x]) (frD x) = some (1, b) := by
      show stS 1 (b ++ [x]) (4, x) = _
      rw [st4, if_pos ⟨rfl, by simp⟩, fil_last b x hi]
    rw [tw_some e]
    exact ih (Two.inc_append.1 hi).1
theorem mkV_inc (ids : List Int) (l : Bool) (hi : Two.Inc ids) : mkV ids l = ids.flatMap (mkL l) ++ ((3, 0) :: (ids.reverse.map frD ++ [(5, 0)])) := by
  unfold mkV
  rw [if_pos (decide_eq_true hi)]
  simp
theorem mkV_two (ids : List Int) (l : Bool) (hi : Two.Inc ids) : twV (mkV ids l) = true := by
  rw [mkV_inc ids l hi]
  unfold twV
  rw [tw_fl l _ ids [] (by simpa using hi), List.nil_append]
  have e : stS 0 ids (3, 0) = some (1, ids) := by rw [st3, if_pos ⟨rfl, rfl⟩]
  rw [tw_some e, tw_fr _ ids hi]
  have e : stS 1 [] (5, 0) = some (2, []) := by rw [st5, if_pos ⟨rfl, rfl, rfl⟩]
  rw [tw_some e]
  rfl
theorem fl_len (l : Bool) (ids : List Int) : (ids.flatMap (mkL l)).length = if l then 2 * ids.length else ids.length := by
  induction ids with
  | nil => cases l <;> rfl
  | cons x r ih =>
    rw [fl_cons, List.length_append, ih, List.length_cons]
    cases l <;> simp [mkL] <;> omega
theorem mkV_steps (ids : List Int) (l : Bool) (hi : Two.Inc ids) (hl : ids.length ≤ 1000) : ((mkV ids l).length : Int) = stV ids.length l := by
  rw [mkV_inc ids l hi]
  unfold stV
  rw [if_neg (by omega)]
  simp only [List.length_append, List.length_cons, List.length_map, List.length_reverse, List.length_nil, fl_len]
  cases l <;> simp <;> omega
theorem hlV_take (m : List (Int × Int)) (i : Nat) (h : i ≤ m.length) : hlV m i = hdL (m.take i) := by
  unfold hlV wi
  congr 2
  omega
theorem hlV_at (a b : List (Int × Int)) : hlV (a ++ b) a.length = hdL a := by
  rw [hlV_take _ _ (by simp), List.take_left' rfl]
theorem hlV_all (m : List (Int × Int)) : hlV m m.length = hdL m := by rw [hlV_take _ _ (Nat.le_refl _), List.take_length]
theorem hdL_app (a b : List (Int × Int)) : hdL (a ++ b) = b.foldl hdS (hdL a) := by
  unfold hdL
  rw [List.foldl_append]
theorem back_none (l : Bool) (t : List Int) (hi : Two.Inc t) : hdL (t.flatMap (mkL l) ++ (t.reverse.map frD ++ [(5, 0)])) = [] := by
  rw [hdL_app, hd_all l t hi, List.foldl_append]
  have := hd_fr [] t hi
  rw [List.nil_append] at this
  rw [this]
  rfl
theorem mkV_none (ids : List Int) (l : Bool) (hi : Two.Inc ids) : hlV (mkV ids l) (mkV ids l).length = [] := by
  rw [hlV_all, mkV_inc ids l hi]
  have := back_none l ids hi
  rw [hdL_app] at this ⊢
  exact this
theorem fl_kind (l : Bool) (ids : List Int) : ∀ d ∈ ids.flatMap (mkL l), d.1 ≠ 3 := by
  intro d hd
  obtain ⟨x, _, hx⟩ := List.mem_flatMap.1 hd
  cases l
  · simp [mkL] at hx
    rw [hx]; show (1 : Int) ≠ 3; decide
  · simp [mkL] at hx
    rcases hx with rfl | rfl
    · show (1 : Int) ≠ 3; decide
    · show (2 : Int) ≠ 3; decide
theorem mkV_do (ids : List Int) (l : Bool) (hi : Two.Inc ids) (i : Nat) (h : i < (mkV ids l).length) (h3 : ((mkV ids l).getD i (0, 0)).1 = 3) : hlV (mkV ids l) i = ids := by
  rw [mkV_inc ids l hi] at *
  have e : i = (ids.flatMap (mkL l)).length := by
    rcases Nat.lt_trichotomy i (ids.flatMap (mkL l)).length with h1 | h1 | h1
    · exfalso
      rw [List.getD_eq_getElem?_getD, List.getElem?_append_left h1, List.getElem?_eq_getElem h1] at h3
      exact fl_kind l ids _ (List.getElem_mem h1) h3
    · exact h1
    · exfalso
      obtain ⟨j, rfl⟩ : ∃ j, i = (ids.flatMap (mkL l)).length + (j + 1) := ⟨i - (ids.flatMap (mkL l)).length - 1, by omega⟩
      rw [List.length_append, List.length_cons] at h
      have hj : j < (ids.reverse.map frD ++ [(5, (0 : Int))]).length := by omega
      rw [List.getD_eq_getElem?_getD, List.getElem?_append_right (by omega)] at h3
      rw [show (ids.flatMap (mkL l)).length + (j + 1) - (ids.flatMap (mkL l)).length = j + 1 by omega, List.getElem?_cons_succ, List.getElem?_eq_getElem hj] at h3
      have hm := List.getElem_mem hj
      simp only [Option.getD_some] at h3
      generalize (ids.reverse.map frD ++ [(5, (0 : Int))])[j] = d at *
      rcases List.mem_append.1 hm with hm | hm
      · obtain ⟨x, _, rfl⟩ := List.mem_map.1 hm
        exact absurd (show (4 : Int) = 3 from h3) (by decide)
      · simp at hm
        rw [hm] at h3
        exact absurd h3 (by decide)
  rw [e, hlV_at, hd_all l ids hi]
/-- How many deeds take the first k. -/
def nV (k : Nat) (l : Bool) : Nat := if l then 2 * k else k
theorem nV_le (ids : List Int) (l : Bool) (hi : Two.Inc ids) (k : Nat) (h : k ≤ ids.length) : nV k l ≤ (mkV ids l).length := by
  rw [mkV_inc ids l hi, List.length_append, fl_len]
  unfold nV
  cases l <;> simp <;> omega
theorem take_n (ids : List Int) (l : Bool) (hi : Two.Inc ids) (k : Nat) (h : k ≤ ids.length) : (mkV ids l).take (nV k l) = (ids.take k).flatMap (mkL l) := by
  have e : ids.flatMap (mkL l) = (ids.take k).flatMap (mkL l) ++ (ids.drop k).flatMap (mkL l) := by
    rw [← List.flatMap_append, List.take_append_drop]
  rw [mkV_inc ids l hi, e, List.append_assoc]
  refine List.take_left' ?_
  rw [fl_len, List.length_take, Nat.min_eq_left h]
  rfl
theorem hlV_n (ids : List Int) (l : Bool) (hi : Two.Inc ids) (k : Nat) (h : k ≤ ids.length) : hlV (mkV ids l) (nV k l) = ids.take k := by
  rw [hlV_take _ _ (nV_le ids l hi k h), take_n ids l hi k h, hd_all l _ (Two.inc_take k hi)]
theorem bkV_k (ids : List Int) (hi : Two.Inc ids) (k : Nat) (h : k ≤ ids.length) : bkV ids k = (ids.take k).reverse.map frD ++ [(5, 0)] := by
  unfold bkV wi
  rw [if_pos (decide_eq_true hi)]
  congr 4
  omega
theorem bkV_klen (ids : List Int) (hi : Two.Inc ids) (k : Nat) (h : k ≤ ids.length) : (bkV ids k).length = k + 1 := by
  rw [bkV_k ids hi k h]
  simp
  omega
def alV (ids : List Int) (l : Bool) (k : Nat) : List (Int × Int) := (mkV ids l).take (nV k l) ++ bkV ids k
theorem alV_none (ids : List Int) (l : Bool) (hi : Two.Inc ids) (k : Nat) (h : k ≤ ids.length) : hlV (alV ids l k) (alV ids l k).length = [] := by
  rw [hlV_all]
  unfold alV
  rw [take_n ids l hi k h, bkV_k ids hi k h]
  exact back_none l _ (Two.inc_take k hi)
theorem fr_in (t : List Int) (l : Bool) (hi : Two.Inc t) (i : Nat) (h : i < t.length) : t.reverse.getD i 0 ∈ hdL (t.flatMap (mkL l) ++ (t.reverse.map frD).take i) := by
  have e : t = t.take (t.length - i) ++ t.drop (t.length - i) := (List.take_append_drop _ _).symm
  have e2 : (t.reverse.map frD).take i = (t.drop (t.length - i)).reverse.map frD := by
    rw [← List.map_take, List.take_reverse]
  rw [hdL_app, hd_all l t hi, e2]
  have := hd_fr (t.take (t.length - i)) (t.drop (t.length - i)) (by rw [← e]; exact hi)
  rw [← e] at this
  rw [this, List.getD_eq_getElem?_getD, List.getElem?_reverse h]
  have hj : t.length - 1 - i < (t.take (t.length - i)).length := by rw [List.length_take]; omega
  have e3 : t[t.length - 1 - i]? = (t.take (t.length - i))[t.length - 1 - i]? := by rw [List.getElem?_take, if_pos (by omega)]
  rw [e3, List.getElem?_eq_getElem hj, Option.getD_some]
  exact List.getElem_mem hj
theorem alV_free (ids : List Int) (l : Bool) (hi : Two.Inc ids) (k : Nat) (h : k ≤ ids.length) (i : Nat) (hb : i < (bkV ids k).length) (h4 : ((bkV ids k).getD i (0, 0)).1 = 4) :
    ((bkV ids k).getD i (0, 0)).2 ∈ hlV (alV ids l k) ((nV k l + i : Nat) : Int) := by
  have ht : ((mkV ids l).take (nV k l)).length = nV k l := by rw [List.length_take]; exact Nat.min_eq_left (nV_le ids l hi k h)
  rw [hlV_take _ _ (by unfold alV; rw [List.length_append, ht]; omega)]
  have e : (alV ids l k).take (nV k l + i) = (mkV ids l).take (nV k l) ++ (bkV ids k).take i := by
    unfold alV
    rw [List.take_append, ht, List.take_of_length_le (by omega)]
    congr 2
    omega
  rw [e, take_n ids l hi k h]
  have hk := bkV_klen ids hi k h
  rw [bkV_k ids hi k h] at *
  have hlt : (ids.take k).length = k := by rw [List.length_take]; omega
  by_cases hik : i < k
  · have hlm : i < ((ids.take k).reverse.map frD).length := by simp; omega
    rw [List.take_append_of_le_length (by omega), List.getD_eq_getElem?_getD, List.getElem?_append_left hlm, List.getElem?_map]
    have := fr_in (ids.take k) l (Two.inc_take k hi) i (by omega)
    have hr : i < (ids.take k).reverse.length := by simp; omega
    rw [List.getD_eq_getElem?_getD] at this
    rw [List.getElem?_eq_getElem hr] at this ⊢
    exact this
  · exfalso
    have : i = k := by omega
    subst this
    rw [List.getD_eq_getElem?_getD, List.getElem?_append_right (by rw [List.length_map, List.length_reverse, hlt]; exact Nat.le_refl _), List.length_map, List.length_reverse, hlt, Nat.sub_self] at h4
    exact absurd (show (5 : Int) = 4 from h4) (by decide)
end Go.Proofs.Ytbflkdkbfidleaa
