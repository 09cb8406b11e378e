/- Plans: what two-phased deeds are, and what is held behind some of them. -/
import Derived.Test.YtbflkdkbfidleaaVB
import Derived.Test.YtbflkdkbfidleaaTC
namespace Go.Proofs.Ytbflkdkbfidleaa
open Go.RowKit
/-- How far one is, and what is held, behind one more deed; none, where it may not stand there. -/
def stS (p : Int) (h : List Int) (d : Int × Int) : Option (Int × List Int) :=
  if d.1 = 1 then if p = 0 ∧ h.all (fun y => decide (y < d.2)) = true then some (0, h ++ [d.2]) else none
  else if d.1 = 2 then if p = 0 ∧ d.2 ∈ h then some (0, h) else none
  else if d.1 = 3 then if p = 0 ∧ d.2 = 0 then some (1, h) else none
  else if d.1 = 4 then if p = 1 ∧ d.2 ∈ h then some (1, h.filter fun y => !decide (y ∈ [d.2])) else none
  else if d.1 = 5 then if p = 1 ∧ d.2 = 0 ∧ h = [] then some (2, h) else none
  else none
def tw : Int → List Int → List (Int × Int) → Bool
  | p, _, [] => decide (p = 2)
  | p, h, d :: r => match stS p h d with
    | none => false
    | some s => tw s.1 s.2 r
theorem tw_none {p : Int} {h : List Int} {d : Int × Int} {r : List (Int × Int)} (e : stS p h d = none) : tw p h (d :: r) = false := by rw [tw, e]
theorem tw_some {p q : Int} {h g : List Int} {d : Int × Int} {r : List (Int × Int)} (e : stS p h d = some (q, g)) : tw p h (d :: r) = tw q g r := by rw [tw, e]
theorem stS_two (h : List Int) (d : Int × Int) : stS 2 h d = none := by
  unfold stS
  simp
theorem tw_two (h : List Int) (r : List (Int × Int)) : tw 2 h r = decide (r = []) := by
  cases r with
  | nil => simp [tw]
  | cons d r => rw [tw_none (stS_two h d)]; simp
def twV (l : List (Int × Int)) : Bool := tw 0 [] l
theorem st1 (p : Int) (h : List Int) (x : Int) : stS p h (1, x) = if p = 0 ∧ h.all (fun y => decide (y < x)) = true then some (0, h ++ [x]) else none := rfl
theorem st2 (p : Int) (h : List Int) (x : Int) : stS p h (2, x) = if p = 0 ∧ x ∈ h then some (0, h) else none := rfl
theorem st3 (p : Int) (h : List Int) (x : Int) : stS p h (3, x) = if p = 0 ∧ x = 0 then some (1, h) else none := rfl
theorem st4 (p : Int) (h : List Int) (x : Int) : stS p h (4, x) = if p = 1 ∧ x ∈ h then some (1, h.filter fun y => !decide (y ∈ [x])) else none := rfl
theorem st5 (p : Int) (h : List Int) (x : Int) : stS p h (5, x) = if p = 1 ∧ x = 0 ∧ h = [] then some (2, h) else none := rfl
theorem st0 (p : Int) (h : List Int) (k x : Int) (h1 : k ≠ 1) (h2 : k ≠ 2) (h3 : k ≠ 3) (h4 : k ≠ 4) (h5 : k ≠ 5) : stS p h (k, x) = none := by
  unfold stS
  simp [h1, h2, h3, h4, h5]
/-- What is held behind some deeds. -/
def hdS (h : List Int) (d : Int × Int) : List Int := if d.1 = 1 then Two.put h d.2 else if d.1 = 4 then h.filter (fun y => !decide (y ∈ [d.2])) else h
def hdL (l : List (Int × Int)) : List Int := l.foldl hdS []
def hlV (l : List (Int × Int)) (k : Int) : List Int := hdL (l.take (wi k l.length))
theorem hdL_snoc (l : List (Int × Int)) (k : Nat) (h : k < l.length) : hdL (l.take (k + 1)) = hdS (hdL (l.take k)) (l.getD k (0, 0)) := by
  rw [take_snoc l k (0, 0) h]
  unfold hdL
  rw [List.foldl_append]
  rfl
theorem hdS_inc {h : List Int} (hi : Two.Inc h) (d : Int × Int) : Two.Inc (hdS h d) := by
  unfold hdS
  split
  · exact Two.inc_put _ hi
  · split
    · exact Two.inc_filter _ hi
    · exact hi
theorem hdL_inc (l : List (Int × Int)) : Two.Inc (hdL l) := by
  unfold hdL
  have : ∀ (l : List (Int × Int)) (h : List Int), Two.Inc h → Two.Inc (l.foldl hdS h) := by
    intro l
    induction l with
    | nil => exact fun h hi => hi
    | cons d r ih => exact fun h hi => ih _ (hdS_inc hi d)
  exact this l [] Two.inc_nil
theorem hdS_len (h : List Int) (d : Int × Int) : (hdS h d).length ≤ h.length + 1 := by
  unfold hdS
  split
  · exact Two.put_len _ _
  · split
    · exact Nat.le_trans (List.length_filter_le _ _) (Nat.le_succ _)
    · omega
theorem hdL_len (l : List (Int × Int)) : (hdL l).length ≤ l.length := by
  have : ∀ (l : List (Int × Int)) (h : List Int), (l.foldl hdS h).length ≤ h.length + l.length := by
    intro l
    induction l with
    | nil => exact fun h => Nat.le_refl _
    | cons d r ih => exact fun h => Nat.le_trans (ih _) (by have := hdS_len h d; rw [List.length_cons]; omega)
  have := this l []
  rw [List.length_nil, Nat.zero_add] at this
  exact this
end Go.Proofs.Ytbflkdkbfidleaa
