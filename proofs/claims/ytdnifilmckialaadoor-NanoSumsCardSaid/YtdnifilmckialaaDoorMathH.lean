/- Plain mathematics: volumes together. -/
import Derived.Test.YtdnifilmckialaaDoorMathG
namespace Go.Proofs.YtdnifilmckialaaDoor
/-- Volumes together, from the left: the sum and the error. -/
def sumGo : List Nat → Nat → Nat × Int
  | [], s => (s, 0)
  | f :: t, s => if ofE f = 0 then (if 1099511627776 < s + ofV f then (0, 4) else sumGo t (s + ofV f)) else (0, ofE f)
theorem drop_cons (l : List Nat) (k : Nat) (h : k < l.length) : l.drop k = l.getD k 0 :: l.drop (k + 1) := by
  rw [List.drop_eq_getElem_cons h]
  simp [List.getD, h]
theorem sumGo_drop (l : List Nat) (k s : Nat) (h : k < l.length) : sumGo (l.drop k) s = if ofE (l.getD k 0) = 0 then (if 1099511627776 < s + ofV (l.getD k 0) then (0, 4) else sumGo (l.drop (k + 1)) (s + ofV (l.getD k 0))) else (0, ofE (l.getD k 0)) := by
  rw [drop_cons l k h]
  rfl
theorem sumGo_end (l : List Nat) (k s : Nat) (h : l.length ≤ k) : sumGo (l.drop k) s = (s, 0) := by
  rw [List.drop_eq_nil_of_le h]
  rfl
end Go.Proofs.YtdnifilmckialaaDoor
