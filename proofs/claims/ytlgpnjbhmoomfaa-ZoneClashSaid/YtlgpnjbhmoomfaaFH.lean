/- The lane of a place; a lane's width; is a lane touched: what the program and the reference answer. -/
import Derived.Test.YtlgpnjbhmoomfaaFG
namespace Go.Proofs.Ytlgpnjbhmoomfaa
open Go.RowKit

def laneV (l : List Nat) (x : Nat) : Int := if chkE l = 0 then (if nanb x = true then 0 else if outB l x x = true then 0 else (loV l x 0 : Int)) else 0
def laneE (l : List Nat) (x : Nat) : Int := if chkE l = 0 then (if nanb x = true then 20 else if outB l x x = true then 71 else 0) else chkE l
theorem ret_t {a b c d : Int} (h : a = c) (k : b = d) : Ending.returned (.tuple #[.int .i64 a, .int .i64 b]) = .returned (.tuple #[.int .i64 c, .int .i64 d]) := by rw [h, k]
/-- Right borders as cells. -/
theorem rise_cells {w : World} {B : Nat} {v : Value} {xs : List Nat} (h : KF.IsL w B v xs) (hz : chkE xs = 0) : Rise xs ∧ ∃ b off cap n, v = .slice (some ⟨b, off, none⟩) xs.length cap ∧ xs.length = n + 2 ∧ n ≤ 23 ∧ b < B ∧
    (∀ i, i < xs.length → w.cell? ⟨b, off + i, none⟩ = some (.float .f64 (xs.getD i 0))) ∧ (∀ i, i < xs.length → xs.getD i 0 < 18446744073709551616) := by
  have hr := rise_of xs hz
  have h2 := hr.two
  have h3 := hr.most
  obtain ⟨b, off, cap, rfl, hc, hb, hl, hcell, hlt⟩ := KF.cells h (by omega)
  exact ⟨hr, b, off, cap, xs.length - 2, rfl, by omega, by omega, hb, hcell, hlt⟩
theorem nanb_of {x : Nat} (h : nanb x = false) : ¬ nan x := by unfold nanb at h; simpa using h

end Go.Proofs.Ytlgpnjbhmoomfaa
