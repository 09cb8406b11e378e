/- The law on any floats' volumes together. -/
import Derived.Test.YtdnifilmckialaaDoorWK
namespace Go.Proofs.YtdnifilmckialaaDoor
open Go.RowKit

theorem Tab.size {w : World} (h : Tab w) : 1 < w.heap.size := by
  have e := h 0 (by decide)
  exact World.block_lt_of_cell? w _ e
theorem Tab.below {w w' : World} (h : Tab w) (hb : Below w.heap.size w w') : Tab w' := fun j hj => (hb.cell (p := ⟨1, j, none⟩) h.size).trans (h j hj)

/-- The sum of the bits of a list that the call itself has made. -/
theorem rsum_own (B len : Nat) (v : Value) (xs : List Nat) (hx : xs.length = len) (hm : len ≤ 1000) (hlt : ∀ x ∈ xs, x < 18446744073709551616) (w : World) (hown : w.ownsRow B 23 1 v len (xs.map bitsV)) :
    Calls Tryd.prog 36 #[v] w fun e w' => e = .returned (.tuple #[.int .i64 (sumGo xs 0).1, .int .i64 (sumGo xs 0).2]) ∧ ∃ d, w' = w.drewN d := by
  rcases hown.2 with ⟨rfl, h0⟩ | ⟨g, cap, cur, rfl, hb, hg, hrest⟩
  · subst h0
    obtain rfl : xs = [] := List.eq_nil_of_length_eq_zero hx
    exact rsum_nil none 0 w
  · refine rsum_any g 0 len cap xs hx (by omega) hlt w ?_
    intro i hi
    have e := hown.cellAt i (by omega)
    rw [Nat.zero_add, e, List.getElem?_map, List.getD_eq_getElem?_getD]
    rw [List.getElem?_eq_getElem hi]
    rfl

set_option maxHeartbeats 1000000 in
theorem sums_long (b off len cap : Nat) (hlong : 1000 < len) (hm : len ≤ 9223372036854775807) (w : World) (hT : Tab w) :
    Calls Tryd.prog 10 #[.slice (some ⟨b, off, none⟩) len cap] w fun e w' => e = .returned (.bool true) ∧ Below w.heap.size w w' := by
  go_enter Tryd.func10, Tryd.ntmps10
  go_wp2_with (go_at_call 32; refine (lives2 _ hT).mono ?_; rintro e w' ⟨rfl, d, rfl⟩)
  go_ret
  exact ⟨rfl, below_drewN (Below.refl _ _) _⟩
set_option maxHeartbeats 1000000 in
theorem sums_short (b off len cap : Nat) (hshort : len ≤ 1000) (xs : List Nat) (hx : xs.length = len) (hlt : ∀ x ∈ xs, x < 18446744073709551616) (w : World) (hT : Tab w) (hc : Cells w b off xs) (hbB : 0 < len → b < w.heap.size) :
    Calls Tryd.prog 10 #[.slice (some ⟨b, off, none⟩) len cap] w fun e w' => e = .returned (.bool true) ∧ Below w.heap.size w w' := by
  have HX := Lib.hid hx
  have HLT := Lib.hid hlt
  have HBB := Lib.hid hbB
  clear hx hlt hbB
  go_enter Tryd.func10, Tryd.ntmps10
  go_wp2_with fail
  refine (sum_any b off len cap xs HX.out (by omega) HLT.out _ hT hc).mono ?_
  rintro e w' ⟨rfl, d1, rfl⟩
  go_wp2_with fail
  refine (list_any b off len cap xs HX.out (by omega) _ (hc.drewN _) HBB.out).mono ?_
  rintro e w1 ⟨v, rfl, hown, hbel⟩
  have hb1 : Below w.heap.size w w1 := (below_drewN (Below.refl _ _) d1).trans hbel
  have hT1 := hT.below hb1
  have HO := Lib.hid hown
  have HB := Lib.hid hb1
  clear hown hbel hb1
  go_wp2_with fail
  refine (rsum_own _ len v xs HX.out hshort HLT.out _ HO.out).mono ?_
  rintro e w' ⟨rfl, d2, rfl⟩
  go_wp2_with (go_at_call 32; refine (lives2 _ (hT1.drewN _)).mono ?_; rintro e w' ⟨rfl, d3, rfl⟩)
  go_ret
  exact ⟨ret_b (by simp), below_drewN HB.out _⟩
set_option maxHeartbeats 1000000 in
theorem sums_nil (a : Option Addr) (cap : Nat) (w : World) (hT : Tab w) : Calls Tryd.prog 10 #[.slice a 0 cap] w fun e w' => e = .returned (.bool true) ∧ Below w.heap.size w w' := by
  go_enter Tryd.func10, Tryd.ntmps10
  go_wp2_with fail
  refine (sum_nil a cap _).mono ?_
  rintro e w' ⟨rfl, d1, rfl⟩
  go_wp2_with fail
  refine (list_nil a cap _).mono ?_
  rintro e w' ⟨rfl, rfl⟩
  go_wp2_with fail
  refine (rsum_nil none 0 _).mono ?_
  rintro e w' ⟨rfl, d2, rfl⟩
  go_wp2_with (go_at_call 32; refine (lives2 _ (hT.drewN _)).mono ?_; rintro e w' ⟨rfl, d3, rfl⟩)
  go_ret
  exact ⟨ret_b (by simp), below_drewN (Below.refl _ _) _⟩
theorem sums_any (b off len cap : Nat) (hm : len ≤ 9223372036854775807) (xs : List Nat) (hx : xs.length = len) (hlt : ∀ x ∈ xs, x < 18446744073709551616) (w : World) (hT : Tab w) (hc : Cells w b off xs) (hbB : 0 < len → b < w.heap.size) :
    Calls Tryd.prog 10 #[.slice (some ⟨b, off, none⟩) len cap] w fun e w' => e = .returned (.bool true) ∧ Below w.heap.size w w' := by
  by_cases h : 1000 < len
  · exact sums_long b off len cap h hm w hT
  · exact sums_short b off len cap (by omega) xs hx hlt w hT hc hbB
end Go.Proofs.YtdnifilmckialaaDoor
