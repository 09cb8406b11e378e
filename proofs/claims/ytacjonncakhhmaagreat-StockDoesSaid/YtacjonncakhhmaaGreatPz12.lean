/- The reference's sets; arrays of two words. -/
import Derived.Test.YtacjonncakhhmaaGreatPz11
import Derived.Test.YtacjonncakhhmaaGreatPz09
import Derived.Laws.Rows
import Derived.Deep.QuietTactic
import Derived.BigQuiet
namespace Go.Proofs.YtacjonncakhhmaaGreat
open Go.RowKit
theorem Cells4.low {V V' : World} {B D : Nat} {x0 x1 x2 x3 : Value} (h : Cells4 V D x0 x1 x2 x3) (hb : Below B V V') (hD : D < B) : Cells4 V' D x0 x1 x2 x3 := by
 obtain ⟨h0, h1, h2, h3, z0, z1, z2, z3, hs⟩ := h
 exact ⟨(hb.cell (p := ⟨D, 0, none⟩) hD).trans h0, (hb.cell (p := ⟨D, 1, none⟩) hD).trans h1, (hb.cell (p := ⟨D, 2, none⟩) hD).trans h2, (hb.cell (p := ⟨D, 3, none⟩) hD).trans h3, (hb.frozen (p := ⟨D, 0, none⟩) hD).trans z0, (hb.frozen (p := ⟨D, 1, none⟩) hD).trans z1, (hb.frozen (p := ⟨D, 2, none⟩) hD).trans z2, (hb.frozen (p := ⟨D, 3, none⟩) hD).trans z3, Nat.lt_of_lt_of_le hs hb.size⟩
theorem Cells6.low {V V' : World} {B D : Nat} {x0 x1 x2 x3 x4 x5 : Value} (h : Cells6 V D x0 x1 x2 x3 x4 x5) (hb : Below B V V') (hD : D < B) : Cells6 V' D x0 x1 x2 x3 x4 x5 := by
 obtain ⟨h0, h1, h2, h3, h4, h5, z0, z1, z2, z3, z4, z5, hs⟩ := h
 exact ⟨(hb.cell (p := ⟨D, 0, none⟩) hD).trans h0, (hb.cell (p := ⟨D, 1, none⟩) hD).trans h1, (hb.cell (p := ⟨D, 2, none⟩) hD).trans h2, (hb.cell (p := ⟨D, 3, none⟩) hD).trans h3, (hb.cell (p := ⟨D, 4, none⟩) hD).trans h4, (hb.cell (p := ⟨D, 5, none⟩) hD).trans h5, (hb.frozen (p := ⟨D, 0, none⟩) hD).trans z0, (hb.frozen (p := ⟨D, 1, none⟩) hD).trans z1, (hb.frozen (p := ⟨D, 2, none⟩) hD).trans z2, (hb.frozen (p := ⟨D, 3, none⟩) hD).trans z3, (hb.frozen (p := ⟨D, 4, none⟩) hD).trans z4, (hb.frozen (p := ⟨D, 5, none⟩) hD).trans z5, Nat.lt_of_lt_of_le hs hb.size⟩
/-- A plate's box: what of it is read. -/
def PlAt (V : World) (P : Nat) (r c cap : Int) (sv : Value) : Prop := V.cell? ⟨P, 0, none⟩ = some (.int .i64 r) ∧ V.cell? ⟨P, 1, none⟩ = some (.int .i64 c) ∧ V.cell? ⟨P, 5, none⟩ = some (.int .i64 cap) ∧ V.cell? ⟨P, 6, none⟩ = some sv ∧ P < V.heap.size
theorem PlAt.below {V V' : World} {P : Nat} {r c cap : Int} {sv : Value} (h : PlAt V P r c cap sv) (hb : Below V.heap.size V V') : PlAt V' P r c cap sv := ⟨keep_cell hb h.1, keep_cell hb h.2.1, keep_cell hb h.2.2.1, keep_cell hb h.2.2.2.1, Nat.lt_of_lt_of_le h.2.2.2.2 hb.size⟩
theorem PlAt.grown {V V' : World} {P : Nat} {r c cap : Int} {sv : Value} {row : Option Nat} (h : PlAt V P r c cap sv) (hg : V.grownBy V' row) (hne : some P ≠ row) : PlAt V' P r c cap sv :=
 ⟨(hg.cell_far ⟨P, 0, none⟩ h.2.2.2.2 hne).trans h.1, (hg.cell_far ⟨P, 1, none⟩ h.2.2.2.2 hne).trans h.2.1, (hg.cell_far ⟨P, 5, none⟩ h.2.2.2.2 hne).trans h.2.2.1, (hg.cell_far ⟨P, 6, none⟩ h.2.2.2.2 hne).trans h.2.2.2.1, Nat.lt_of_lt_of_le h.2.2.2.2 hg.size⟩
theorem PlAt.off {V : World} {P D o : Nat} {r c cap : Int} {sv : Value} (h : PlAt V P r c cap sv) (hne : D ≠ P) (v : Value) : PlAt (V.setCell ⟨D, o, none⟩ v) P r c cap sv :=
 ⟨st_other h.1 (ad_ne (.inl hne)), st_other h.2.1 (ad_ne (.inl hne)), st_other h.2.2.1 (ad_ne (.inl hne)), st_other h.2.2.2.1 (ad_ne (.inl hne)), by simpa using h.2.2.2.2⟩
end Go.Proofs.YtacjonncakhhmaaGreat
namespace Go.Proofs.YtacjonncakhhmaaGreat.Two
open Go.RowKit
/-- A whole number of 128 bits in two words, the lower one first. -/
def W2 (x : Int) : Value := .agg #[.int .u64 (x % 18446744073709551616), .int .u64 (x / 18446744073709551616 % 18446744073709551616)]
theorem ret_w2 {a b c d : Int} (h : a = c) (k : b = d) : Ending.returned (.agg #[.int .u64 a, .int .u64 b]) = .returned (.agg #[.int .u64 c, .int .u64 d]) := by rw [h, k]
theorem info43 : (Tryz.prog.info? 120).map (·.size) = some 2 := by kernel_rfl
set_option maxRecDepth 100000 in
set_option maxHeartbeats 400000 in
theorem widen_any (n : Int) (hn : fits n) (w : World) : Calls Tryz.prog 73 #[.int .i64 n] w fun e w' => e = .returned (W2 n) ∧ Below w.heap.size w w' := by
 have HN := Lib.hid hn
 clear hn
 go_enter Tryz.func73, Tryz.ntmps73
 go_wp2
 refine bodyPost_ret (results_cell_row rfl _ _ w.heap.size 120 _ (0, 0) _ rfl (heap_alloc_new _ _) Tryz.underlying120 rfl info43) rfl ?_
 refine ⟨ret_w2 ?_ ?_, (Below.refl _ _).alloc (Nat.le_refl _) _⟩
 ·rw [IntKind.wrap_u64]
 ·have := HN.out
  unfold fits at this
  rw [IntKind.wrap_u64]
  omega
theorem carry (x y : Int) : ((x % 18446744073709551616 + y % 18446744073709551616) % 18446744073709551616 = (x + y) % 18446744073709551616) ∧
  ((x % 18446744073709551616 + y % 18446744073709551616) % 18446744073709551616 < x % 18446744073709551616 →
   ((x / 18446744073709551616 % 18446744073709551616 + y / 18446744073709551616 % 18446744073709551616) % 18446744073709551616 + 1) % 18446744073709551616 = (x + y) / 18446744073709551616 % 18446744073709551616) ∧
  (¬ (x % 18446744073709551616 + y % 18446744073709551616) % 18446744073709551616 < x % 18446744073709551616 →
   (x / 18446744073709551616 % 18446744073709551616 + y / 18446744073709551616 % 18446744073709551616) % 18446744073709551616 = (x + y) / 18446744073709551616 % 18446744073709551616) := by
 refine ⟨?_, ?_, ?_⟩ <;> omega
theorem size_alloc (w : World) (o : Obj) : (w.alloc o).heap.size = w.heap.size + 1 := by simp
theorem two_cells (w : World) (b : Nat) (t u x y : Value) (h : w.heap[b]? = some (Obj.cells #[t, u] 120)) : ((w.setCell ⟨b, 0, none⟩ x).setCell ⟨b, 1, none⟩ y).heap[b]? = some (Obj.cells #[x, y] 120) := by
 rw [heap_setCell_same _ b 1 _ _ _ (heap_setCell_same w b 0 _ _ _ h)]
 rfl
set_option maxRecDepth 100000 in
set_option maxHeartbeats 1000000 in
theorem plus_any (x y : Int) (w : World) : Calls Tryz.prog 72 #[W2 x, W2 y] w fun e w' => e = .returned (W2 (x + y)) ∧ Below w.heap.size w w' := by
 have hc := carry x y
 have HC := Lib.hid hc
 clear hc
 unfold W2
 generalize hx0 : x % 18446744073709551616 = x0 at *
 generalize hx1 : x / 18446744073709551616 % 18446744073709551616 = x1 at *
 generalize hy0 : y % 18446744073709551616 = y0 at *
 generalize hy1 : y / 18446744073709551616 % 18446744073709551616 = y1 at *
 have HX0 := Lib.hid hx0
 have HY0 := Lib.hid hy0
 clear hx0 hx1 hy0 hy1
 go_enter Tryz.func72, Tryz.ntmps72
 go_wp2
 obtain ⟨B, hB⟩ : ∃ B, B = w.heap.size := ⟨_, rfl⟩
 obtain ⟨w3, hw⟩ : ∃ w3, w3 = (((w.alloc (Obj.cells #[.int .u64 x0, .int .u64 x1] 120)).alloc (Obj.cells #[.int .u64 y0, .int .u64 y1] 120)).alloc (Obj.cells #[.int .u64 0, .int .u64 0] 120)) := ⟨_, rfl⟩
 rw [← hw, ← hB]
 have r0 : w3.heap[B]? = some (Obj.cells #[.int .u64 x0, .int .u64 x1] 120) := by
  rw [hw, hB, Below.heap_alloc _ _ _ (by simp; omega), Below.heap_alloc _ _ _ (by simp), heap_alloc_new]
 have r1 : w3.heap[B + 1]? = some (Obj.cells #[.int .u64 y0, .int .u64 y1] 120) := by
  rw [hw, hB, Below.heap_alloc _ _ _ (by simp), ← size_alloc w (Obj.cells #[.int .u64 x0, .int .u64 x1] 120)]
  exact heap_alloc_new (w.alloc _) _
 have r2 : w3.heap[B + 1 + 1]? = some (Obj.cells #[.int .u64 0, .int .u64 0] 120) := by
  rw [hw, hB, ← size_alloc w (Obj.cells #[.int .u64 x0, .int .u64 x1] 120), ← size_alloc _ (Obj.cells #[.int .u64 y0, .int .u64 y1] 120)]
  exact heap_alloc_new ((w.alloc _).alloc _) _
 have hbel : Below B w w3 := by
  rw [hw, hB]
  exact (((Below.refl _ _).alloc (Nat.le_refl _) _).alloc (by simp) _).alloc (by simp; omega) _
 have c00 : w3.cell? ⟨B, 0, none⟩ = some (.int .u64 x0) := cell_of_row w3 B 0 _ _ _ r0
 have c01 : w3.cell? ⟨B, 1, none⟩ = some (.int .u64 x1) := cell_of_row w3 B 1 _ _ _ r0
 have c10 : w3.cell? ⟨B + 1, 0, none⟩ = some (.int .u64 y0) := cell_of_row w3 (B + 1) 0 _ _ _ r1
 have c11 : w3.cell? ⟨B + 1, 1, none⟩ = some (.int .u64 y1) := cell_of_row w3 (B + 1) 1 _ _ _ r1
 have c20 : w3.cell? ⟨B + 1 + 1, 0, none⟩ = some (.int .u64 0) := cell_of_row w3 (B + 1 + 1) 0 _ _ _ r2
 have c21 : w3.cell? ⟨B + 1 + 1, 1, none⟩ = some (.int .u64 0) := cell_of_row w3 (B + 1 + 1) 1 _ _ _ r2
 have f2 : ∀ j, w3.frozen? ⟨B + 1 + 1, j, none⟩ = false := fun j => frozen_of_row w3 (B + 1 + 1) j _ _ r2
 have f20 := f2 0
 have f21 := f2 1
 have R2 := Lib.hid r2
 have HBL := Lib.hid hbel
 have HB := Lib.hid hB
 clear hw r0 r1 r2 hbel f2 hB
 go_quiet (fail)
 go_wp2
 ·refine bodyPost_ret (results_cell_row rfl _ _ (B + 1 + 1) 120 _ (0, 0) _ rfl (two_cells _ _ _ _ _ _ R2.out) Tryz.underlying120 rfl info43) rfl ?_
  have e := HC.out
  rw [← IntKind.wrap_u64] at e
  refine ⟨ret_w2 e.1 ?_, ?_⟩
  ·rw [← e.2.1 ‹_›, IntKind.wrap_u64, IntKind.wrap_u64]
  ·rw [← HB.out]
   exact Below.setCell (Below.setCell (below_drewN HBL.out _) (by simp; omega) _) (by simp; omega) _
 ·refine bodyPost_ret (results_cell_row rfl _ _ (B + 1 + 1) 120 _ (0, 0) _ rfl (two_cells _ _ _ _ _ _ R2.out) Tryz.underlying120 rfl info43) rfl ?_
  have e := HC.out
  rw [← IntKind.wrap_u64] at e
  refine ⟨ret_w2 e.1 ?_, ?_⟩
  ·rw [← e.2.2 ‹_›, IntKind.wrap_u64]
  ·rw [← HB.out]
   exact Below.setCell (Below.setCell (below_drewN HBL.out _) (by simp; omega) _) (by simp; omega) _
end Go.Proofs.YtacjonncakhhmaaGreat.Two
namespace Go.Proofs.YtacjonncakhhmaaGreat.Two
open Go.RowKit
end Go.Proofs.YtacjonncakhhmaaGreat.Two
