/- Stocks: what all cells hold. -/
import Derived.Test.YtacjonncakhhmaaPc10
import Derived.Laws.Rows
import Derived.Deep.QuietTactic
import Derived.BigQuiet
import Derived.Test.YtacjonncakhhmaaPc04
import Derived.Laws.StructEq
import Derived.Deep.RegionHeld3
import Derived.RegionTactic
import Derived.Test.YtacjonncakhhmaaPc08
import Derived.Test.YtacjonncakhhmaaPc11
namespace Go.Proofs.Ytacjonncakhhmaa.Two
open Go.RowKit
/-- A whole number of 128 bits in two words, the lower one first. -/
def W2 (x : Int) : Value := .agg #[.int .u64 (x % 18446744073709551616), .int .u64 (x / 18446744073709551616 % 18446744073709551616)]
theorem ret_w2 {a b c d : Int} (h : a = c) (k : b = d) : Ending.returned (.agg #[.int .u64 a, .int .u64 b]) = .returned (.agg #[.int .u64 c, .int .u64 d]) := by rw [h, k]
theorem info43 : (Try.prog.info? 139).map (·.size) = some 2 := by kernel_rfl
set_option maxRecDepth 100000 in
set_option maxHeartbeats 400000 in
theorem widen_any (n : Int) (hn : fits n) (w : World) : Calls Try.prog 101 #[.int .i64 n] w fun e w' => e = .returned (W2 n) ∧ Below w.heap.size w w' := by
 have HN := Lib.hid hn
 clear hn
 go_enter Try.func101, Try.ntmps101
 go_wp2
 refine bodyPost_ret (results_cell_row rfl _ _ w.heap.size 139 _ (0, 0) _ rfl (heap_alloc_new _ _) Try.underlying139 rfl info43) rfl ?_
 refine ⟨ret_w2 ?_ ?_, (Below.refl _ _).alloc (Nat.le_refl _) _⟩
 ·rw [IntKind.wrap_u64]
 ·have := HN.out
  unfold fits at this
  rw [IntKind.wrap_u64]
  omega
theorem carry (x y : Int) : ((x % 18446744073709551616 + y % 18446744073709551616) % 18446744073709551616 = (x + y) % 18446744073709551616) ∧
  ((x % 18446744073709551616 + y % 18446744073709551616) % 18446744073709551616 < x % 18446744073709551616 →
   ((x / 18446744073709551616 % 18446744073709551616 + y / 18446744073709551616 % 18446744073709551616) % 18446744073709551616 + 1) % 18446744073709551616 = (x + y) / 18446744073709551616 % 18446744073709551616) ∧
  (¬ (x % 18446744073709551616 + y % 18446744073709551616) % 18446744073709551616 < x % 18446744073709551616 →
   (x / 18446744073709551616 % 18446744073709551616 + y / 18446744073709551616 % 18446744073709551616) % 18446744073709551616 = (x + y) / 18446744073709551616 % 18446744073709551616) := by
 refine ⟨?_, ?_, ?_⟩ <;> omega
theorem size_alloc (w : World) (o : Obj) : (w.alloc o).heap.size = w.heap.size + 1 := by simp
theorem two_cells (w : World) (b : Nat) (t u x y : Value) (h : w.heap[b]? = some (Obj.cells #[t, u] 139)) : ((w.setCell ⟨b, 0, none⟩ x).setCell ⟨b, 1, none⟩ y).heap[b]? = some (Obj.cells #[x, y] 139) := by
 rw [heap_setCell_same _ b 1 _ _ _ (heap_setCell_same w b 0 _ _ _ h)]
 rfl
set_option maxRecDepth 100000 in
set_option maxHeartbeats 1000000 in
theorem plus_any (x y : Int) (w : World) : Calls Try.prog 100 #[W2 x, W2 y] w fun e w' => e = .returned (W2 (x + y)) ∧ Below w.heap.size w w' := by
 have hc := carry x y
 have HC := Lib.hid hc
 clear hc
 unfold W2
 generalize hx0 : x % 18446744073709551616 = x0 at *
 generalize hx1 : x / 18446744073709551616 % 18446744073709551616 = x1 at *
 generalize hy0 : y % 18446744073709551616 = y0 at *
 generalize hy1 : y / 18446744073709551616 % 18446744073709551616 = y1 at *
 have HX0 := Lib.hid hx0
 have HY0 := Lib.hid hy0
 clear hx0 hx1 hy0 hy1
 go_enter Try.func100, Try.ntmps100
 go_wp2
 obtain ⟨B, hB⟩ : ∃ B, B = w.heap.size := ⟨_, rfl⟩
 obtain ⟨w3, hw⟩ : ∃ w3, w3 = (((w.alloc (Obj.cells #[.int .u64 x0, .int .u64 x1] 139)).alloc (Obj.cells #[.int .u64 y0, .int .u64 y1] 139)).alloc (Obj.cells #[.int .u64 0, .int .u64 0] 139)) := ⟨_, rfl⟩
 rw [← hw, ← hB]
 have r0 : w3.heap[B]? = some (Obj.cells #[.int .u64 x0, .int .u64 x1] 139) := by
  rw [hw, hB, Below.heap_alloc _ _ _ (by simp; omega), Below.heap_alloc _ _ _ (by simp), heap_alloc_new]
 have r1 : w3.heap[B + 1]? = some (Obj.cells #[.int .u64 y0, .int .u64 y1] 139) := by
  rw [hw, hB, Below.heap_alloc _ _ _ (by simp), ← size_alloc w (Obj.cells #[.int .u64 x0, .int .u64 x1] 139)]
  exact heap_alloc_new (w.alloc _) _
 have r2 : w3.heap[B + 1 + 1]? = some (Obj.cells #[.int .u64 0, .int .u64 0] 139) := by
  rw [hw, hB, ← size_alloc w (Obj.cells #[.int .u64 x0, .int .u64 x1] 139), ← size_alloc _ (Obj.cells #[.int .u64 y0, .int .u64 y1] 139)]
  exact heap_alloc_new ((w.alloc _).alloc _) _
 have hbel : Below B w w3 := by
  rw [hw, hB]
  exact (((Below.refl _ _).alloc (Nat.le_refl _) _).alloc (by simp) _).alloc (by simp; omega) _
 have c00 : w3.cell? ⟨B, 0, none⟩ = some (.int .u64 x0) := cell_of_row w3 B 0 _ _ _ r0
 have c01 : w3.cell? ⟨B, 1, none⟩ = some (.int .u64 x1) := cell_of_row w3 B 1 _ _ _ r0
 have c10 : w3.cell? ⟨B + 1, 0, none⟩ = some (.int .u64 y0) := cell_of_row w3 (B + 1) 0 _ _ _ r1
 have c11 : w3.cell? ⟨B + 1, 1, none⟩ = some (.int .u64 y1) := cell_of_row w3 (B + 1) 1 _ _ _ r1
 have c20 : w3.cell? ⟨B + 1 + 1, 0, none⟩ = some (.int .u64 0) := cell_of_row w3 (B + 1 + 1) 0 _ _ _ r2
 have c21 : w3.cell? ⟨B + 1 + 1, 1, none⟩ = some (.int .u64 0) := cell_of_row w3 (B + 1 + 1) 1 _ _ _ r2
 have f2 : ∀ j, w3.frozen? ⟨B + 1 + 1, j, none⟩ = false := fun j => frozen_of_row w3 (B + 1 + 1) j _ _ r2
 have f20 := f2 0
 have f21 := f2 1
 have R2 := Lib.hid r2
 have HBL := Lib.hid hbel
 have HB := Lib.hid hB
 clear hw r0 r1 r2 hbel f2 hB
 go_quiet (fail)
 go_wp2
 ·refine bodyPost_ret (results_cell_row rfl _ _ (B + 1 + 1) 139 _ (0, 0) _ rfl (two_cells _ _ _ _ _ _ R2.out) Try.underlying139 rfl info43) rfl ?_
  have e := HC.out
  rw [← IntKind.wrap_u64] at e
  refine ⟨ret_w2 e.1 ?_, ?_⟩
  ·rw [← e.2.1 ‹_›, IntKind.wrap_u64, IntKind.wrap_u64]
  ·rw [← HB.out]
   exact Below.setCell (Below.setCell (below_drewN HBL.out _) (by simp; omega) _) (by simp; omega) _
 ·refine bodyPost_ret (results_cell_row rfl _ _ (B + 1 + 1) 139 _ (0, 0) _ rfl (two_cells _ _ _ _ _ _ R2.out) Try.underlying139 rfl info43) rfl ?_
  have e := HC.out
  rw [← IntKind.wrap_u64] at e
  refine ⟨ret_w2 e.1 ?_, ?_⟩
  ·rw [← e.2.2 ‹_›, IntKind.wrap_u64]
  ·rw [← HB.out]
   exact Below.setCell (Below.setCell (below_drewN HBL.out _) (by simp; omega) _) (by simp; omega) _
end Go.Proofs.Ytacjonncakhhmaa.Two
namespace Go.Proofs.Ytacjonncakhhmaa.Two
open Go.RowKit
end Go.Proofs.Ytacjonncakhhmaa.Two
namespace Go.Proofs.Ytacjonncakhhmaa.Two
open Go.RowKit
theorem run_eq2 (w : World) (a b c d : Int) : (Op.equalIn 10000 139 (.agg #[.int .u64 a, .int .u64 b]) (.agg #[.int .u64 c, .int .u64 d])).run Try.prog w = .ok (a == c && b == d) w := by
  have hs : (sizeOf 138).run Try.prog w = .ok 1 w := by kernel_rfl
  show (Op.equalIn (9999 + 1) 139 (.agg #[.int .u64 a, .int .u64 b]) (.agg #[.int .u64 c, .int .u64 d])).run Try.prog w = _
  have p0 : ∀ x y : Value, (part 138 #[x, y] 0).run Try.prog w = .ok x w := fun x y => by kernel_rfl
  have p1 : ∀ x y : Value, (part 138 #[x, y] 1).run Try.prog w = .ok y w := fun x y => by kernel_rfl
  have q : ∀ x y : Int, (Op.equalIn 9999 138 (.int .u64 x) (.int .u64 y)).run Try.prog w = .ok (x == y) w := fun x y => run_equalIn_int w 9998 138 .u64 .u64 x y Try.underlying138
  rw [Op.equalIn]
  simp only [Sem.run_bind, run_underlying Try.underlying139, Result.andThen_ok, hs]
  rw [Std.Legacy.Range.forIn_eq_forIn_range']
  simp only [Std.Legacy.Range.size, List.range', Nat.sub_zero, Nat.add_sub_cancel, Nat.div_one, List.forIn_cons, List.forIn_nil, Sem.run_bind, p0, q, Nat.zero_mul, Result.andThen_ok]
  by_cases h1 : a = c
  · by_cases h2 : b = d
    · subst h1; subst h2; simp [Sem.run_bind, Sem.run_pure, p1, q, Result.andThen]
    · subst h1; simp [h2, Sem.run_bind, Sem.run_pure, p1, q, Result.andThen]
  · simp [h1, Sem.run_pure, Result.andThen]
end Go.Proofs.Ytacjonncakhhmaa.Two
namespace Go.Proofs.Ytacjonncakhhmaa.Two
open Go.RowKit
def sumL (l : List Int) : Int := l.foldl (· + ·) 0
theorem sumL_snoc (l : List Int) (x : Int) : sumL (l ++ [x]) = sumL l + x := by unfold sumL; rw [List.foldl_append]; rfl
theorem sumL_take (l : List Int) (k : Nat) (h : k < l.length) : sumL (l.take (k + 1)) = sumL (l.take k) + l.getD k 0 := by
  rw [List.take_succ_eq_append_getElem h, sumL_snoc, List.getD_eq_getElem?_getD, List.getElem?_eq_getElem h]
  rfl
theorem wrap64_in' (x : Int) : fits (wrap64 x) := by unfold wrap64; constructor <;> omega
theorem sumL_bound (l : List Int) (h : ∀ x ∈ l, fits x) : -(9223372036854775808 * (l.length : Int)) ≤ sumL l ∧ sumL l ≤ 9223372036854775808 * (l.length : Int) := by
  suffices hh : ∀ (l : List Int) (a : Int), (∀ x ∈ l, fits x) → a - 9223372036854775808 * (l.length : Int) ≤ l.foldl (· + ·) a ∧ l.foldl (· + ·) a ≤ a + 9223372036854775808 * (l.length : Int) by
    have := hh l 0 h
    unfold sumL
    omega
  intro l
  induction l with
  | nil => intro a _; simp
  | cons x r ih =>
    intro a h
    have h1 := h x (by simp)
    have h2 := ih (a + x) (fun y hy => h y (by simp [hy]))
    unfold fits at h1
    rw [List.foldl_cons, List.length_cons]
    omega
theorem words_fit (s : Int) (h : fits s) : ((wrap64 (s % 18446744073709551616) % 18446744073709551616 == s % 18446744073709551616) && (wrap64 (s % 18446744073709551616) / 18446744073709551616 % 18446744073709551616 == s / 18446744073709551616 % 18446744073709551616)) = true ∧ wrap64 (s % 18446744073709551616) = s := by
  have e : wrap64 (s % 18446744073709551616) = s := by unfold fits at h; unfold wrap64; omega
  rw [e]
  simp
theorem words_not (s : Int) (h : ¬ fits s) (h1 : -85070591730234615865843651857942052864 ≤ s) (h2 : s ≤ 85070591730234615865843651857942052864) : ((wrap64 (s % 18446744073709551616) % 18446744073709551616 == s % 18446744073709551616) && (wrap64 (s % 18446744073709551616) / 18446744073709551616 % 18446744073709551616 == s / 18446744073709551616 % 18446744073709551616)) = false := by
  rw [Bool.and_eq_false_iff]
  right
  rw [beq_eq_false_iff_ne]
  unfold fits at h
  unfold wrap64
  omega
/-- The two words as cells. -/
def w2c (x : Int) : Array Value := #[.int .u64 (x % 18446744073709551616), .int .u64 (x / 18446744073709551616 % 18446744073709551616)]
set_option maxRecDepth 100000 in
set_option maxHeartbeats 2000000 in
theorem sum_any (v : Value) (xs : List Int) (w : World) (h : IsL w w.heap.size v xs) :
    Calls Try.prog 58 #[v] w fun e w' => e = .returned (.tuple #[.int .i64 (fitV (sumL xs)), .int .i64 (fitE (sumL xs))]) ∧ Below w.heap.size w w' := by
  obtain ⟨⟨A, cap, rfl, hcap, hA⟩, hfit, hlen⟩ := h
  obtain ⟨B, hB⟩ : ∃ B, B = w.heap.size := ⟨_, rfl⟩
  rw [← hB] at hA ⊢
  have HA := Lib.hid hA
  have HF := Lib.hid hfit
  have HB := Lib.hid hB
  clear hA hfit
  go_enter Try.func58, Try.ntmps58
  go_wp2
  rw [← hB]
  clear hB
  go_loopw [10] (fun i wr => ∃ k : Nat, k ≤ xs.length ∧ i = .int .i64 (k : Int) ∧ wr.heap[B]? = some (Obj.cells (w2c (sumL (xs.take k))) 139) ∧ Below B w wr) (fun i _ => xs.length - (intOf i).toNat)
  case atStart => exact ⟨0, Nat.zero_le _, rfl, by rw [HB.out, heap_alloc_new]; rfl, by rw [HB.out]; exact (Below.refl _ _).alloc (Nat.le_refl _) _⟩
  case round =>
    obtain ⟨k, hk, rfl, hrow, hbel⟩ := hrel
    have HR := Lib.hid hrow
    have HL := Lib.hid hbel
    by_cases hlt : k < xs.length
    · obtain ⟨b, off, rfl, hbB, hcell⟩ := HA.out (by omega)
      have hx := hcell k hlt
      rw [← hbel.cell (p := ⟨b, off + k, none⟩) hbB] at hx
      have hfx := getD_fits HF.out k
      have HST := Lib.hid (sumL_take xs k hlt)
      generalize xs.getD k 0 = x at *
      generalize sumL (xs.take k) = s at *
      have HFX := Lib.hid hfx
      have hBw : B < wr.heap.size := (Array.getElem?_eq_some_iff.1 hrow).1
      have c0 : wr.cell? ⟨B, 0, none⟩ = some (.int .u64 (s % 18446744073709551616)) := cell_of_row wr B 0 _ _ _ hrow
      have c1 : wr.cell? ⟨B, 1, none⟩ = some (.int .u64 (s / 18446744073709551616 % 18446744073709551616)) := cell_of_row wr B 1 _ _ _ hrow
      have f0 : wr.frozen? ⟨B, 0, none⟩ = false := frozen_of_row wr B 0 _ _ hrow
      have f1 : wr.frozen? ⟨B, 1, none⟩ = false := frozen_of_row wr B 1 _ _ hrow
      clear hrow hbel hfx hcell
      go_wp2
      go_region_with (first
        | (go_at_call 101; refine (widen_any x HFX.out _).mono ?_; rintro e w1 ⟨rfl, hb1⟩
           have c0' : w1.cell? ⟨B, 0, none⟩ = _ := (hb1.cell (p := ⟨B, 0, none⟩) hBw).trans c0
           have c1' : w1.cell? ⟨B, 1, none⟩ = _ := (hb1.cell (p := ⟨B, 1, none⟩) hBw).trans c1
           have f0' : w1.frozen? ⟨B, 0, none⟩ = _ := (hb1.frozen (p := ⟨B, 0, none⟩) hBw).trans f0
           have f1' : w1.frozen? ⟨B, 1, none⟩ = _ := (hb1.frozen (p := ⟨B, 1, none⟩) hBw).trans f1
           have HB1 := Lib.hid hb1
           clear hb1)
        | (go_at_call 100; refine (plus_any s x _).mono ?_; rintro e w2 ⟨rfl, hb2⟩
           have c0'' : w2.cell? ⟨B, 0, none⟩ = _ := (hb2.cell (p := ⟨B, 0, none⟩) (Nat.lt_of_lt_of_le hBw HB1.out.size)).trans c0'
           have c1'' : w2.cell? ⟨B, 1, none⟩ = _ := (hb2.cell (p := ⟨B, 1, none⟩) (Nat.lt_of_lt_of_le hBw HB1.out.size)).trans c1'
           have f0'' : w2.frozen? ⟨B, 0, none⟩ = _ := (hb2.frozen (p := ⟨B, 0, none⟩) (Nat.lt_of_lt_of_le hBw HB1.out.size)).trans f0'
           have f1'' : w2.frozen? ⟨B, 1, none⟩ = _ := (hb2.frozen (p := ⟨B, 1, none⟩) (Nat.lt_of_lt_of_le hBw HB1.out.size)).trans f1'
           have HB2 := Lib.hid hb2
           clear hb2
           unfold W2))
      all_goals
        go_wp2
        go_roundw
        case rel =>
          have r1 := (HB1.out.block B hBw).trans HR.out
          have r2 := (HB2.out.block B (Nat.lt_of_lt_of_le hBw HB1.out.size)).trans r1
          refine ⟨k + 1, by omega, num_i (by omega), by rw [HST.out]; exact two_cells _ _ _ _ _ _ r2, ?_⟩
          exact Below.setCell (Below.setCell ((HL.out.drew.trans (HB1.out.mono (Nat.le_of_lt hBw))).trans (HB2.out.mono (Nat.le_of_lt (Nat.lt_of_lt_of_le hBw HB1.out.size)))) (Nat.le_refl _) _) (Nat.le_refl _) _
        case measure => simp [intOf]; omega
    · obtain rfl : k = xs.length := by omega
      rw [List.take_length] at *
      have hBw : B < wr.heap.size := (Array.getElem?_eq_some_iff.1 hrow).1
      have HSB := Lib.hid (sumL_bound xs HF.out)
      generalize hS : sumL xs = s at *
      have HSS := Lib.hid hS
      have c0 : wr.cell? ⟨B, 0, none⟩ = some (.int .u64 (s % 18446744073709551616)) := cell_of_row wr B 0 _ _ _ hrow
      have c1 : wr.cell? ⟨B, 1, none⟩ = some (.int .u64 (s / 18446744073709551616 % 18446744073709551616)) := cell_of_row wr B 1 _ _ _ hrow
      have HFW := Lib.hid (wrap64_in' (s % 18446744073709551616))
      have hbd : -85070591730234615865843651857942052864 ≤ s ∧ s ≤ 85070591730234615865843651857942052864 := by
        have := HSB.out
        omega
      have HBD := Lib.hid hbd
      have heq := fun w => run_eq2 w (wrap64 (s % 18446744073709551616) % 18446744073709551616) (wrap64 (s % 18446744073709551616) / 18446744073709551616 % 18446744073709551616) (s % 18446744073709551616) (s / 18446744073709551616 % 18446744073709551616)
      clear hrow hbel hS hbd
      by_cases hfs : fits s
      · obtain ⟨e1, e2⟩ := words_fit s hfs
        rw [e1] at heq
        have HV := Lib.hid (show fitV s = s from if_pos hfs)
        have HE := Lib.hid (show fitE s = 0 from if_pos hfs)
        have H2 := Lib.hid e2
        clear e1 e2 hfs
        go_wp2
        go_region_with (first
          | (go_at_call 101; refine (widen_any _ HFW.out _).mono ?_; rintro e w1 ⟨rfl, hb1⟩
             have c0' : w1.cell? ⟨B, 0, none⟩ = _ := (hb1.cell (p := ⟨B, 0, none⟩) hBw).trans c0
             have c1' : w1.cell? ⟨B, 1, none⟩ = _ := (hb1.cell (p := ⟨B, 1, none⟩) hBw).trans c1
             have HB1 := Lib.hid hb1
             clear hb1
             unfold W2))
        all_goals
          go_wp2
          go_ret2
          exact ⟨ret_ii (by rw [HSS.out, H2.out, HV.out]) (by rw [HSS.out, HE.out]), HL.out.drew.trans (HB1.out.mono (Nat.le_of_lt hBw))⟩
      · have e1 := words_not s hfs HBD.out.1 HBD.out.2
        rw [e1] at heq
        have HV := Lib.hid (show fitV s = 0 from if_neg hfs)
        have HE := Lib.hid (show fitE s = 4 from if_neg hfs)
        clear e1 hfs
        go_wp2
        go_region_with (first
          | (go_at_call 101; refine (widen_any _ HFW.out _).mono ?_; rintro e w1 ⟨rfl, hb1⟩
             have c0' : w1.cell? ⟨B, 0, none⟩ = _ := (hb1.cell (p := ⟨B, 0, none⟩) hBw).trans c0
             have c1' : w1.cell? ⟨B, 1, none⟩ = _ := (hb1.cell (p := ⟨B, 1, none⟩) hBw).trans c1
             have HB1 := Lib.hid hb1
             clear hb1
             unfold W2))
        all_goals
          go_wp2
          go_ret2
          exact ⟨ret_ii (by rw [HSS.out, HV.out]) (by rw [HSS.out, HE.out]), HL.out.drew.trans (HB1.out.mono (Nat.le_of_lt hBw))⟩
end Go.Proofs.Ytacjonncakhhmaa.Two
namespace Go.Proofs.Ytacjonncakhhmaa.Two
open Go.RowKit
theorem sumL_cons (x : Int) (l : List Int) : sumL (x :: l) = x + sumL l := by
  suffices h : ∀ (l : List Int) (a b : Int), l.foldl (· + ·) (a + b) = a + l.foldl (· + ·) b by
    have := h l x 0
    unfold sumL
    rw [List.foldl_cons, Int.zero_add]
    rwa [Int.add_zero] at this
  intro l
  induction l with
  | nil => intro a b; rfl
  | cons y r ih => intro a b; rw [List.foldl_cons, List.foldl_cons, Int.add_assoc, ih]
/-- How long a slice value is. -/
def lenV : Value → Nat | .slice _ n _ => n | _ => 0
theorem IsL.lenV {w : World} {B : Nat} {v : Value} {xs : List Int} (h : IsL w B v xs) : lenV v = xs.length := by
  obtain ⟨⟨A, cap, rfl, _⟩, _⟩ := h
  rfl
/-- Two slices of the call's own do not share a block. -/
def Off2 (u v : Value) : Prop := ∀ k, u.ownBlock = some k → v.ownBlock ≠ some k
theorem Off2.symm {u v : Value} (h : Off2 u v) : Off2 v u := fun k h1 h2 => h k h2 h1
theorem Off2.grown {u v u' : Value} {w : World} {base : Nat} {ys : List Int} (h : Off2 u v) (hv : Own w base v ys) (hu : u'.ownBlock = u.ownBlock ∨ u'.ownBlock = some w.heap.size) : Off2 u' v := by
  intro k hk hk2
  rcases hu with hu | hu
  · exact h k (hu ▸ hk) hk2
  · rw [hu] at hk
    injection hk with hk
    have := (hv.lt k hk2).2
    omega
theorem Own.apart {w w' : World} {base : Nat} {u v : Value} {ys : List Int} (h : Own w base v ys) (hu : Off2 u v) (hg : w.grownBy w' u.ownBlock) : Own w' base v ys := by
  refine h.kept hg ?_
  cases hv : v.ownBlock with
  | none => exact .inl rfl
  | some k =>
    refine .inr fun e => ?_
    exact hu k e.symm hv
/-- A list parted by the signs. -/
structure Parts (l ups downs : List Int) : Prop where
  sum : sumL ups + sumL downs = sumL l
  len : ups.length + downs.length = l.length
  up : ∀ x ∈ ups, 0 ≤ x
  down : ∀ x ∈ downs, x < 0
theorem Parts.nil : Parts [] [] [] := ⟨rfl, rfl, fun x hx => by simp at hx, fun x hx => by simp at hx⟩
/-- What is still to be added. -/
structure Rest (S s : Int) (ups downs : List Int) : Prop where
  sum : s + (sumL ups + sumL downs) = S
  fit : fits s
  up : ∀ x ∈ ups, 0 ≤ x
  down : ∀ x ∈ downs, x < 0
  fup : ∀ x ∈ ups, fits x
  fdown : ∀ x ∈ downs, fits x
theorem Rest.done {S s : Int} (h : Rest S s [] []) : S = s ∧ fits s := by
  have := h.sum
  rw [show sumL [] = 0 from rfl] at this
  exact ⟨by omega, h.fit⟩
end Go.Proofs.Ytacjonncakhhmaa.Two
namespace Go.Proofs.Ytacjonncakhhmaa
open Go.RowKit
def volS (l : List Cel.Ce) : List Int := l.map fun q => q.b
theorem volS_take (l : List Cel.Ce) (k : Nat) (h : k < l.length) : volS (l.take (k + 1)) = volS (l.take k) ++ [(l.getD k ce0).b] := by
 rw [take_snoc l k ce0 h]
 simp [volS]
/-- What the first k volumes and noughts behind them are. -/
def volF (l : List Cel.Ce) (k : Nat) : List Int := volS (l.take k) ++ List.replicate (l.length - k) 0
theorem volF_set (l : List Cel.Ce) (k : Nat) (h : k < l.length) : (volF l k).set k (l.getD k ce0).b = volF l (k + 1) := by
 unfold volF
 rw [volS_take l k h]
 have hk : (volS (l.take k)).length = k := by unfold volS; rw [List.length_map, List.length_take]; omega
 rw [List.set_append, if_neg (by omega), hk, Nat.sub_self, show l.length - k = (l.length - (k + 1)) + 1 by omega, List.replicate_succ, List.set_cons_zero, List.append_assoc]
 rfl
theorem volF_len (l : List Cel.Ce) (k : Nat) (h : k ≤ l.length) : (volF l k).length = l.length := by
 unfold volF volS
 rw [List.length_append, List.length_map, List.length_take, List.length_replicate]
 omega
abbrev totV (l : List Cel.Ce) : Value := .tuple #[.int .i64 (fitV (Two.sumL (volS l))), .int .i64 (fitE (Two.sumL (volS l)))]
set_option maxRecDepth 100000 in
set_option maxHeartbeats 4000000 in
theorem total_any (s : Stk) (w : World) (hs : s.In w w.heap.size) (hl : s.cl.length ≤ 100000) : Calls Try.prog 21 #[s.v] w fun e w' => e = .returned (totV s.cl) ∧ Below w.heap.size w w' := by
 obtain ⟨w0, hw0⟩ : ∃ w0, w0 = w.alloc (.cells #[.slice s.cA s.cl.length s.cc, .slice s.lA s.ll.length s.lc, .slice s.tA s.tl.length s.tc, .int .i64 s.st, .int .i64 s.inn, .int .i64 s.out] 33) := ⟨_, rfl⟩
 have HB0 := Lib.hid (show Below w.heap.size w w0 by rw [hw0]; exact Below.al (Below.refl _ _) _)
 have HC := Lib.hid hs.c
 have HS0 := Lib.hid (show SkAt w0 w.heap.size s by rw [hw0]; exact Cells6.new w _ _ _ _ _ _ _)
 have hfit := hs.c.2.1
 have HSU := Lib.hid (fun v w h => Two.sum_any v (volS s.cl) w h)
 clear hs
 obtain ⟨cA, cc, cl, lA, lc, ll, tA, tc, tl, st, inn, out⟩ := s
 dsimp only at *
 have HFT := Lib.hid hfit
 obtain ⟨i0, hi, hz0, hz1, _⟩ := info_parts KI.info
 have hlI : (cl.length : Int) ≤ 100000 := by omega
 clear hfit
 obtain ⟨g0, g1, g2, g3, g4, g5, _⟩ := HS0.out
 rw [hw0] at g0 g1 g2 g3 g4 g5
 go_enter Try.func21, Try.ntmps21
 go_wp2_with (at_make; refine wpList_make_full _ rfl _ _ 56 rfl (w.heap.size + 1) 3 i0 (.int .i64 0) 1 Try.underlying56 hi hz0 hz1 _ _ _ _ cl.length rfl rfl rfl rfl ?bytes ?maxLen (by simp) ?_)
 case bytes => rw [show KI.bytes = 8 from rfl]; omega
 case maxLen => unfold maxLen; omega
 clear g0 g1 g2 g3 g4 g5
 intro w1 hown hgrow
 rw [← hw0] at hgrow
 have hsz : w0.heap.size = w.heap.size + 1 := by rw [hw0]; simp
 have HSZ := Lib.hid hsz
 clear hw0 hsz
 have ho : KI.Own w1 (w.heap.size + 1) (.slice (some ⟨w.heap.size + 1, 0, none⟩) cl.length cl.length) (volF cl 0) := by
  refine ⟨?_, fun x hx => ?_⟩
  ·have e := Lk.flat_made KI 0 rfl cl.length
   have e2 : volF cl 0 = List.replicate cl.length 0 := by simp [volF, volS]
   rw [e2, ← e, List.length_replicate, show cl.length * KI.n = cl.length from Nat.mul_one _]
   exact hown
  ·have hx' : x ∈ List.replicate cl.length 0 := by simpa [volF, volS] using hx
   rw [List.mem_replicate] at hx'
   rw [hx'.2]
   show fits 0
   decide
 have HB1' := Lib.hid ((Below.refl w0.heap.size w0).grown hgrow (Nat.le_refl _) (fun _ h => nomatch h))
 have HB1 := Lib.hid (Below.call HB0.out HB1'.out)
 have HO1 := Lib.hid ho
 have HS1 := Lib.hid (HS0.out.below HB1'.out)
 have HW1 := Lib.hid (show w.heap.size ≤ w.heap.size + 1 by omega)
 clear hown hgrow ho hi hz0 hz1
 obtain ⟨g0, g1, g2, g3, g4, g5, _⟩ := HS1.out
 go_wp2
 go_loopw [14] (fun i wr => ∃ k : Nat, k ≤ cl.length ∧ i = .int .i64 k ∧ KI.Own wr (w.heap.size + 1) (.slice (some ⟨w.heap.size + 1, 0, none⟩) cl.length cl.length) (volF cl k) ∧ Below w.heap.size w wr) (fun i _ => cl.length - (intOf i).toNat)
 case atStart => exact ⟨0, Nat.zero_le _, rfl, HO1.out, HB1.out⟩
 case round =>
  clear g0 g1 g2 g3 g4 g5
  obtain ⟨k, hk, rfl, hown, hbl⟩ := hrel
  have HO := Lib.hid hown
  have HB := Lib.hid hbl
  clear hown hbl
  by_cases hlt : k < cl.length
  ·obtain ⟨b, off, rfl, hb, hcc, hcell⟩ := ce_cells (HC.out.then HB.out) (by omega)
   obtain ⟨c0, c1, c2⟩ := hcell k hlt
   have HVS := Lib.hid (volF_set cl k hlt)
   have hvl := volF_len cl k (by omega)
   have hfk := Lib.hid ((HFT.out _ (getD_mem' cl k ce0 hlt)).b)
   clear hcell
   generalize cl.getD k ce0 = q at *
   obtain ⟨qa, qb, qc⟩ := q
   dsimp only at *
   obtain ⟨f1, f2⟩ := KI.Own.at HO.out hvl k hlt
   generalize (volF cl k).getD k 0 = old at *
   have hlw : w.heap.size + 1 < wr.heap.size := World.block_lt_of_cell? _ _ f1
   have hbw : b < wr.heap.size := hb
   go_wp2
   go_roundw
   case rel =>
    have hp := KI.Own.put HO.out hvl k qb hfk.out
    exact ⟨k + 1, by omega, num_i (by omega), by rw [← HVS.out]; exact hp.1.alloc _, Below.al (HB.out.setCell HW1.out _) _⟩
   case measure => simp [intOf]; omega
  ·obtain rfl : k = cl.length := by omega
   have HI := Lib.hid (show KI.IsL wr wr.heap.size (.slice (some ⟨w.heap.size + 1, 0, none⟩) cl.length cl.length) (volS cl) from by
    have h := HO.out.isL (by rw [volF_len cl _ (Nat.le_refl _)]; omega)
    unfold volF at h
    rw [List.take_length, Nat.sub_self, List.replicate_zero, List.append_nil] at h
    exact h)
   go_wp2_with fail
   refine (HSU.out _ _ (two_of HI.out)).mono ?_
   rintro e w4 ⟨rfl, hb4⟩
   go_wp2
   go_ret2
   exact ⟨rfl, Below.call HB.out hb4⟩
end Go.Proofs.Ytacjonncakhhmaa
