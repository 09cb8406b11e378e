/- The reference's sets; arrays of two words. -/
import Derived.Test.YtacjonncakhhmaaTB
import Derived.Laws.Rows
import Derived.Deep.QuietTactic
import Derived.BigQuiet
namespace Go.Proofs.Ytacjonncakhhmaa.Two
open Go.RowKit

/-- A whole number of 128 bits in two words, the lower one first. -/
def W2 (x : Int) : Value := .agg #[.int .u64 (x % 18446744073709551616), .int .u64 (x / 18446744073709551616 % 18446744073709551616)]

theorem ret_w2 {a b c d : Int} (h : a = c) (k : b = d) : Ending.returned (.agg #[.int .u64 a, .int .u64 b]) = .returned (.agg #[.int .u64 c, .int .u64 d]) := by rw [h, k]
theorem info43 : (Try.prog.info? 139).map (·.size) = some 2 := by kernel_rfl
set_option maxRecDepth 100000 in
set_option maxHeartbeats 400000 in
theorem widen_any (n : Int) (hn : fits n) (w : World) : Calls Try.prog 101 #[.int .i64 n] w fun e w' => e = .returned (W2 n) ∧ Below w.heap.size w w' := by
  have HN := Lib.hid hn
  clear hn
  go_enter Try.func101, Try.ntmps101
  go_wp2
  refine bodyPost_ret (results_cell_row rfl _ _ w.heap.size 139 _ (0, 0) _ rfl (heap_alloc_new _ _) Try.underlying139 rfl info43) rfl ?_
  refine ⟨ret_w2 ?_ ?_, (Below.refl _ _).alloc (Nat.le_refl _) _⟩
  · rw [IntKind.wrap_u64]
  · have := HN.out
    unfold fits at this
    rw [IntKind.wrap_u64]
    omega
theorem carry (x y : Int) : ((x % 18446744073709551616 + y % 18446744073709551616) % 18446744073709551616 = (x + y) % 18446744073709551616) ∧
    ((x % 18446744073709551616 + y % 18446744073709551616) % 18446744073709551616 < x % 18446744073709551616 →
      ((x / 18446744073709551616 % 18446744073709551616 + y / 18446744073709551616 % 18446744073709551616) % 18446744073709551616 + 1) % 18446744073709551616 = (x + y) / 18446744073709551616 % 18446744073709551616) ∧
    (¬ (x % 18446744073709551616 + y % 18446744073709551616) % 18446744073709551616 < x % 18446744073709551616 →
      (x / 18446744073709551616 % 18446744073709551616 + y / 18446744073709551616 % 18446744073709551616) % 18446744073709551616 = (x + y) / 18446744073709551616 % 18446744073709551616) := by
  refine ⟨?_, ?_, ?_⟩ <;> omega
theorem size_alloc (w : World) (o : Obj) : (w.alloc o).heap.size = w.heap.size + 1 := by simp
theorem two_cells (w : World) (b : Nat) (t u x y : Value) (h : w.heap[b]? = some (Obj.cells #[t, u] 139)) : ((w.setCell ⟨b, 0, none⟩ x).setCell ⟨b, 1, none⟩ y).heap[b]? = some (Obj.cells #[x, y] 139) := by
  rw [heap_setCell_same _ b 1 _ _ _ (heap_setCell_same w b 0 _ _ _ h)]
  rfl
set_option maxRecDepth 100000 in
set_option maxHeartbeats 1000000 in
theorem plus_any (x y : Int) (w : World) : Calls Try.prog 100 #[W2 x, W2 y] w fun e w' => e = .returned (W2 (x + y)) ∧ Below w.heap.size w w' := by
  have hc := carry x y
  have HC := Lib.hid hc
  clear hc
  unfold W2
  generalize hx0 : x % 18446744073709551616 = x0 at *
  generalize hx1 : x / 18446744073709551616 % 18446744073709551616 = x1 at *
  generalize hy0 : y % 18446744073709551616 = y0 at *
  generalize hy1 : y / 18446744073709551616 % 18446744073709551616 = y1 at *
  have HX0 := Lib.hid hx0
  have HY0 := Lib.hid hy0
  clear hx0 hx1 hy0 hy1
  go_enter Try.func100, Try.ntmps100
  go_wp2
  obtain ⟨B, hB⟩ : ∃ B, B = w.heap.size := ⟨_, rfl⟩
  obtain ⟨w3, hw⟩ : ∃ w3, w3 = (((w.alloc (Obj.cells #[.int .u64 x0, .int .u64 x1] 139)).alloc (Obj.cells #[.int .u64 y0, .int .u64 y1] 139)).alloc (Obj.cells #[.int .u64 0, .int .u64 0] 139)) := ⟨_, rfl⟩
  rw [← hw, ← hB]
  have r0 : w3.heap[B]? = some (Obj.cells #[.int .u64 x0, .int .u64 x1] 139) := by
    rw [hw, hB, Below.heap_alloc _ _ _ (by simp; omega), Below.heap_alloc _ _ _ (by simp), heap_alloc_new]
  have r1 : w3.heap[B + 1]? = some (Obj.cells #[.int .u64 y0, .int .u64 y1] 139) := by
    rw [hw, hB, Below.heap_alloc _ _ _ (by simp), ← size_alloc w (Obj.cells #[.int .u64 x0, .int .u64 x1] 139)]
    exact heap_alloc_new (w.alloc _) _
  have r2 : w3.heap[B + 1 + 1]? = some (Obj.cells #[.int .u64 0, .int .u64 0] 139) := by
    rw [hw, hB, ← size_alloc w (Obj.cells #[.int .u64 x0, .int .u64 x1] 139), ← size_alloc _ (Obj.cells #[.int .u64 y0, .int .u64 y1] 139)]
    exact heap_alloc_new ((w.alloc _).alloc _) _
  have hbel : Below B w w3 := by
    rw [hw, hB]
    exact (((Below.refl _ _).alloc (Nat.le_refl _) _).alloc (by simp) _).alloc (by simp; omega) _
  have c00 : w3.cell? ⟨B, 0, none⟩ = some (.int .u64 x0) := cell_of_row w3 B 0 _ _ _ r0
  have c01 : w3.cell? ⟨B, 1, none⟩ = some (.int .u64 x1) := cell_of_row w3 B 1 _ _ _ r0
  have c10 : w3.cell? ⟨B + 1, 0, none⟩ = some (.int .u64 y0) := cell_of_row w3 (B + 1) 0 _ _ _ r1
  have c11 : w3.cell? ⟨B + 1, 1, none⟩ = some (.int .u64 y1) := cell_of_row w3 (B + 1) 1 _ _ _ r1
  have c20 : w3.cell? ⟨B + 1 + 1, 0, none⟩ = some (.int .u64 0) := cell_of_row w3 (B + 1 + 1) 0 _ _ _ r2
  have c21 : w3.cell? ⟨B + 1 + 1, 1, none⟩ = some (.int .u64 0) := cell_of_row w3 (B + 1 + 1) 1 _ _ _ r2
  have f2 : ∀ j, w3.frozen? ⟨B + 1 + 1, j, none⟩ = false := fun j => frozen_of_row w3 (B + 1 + 1) j _ _ r2
  have f20 := f2 0
  have f21 := f2 1
  have R2 := Lib.hid r2
  have HBL := Lib.hid hbel
  have HB := Lib.hid hB
  clear hw r0 r1 r2 hbel f2 hB
  go_quiet (fail)
  go_wp2
  · refine bodyPost_ret (results_cell_row rfl _ _ (B + 1 + 1) 139 _ (0, 0) _ rfl (two_cells _ _ _ _ _ _ R2.out) Try.underlying139 rfl info43) rfl ?_
    have e := HC.out
    rw [← IntKind.wrap_u64] at e
    refine ⟨ret_w2 e.1 ?_, ?_⟩
    · rw [← e.2.1 ‹_›, IntKind.wrap_u64, IntKind.wrap_u64]
    · rw [← HB.out]
      exact Below.setCell (Below.setCell (below_drewN HBL.out _) (by simp; omega) _) (by simp; omega) _
  · refine bodyPost_ret (results_cell_row rfl _ _ (B + 1 + 1) 139 _ (0, 0) _ rfl (two_cells _ _ _ _ _ _ R2.out) Try.underlying139 rfl info43) rfl ?_
    have e := HC.out
    rw [← IntKind.wrap_u64] at e
    refine ⟨ret_w2 e.1 ?_, ?_⟩
    · rw [← e.2.2 ‹_›, IntKind.wrap_u64]
    · rw [← HB.out]
      exact Below.setCell (Below.setCell (below_drewN HBL.out _) (by simp; omega) _) (by simp; omega) _
end Go.Proofs.Ytacjonncakhhmaa.Two
namespace Go.Proofs.Ytacjonncakhhmaa.Two
open Go.RowKit

theorem put_len (s : List Int) (n : Int) : (put s n).length ≤ s.length + 1 := by
  induction s with
  | nil => simp [put]
  | cons y r ih =>
    rw [put]
    split
    · rw [List.length_cons, List.length_cons]; omega
    · split <;> simp
theorem foldl_put_len (l : List Int) : ∀ s : List Int, (l.foldl put s).length ≤ s.length + l.length := by
  induction l with
  | nil => intro s; simp
  | cons y r ih =>
    intro s
    have h1 := ih (put s y)
    have h2 := put_len s y
    rw [List.foldl_cons, List.length_cons]
    omega
set_option maxRecDepth 100000 in
set_option maxHeartbeats 2000000 in
theorem rfrom_any (v : Value) (xs : List Int) (w : World) (h : IsL w w.heap.size v xs) (hl : xs.length ≤ 1000) :
    Calls Try.prog 40 #[v] w fun e w' => ∃ v, e = .returned v ∧ IsL w' w'.heap.size v (mk xs) ∧ Below w.heap.size w w' := by
  obtain ⟨⟨A, cap, rfl, hcap, hA⟩, hfit, hlen⟩ := h
  have HA := Lib.hid hA
  have HF := Lib.hid hfit
  clear hA hfit
  go_enter Try.func40, Try.ntmps40
  go_wp2
  go_loopw [3, 4] (fun u i wr => ∃ k : Nat, k ≤ xs.length ∧ i = .int .i64 (k : Int) ∧ IsL wr wr.heap.size u (mk (xs.take k)) ∧ Below w.heap.size w wr) (fun _ i _ => xs.length - (intOf i).toNat)
  case atStart => exact ⟨0, Nat.zero_le _, rfl, IsL.nil _ _ _ _, Below.refl _ _⟩
  case round =>
    obtain ⟨k, hk, rfl, hu, hbel⟩ := hrel
    have HU := Lib.hid hu
    have HL := Lib.hid hbel
    by_cases hlt : k < xs.length
    · obtain ⟨b, off, rfl, hbB, hcell⟩ := HA.out (by omega)
      have hx : wr.cell? ⟨b, off + k, none⟩ = some (.int .i64 (xs.getD k 0)) := (hbel.cell (p := ⟨b, off + k, none⟩) hbB).trans (hcell k hlt)
      have hml := mk_len_le (xs.take k)
      rw [List.length_take] at hml
      have hput := fun hfx => put_any _ _ (xs.getD k 0) hfx wr hu (by omega)
      have HPU := Lib.hid (hput (getD_fits HF.out k))
      have HTK := Lib.hid (show mk (xs.take (k + 1)) = put (mk (xs.take k)) (xs.getD k 0) by rw [take_getD xs k hlt, mk_snoc])
      clear hcell hu hbel hput hml
      generalize xs.getD k 0 = x at *
      go_wp2_with (go_at_call 78; refine (HPU.out).mono ?_; rintro e w1 ⟨v1, rfl, hv1, hb1⟩)
      have H1 := Lib.hid hv1
      have H2 := Lib.hid (HL.out.trans (hb1.mono HL.out.size))
      clear hv1 hb1
      go_wp2
      go_roundw
      case rel => exact ⟨k + 1, by omega, num_i (by omega), by rw [HTK.out]; exact H1.out, H2.out⟩
      case measure => simp [intOf]; omega
    · obtain rfl : k = xs.length := by omega
      rw [List.take_length] at HU
      clear hu hbel
      go_wp2
      go_ret
      exact ⟨_, rfl, HU.out, HL.out⟩
theorem filter_snoc (l : List Int) (p : Int → Bool) (x : Int) : (l ++ [x]).filter p = l.filter p ++ (if p x then [x] else []) := by
  rw [List.filter_append]
  cases h : p x <;> simp [h]
set_option maxRecDepth 100000 in
set_option maxHeartbeats 2000000 in
theorem rless_any (v u : Value) (xs ys : List Int) (w : World) (h : IsL w w.heap.size v xs) (hy : IsL w w.heap.size u ys) (hl : xs.length ≤ 1000) :
    Calls Try.prog 42 #[v, u] w fun e w' => ∃ v, e = .returned v ∧ IsL w' w'.heap.size v (xs.filter (fun y => !decide (y ∈ ys))) ∧ Below w.heap.size w w' := by
  have HY := Lib.hid hy
  obtain ⟨⟨A, cap, rfl, hcap, hA⟩, hfit, hlen⟩ := h
  have HA := Lib.hid hA
  have HF := Lib.hid hfit
  obtain ⟨B, hB⟩ : ∃ B, B = w.heap.size := ⟨_, rfl⟩
  have HB := Lib.hid hB
  clear hA hfit hy hB
  go_enter Try.func42, Try.ntmps42
  go_wp2
  go_loopw [5, 6] (fun t i wr => ∃ k : Nat, k ≤ xs.length ∧ i = .int .i64 (k : Int) ∧ Own wr w.heap.size t ((xs.take k).filter (fun y => !decide (y ∈ ys))) ∧ Below w.heap.size w wr) (fun _ i _ => xs.length - (intOf i).toNat)
  case atStart => exact ⟨0, Nat.zero_le _, rfl, by simp; exact Own.nil _ _, Below.refl _ _⟩
  case round =>
    obtain ⟨k, hk, rfl, hu, hbel⟩ := hrel
    have HU := Lib.hid hu
    have HL := Lib.hid hbel
    have HFL := Lib.hid (Nat.le_trans (List.length_filter_le (fun y => !decide (y ∈ ys)) (xs.take k)) (by rw [List.length_take]; exact Nat.min_le_left _ _))
    by_cases hlt : k < xs.length
    · obtain ⟨b, off, rfl, hbB, hcell⟩ := HA.out (by omega)
      have hx : wr.cell? ⟨b, off + k, none⟩ = some (.int .i64 (xs.getD k 0)) := (hbel.cell (p := ⟨b, off + k, none⟩) hbB).trans (hcell k hlt)
      have HFX := Lib.hid (getD_fits HF.out k)
      have hin := in_any u ys (xs.getD k 0) wr ((HY.out.below hbel).more hbel.size)
      have HTK := Lib.hid (show (xs.take (k + 1)).filter (fun y => !decide (y ∈ ys)) = (xs.take k).filter (fun y => !decide (y ∈ ys)) ++ (if !decide (xs.getD k 0 ∈ ys) then [xs.getD k 0] else []) by rw [take_getD xs k hlt, filter_snoc])
      have HIN := Lib.hid hin
      clear hcell hu hbel hin
      generalize xs.getD k 0 = x at *
      by_cases hm : x ∈ ys
      · have hd : decide (x ∈ ys) = true := decide_eq_true hm
        have hin := HIN.out
        rw [hd] at hin
        have HIN2 := Lib.hid hin
        rw [hd] at HTK
        clear hm hd hin HIN
        go_wp2_with (go_at_call 41; refine (HIN2.out).mono ?_; rintro e w' ⟨rfl, rfl⟩)
        go_roundw
        case rel => exact ⟨k + 1, by omega, num_i (by omega), by rw [HTK.out]; simpa using HU.out, HL.out⟩
        case measure => simp [intOf]; omega
      · have hd : decide (x ∈ ys) = false := decide_eq_false hm
        have hin := HIN.out
        rw [hd] at hin
        have HIN2 := Lib.hid hin
        rw [hd] at HTK
        clear hm hd hin HIN
        go_wp2_with (first
          | (go_at_call 41; refine (HIN2.out).mono ?_; rintro e w' ⟨rfl, rfl⟩)
          | (at_builtin; refine wpList_app _ rfl _ _ rfl w.heap.size (wr.heap.size + 1) _ _ ((xs.take k).filter (fun y => !decide (y ∈ ys))) [x] rfl rfl (HU.out.alloc _) (IsL.lit wr x HFX.out) ?c1 ?c2 ?_))
        case c1 => have := HFL.out; simp; omega
        case c2 => have := HL.out.size; simp; omega
        intro v1 w1 hown hgrow _
        have hb1 := Own.grow' (HU.out.alloc (.cells #[.int .i64 x] 3)) (HL.out.alloc HL.out.size _) (by have := HL.out.size; simp; omega) hgrow
        have H1 := Lib.hid hown
        have H2 := Lib.hid hb1
        clear hown hgrow hb1
        go_wp2
        go_roundw
        case rel => exact ⟨k + 1, by omega, num_i (by omega), by rw [HTK.out]; exact H1.out, H2.out⟩
        case measure => simp [intOf]; omega
    · obtain rfl : k = xs.length := by omega
      rw [List.take_length] at HU
      have HR := Lib.hid (HU.out.isL (by have := HFL.out; rw [List.take_length] at this; omega))
      clear hu hbel
      go_wp2
      go_ret
      exact ⟨_, rfl, HR.out, HL.out⟩
end Go.Proofs.Ytacjonncakhhmaa.Two
