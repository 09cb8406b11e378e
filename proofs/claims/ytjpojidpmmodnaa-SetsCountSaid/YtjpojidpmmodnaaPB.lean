/- The sum of any numbers, in two words: what the program's Sum answers. -/
import Derived.Test.YtjpojidpmmodnaaPC
import Derived.Test.YtjpojidpmmodnaaLO
import Derived.Deep.RegionHeld3
import Derived.RegionTactic
namespace Go.Proofs.Ytjpojidpmmodnaa
open Go.RowKit

def sumL (l : List Int) : Int := l.foldl (· + ·) 0
theorem sumL_snoc (l : List Int) (x : Int) : sumL (l ++ [x]) = sumL l + x := by unfold sumL; rw [List.foldl_append]; rfl
theorem sumL_take (l : List Int) (k : Nat) (h : k < l.length) : sumL (l.take (k + 1)) = sumL (l.take k) + l.getD k 0 := by
  rw [List.take_succ_eq_append_getElem h, sumL_snoc, List.getD_eq_getElem?_getD, List.getElem?_eq_getElem h]
  rfl
theorem wrap64_in' (x : Int) : fits (wrap64 x) := by unfold wrap64; constructor <;> omega
theorem sumL_bound (l : List Int) (h : ∀ x ∈ l, fits x) : -(9223372036854775808 * (l.length : Int)) ≤ sumL l ∧ sumL l ≤ 9223372036854775808 * (l.length : Int) := by
  suffices hh : ∀ (l : List Int) (a : Int), (∀ x ∈ l, fits x) → a - 9223372036854775808 * (l.length : Int) ≤ l.foldl (· + ·) a ∧ l.foldl (· + ·) a ≤ a + 9223372036854775808 * (l.length : Int) by
    have := hh l 0 h
    unfold sumL
    omega
  intro l
  induction l with
  | nil => intro a _; simp
  | cons x r ih =>
    intro a h
    have h1 := h x (by simp)
    have h2 := ih (a + x) (fun y hy => h y (by simp [hy]))
    unfold fits at h1
    rw [List.foldl_cons, List.length_cons]
    omega
theorem words_fit (s : Int) (h : fits s) : ((wrap64 (s % 18446744073709551616) % 18446744073709551616 == s % 18446744073709551616) && (wrap64 (s % 18446744073709551616) / 18446744073709551616 % 18446744073709551616 == s / 18446744073709551616 % 18446744073709551616)) = true ∧ wrap64 (s % 18446744073709551616) = s := by
  have e : wrap64 (s % 18446744073709551616) = s := by unfold fits at h; unfold wrap64; omega
  rw [e]
  simp
theorem words_not (s : Int) (h : ¬ fits s) (h1 : -85070591730234615865843651857942052864 ≤ s) (h2 : s ≤ 85070591730234615865843651857942052864) : ((wrap64 (s % 18446744073709551616) % 18446744073709551616 == s % 18446744073709551616) && (wrap64 (s % 18446744073709551616) / 18446744073709551616 % 18446744073709551616 == s / 18446744073709551616 % 18446744073709551616)) = false := by
  rw [Bool.and_eq_false_iff]
  right
  rw [beq_eq_false_iff_ne]
  unfold fits at h
  unfold wrap64
  omega
/-- The two words as cells. -/
def w2c (x : Int) : Array Value := #[.int .u64 (x % 18446744073709551616), .int .u64 (x / 18446744073709551616 % 18446744073709551616)]
theorem load_w2 (w : World) (b : Nat) (x : Int) (h : w.heap[b]? = some (Obj.cells (w2c x) 43)) : (loadVar 43 ⟨b, 0, none⟩).run Try.prog w = .ok (W2 x) w :=
  run_loadVar_row w b 43 43 _ (0, 0) _ h Try.underlying43 rfl info43

set_option maxHeartbeats 2000000 in
theorem sum_any (v : Value) (xs : List Int) (w : World) (h : IsL w w.heap.size v xs) :
    Calls Try.prog 18 #[v] w fun e w' => e = .returned (.tuple #[.int .i64 (fitV (sumL xs)), .int .i64 (fitE (sumL xs))]) ∧ Below w.heap.size w w' := by
  obtain ⟨⟨A, cap, rfl, hcap, hA⟩, hfit, hlen⟩ := h
  obtain ⟨B, hB⟩ : ∃ B, B = w.heap.size := ⟨_, rfl⟩
  rw [← hB] at hA ⊢
  have HA := Lib.hid hA
  have HF := Lib.hid hfit
  have HB := Lib.hid hB
  clear hA hfit
  go_enter Try.func18, Try.ntmps18
  go_wp2
  rw [← hB]
  clear hB
  go_loopw [10] (fun i wr => ∃ k : Nat, k ≤ xs.length ∧ i = .int .i64 (k : Int) ∧ wr.heap[B]? = some (Obj.cells (w2c (sumL (xs.take k))) 43) ∧ Below B w wr) (fun i _ => xs.length - (intOf i).toNat)
  case atStart => exact ⟨0, Nat.zero_le _, rfl, by rw [HB.out, heap_alloc_new]; rfl, by rw [HB.out]; exact (Below.refl _ _).alloc (Nat.le_refl _) _⟩
  case round =>
    obtain ⟨k, hk, rfl, hrow, hbel⟩ := hrel
    have HR := Lib.hid hrow
    have HL := Lib.hid hbel
    by_cases hlt : k < xs.length
    · obtain ⟨b, off, rfl, hbB, hcell⟩ := HA.out (by omega)
      have hx := hcell k hlt
      rw [← hbel.cell (p := ⟨b, off + k, none⟩) hbB] at hx
      have hfx := getD_fits HF.out k
      have HST := Lib.hid (sumL_take xs k hlt)
      generalize xs.getD k 0 = x at *
      generalize sumL (xs.take k) = s at *
      have HFX := Lib.hid hfx
      have hBw : B < wr.heap.size := (Array.getElem?_eq_some_iff.1 hrow).1
      have c0 : wr.cell? ⟨B, 0, none⟩ = some (.int .u64 (s % 18446744073709551616)) := cell_of_row wr B 0 _ _ _ hrow
      have c1 : wr.cell? ⟨B, 1, none⟩ = some (.int .u64 (s / 18446744073709551616 % 18446744073709551616)) := cell_of_row wr B 1 _ _ _ hrow
      have f0 : wr.frozen? ⟨B, 0, none⟩ = false := frozen_of_row wr B 0 _ _ hrow
      have f1 : wr.frozen? ⟨B, 1, none⟩ = false := frozen_of_row wr B 1 _ _ hrow
      clear hrow hbel hfx hcell
      go_wp2
      go_region_with (first
        | (go_at_call 49; refine (widen_any x HFX.out _).mono ?_; rintro e w1 ⟨rfl, hb1⟩
           have c0' : w1.cell? ⟨B, 0, none⟩ = _ := (hb1.cell (p := ⟨B, 0, none⟩) hBw).trans c0
           have c1' : w1.cell? ⟨B, 1, none⟩ = _ := (hb1.cell (p := ⟨B, 1, none⟩) hBw).trans c1
           have f0' : w1.frozen? ⟨B, 0, none⟩ = _ := (hb1.frozen (p := ⟨B, 0, none⟩) hBw).trans f0
           have f1' : w1.frozen? ⟨B, 1, none⟩ = _ := (hb1.frozen (p := ⟨B, 1, none⟩) hBw).trans f1
           have HB1 := Lib.hid hb1
           clear hb1)
        | (go_at_call 48; refine (plus_any s x _).mono ?_; rintro e w2 ⟨rfl, hb2⟩
           have c0'' : w2.cell? ⟨B, 0, none⟩ = _ := (hb2.cell (p := ⟨B, 0, none⟩) (Nat.lt_of_lt_of_le hBw HB1.out.size)).trans c0'
           have c1'' : w2.cell? ⟨B, 1, none⟩ = _ := (hb2.cell (p := ⟨B, 1, none⟩) (Nat.lt_of_lt_of_le hBw HB1.out.size)).trans c1'
           have f0'' : w2.frozen? ⟨B, 0, none⟩ = _ := (hb2.frozen (p := ⟨B, 0, none⟩) (Nat.lt_of_lt_of_le hBw HB1.out.size)).trans f0'
           have f1'' : w2.frozen? ⟨B, 1, none⟩ = _ := (hb2.frozen (p := ⟨B, 1, none⟩) (Nat.lt_of_lt_of_le hBw HB1.out.size)).trans f1'
           have HB2 := Lib.hid hb2
           clear hb2
           unfold W2))
      all_goals
        go_wp2
        go_roundw
        case rel =>
          have r1 := (HB1.out.block B hBw).trans HR.out
          have r2 := (HB2.out.block B (Nat.lt_of_lt_of_le hBw HB1.out.size)).trans r1
          refine ⟨k + 1, by omega, num_i (by omega), by rw [HST.out]; exact two_cells _ _ _ _ _ _ r2, ?_⟩
          exact Below.setCell (Below.setCell ((HL.out.drew.trans (HB1.out.mono (Nat.le_of_lt hBw))).trans (HB2.out.mono (Nat.le_of_lt (Nat.lt_of_lt_of_le hBw HB1.out.size)))) (Nat.le_refl _) _) (Nat.le_refl _) _
        case measure => simp [intOf]; omega
    · obtain rfl : k = xs.length := by omega
      rw [List.take_length] at *
      have hBw : B < wr.heap.size := (Array.getElem?_eq_some_iff.1 hrow).1
      have HSB := Lib.hid (sumL_bound xs HF.out)
      generalize hS : sumL xs = s at *
      have HSS := Lib.hid hS
      have c0 : wr.cell? ⟨B, 0, none⟩ = some (.int .u64 (s % 18446744073709551616)) := cell_of_row wr B 0 _ _ _ hrow
      have c1 : wr.cell? ⟨B, 1, none⟩ = some (.int .u64 (s / 18446744073709551616 % 18446744073709551616)) := cell_of_row wr B 1 _ _ _ hrow
      have HFW := Lib.hid (wrap64_in' (s % 18446744073709551616))
      have hbd : -85070591730234615865843651857942052864 ≤ s ∧ s ≤ 85070591730234615865843651857942052864 := by
        have := HSB.out
        omega
      have HBD := Lib.hid hbd
      have heq := fun w => run_eq2 w (wrap64 (s % 18446744073709551616) % 18446744073709551616) (wrap64 (s % 18446744073709551616) / 18446744073709551616 % 18446744073709551616) (s % 18446744073709551616) (s / 18446744073709551616 % 18446744073709551616)
      clear hrow hbel hS hbd
      by_cases hfs : fits s
      · obtain ⟨e1, e2⟩ := words_fit s hfs
        rw [e1] at heq
        have HV := Lib.hid (show fitV s = s from if_pos hfs)
        have HE := Lib.hid (show fitE s = 0 from if_pos hfs)
        have H2 := Lib.hid e2
        clear e1 e2 hfs
        go_wp2
        go_region_with (first
          | (go_at_call 49; refine (widen_any _ HFW.out _).mono ?_; rintro e w1 ⟨rfl, hb1⟩
             have c0' : w1.cell? ⟨B, 0, none⟩ = _ := (hb1.cell (p := ⟨B, 0, none⟩) hBw).trans c0
             have c1' : w1.cell? ⟨B, 1, none⟩ = _ := (hb1.cell (p := ⟨B, 1, none⟩) hBw).trans c1
             have HB1 := Lib.hid hb1
             clear hb1
             unfold W2))
        all_goals
          go_wp2
          go_ret2
          exact ⟨ret_ii (by rw [HSS.out, H2.out, HV.out]) (by rw [HSS.out, HE.out]), HL.out.drew.trans (HB1.out.mono (Nat.le_of_lt hBw))⟩
      · have e1 := words_not s hfs HBD.out.1 HBD.out.2
        rw [e1] at heq
        have HV := Lib.hid (show fitV s = 0 from if_neg hfs)
        have HE := Lib.hid (show fitE s = 4 from if_neg hfs)
        clear e1 hfs
        go_wp2
        go_region_with (first
          | (go_at_call 49; refine (widen_any _ HFW.out _).mono ?_; rintro e w1 ⟨rfl, hb1⟩
             have c0' : w1.cell? ⟨B, 0, none⟩ = _ := (hb1.cell (p := ⟨B, 0, none⟩) hBw).trans c0
             have c1' : w1.cell? ⟨B, 1, none⟩ = _ := (hb1.cell (p := ⟨B, 1, none⟩) hBw).trans c1
             have HB1 := Lib.hid hb1
             clear hb1
             unfold W2))
        all_goals
          go_wp2
          go_ret2
          exact ⟨ret_ii (by rw [HSS.out, HV.out]) (by rw [HSS.out, HE.out]), HL.out.drew.trans (HB1.out.mono (Nat.le_of_lt hBw))⟩
end Go.Proofs.Ytjpojidpmmodnaa
