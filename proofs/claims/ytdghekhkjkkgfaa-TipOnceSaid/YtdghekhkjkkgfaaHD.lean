/- Tips: the first one of which something holds, as the program and the reference tell it. -/
import Derived.Test.YtdghekhkjkkgfaaHB
import Derived.Test.YtdghekhkjkkgfaaHC
namespace Go.Proofs.Ytdghekhkjkkgfaa
open Go.RowKit

/-- The first place below n that is told, and whether there is one. -/
def fstV (p : Nat → Bool) (n : Nat) : Int × Bool := match (List.range n).find? p with | some i => ((i : Int), true) | none => (0, false)
theorem fst_hit (p : Nat → Bool) (n i : Nat) (hi : i < n) (hp : p i = true) (h : ∀ j, j < i → p j = false) : fstV p n = ((i : Int), true) := by
  have e : (List.range n).find? p = some i := by
    rw [List.find?_range_eq_some]
    exact ⟨hp, List.mem_range.2 hi, fun j hj => by simp [h j hj]⟩
  unfold fstV
  rw [e]
theorem fst_none (p : Nat → Bool) (n : Nat) (h : ∀ j, j < n → p j = false) : fstV p n = (0, false) := by
  have e : (List.range n).find? p = none := by
    rw [List.find?_range_eq_none]
    exact fun j hj => by simp [h j hj]
  unfold fstV
  rw [e]
abbrev fsV (x : Int × Bool) : Value := .tuple #[.int .i64 x.1, .bool x.2]
def frP (xs : List (Int × Int)) (f : Int) (i : Nat) : Bool := decide (f ≤ (i : Int)) && (ofV (xs.getD i (0, 0)).1 (xs.getD i (0, 0)).2 == 1)
def hdP (xs : List (Int × Int)) (a f : Int) (i : Nat) : Bool := decide (f ≤ (i : Int)) && (ofV (xs.getD i (0, 0)).1 (xs.getD i (0, 0)).2 == 2 && (xs.getD i (0, 0)).2 == a)

set_option maxRecDepth 100000 in
set_option maxHeartbeats 2000000 in
theorem first_fresh (v : Value) (xs : List (Int × Int)) (f : Int) (hf : fits f) (w : World) (hv : KT.IsL w w.heap.size v xs) : Calls Try.prog 46 #[v, .int .i64 f, .func (.func 43) #[.int .i64 1] #[]] w fun e w' => e = .returned (fsV (fstV (frP xs f) xs.length)) ∧ Below w.heap.size w w' := by
  obtain ⟨A, c, rfl, hc⟩ := hv.shape
  have HV := Lib.hid hv
  have hl := hv.2.2
  obtain ⟨m, hm⟩ : ∃ m : Nat, max f 0 = (m : Int) := ⟨(max f 0).toNat, by omega⟩
  have HM := Lib.hid hm
  have hm1 : (m : Int) ≤ 9223372036854775807 := by unfold fits at hf; omega
  clear hv hf
  go_enter Try.func46, Try.ntmps46
  go_wp2
  all_goals
    go_loopw [8] (fun i wr => ∃ k : Nat, i = .int .i64 k ∧ (k ≤ m ∨ k ≤ xs.length) ∧ (∀ j, j < k → j < xs.length → frP xs f j = false) ∧ (m ≤ k) ∧ Below w.heap.size w wr) (fun i _ => xs.length - (intOf i).toNat)
    case atStart => exact ⟨m, num_i (by omega), .inl (Nat.le_refl _), fun j hj _ => by (have : ¬ f ≤ (j : Int) := by omega); simp [frP, this], Nat.le_refl _, Below.refl _ _⟩
    case round =>
      obtain ⟨k, rfl, hk, hkp, hmk, hbl⟩ := hrel
      have HB := Lib.hid hbl
      have HKP := Lib.hid hkp
      clear hkp hbl
      by_cases hlt : k < xs.length
      · obtain ⟨b, off, rfl, hb, hbc, hcell⟩ := tip_cells (HV.out.below HB.out) (by omega)
        obtain ⟨e1, e2⟩ := hcell k hlt
        have hP : frP xs f k = (decide (f ≤ (k : Int)) && (ofV (xs.getD k (0, 0)).1 (xs.getD k (0, 0)).2 == 1)) := rfl
        rw [show decide (f ≤ (k : Int)) = true from decide_eq_true (by omega), Bool.true_and] at hP
        clear hcell
        generalize xs.getD k (0, 0) = t at *
        obtain ⟨t1, t2⟩ := t
        dsimp only at *
        have HA := Lib.hid (fun w => is_any 1 t1 t2 w)
        have HP := Lib.hid hP
        clear hP
        generalize (ofV t1 t2 == 1) = q at *
        have hbw : b < wr.heap.size := Nat.lt_of_lt_of_le hb HB.out.size
        go_wp2_with fail
        refine (HA.out _).mono ?_
        rintro e w2 ⟨rfl, hb2⟩
        have HB2 := Lib.hid (Below.call HB.out hb2)
        clear hb2 e1 e2
        cases q
        · go_wp2
          go_roundw
          case rel => exact ⟨k + 1, num_i (by omega), .inr (by omega), fun j hj hjl => by
            by_cases h : j = k
            · subst h; exact HP.out
            · exact HKP.out j (by omega) hjl, by omega, HB2.out⟩
          case measure => simp [intOf]; omega
        · go_wp2
          go_ret2
          refine ⟨?_, HB2.out⟩
          rw [fst_hit _ _ k hlt HP.out fun j hj => HKP.out j hj (by omega)]
          rfl
      · go_wp2
        go_ret2
        refine ⟨?_, HB.out⟩
        rw [fst_none _ _ fun j hj => HKP.out j (by omega) hj]
        rfl

set_option maxRecDepth 100000 in
theorem next_any (v : Value) (xs : List (Int × Int)) (f : Int) (hf : fits f) (w : World) (hv : KT.IsL w w.heap.size v xs) : Calls Try.prog 30 #[v, .int .i64 f] w fun e w' => e = .returned (fsV (fstV (frP xs f) xs.length)) ∧ Below w.heap.size w w' := by
  have HF := Lib.hid (first_fresh v xs f hf w hv)
  generalize fstV (frP xs f) xs.length = y at *
  have hmf : ∀ (fn : Fn) (first cap : Array Value) (w : World), (Instr.makeFunc fn first cap).run Try.prog w = .ok (.func fn first cap) w := fun _ _ _ _ => rfl
  obtain ⟨p, q⟩ := y
  clear hv
  go_enter Try.func30, Try.ntmps30
  go_wp2_with fail
  refine HF.out.mono ?_
  rintro e w1 ⟨rfl, hb1⟩
  have HB1 := Lib.hid hb1
  clear hb1
  go_wp2
  go_ret2
  exact ⟨rfl, HB1.out⟩

set_option maxRecDepth 100000 in
set_option maxHeartbeats 2000000 in
theorem first_held (a : Int) (v : Value) (xs : List (Int × Int)) (f : Int) (hf : fits f) (w : World) (hv : KT.IsL w w.heap.size v xs) : Calls Try.prog 46 #[v, .int .i64 f, .func (.func 44) #[.int .i64 a] #[]] w fun e w' => e = .returned (fsV (fstV (hdP xs a f) xs.length)) ∧ Below w.heap.size w w' := by
  obtain ⟨A, c, rfl, hc⟩ := hv.shape
  have HV := Lib.hid hv
  have hl := hv.2.2
  obtain ⟨m, hm⟩ : ∃ m : Nat, max f 0 = (m : Int) := ⟨(max f 0).toNat, by omega⟩
  have HM := Lib.hid hm
  have hm1 : (m : Int) ≤ 9223372036854775807 := by unfold fits at hf; omega
  clear hv hf
  go_enter Try.func46, Try.ntmps46
  go_wp2
  all_goals
    go_loopw [8] (fun i wr => ∃ k : Nat, i = .int .i64 k ∧ (k ≤ m ∨ k ≤ xs.length) ∧ (∀ j, j < k → j < xs.length → hdP xs a f j = false) ∧ (m ≤ k) ∧ Below w.heap.size w wr) (fun i _ => xs.length - (intOf i).toNat)
    case atStart => exact ⟨m, num_i (by omega), .inl (Nat.le_refl _), fun j hj _ => by (have : ¬ f ≤ (j : Int) := by omega); simp [hdP, this], Nat.le_refl _, Below.refl _ _⟩
    case round =>
      obtain ⟨k, rfl, hk, hkp, hmk, hbl⟩ := hrel
      have HB := Lib.hid hbl
      have HKP := Lib.hid hkp
      clear hkp hbl
      by_cases hlt : k < xs.length
      · obtain ⟨b, off, rfl, hb, hbc, hcell⟩ := tip_cells (HV.out.below HB.out) (by omega)
        obtain ⟨e1, e2⟩ := hcell k hlt
        have hP : hdP xs a f k = (decide (f ≤ (k : Int)) && (ofV (xs.getD k (0, 0)).1 (xs.getD k (0, 0)).2 == 2 && (xs.getD k (0, 0)).2 == a)) := rfl
        rw [show decide (f ≤ (k : Int)) = true from decide_eq_true (by omega), Bool.true_and] at hP
        clear hcell
        generalize xs.getD k (0, 0) = t at *
        obtain ⟨t1, t2⟩ := t
        dsimp only at *
        have HA := Lib.hid (fun w => holds_any a t1 t2 w)
        have HP := Lib.hid hP
        clear hP
        generalize (ofV t1 t2 == 2 && t2 == a) = q at *
        have hbw : b < wr.heap.size := Nat.lt_of_lt_of_le hb HB.out.size
        go_wp2_with fail
        refine (HA.out _).mono ?_
        rintro e w2 ⟨rfl, hb2⟩
        have HB2 := Lib.hid (Below.call HB.out hb2)
        clear hb2 e1 e2
        cases q
        · go_wp2
          go_roundw
          case rel => exact ⟨k + 1, num_i (by omega), .inr (by omega), fun j hj hjl => by
            by_cases h : j = k
            · subst h; exact HP.out
            · exact HKP.out j (by omega) hjl, by omega, HB2.out⟩
          case measure => simp [intOf]; omega
        · go_wp2
          go_ret2
          refine ⟨?_, HB2.out⟩
          rw [fst_hit _ _ k hlt HP.out fun j hj => HKP.out j hj (by omega)]
          rfl
      · go_wp2
        go_ret2
        refine ⟨?_, HB.out⟩
        rw [fst_none _ _ fun j hj => HKP.out j (by omega) hj]
        rfl

set_option maxRecDepth 100000 in
theorem held_any (v : Value) (xs : List (Int × Int)) (a : Int) (w : World) (hv : KT.IsL w w.heap.size v xs) : Calls Try.prog 32 #[v, .int .i64 a] w fun e w' => e = .returned (fsV (fstV (hdP xs a 0) xs.length)) ∧ Below w.heap.size w w' := by
  have HF := Lib.hid (first_held a v xs 0 (by unfold fits; omega) w hv)
  generalize fstV (hdP xs a 0) xs.length = y at *
  have hmf : ∀ (fn : Fn) (first cap : Array Value) (w : World), (Instr.makeFunc fn first cap).run Try.prog w = .ok (.func fn first cap) w := fun _ _ _ _ => rfl
  obtain ⟨p, q⟩ := y
  clear hv
  go_enter Try.func32, Try.ntmps32
  go_wp2_with fail
  refine HF.out.mono ?_
  rintro e w1 ⟨rfl, hb1⟩
  have HB1 := Lib.hid hb1
  clear hb1
  go_wp2
  go_ret2
  exact ⟨rfl, HB1.out⟩
end Go.Proofs.Ytdghekhkjkkgfaa
