/- Pouring, drawing, room and new cells: what the program and the reference answer. -/
import Derived.Test.YtlgpnjbhmoomfaaGB
namespace Go.Proofs.Ytlgpnjbhmoomfaa
open Go.RowKit

theorem chE_no {x : Ce} (n : Int) (h : ¬ x.Right) : chE x n = 100 := by unfold chE; rw [if_pos h]
theorem chE_0 {x : Ce} (h : x.Right) : chE x 0 = 1 := by unfold chE; rw [if_neg (by simpa using h), if_pos rfl]
theorem chV_no {x : Ce} {n : Int} {e : Int} (h : chE x n = e) (he : e ≠ 0) : chV x n = nought := by unfold chV; rw [if_neg (by rw [h]; exact he)]
theorem max_lo {n : Int} (h : n < 1) : max n 0 = 0 := by omega
theorem max_hi {n : Int} (h : ¬ n < 1) : max n 0 = n := by omega
def roomV (x : Ce) : Int := if x.Right then x.a - x.b else 0
def newE (a b : Int) : Int := if (Ce.mk a b 0).Right then 0 else 100
def newV (a b : Int) : Ce := if (Ce.mk a b 0).Right then ⟨a, b, 0⟩ else nought

set_option maxRecDepth 100000 in
set_option maxHeartbeats 4000000 in
theorem room_any (x : Ce) (w : World) : Calls Try.prog 42 #[x.v] w fun e w' => e = .returned (.int .i64 (roomV x)) ∧ Below w.heap.size w w' := by
  obtain ⟨a, b, c⟩ := x
  by_cases hr : (Ce.mk a b c).Right
  · have HK := Lib.hid (fun w => right_t hr w)
    have T : roomV ⟨a, b, c⟩ = a - b := by unfold roomV; rw [if_pos hr]
    rw [T]
    obtain ⟨r1, r2, r3, r4, r5, r6⟩ := hr
    dsimp only at r1 r2 r3 r4 r5 r6
    clear T r5 r6
    go_enter Try.func42, Try.ntmps42
    go_wp2_with fail
    refine (HK.out _).mono ?_
    rintro e w1 ⟨rfl, hb1⟩
    obtain ⟨hc1, hf1⟩ := bcell hb1
    have HB1 := Lib.hid hb1
    have hz1_0 : w.heap.size < w1.heap.size := by (have := hb1.size; (try simp at this) <;> omega)
    clear hb1
    go_wp2
    go_ret
    exact ⟨ret_i (by rfl), by (repeat (first | exact Below.refl _ _ | (with_reducible refine Below.st ?_ (by simp <;> omega)) | (with_reducible refine Below.al ?_ _) | (with_reducible refine Below.call ?_ HB1.out) ))⟩
  · have HK := Lib.hid (fun w => right_f hr w)
    have T : roomV ⟨a, b, c⟩ = 0 := by unfold roomV; rw [if_neg hr]
    rw [T]
    clear T hr
    go_enter Try.func42, Try.ntmps42
    go_wp2_with fail
    refine (HK.out _).mono ?_
    rintro e w1 ⟨rfl, hb1⟩
    obtain ⟨hc1, hf1⟩ := bcell hb1
    have HB1 := Lib.hid hb1
    have hz1_0 : w.heap.size < w1.heap.size := by (have := hb1.size; (try simp at this) <;> omega)
    clear hb1
    go_wp2
    go_ret
    exact ⟨ret_i rfl, by (repeat (first | exact Below.refl _ _ | (with_reducible refine Below.st ?_ (by simp <;> omega)) | (with_reducible refine Below.al ?_ _) | (with_reducible refine Below.call ?_ HB1.out) ))⟩

set_option maxRecDepth 100000 in
set_option maxHeartbeats 4000000 in
theorem new_any (a b : Int) (w : World) : Calls Try.prog 43 #[.int .i64 a, .int .i64 b] w fun e w' => e = .returned (ceE (newV a b) (newE a b)) ∧ Below w.heap.size w w' := by
  by_cases hr : (Ce.mk a b 0).Right
  · have HK := Lib.hid (fun w => right_t hr w)
    have T : newE a b = 0 := by unfold newE; rw [if_pos hr]
    have U : newV a b = ⟨a, b, 0⟩ := by unfold newV; rw [if_pos hr]
    rw [T, U]
    clear T U hr
    have hq : w.heap.size < w.heap.size + 1 + 1 := by omega
    go_enter Try.func43, Try.ntmps43
    go_wp2_with fail
    refine (HK.out _).mono ?_
    rintro e w1 ⟨rfl, hb1⟩
    obtain ⟨hc1, hf1⟩ := bcell hb1
    have HB1 := Lib.hid hb1
    have hz1_0 : w.heap.size < w1.heap.size := by (have := hb1.size; (try simp at this) <;> omega)
    have hz1_1 : w.heap.size + 1 < w1.heap.size := by (have := hb1.size; (try simp at this) <;> omega)
    clear hb1
    go_wp2
    refine bodyPost_ret (v := .tuple #[.agg #[.int .i64 a, .int .i64 b, .int .i64 0], .int .i64 0]) (by simp [results, Try.results43, go_sem, hc1, hq]) rfl ⟨rfl, ?_⟩
    (repeat (first | exact Below.refl _ _ | (with_reducible refine Below.st ?_ (by simp <;> omega)) | (with_reducible refine Below.al ?_ _) | (with_reducible refine Below.call ?_ HB1.out) ))
  · have HK := Lib.hid (fun w => right_f hr w)
    have T : newE a b = 100 := by unfold newE; rw [if_neg hr]
    have U : newV a b = nought := by unfold newV; rw [if_neg hr]
    rw [T, U]
    clear T U hr
    have hq : w.heap.size < w.heap.size + 1 + 1 := by omega
    go_enter Try.func43, Try.ntmps43
    go_wp2_with fail
    refine (HK.out _).mono ?_
    rintro e w1 ⟨rfl, hb1⟩
    obtain ⟨hc1, hf1⟩ := bcell hb1
    have HB1 := Lib.hid hb1
    have hz1_0 : w.heap.size < w1.heap.size := by (have := hb1.size; (try simp at this) <;> omega)
    have hz1_1 : w.heap.size + 1 < w1.heap.size := by (have := hb1.size; (try simp at this) <;> omega)
    clear hb1
    go_wp2
    refine bodyPost_ret (v := .tuple #[.agg #[.int .i64 0, .int .i64 0, .int .i64 0], .int .i64 100]) (by simp [results, Try.results43, go_sem, hc1, hq]) rfl ⟨rfl, ?_⟩
    (repeat (first | exact Below.refl _ _ | (with_reducible refine Below.st ?_ (by simp <;> omega)) | (with_reducible refine Below.al ?_ _) | (with_reducible refine Below.call ?_ HB1.out) ))

set_option maxRecDepth 100000 in
set_option maxHeartbeats 4000000 in
theorem pour_any (x : Ce) (n : Int) (hx : x.Fit) (hn : fits n) (w : World) : Calls Try.prog 34 #[x.v, .int .i64 n] w fun e w' => e = .returned (ceE (chV x (max n 0)) (chE x (max n 0))) ∧ Below w.heap.size w w' := by
  obtain ⟨a, b, c⟩ := x
  by_cases hl : n < 0
  · rw [show max n 0 = 0 by omega]
    have HK := Lib.hid (fun w => change_any ⟨a, b, c⟩ (0) hx (by unfold fits at *; omega) w)
    generalize chV ⟨a, b, c⟩ (0) = y at *
    generalize chE ⟨a, b, c⟩ (0) = z at *
    obtain ⟨p, q, r⟩ := y
    unfold fits at hn
    clear hx
    go_enter Try.func34, Try.ntmps34
    go_wp2_with fail
    refine (HK.out _).mono ?_
    rintro e w1 ⟨rfl, hb1⟩
    obtain ⟨hc1, hf1⟩ := bcell hb1
    have HB1 := Lib.hid hb1
    have hz1_0 : w.heap.size < w1.heap.size := by (have := hb1.size; (try simp at this) <;> omega)
    have hz1_1 : w.heap.size + 1 < w1.heap.size := by (have := hb1.size; (try simp at this) <;> omega)
    clear hb1
    go_wp2
    refine bodyPost_ret (v := .tuple #[.agg #[.int .i64 p, .int .i64 q, .int .i64 r], .int .i64 z]) (by simp [results, Try.results34, go_sem, hc1]) rfl ⟨rfl, ?_⟩
    (repeat (first | exact Below.refl _ _ | (with_reducible refine Below.st ?_ (by simp <;> omega)) | (with_reducible refine Below.al ?_ _) | (with_reducible refine Below.call ?_ HB1.out) ))
  · by_cases h0 : n = 0
    · subst h0
      rw [show max (0 : Int) 0 = 0 by omega]
      have HK := Lib.hid (fun w => change_any ⟨a, b, c⟩ (0) hx (by unfold fits at *; omega) w)
      generalize chV ⟨a, b, c⟩ (0) = y at *
      generalize chE ⟨a, b, c⟩ (0) = z at *
      obtain ⟨p, q, r⟩ := y
      unfold fits at hn
      clear hx
      go_enter Try.func34, Try.ntmps34
      go_wp2_with fail
      refine (HK.out _).mono ?_
      rintro e w1 ⟨rfl, hb1⟩
      obtain ⟨hc1, hf1⟩ := bcell hb1
      have HB1 := Lib.hid hb1
      have hz1_0 : w.heap.size < w1.heap.size := by (have := hb1.size; (try simp at this) <;> omega)
      have hz1_1 : w.heap.size + 1 < w1.heap.size := by (have := hb1.size; (try simp at this) <;> omega)
      clear hb1
      go_wp2
      refine bodyPost_ret (v := .tuple #[.agg #[.int .i64 p, .int .i64 q, .int .i64 r], .int .i64 z]) (by simp [results, Try.results34, go_sem, hc1]) rfl ⟨rfl, ?_⟩
      (repeat (first | exact Below.refl _ _ | (with_reducible refine Below.st ?_ (by simp <;> omega)) | (with_reducible refine Below.al ?_ _) | (with_reducible refine Below.call ?_ HB1.out) ))
    · rw [show max n 0 = n by omega]
      have HK := Lib.hid (fun w => change_any ⟨a, b, c⟩ (n) hx (by unfold fits at *; omega) w)
      generalize chV ⟨a, b, c⟩ (n) = y at *
      generalize chE ⟨a, b, c⟩ (n) = z at *
      obtain ⟨p, q, r⟩ := y
      unfold fits at hn
      clear hx
      go_enter Try.func34, Try.ntmps34
      go_wp2_with fail
      refine (HK.out _).mono ?_
      rintro e w1 ⟨rfl, hb1⟩
      obtain ⟨hc1, hf1⟩ := bcell hb1
      have HB1 := Lib.hid hb1
      have hz1_0 : w.heap.size < w1.heap.size := by (have := hb1.size; (try simp at this) <;> omega)
      have hz1_1 : w.heap.size + 1 < w1.heap.size := by (have := hb1.size; (try simp at this) <;> omega)
      clear hb1
      go_wp2
      refine bodyPost_ret (v := .tuple #[.agg #[.int .i64 p, .int .i64 q, .int .i64 r], .int .i64 z]) (by simp [results, Try.results34, go_sem, hc1]) rfl ⟨rfl, ?_⟩
      (repeat (first | exact Below.refl _ _ | (with_reducible refine Below.st ?_ (by simp <;> omega)) | (with_reducible refine Below.al ?_ _) | (with_reducible refine Below.call ?_ HB1.out) ))

set_option maxRecDepth 100000 in
set_option maxHeartbeats 4000000 in
theorem draw_any (x : Ce) (n : Int) (hx : x.Fit) (hn : fits n) (w : World) : Calls Try.prog 35 #[x.v, .int .i64 n] w fun e w' => e = .returned (ceE (chV x (-(max n 0))) (chE x (-(max n 0)))) ∧ Below w.heap.size w w' := by
  obtain ⟨a, b, c⟩ := x
  by_cases hl : n < 0
  · rw [show max n 0 = 0 by omega]
    rw [Int.neg_zero]
    have HK := Lib.hid (fun w => change_any ⟨a, b, c⟩ (0) hx (by unfold fits at *; omega) w)
    generalize chV ⟨a, b, c⟩ (0) = y at *
    generalize chE ⟨a, b, c⟩ (0) = z at *
    obtain ⟨p, q, r⟩ := y
    unfold fits at hn
    clear hx
    go_enter Try.func35, Try.ntmps35
    go_wp2_with fail
    refine (HK.out _).mono ?_
    rintro e w1 ⟨rfl, hb1⟩
    obtain ⟨hc1, hf1⟩ := bcell hb1
    have HB1 := Lib.hid hb1
    have hz1_0 : w.heap.size < w1.heap.size := by (have := hb1.size; (try simp at this) <;> omega)
    have hz1_1 : w.heap.size + 1 < w1.heap.size := by (have := hb1.size; (try simp at this) <;> omega)
    clear hb1
    go_wp2
    refine bodyPost_ret (v := .tuple #[.agg #[.int .i64 p, .int .i64 q, .int .i64 r], .int .i64 z]) (by simp [results, Try.results35, go_sem, hc1]) rfl ⟨rfl, ?_⟩
    (repeat (first | exact Below.refl _ _ | (with_reducible refine Below.st ?_ (by simp <;> omega)) | (with_reducible refine Below.al ?_ _) | (with_reducible refine Below.call ?_ HB1.out) ))
  · by_cases h0 : n = 0
    · subst h0
      rw [show max (0 : Int) 0 = 0 by omega]
      rw [Int.neg_zero]
      have HK := Lib.hid (fun w => change_any ⟨a, b, c⟩ (0) hx (by unfold fits at *; omega) w)
      generalize chV ⟨a, b, c⟩ (0) = y at *
      generalize chE ⟨a, b, c⟩ (0) = z at *
      obtain ⟨p, q, r⟩ := y
      unfold fits at hn
      clear hx
      go_enter Try.func35, Try.ntmps35
      go_wp2_with fail
      refine (HK.out _).mono ?_
      rintro e w1 ⟨rfl, hb1⟩
      obtain ⟨hc1, hf1⟩ := bcell hb1
      have HB1 := Lib.hid hb1
      have hz1_0 : w.heap.size < w1.heap.size := by (have := hb1.size; (try simp at this) <;> omega)
      have hz1_1 : w.heap.size + 1 < w1.heap.size := by (have := hb1.size; (try simp at this) <;> omega)
      clear hb1
      go_wp2
      refine bodyPost_ret (v := .tuple #[.agg #[.int .i64 p, .int .i64 q, .int .i64 r], .int .i64 z]) (by simp [results, Try.results35, go_sem, hc1]) rfl ⟨rfl, ?_⟩
      (repeat (first | exact Below.refl _ _ | (with_reducible refine Below.st ?_ (by simp <;> omega)) | (with_reducible refine Below.al ?_ _) | (with_reducible refine Below.call ?_ HB1.out) ))
    · rw [show max n 0 = n by omega]
      have HK := Lib.hid (fun w => change_any ⟨a, b, c⟩ (-n) hx (by unfold fits at *; omega) w)
      generalize chV ⟨a, b, c⟩ (-n) = y at *
      generalize chE ⟨a, b, c⟩ (-n) = z at *
      obtain ⟨p, q, r⟩ := y
      unfold fits at hn
      clear hx
      go_enter Try.func35, Try.ntmps35
      go_wp2_with fail
      refine (HK.out _).mono ?_
      rintro e w1 ⟨rfl, hb1⟩
      obtain ⟨hc1, hf1⟩ := bcell hb1
      have HB1 := Lib.hid hb1
      have hz1_0 : w.heap.size < w1.heap.size := by (have := hb1.size; (try simp at this) <;> omega)
      have hz1_1 : w.heap.size + 1 < w1.heap.size := by (have := hb1.size; (try simp at this) <;> omega)
      clear hb1
      go_wp2
      refine bodyPost_ret (v := .tuple #[.agg #[.int .i64 p, .int .i64 q, .int .i64 r], .int .i64 z]) (by simp [results, Try.results35, go_sem, hc1]) rfl ⟨rfl, ?_⟩
      (repeat (first | exact Below.refl _ _ | (with_reducible refine Below.st ?_ (by simp <;> omega)) | (with_reducible refine Below.al ?_ _) | (with_reducible refine Below.call ?_ HB1.out) ))
end Go.Proofs.Ytlgpnjbhmoomfaa
