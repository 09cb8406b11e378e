/- What becomes of a cell: what the reference answers. -/
import Derived.Test.YtlgpnjbhmoomfaaGC
namespace Go.Proofs.Ytlgpnjbhmoomfaa
open Go.RowKit

set_option maxRecDepth 100000 in
set_option maxHeartbeats 4000000 in
theorem rchange0_any (a b c n : Int) (hr : (Ce.mk a b c).Right) (hn : fits n) (h1 : n ≠ 0) (w : World) : Calls Try.prog 68 #[ceV a b c, .int .i64 n] w fun e w' => e = .returned (ceE (chV ⟨a, b, c⟩ n) (chE ⟨a, b, c⟩ n)) ∧ Below w.heap.size w w' := by
  have HR := Lib.hid hr
  obtain ⟨r1, r2, r3, r4, r5, r6⟩ := hr
  dsimp only at r1 r2 r3 r4 r5 r6
  unfold fits at hn
  by_cases h2 : c = 2147483647
  · have T : chE ⟨a, b, c⟩ n = 101 := by unfold chE; rw [if_neg (by simpa using HR.out), if_neg h1, if_pos h2]
    rw [chV_no T (by decide), T]
    have q2 : (c == 2147483647) = true := by rw [beq_iff_eq]; exact h2
    clear T h2
    go_enter Try.func68, Try.ntmps68
    go_wp2
    refine bodyPost_ret (v := .tuple #[.agg #[.int .i64 0, .int .i64 0, .int .i64 0], .int .i64 101]) (by simp [results, Try.results68, go_sem]) rfl ⟨rfl, ?_⟩
    (repeat (first | exact Below.refl _ _ | (with_reducible refine Below.st ?_ (by simp <;> omega)) | (with_reducible refine Below.al ?_ _) ))
  · by_cases h4 : b + n < 0
    · have T : chE ⟨a, b, c⟩ n = 102 := by unfold chE; rw [if_neg (by simpa using HR.out), if_neg h1, if_neg h2, if_pos h4]
      rw [chV_no T (by decide), T]
      go_enter Try.func68, Try.ntmps68
      go_wp2
      refine bodyPost_ret (v := .tuple #[.agg #[.int .i64 0, .int .i64 0, .int .i64 0], .int .i64 102]) (by simp [results, Try.results68, go_sem]) rfl ⟨rfl, ?_⟩
      (repeat (first | exact Below.refl _ _ | (with_reducible refine Below.st ?_ (by simp <;> omega)) | (with_reducible refine Below.al ?_ _) ))
    · by_cases h5 : a < b + n
      · have T : chE ⟨a, b, c⟩ n = 103 := by unfold chE; rw [if_neg (by simpa using HR.out), if_neg h1, if_neg h2, if_neg h4, if_pos h5]
        rw [chV_no T (by decide), T]
        go_enter Try.func68, Try.ntmps68
        go_wp2
        refine bodyPost_ret (v := .tuple #[.agg #[.int .i64 0, .int .i64 0, .int .i64 0], .int .i64 103]) (by simp [results, Try.results68, go_sem]) rfl ⟨rfl, ?_⟩
        (repeat (first | exact Below.refl _ _ | (with_reducible refine Below.st ?_ (by simp <;> omega)) | (with_reducible refine Below.al ?_ _) ))
      · have T : chE ⟨a, b, c⟩ n = 0 := by unfold chE; rw [if_neg (by simpa using HR.out), if_neg h1, if_neg h2, if_neg h4, if_neg h5]
        have U : chV ⟨a, b, c⟩ n = ⟨a, b + n, c + 1⟩ := by unfold chV; rw [if_pos T]
        rw [U, T]
        go_enter Try.func68, Try.ntmps68
        go_wp2
        refine bodyPost_ret (v := .tuple #[.agg #[.int .i64 a, .int .i64 (b + n), .int .i64 (c + 1)], .int .i64 0]) (by simp [results, Try.results68, go_sem]) rfl ⟨rfl, ?_⟩
        (repeat (first | exact Below.refl _ _ | (with_reducible refine Below.st ?_ (by simp <;> omega)) | (with_reducible refine Below.al ?_ _) ))

set_option maxRecDepth 100000 in
set_option maxHeartbeats 4000000 in
theorem rchange_any (x : Ce) (n : Int) (hn : fits n) (w : World) : Calls Try.prog 36 #[x.v, .int .i64 n] w fun e w' => e = .returned (ceE (chV x n) (chE x n)) ∧ Below w.heap.size w w' := by
  obtain ⟨a, b, c⟩ := x
  by_cases hr : (Ce.mk a b c).Right
  · have HK := Lib.hid (fun w => rright_t hr w)
    by_cases h1 : n = 0
    · subst h1
      rw [chV_no (chE_0 hr) (by decide), chE_0 hr]
      clear hr hn
      go_enter Try.func36, Try.ntmps36
      go_wp2_with fail
      refine (HK.out _).mono ?_
      rintro e w1 ⟨rfl, hb1⟩
      obtain ⟨hc1, hf1⟩ := bcell hb1
      have HB1 := Lib.hid hb1
      have hz1_0 : w.heap.size < w1.heap.size := by (have := hb1.size; (try simp at this) <;> omega)
      have hz1_1 : w.heap.size + 1 < w1.heap.size := by (have := hb1.size; (try simp at this) <;> omega)
      clear hb1
      go_wp2
      refine bodyPost_ret (v := .tuple #[.agg #[.int .i64 0, .int .i64 0, .int .i64 0], .int .i64 1]) (by simp [results, Try.results36, go_sem, hc1]) rfl ⟨rfl, ?_⟩
      (repeat (first | exact Below.refl _ _ | (with_reducible refine Below.st ?_ (by simp <;> omega)) | (with_reducible refine Below.al ?_ _) | (with_reducible refine Below.call ?_ HB1.out) ))
    · have HC := Lib.hid (fun w => rchange0_any a b c n hr hn h1 w)
      generalize chV ⟨a, b, c⟩ n = y at *
      generalize chE ⟨a, b, c⟩ n = z at *
      obtain ⟨p, q, r⟩ := y
      clear hr hn
      go_enter Try.func36, Try.ntmps36
      go_wp2_with fail
      refine (HK.out _).mono ?_
      rintro e w1 ⟨rfl, hb1⟩
      obtain ⟨hc1, hf1⟩ := bcell hb1
      have HB1 := Lib.hid hb1
      have hz1_0 : w.heap.size < w1.heap.size := by (have := hb1.size; (try simp at this) <;> omega)
      have hz1_1 : w.heap.size + 1 < w1.heap.size := by (have := hb1.size; (try simp at this) <;> omega)
      clear hb1
      go_wp2_with fail
      refine (HC.out _).mono ?_
      rintro e w2 ⟨rfl, hb2⟩
      obtain ⟨hc2, hf2⟩ := bcell hb2
      have HB2 := Lib.hid hb2
      have hz2_0 : w.heap.size < w2.heap.size := by (have := hb2.size; (try simp at this) <;> omega)
      have hz2_1 : w.heap.size + 1 < w2.heap.size := by (have := hb2.size; (try simp at this) <;> omega)
      clear hb2
      go_wp2
      refine bodyPost_ret (v := .tuple #[.agg #[.int .i64 p, .int .i64 q, .int .i64 r], .int .i64 z]) (by simp [results, Try.results36, go_sem, hc1, hc2, hz1_1]) rfl ⟨rfl, ?_⟩
      (repeat (first | exact Below.refl _ _ | (with_reducible refine Below.st ?_ (by simp <;> omega)) | (with_reducible refine Below.al ?_ _) | (with_reducible refine Below.call ?_ HB1.out) | (with_reducible refine Below.call ?_ HB2.out) ))
  · have HK := Lib.hid (fun w => rright_f hr w)
    rw [chV_no (chE_no n hr) (by decide), chE_no n hr]
    clear hr hn
    go_enter Try.func36, Try.ntmps36
    go_wp2_with fail
    refine (HK.out _).mono ?_
    rintro e w1 ⟨rfl, hb1⟩
    obtain ⟨hc1, hf1⟩ := bcell hb1
    have HB1 := Lib.hid hb1
    have hz1_0 : w.heap.size < w1.heap.size := by (have := hb1.size; (try simp at this) <;> omega)
    have hz1_1 : w.heap.size + 1 < w1.heap.size := by (have := hb1.size; (try simp at this) <;> omega)
    clear hb1
    go_wp2
    refine bodyPost_ret (v := .tuple #[.agg #[.int .i64 0, .int .i64 0, .int .i64 0], .int .i64 100]) (by simp [results, Try.results36, go_sem, hc1]) rfl ⟨rfl, ?_⟩
    (repeat (first | exact Below.refl _ _ | (with_reducible refine Below.st ?_ (by simp <;> omega)) | (with_reducible refine Below.al ?_ _) | (with_reducible refine Below.call ?_ HB1.out) ))

set_option maxRecDepth 100000 in
set_option maxHeartbeats 4000000 in
theorem rpour_any (x : Ce) (n : Int) (hn : fits n) (w : World) : Calls Try.prog 37 #[x.v, .int .i64 n] w fun e w' => e = .returned (ceE (chV x (max n 0)) (chE x (max n 0))) ∧ Below w.heap.size w w' := by
  obtain ⟨a, b, c⟩ := x
  by_cases hr : (Ce.mk a b c).Right
  · have HK := Lib.hid (fun w => rright_t hr w)
    by_cases h1 : n < 1
    · rw [max_lo h1]
      rw [chV_no (chE_0 hr) (by decide), chE_0 hr]
      clear hr hn
      go_enter Try.func37, Try.ntmps37
      go_wp2_with fail
      refine (HK.out _).mono ?_
      rintro e w1 ⟨rfl, hb1⟩
      obtain ⟨hc1, hf1⟩ := bcell hb1
      have HB1 := Lib.hid hb1
      have hz1_0 : w.heap.size < w1.heap.size := by (have := hb1.size; (try simp at this) <;> omega)
      have hz1_1 : w.heap.size + 1 < w1.heap.size := by (have := hb1.size; (try simp at this) <;> omega)
      clear hb1
      go_wp2
      refine bodyPost_ret (v := .tuple #[.agg #[.int .i64 0, .int .i64 0, .int .i64 0], .int .i64 1]) (by simp [results, Try.results37, go_sem, hc1]) rfl ⟨rfl, ?_⟩
      (repeat (first | exact Below.refl _ _ | (with_reducible refine Below.st ?_ (by simp <;> omega)) | (with_reducible refine Below.al ?_ _) | (with_reducible refine Below.call ?_ HB1.out) ))
    · rw [max_hi h1]
      have HC := Lib.hid (fun w => rchange_any ⟨a, b, c⟩ (n) (by unfold fits at *; omega) w)
      generalize chV ⟨a, b, c⟩ (n) = y at *
      generalize chE ⟨a, b, c⟩ (n) = z at *
      obtain ⟨p, q, r⟩ := y
      unfold fits at hn
      clear hr
      go_enter Try.func37, Try.ntmps37
      go_wp2_with fail
      refine (HK.out _).mono ?_
      rintro e w1 ⟨rfl, hb1⟩
      obtain ⟨hc1, hf1⟩ := bcell hb1
      have HB1 := Lib.hid hb1
      have hz1_0 : w.heap.size < w1.heap.size := by (have := hb1.size; (try simp at this) <;> omega)
      have hz1_1 : w.heap.size + 1 < w1.heap.size := by (have := hb1.size; (try simp at this) <;> omega)
      clear hb1
      go_wp2_with fail
      refine (HC.out _).mono ?_
      rintro e w2 ⟨rfl, hb2⟩
      obtain ⟨hc2, hf2⟩ := bcell hb2
      have HB2 := Lib.hid hb2
      have hz2_0 : w.heap.size < w2.heap.size := by (have := hb2.size; (try simp at this) <;> omega)
      have hz2_1 : w.heap.size + 1 < w2.heap.size := by (have := hb2.size; (try simp at this) <;> omega)
      clear hb2
      go_wp2
      refine bodyPost_ret (v := .tuple #[.agg #[.int .i64 p, .int .i64 q, .int .i64 r], .int .i64 z]) (by simp [results, Try.results37, go_sem, hc1, hc2, hz1_1]) rfl ⟨rfl, ?_⟩
      (repeat (first | exact Below.refl _ _ | (with_reducible refine Below.st ?_ (by simp <;> omega)) | (with_reducible refine Below.al ?_ _) | (with_reducible refine Below.call ?_ HB1.out) | (with_reducible refine Below.call ?_ HB2.out) ))
  · have HK := Lib.hid (fun w => rright_f hr w)
    have HC := Lib.hid (fun w => rchange_any ⟨a, b, c⟩ n hn w)
    rw [chV_no (chE_no n hr) (by decide), chE_no n hr] at HC
    rw [chV_no (chE_no (max n 0) hr) (by decide), chE_no (max n 0) hr]
    clear hr hn
    go_enter Try.func37, Try.ntmps37
    go_wp2_with fail
    refine (HK.out _).mono ?_
    rintro e w1 ⟨rfl, hb1⟩
    obtain ⟨hc1, hf1⟩ := bcell hb1
    have HB1 := Lib.hid hb1
    have hz1_0 : w.heap.size < w1.heap.size := by (have := hb1.size; (try simp at this) <;> omega)
    have hz1_1 : w.heap.size + 1 < w1.heap.size := by (have := hb1.size; (try simp at this) <;> omega)
    clear hb1
    go_wp2_with fail
    refine (HC.out _).mono ?_
    rintro e w2 ⟨rfl, hb2⟩
    obtain ⟨hc2, hf2⟩ := bcell hb2
    have HB2 := Lib.hid hb2
    have hz2_0 : w.heap.size < w2.heap.size := by (have := hb2.size; (try simp at this) <;> omega)
    have hz2_1 : w.heap.size + 1 < w2.heap.size := by (have := hb2.size; (try simp at this) <;> omega)
    clear hb2
    go_wp2
    refine bodyPost_ret (v := .tuple #[.agg #[.int .i64 0, .int .i64 0, .int .i64 0], .int .i64 100]) (by simp [results, Try.results37, go_sem, hc1, hc2, hz1_1, nought]) rfl ⟨rfl, ?_⟩
    (repeat (first | exact Below.refl _ _ | (with_reducible refine Below.st ?_ (by simp <;> omega)) | (with_reducible refine Below.al ?_ _) | (with_reducible refine Below.call ?_ HB1.out) | (with_reducible refine Below.call ?_ HB2.out) ))

set_option maxRecDepth 100000 in
set_option maxHeartbeats 4000000 in
theorem rdraw_any (x : Ce) (n : Int) (hn : fits n) (w : World) : Calls Try.prog 38 #[x.v, .int .i64 n] w fun e w' => e = .returned (ceE (chV x (-(max n 0))) (chE x (-(max n 0)))) ∧ Below w.heap.size w w' := by
  obtain ⟨a, b, c⟩ := x
  by_cases hr : (Ce.mk a b c).Right
  · have HK := Lib.hid (fun w => rright_t hr w)
    by_cases h1 : n < 1
    · rw [max_lo h1]
      rw [Int.neg_zero]
      rw [chV_no (chE_0 hr) (by decide), chE_0 hr]
      clear hr hn
      go_enter Try.func38, Try.ntmps38
      go_wp2_with fail
      refine (HK.out _).mono ?_
      rintro e w1 ⟨rfl, hb1⟩
      obtain ⟨hc1, hf1⟩ := bcell hb1
      have HB1 := Lib.hid hb1
      have hz1_0 : w.heap.size < w1.heap.size := by (have := hb1.size; (try simp at this) <;> omega)
      have hz1_1 : w.heap.size + 1 < w1.heap.size := by (have := hb1.size; (try simp at this) <;> omega)
      clear hb1
      go_wp2
      refine bodyPost_ret (v := .tuple #[.agg #[.int .i64 0, .int .i64 0, .int .i64 0], .int .i64 1]) (by simp [results, Try.results38, go_sem, hc1]) rfl ⟨rfl, ?_⟩
      (repeat (first | exact Below.refl _ _ | (with_reducible refine Below.st ?_ (by simp <;> omega)) | (with_reducible refine Below.al ?_ _) | (with_reducible refine Below.call ?_ HB1.out) ))
    · rw [max_hi h1]
      have HC := Lib.hid (fun w => rchange_any ⟨a, b, c⟩ (-n) (by unfold fits at *; omega) w)
      generalize chV ⟨a, b, c⟩ (-n) = y at *
      generalize chE ⟨a, b, c⟩ (-n) = z at *
      obtain ⟨p, q, r⟩ := y
      unfold fits at hn
      clear hr
      go_enter Try.func38, Try.ntmps38
      go_wp2_with fail
      refine (HK.out _).mono ?_
      rintro e w1 ⟨rfl, hb1⟩
      obtain ⟨hc1, hf1⟩ := bcell hb1
      have HB1 := Lib.hid hb1
      have hz1_0 : w.heap.size < w1.heap.size := by (have := hb1.size; (try simp at this) <;> omega)
      have hz1_1 : w.heap.size + 1 < w1.heap.size := by (have := hb1.size; (try simp at this) <;> omega)
      clear hb1
      go_wp2_with fail
      refine (HC.out _).mono ?_
      rintro e w2 ⟨rfl, hb2⟩
      obtain ⟨hc2, hf2⟩ := bcell hb2
      have HB2 := Lib.hid hb2
      have hz2_0 : w.heap.size < w2.heap.size := by (have := hb2.size; (try simp at this) <;> omega)
      have hz2_1 : w.heap.size + 1 < w2.heap.size := by (have := hb2.size; (try simp at this) <;> omega)
      clear hb2
      go_wp2
      refine bodyPost_ret (v := .tuple #[.agg #[.int .i64 p, .int .i64 q, .int .i64 r], .int .i64 z]) (by simp [results, Try.results38, go_sem, hc1, hc2, hz1_1]) rfl ⟨rfl, ?_⟩
      (repeat (first | exact Below.refl _ _ | (with_reducible refine Below.st ?_ (by simp <;> omega)) | (with_reducible refine Below.al ?_ _) | (with_reducible refine Below.call ?_ HB1.out) | (with_reducible refine Below.call ?_ HB2.out) ))
  · have HK := Lib.hid (fun w => rright_f hr w)
    rw [chV_no (chE_no (-(max n 0)) hr) (by decide), chE_no (-(max n 0)) hr]
    by_cases h1 : n < 1
    · clear hr hn
      go_enter Try.func38, Try.ntmps38
      go_wp2_with fail
      refine (HK.out _).mono ?_
      rintro e w1 ⟨rfl, hb1⟩
      obtain ⟨hc1, hf1⟩ := bcell hb1
      have HB1 := Lib.hid hb1
      have hz1_0 : w.heap.size < w1.heap.size := by (have := hb1.size; (try simp at this) <;> omega)
      have hz1_1 : w.heap.size + 1 < w1.heap.size := by (have := hb1.size; (try simp at this) <;> omega)
      clear hb1
      go_wp2
      refine bodyPost_ret (v := .tuple #[.agg #[.int .i64 0, .int .i64 0, .int .i64 0], .int .i64 100]) (by simp [results, Try.results38, go_sem, hc1]) rfl ⟨rfl, ?_⟩
      (repeat (first | exact Below.refl _ _ | (with_reducible refine Below.st ?_ (by simp <;> omega)) | (with_reducible refine Below.al ?_ _) | (with_reducible refine Below.call ?_ HB1.out) ))
    · have HC := Lib.hid (fun w => rchange_any ⟨a, b, c⟩ (-n) (by unfold fits at *; omega) w)
      rw [chV_no (chE_no (-n) hr) (by decide), chE_no (-n) hr] at HC
      unfold fits at hn
      clear hr
      go_enter Try.func38, Try.ntmps38
      go_wp2_with fail
      refine (HK.out _).mono ?_
      rintro e w1 ⟨rfl, hb1⟩
      obtain ⟨hc1, hf1⟩ := bcell hb1
      have HB1 := Lib.hid hb1
      have hz1_0 : w.heap.size < w1.heap.size := by (have := hb1.size; (try simp at this) <;> omega)
      have hz1_1 : w.heap.size + 1 < w1.heap.size := by (have := hb1.size; (try simp at this) <;> omega)
      clear hb1
      go_wp2_with fail
      refine (HC.out _).mono ?_
      rintro e w2 ⟨rfl, hb2⟩
      obtain ⟨hc2, hf2⟩ := bcell hb2
      have HB2 := Lib.hid hb2
      have hz2_0 : w.heap.size < w2.heap.size := by (have := hb2.size; (try simp at this) <;> omega)
      have hz2_1 : w.heap.size + 1 < w2.heap.size := by (have := hb2.size; (try simp at this) <;> omega)
      clear hb2
      go_wp2
      refine bodyPost_ret (v := .tuple #[.agg #[.int .i64 0, .int .i64 0, .int .i64 0], .int .i64 100]) (by simp [results, Try.results38, go_sem, hc1, hc2, hz1_1, nought]) rfl ⟨rfl, ?_⟩
      (repeat (first | exact Below.refl _ _ | (with_reducible refine Below.st ?_ (by simp <;> omega)) | (with_reducible refine Below.al ?_ _) | (with_reducible refine Below.call ?_ HB1.out) | (with_reducible refine Below.call ?_ HB2.out) ))
end Go.Proofs.Ytlgpnjbhmoomfaa
