/- What becomes of a cell: what the program and the reference answer. -/
import Derived.Test.YtlgpnjbhmoomfaaGA
import Derived.Test.YtlgpnjbhmoomfaaNA
namespace Go.Proofs.Ytlgpnjbhmoomfaa
open Go.RowKit

abbrev ceV (a b c : Int) : Value := .agg #[.int .i64 a, .int .i64 b, .int .i64 c]
/-- A cell and an error. -/
abbrev ceE (x : Ce) (e : Int) : Value := .tuple #[.agg #[.int .i64 x.a, .int .i64 x.b, .int .i64 x.c], .int .i64 e]
theorem right_t {a b c : Int} (h : (Ce.mk a b c).Right) (w : World) : Calls Try.prog 41 #[.agg #[.int .i64 a, .int .i64 b, .int .i64 c]] w fun e w' => e = .returned (.bool true) ∧ Below w.heap.size w w' := by
  have := right_any ⟨a, b, c⟩ w
  rwa [show rightB ⟨a, b, c⟩ = true from decide_eq_true h] at this
theorem right_f {a b c : Int} (h : ¬ (Ce.mk a b c).Right) (w : World) : Calls Try.prog 41 #[.agg #[.int .i64 a, .int .i64 b, .int .i64 c]] w fun e w' => e = .returned (.bool false) ∧ Below w.heap.size w w' := by
  have := right_any ⟨a, b, c⟩ w
  rwa [show rightB ⟨a, b, c⟩ = false from decide_eq_false h] at this
theorem rright_t {a b c : Int} (h : (Ce.mk a b c).Right) (w : World) : Calls Try.prog 39 #[.agg #[.int .i64 a, .int .i64 b, .int .i64 c]] w fun e w' => e = .returned (.bool true) ∧ Below w.heap.size w w' := by
  have := rright_any ⟨a, b, c⟩ w
  rwa [show rightB ⟨a, b, c⟩ = true from decide_eq_true h] at this
theorem rright_f {a b c : Int} (h : ¬ (Ce.mk a b c).Right) (w : World) : Calls Try.prog 39 #[.agg #[.int .i64 a, .int .i64 b, .int .i64 c]] w fun e w' => e = .returned (.bool false) ∧ Below w.heap.size w w' := by
  have := rright_any ⟨a, b, c⟩ w
  rwa [show rightB ⟨a, b, c⟩ = false from decide_eq_false h] at this

set_option maxRecDepth 100000 in
set_option maxHeartbeats 4000000 in
theorem change_any (x : Ce) (n : Int) (hx : x.Fit) (hn : fits n) (w : World) : Calls Try.prog 33 #[x.v, .int .i64 n] w fun e w' => e = .returned (ceE (chV x n) (chE x n)) ∧ Below w.heap.size w w' := by
  obtain ⟨a, b, c⟩ := x
  by_cases hr : (Ce.mk a b c).Right
  · have HK := Lib.hid (fun w => right_t hr w)
    have HR := Lib.hid hr
    obtain ⟨r1, r2, r3, r4, r5, r6⟩ := hr
    dsimp only at r1 r2 r3 r4 r5 r6
    have HA := Lib.hid (fun w => add_any b n hx.b hn w)
    have HN := Lib.hid hn
    clear hx hn
    by_cases h1 : n = 0
    · subst h1
      have T : chE ⟨a, b, c⟩ 0 = 1 := by unfold chE; rw [if_neg (by simpa using HR.out), if_pos rfl]
      have U : chV ⟨a, b, c⟩ 0 = nought := by unfold chV; rw [T]; rfl
      rw [T, U]
      go_enter Try.func33, Try.ntmps33
      go_wp2_with fail
      refine (HK.out _).mono ?_
      rintro e w1 ⟨rfl, hb1⟩
      obtain ⟨hc1, hf1⟩ := bcell hb1
      have HB1 := Lib.hid hb1
      have hz1_0 : w.heap.size < w1.heap.size := by (have := hb1.size; (try simp at this) <;> omega)
      have hz1_1 : w.heap.size + 1 < w1.heap.size := by (have := hb1.size; (try simp at this) <;> omega)
      clear hb1
      go_wp2
      refine bodyPost_ret (v := .tuple #[.agg #[.int .i64 0, .int .i64 0, .int .i64 0], .int .i64 1]) (by simp [results, Try.results33, go_sem, hc1]) rfl ⟨rfl, ?_⟩
      (repeat (first | exact Below.refl _ _ | (with_reducible refine Below.st ?_ (by simp <;> omega)) | (with_reducible refine Below.al ?_ _) | (with_reducible refine Below.call ?_ HB1.out) ))
    · by_cases h2 : c = 2147483647
      · have T : chE ⟨a, b, c⟩ n = 101 := by unfold chE; rw [if_neg (by simpa using HR.out), if_neg h1, if_pos h2]
        have U : chV ⟨a, b, c⟩ n = nought := by unfold chV; rw [T]; rfl
        rw [T, U]
        have q2 : (c == 2147483647) = true := by rw [beq_iff_eq]; exact h2
        clear T U h2
        go_enter Try.func33, Try.ntmps33
        go_wp2_with fail
        refine (HK.out _).mono ?_
        rintro e w1 ⟨rfl, hb1⟩
        obtain ⟨hc1, hf1⟩ := bcell hb1
        have HB1 := Lib.hid hb1
        have hz1_0 : w.heap.size < w1.heap.size := by (have := hb1.size; (try simp at this) <;> omega)
        have hz1_1 : w.heap.size + 1 < w1.heap.size := by (have := hb1.size; (try simp at this) <;> omega)
        clear hb1
        go_wp2
        refine bodyPost_ret (v := .tuple #[.agg #[.int .i64 0, .int .i64 0, .int .i64 0], .int .i64 101]) (by simp [results, Try.results33, go_sem, hc1]) rfl ⟨rfl, ?_⟩
        (repeat (first | exact Below.refl _ _ | (with_reducible refine Below.st ?_ (by simp <;> omega)) | (with_reducible refine Below.al ?_ _) | (with_reducible refine Below.call ?_ HB1.out) ))
      · by_cases h3 : fits (b + n)
        · have e1 : fitV (b + n) = b + n := if_pos h3
          have e2 : fitE (b + n) = 0 := if_pos h3
          rw [e1, e2] at HA
          clear e1 e2
          have H3 := Lib.hid h3
          clear h3
          by_cases h4 : b + n < 0
          · have T : chE ⟨a, b, c⟩ n = 102 := by unfold chE; rw [if_neg (by simpa using HR.out), if_neg h1, if_neg h2, if_pos h4]
            have U : chV ⟨a, b, c⟩ n = nought := by unfold chV; rw [T]; rfl
            rw [T, U]
            go_enter Try.func33, Try.ntmps33
            go_wp2_with fail
            refine (HK.out _).mono ?_
            rintro e w1 ⟨rfl, hb1⟩
            obtain ⟨hc1, hf1⟩ := bcell hb1
            have HB1 := Lib.hid hb1
            have hz1_0 : w.heap.size < w1.heap.size := by (have := hb1.size; (try simp at this) <;> omega)
            have hz1_1 : w.heap.size + 1 < w1.heap.size := by (have := hb1.size; (try simp at this) <;> omega)
            clear hb1
            go_wp2_with fail
            refine (HA.out _).mono ?_
            rintro e w2 ⟨rfl, rfl⟩
            go_wp2
            refine bodyPost_ret (v := .tuple #[.agg #[.int .i64 0, .int .i64 0, .int .i64 0], .int .i64 102]) (by simp [results, Try.results33, go_sem, hc1]) rfl ⟨rfl, ?_⟩
            (repeat (first | exact Below.refl _ _ | (with_reducible refine Below.st ?_ (by simp <;> omega)) | (with_reducible refine Below.al ?_ _) | (with_reducible refine Below.call ?_ HB1.out) ))
          · by_cases h5 : a < b + n
            · have T : chE ⟨a, b, c⟩ n = 103 := by unfold chE; rw [if_neg (by simpa using HR.out), if_neg h1, if_neg h2, if_neg h4, if_pos h5]
              have U : chV ⟨a, b, c⟩ n = nought := by unfold chV; rw [T]; rfl
              rw [T, U]
              go_enter Try.func33, Try.ntmps33
              go_wp2_with fail
              refine (HK.out _).mono ?_
              rintro e w1 ⟨rfl, hb1⟩
              obtain ⟨hc1, hf1⟩ := bcell hb1
              have HB1 := Lib.hid hb1
              have hz1_0 : w.heap.size < w1.heap.size := by (have := hb1.size; (try simp at this) <;> omega)
              have hz1_1 : w.heap.size + 1 < w1.heap.size := by (have := hb1.size; (try simp at this) <;> omega)
              clear hb1
              go_wp2_with fail
              refine (HA.out _).mono ?_
              rintro e w2 ⟨rfl, rfl⟩
              go_wp2
              refine bodyPost_ret (v := .tuple #[.agg #[.int .i64 0, .int .i64 0, .int .i64 0], .int .i64 103]) (by simp [results, Try.results33, go_sem, hc1]) rfl ⟨rfl, ?_⟩
              (repeat (first | exact Below.refl _ _ | (with_reducible refine Below.st ?_ (by simp <;> omega)) | (with_reducible refine Below.al ?_ _) | (with_reducible refine Below.call ?_ HB1.out) ))
            · have T : chE ⟨a, b, c⟩ n = 0 := by unfold chE; rw [if_neg (by simpa using HR.out), if_neg h1, if_neg h2, if_neg h4, if_neg h5]
              have U : chV ⟨a, b, c⟩ n = ⟨a, b + n, c + 1⟩ := by unfold chV; rw [if_pos T]
              rw [T, U]
              go_enter Try.func33, Try.ntmps33
              go_wp2_with fail
              refine (HK.out _).mono ?_
              rintro e w1 ⟨rfl, hb1⟩
              obtain ⟨hc1, hf1⟩ := bcell hb1
              have HB1 := Lib.hid hb1
              have hz1_0 : w.heap.size < w1.heap.size := by (have := hb1.size; (try simp at this) <;> omega)
              have hz1_1 : w.heap.size + 1 < w1.heap.size := by (have := hb1.size; (try simp at this) <;> omega)
              clear hb1
              go_wp2_with fail
              refine (HA.out _).mono ?_
              rintro e w2 ⟨rfl, rfl⟩
              go_wp2
              refine bodyPost_ret (v := .tuple #[.agg #[.int .i64 a, .int .i64 (b + n), .int .i64 (c + 1)], .int .i64 0]) (by simp [results, Try.results33, go_sem, hc1]) rfl ⟨rfl, ?_⟩
              (repeat (first | exact Below.refl _ _ | (with_reducible refine Below.st ?_ (by simp <;> omega)) | (with_reducible refine Below.al ?_ _) | (with_reducible refine Below.call ?_ HB1.out) ))
        · have hp : 0 < b + n := fits_add (a := b) r3 HN.out (by omega) h3
          have e1 : fitV (b + n) = 0 := if_neg h3
          have e2 : fitE (b + n) = 4 := if_neg h3
          rw [e1, e2] at HA
          have T : chE ⟨a, b, c⟩ n = 103 := by
            unfold fits at h3
            unfold chE; rw [if_neg (by simpa using HR.out), if_neg h1, if_neg h2, if_neg (show ¬ b + n < 0 by omega), if_pos (show a < b + n by omega)]
          have U : chV ⟨a, b, c⟩ n = nought := by unfold chV; rw [T]; rfl
          rw [T, U]
          clear e1 e2 h3 hp
          go_enter Try.func33, Try.ntmps33
          go_wp2_with fail
          refine (HK.out _).mono ?_
          rintro e w1 ⟨rfl, hb1⟩
          obtain ⟨hc1, hf1⟩ := bcell hb1
          have HB1 := Lib.hid hb1
          have hz1_0 : w.heap.size < w1.heap.size := by (have := hb1.size; (try simp at this) <;> omega)
          have hz1_1 : w.heap.size + 1 < w1.heap.size := by (have := hb1.size; (try simp at this) <;> omega)
          clear hb1
          go_wp2_with fail
          refine (HA.out _).mono ?_
          rintro e w2 ⟨rfl, rfl⟩
          go_wp2
          refine bodyPost_ret (v := .tuple #[.agg #[.int .i64 0, .int .i64 0, .int .i64 0], .int .i64 103]) (by simp [results, Try.results33, go_sem, hc1]) rfl ⟨rfl, ?_⟩
          (repeat (first | exact Below.refl _ _ | (with_reducible refine Below.st ?_ (by simp <;> omega)) | (with_reducible refine Below.al ?_ _) | (with_reducible refine Below.call ?_ HB1.out) ))
  · have HK := Lib.hid (fun w => right_f hr w)
    have T : chE ⟨a, b, c⟩ n = 100 := by unfold chE; rw [if_pos hr]
    have U : chV ⟨a, b, c⟩ n = nought := by unfold chV; rw [T]; rfl
    rw [T, U]
    clear hx hn hr
    go_enter Try.func33, Try.ntmps33
    go_wp2_with fail
    refine (HK.out _).mono ?_
    rintro e w1 ⟨rfl, hb1⟩
    obtain ⟨hc1, hf1⟩ := bcell hb1
    have HB1 := Lib.hid hb1
    have hz1_0 : w.heap.size < w1.heap.size := by (have := hb1.size; (try simp at this) <;> omega)
    have hz1_1 : w.heap.size + 1 < w1.heap.size := by (have := hb1.size; (try simp at this) <;> omega)
    clear hb1
    go_wp2
    refine bodyPost_ret (v := .tuple #[.agg #[.int .i64 0, .int .i64 0, .int .i64 0], .int .i64 100]) (by simp [results, Try.results33, go_sem, hc1]) rfl ⟨rfl, ?_⟩
    (repeat (first | exact Below.refl _ _ | (with_reducible refine Below.st ?_ (by simp <;> omega)) | (with_reducible refine Below.al ?_ _) | (with_reducible refine Below.call ?_ HB1.out) ))
end Go.Proofs.Ytlgpnjbhmoomfaa
