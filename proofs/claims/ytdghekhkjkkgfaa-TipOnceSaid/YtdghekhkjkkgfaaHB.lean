/- Tips: taken and dropped, as the program and the reference tell it. -/
import Derived.Test.YtdghekhkjkkgfaaHA
namespace Go.Proofs.Ytdghekhkjkkgfaa
open Go.RowKit

def tkE (s b a : Int) : Int := if ofV s b = 0 then 120 else if armB a = false then 1 else if ofV s b = 1 then 0 else 121
def tkV (s b a : Int) : Int × Int := if tkE s b a = 0 then (2, a) else (0, 0)
def dpE (s b a : Int) : Int := if ofV s b = 0 then 120 else if armB a = false then 1 else if ofV s b = 2 ∧ b = a then 0 else 122
def dpV (s b a : Int) : Int × Int := if dpE s b a = 0 then (3, 0) else (0, 0)
abbrev tpE (x : Int × Int) (e : Int) : Value := .tuple #[.agg #[.int .i64 x.1, .int .i64 x.2], .int .i64 e]
theorem of_cases (s b : Int) : ofV s b = 0 ∨ ofV s b = s := by
  unfold ofV
  split
  · exact .inr rfl
  · split
    · right; omega
    · exact .inl rfl

set_option maxRecDepth 100000 in
theorem rright_any (s b : Int) (w : World) : Calls Try.prog 29 #[tpV s b] w fun e w' => e = .returned (.bool (!(ofV s b == 0))) ∧ Below w.heap.size w w' := by
  have HA := Lib.hid (fun w => rarm_any b w)
  by_cases h1 : s = 1
  · subst h1
    by_cases h0 : b = 0
    · subst h0
      go_enter Try.func29, Try.ntmps29
      go_wp2
      go_ret
      exact ⟨ret_b (by simp [ofV]), Below.al (Below.refl _ _) _⟩
    · rw [show ofV 1 b = 0 by unfold ofV; rw [if_neg (by omega), if_neg (by omega)]]
      go_enter Try.func29, Try.ntmps29
      go_wp2
      go_ret
      exact ⟨ret_b (by simpa using h0), Below.al (Below.refl _ _) _⟩
  · by_cases h3 : s = 3
    · subst h3
      by_cases h0 : b = 0
      · subst h0
        go_enter Try.func29, Try.ntmps29
        go_wp2
        go_ret
        exact ⟨ret_b (by simp [ofV]), Below.al (Below.refl _ _) _⟩
      · rw [show ofV 3 b = 0 by unfold ofV; rw [if_neg (by omega), if_neg (by omega)]]
        go_enter Try.func29, Try.ntmps29
        go_wp2
        go_ret
        exact ⟨ret_b (by simpa using h0), Below.al (Below.refl _ _) _⟩
    · by_cases h2 : s = 2
      · subst h2
        rw [show (!(ofV 2 b == 0)) = armB b by
          unfold ofV armB
          by_cases ha : 1 ≤ b ∧ b ≤ 8
          · rw [if_neg (by omega), if_pos ⟨rfl, ha⟩, decide_eq_true ha]; rfl
          · rw [if_neg (by omega), if_neg (by omega), decide_eq_false ha]; rfl]
        generalize armB b = c at *
        go_enter Try.func29, Try.ntmps29
        go_wp2_with fail
        refine (HA.out _).mono ?_
        rintro e w1 ⟨rfl, rfl⟩
        go_wp2
        go_ret
        exact ⟨ret_b (by simp), Below.al (Below.refl _ _) _⟩
      · rw [show ofV s b = 0 by unfold ofV; rw [if_neg (by omega), if_neg (by omega)]]
        go_enter Try.func29, Try.ntmps29
        go_wp2
        go_ret
        exact ⟨ret_b (by simp), Below.al (Below.refl _ _) _⟩
set_option maxRecDepth 100000 in
theorem holds_any (a s b : Int) (w : World) : Calls Try.prog 44 #[.int .i64 a, tpV s b] w fun e w' => e = .returned (.bool (ofV s b == 2 && b == a)) ∧ Below w.heap.size w w' := by
  have HA := Lib.hid (fun w => is_any 2 s b w)
  generalize (ofV s b == 2) = c at *
  cases c
  all_goals
    go_enter Try.func44, Try.ntmps44
    go_wp2_with fail
    refine (HA.out _).mono ?_
    rintro e w1 ⟨rfl, hb1⟩
    obtain ⟨hc1, hf1⟩ := bcell hb1
    have HB1 := Lib.hid hb1
    have hz1 : w.heap.size < w1.heap.size := by (have := hb1.size; (try simp at this) <;> omega)
    clear hb1
    go_wp2
    go_ret
    exact ⟨ret_b (by simp), Below.box _ HB1.out⟩

set_option maxRecDepth 100000 in
set_option maxHeartbeats 1000000 in
theorem turn_take (s b a : Int) (w : World) : Calls Try.prog 42 #[tpV s b, .int .i64 a, .func (.func 43) #[.int .i64 1] #[], .int .i64 121, tpV 2 a] w fun e w' => e = .returned (tpE (tkV s b a) (tkE s b a)) ∧ Below w.heap.size w w' := by
  have HR := Lib.hid (fun w => right_any s b w)
  have HA := Lib.hid (fun w => isArm_any a w)
  have HP := Lib.hid (fun w => is_any 1 s b w)
  by_cases h0 : ofV s b = 0
  · have T : tkE s b a = 120 := by unfold tkE; rw [if_pos h0]
    have U : tkV s b a = (0, 0) := by unfold tkV; rw [T]; rfl
    rw [T, U]
    rw [show (!(ofV s b == 0)) = false by simp [h0]] at HR
    clear T U h0
    go_enter Try.func42, Try.ntmps42
    go_wp2_with fail
    refine (HR.out _).mono ?_
    rintro e w1 ⟨rfl, hb1⟩
    obtain ⟨hc1, hf1⟩ := bcell hb1
    have HB1 := Lib.hid hb1
    have hz1_0 : w.heap.size < w1.heap.size := by (have := hb1.size; (try simp at this) <;> omega)
    have hz1_1 : w.heap.size + 1 < w1.heap.size := by (have := hb1.size; (try simp at this) <;> omega)
    have hz1_2 : w.heap.size + 2 < w1.heap.size := by (have := hb1.size; (try simp at this) <;> omega)
    clear hb1
    go_wp2
    refine bodyPost_ret (v := .tuple #[.agg #[.int .i64 0, .int .i64 0], .int .i64 120]) (by simp [results, Try.results42, go_sem, hc1]) rfl ⟨rfl, ?_⟩
    (repeat (first | exact Below.refl _ _ | (with_reducible refine Below.st ?_ (by simp <;> omega)) | (with_reducible refine Below.al ?_ _) | (with_reducible refine Below.call ?_ HB1.out)))
  · rw [show (!(ofV s b == 0)) = true by simp [h0]] at HR
    by_cases h1 : armB a = false
    · have T : tkE s b a = 1 := by unfold tkE; rw [if_neg h0, if_pos h1]
      have U : tkV s b a = (0, 0) := by unfold tkV; rw [T]; rfl
      rw [T, U]
      rw [h1] at HA
      clear T U h0 h1
      go_enter Try.func42, Try.ntmps42
      go_wp2_with fail
      refine (HR.out _).mono ?_
      rintro e w1 ⟨rfl, hb1⟩
      obtain ⟨hc1, hf1⟩ := bcell hb1
      have HB1 := Lib.hid hb1
      have hz1_0 : w.heap.size < w1.heap.size := by (have := hb1.size; (try simp at this) <;> omega)
      have hz1_1 : w.heap.size + 1 < w1.heap.size := by (have := hb1.size; (try simp at this) <;> omega)
      have hz1_2 : w.heap.size + 2 < w1.heap.size := by (have := hb1.size; (try simp at this) <;> omega)
      clear hb1
      go_wp2_with fail
      refine (HA.out _).mono ?_
      rintro e w2 ⟨rfl, rfl⟩
      go_wp2
      refine bodyPost_ret (v := .tuple #[.agg #[.int .i64 0, .int .i64 0], .int .i64 1]) (by simp [results, Try.results42, go_sem, hc1]) rfl ⟨rfl, ?_⟩
      (repeat (first | exact Below.refl _ _ | (with_reducible refine Below.st ?_ (by simp <;> omega)) | (with_reducible refine Below.al ?_ _) | (with_reducible refine Below.call ?_ HB1.out)))
    · rw [show armB a = true by simpa using h1] at HA
      by_cases h2 : ofV s b = 1
      · have T : tkE s b a = 0 := by unfold tkE; rw [if_neg h0, if_neg h1, if_pos h2]
        have U : tkV s b a = (2, a) := by unfold tkV; rw [if_pos T]
        rw [T, U]
        rw [show (ofV s b == 1) = true by simp [h2]] at HP
        clear T U h0 h1 h2
        go_enter Try.func42, Try.ntmps42
        go_wp2_with fail
        refine (HR.out _).mono ?_
        rintro e w1 ⟨rfl, hb1⟩
        obtain ⟨hc1, hf1⟩ := bcell hb1
        have HB1 := Lib.hid hb1
        have hz1_0 : w.heap.size < w1.heap.size := by (have := hb1.size; (try simp at this) <;> omega)
        have hz1_1 : w.heap.size + 1 < w1.heap.size := by (have := hb1.size; (try simp at this) <;> omega)
        have hz1_2 : w.heap.size + 2 < w1.heap.size := by (have := hb1.size; (try simp at this) <;> omega)
        clear hb1
        go_wp2_with fail
        refine (HA.out _).mono ?_
        rintro e w2 ⟨rfl, rfl⟩
        go_wp2_with fail
        refine (HP.out _).mono ?_
        rintro e w3 ⟨rfl, hb3⟩
        obtain ⟨hc3, hf3⟩ := bcell hb3
        have HB3 := Lib.hid hb3
        have hz3_0 : w.heap.size < w3.heap.size := by (have := hb3.size; (try simp at this) <;> omega)
        have hz3_1 : w.heap.size + 1 < w3.heap.size := by (have := hb3.size; (try simp at this) <;> omega)
        have hz3_2 : w.heap.size + 2 < w3.heap.size := by (have := hb3.size; (try simp at this) <;> omega)
        clear hb3
        go_wp2
        refine bodyPost_ret (v := .tuple #[.agg #[.int .i64 2, .int .i64 a], .int .i64 0]) (by simp [results, Try.results42, go_sem, hc1, hc3, hz1_2]) rfl ⟨rfl, ?_⟩
        (repeat (first | exact Below.refl _ _ | (with_reducible refine Below.st ?_ (by simp <;> omega)) | (with_reducible refine Below.al ?_ _) | (with_reducible refine Below.call ?_ HB1.out) | (with_reducible refine Below.call ?_ HB3.out)))
      · have T : tkE s b a = 121 := by unfold tkE; rw [if_neg h0, if_neg h1, if_neg h2]
        have U : tkV s b a = (0, 0) := by unfold tkV; rw [T]; rfl
        rw [T, U]
        rw [show (ofV s b == 1) = false by simpa using h2] at HP
        clear T U h0 h1 h2
        go_enter Try.func42, Try.ntmps42
        go_wp2_with fail
        refine (HR.out _).mono ?_
        rintro e w1 ⟨rfl, hb1⟩
        obtain ⟨hc1, hf1⟩ := bcell hb1
        have HB1 := Lib.hid hb1
        have hz1_0 : w.heap.size < w1.heap.size := by (have := hb1.size; (try simp at this) <;> omega)
        have hz1_1 : w.heap.size + 1 < w1.heap.size := by (have := hb1.size; (try simp at this) <;> omega)
        have hz1_2 : w.heap.size + 2 < w1.heap.size := by (have := hb1.size; (try simp at this) <;> omega)
        clear hb1
        go_wp2_with fail
        refine (HA.out _).mono ?_
        rintro e w2 ⟨rfl, rfl⟩
        go_wp2_with fail
        refine (HP.out _).mono ?_
        rintro e w3 ⟨rfl, hb3⟩
        obtain ⟨hc3, hf3⟩ := bcell hb3
        have HB3 := Lib.hid hb3
        have hz3_0 : w.heap.size < w3.heap.size := by (have := hb3.size; (try simp at this) <;> omega)
        have hz3_1 : w.heap.size + 1 < w3.heap.size := by (have := hb3.size; (try simp at this) <;> omega)
        have hz3_2 : w.heap.size + 2 < w3.heap.size := by (have := hb3.size; (try simp at this) <;> omega)
        clear hb3
        go_wp2
        refine bodyPost_ret (v := .tuple #[.agg #[.int .i64 0, .int .i64 0], .int .i64 121]) (by simp [results, Try.results42, go_sem, hc1, hc3, hz1_2]) rfl ⟨rfl, ?_⟩
        (repeat (first | exact Below.refl _ _ | (with_reducible refine Below.st ?_ (by simp <;> omega)) | (with_reducible refine Below.al ?_ _) | (with_reducible refine Below.call ?_ HB1.out) | (with_reducible refine Below.call ?_ HB3.out)))

set_option maxRecDepth 100000 in
set_option maxHeartbeats 1000000 in
theorem take_any (s b a : Int) (w : World) : Calls Try.prog 23 #[tpV s b, .int .i64 a] w fun e w' => e = .returned (tpE (tkV s b a) (tkE s b a)) ∧ Below w.heap.size w w' := by
  have HT := Lib.hid (fun w => turn_take s b a w)
  generalize tkV s b a = y at *
  generalize tkE s b a = z at *
  obtain ⟨p, q⟩ := y
  have hmf : ∀ (fn : Fn) (first cap : Array Value) (w : World), (Instr.makeFunc fn first cap).run Try.prog w = .ok (.func fn first cap) w := fun _ _ _ _ => rfl
  go_enter Try.func23, Try.ntmps23
  go_wp2_with fail
  refine (HT.out _).mono ?_
  rintro e w1 ⟨rfl, hb1⟩
  obtain ⟨hc1, hf1⟩ := bcell hb1
  have HB1 := Lib.hid hb1
  have hz1_0 : w.heap.size < w1.heap.size := by (have := hb1.size; (try simp at this) <;> omega)
  have hz1_1 : w.heap.size + 1 < w1.heap.size := by (have := hb1.size; (try simp at this) <;> omega)
  clear hb1
  go_wp2
  refine bodyPost_ret (v := .tuple #[.agg #[.int .i64 p, .int .i64 q], .int .i64 z]) (by simp [results, Try.results23, go_sem, hc1]) rfl ⟨rfl, ?_⟩
  (repeat (first | exact Below.refl _ _ | (with_reducible refine Below.st ?_ (by simp <;> omega)) | (with_reducible refine Below.al ?_ _) | (with_reducible refine Below.call ?_ HB1.out)))

set_option maxRecDepth 100000 in
set_option maxHeartbeats 1000000 in
theorem rtake_any (s b a : Int) (w : World) : Calls Try.prog 25 #[tpV s b, .int .i64 a] w fun e w' => e = .returned (tpE (tkV s b a) (tkE s b a)) ∧ Below w.heap.size w w' := by
  have HR := Lib.hid (fun w => rright_any s b w)
  have HA := Lib.hid (fun w => rarm_any a w)
  by_cases h0 : ofV s b = 0
  · have T : tkE s b a = 120 := by unfold tkE; rw [if_pos h0]
    have U : tkV s b a = (0, 0) := by unfold tkV; rw [T]; rfl
    rw [T, U]
    rw [show (!(ofV s b == 0)) = false by simp [h0]] at HR
    clear T U h0
    go_enter Try.func25, Try.ntmps25
    go_wp2_with fail
    refine (HR.out _).mono ?_
    rintro e w1 ⟨rfl, hb1⟩
    obtain ⟨hc1, hf1⟩ := bcell hb1
    have HB1 := Lib.hid hb1
    have hz1_0 : w.heap.size < w1.heap.size := by (have := hb1.size; (try simp at this) <;> omega)
    have hz1_1 : w.heap.size + 1 < w1.heap.size := by (have := hb1.size; (try simp at this) <;> omega)
    clear hb1
    go_wp2
    refine bodyPost_ret (v := .tuple #[.agg #[.int .i64 0, .int .i64 0], .int .i64 120]) (by simp [results, Try.results25, go_sem, hc1]) rfl ⟨rfl, ?_⟩
    (repeat (first | exact Below.refl _ _ | (with_reducible refine Below.st ?_ (by simp <;> omega)) | (with_reducible refine Below.al ?_ _) | (with_reducible refine Below.call ?_ HB1.out)))
  · rw [show (!(ofV s b == 0)) = true by simp [h0]] at HR
    have hs : ofV s b = s := (of_cases s b).resolve_left h0
    by_cases h1 : armB a = false
    · have T : tkE s b a = 1 := by unfold tkE; rw [if_neg h0, if_pos h1]
      have U : tkV s b a = (0, 0) := by unfold tkV; rw [T]; rfl
      rw [T, U]
      rw [h1] at HA
      clear T U h0 h1 hs
      go_enter Try.func25, Try.ntmps25
      go_wp2_with fail
      refine (HR.out _).mono ?_
      rintro e w1 ⟨rfl, hb1⟩
      obtain ⟨hc1, hf1⟩ := bcell hb1
      have HB1 := Lib.hid hb1
      have hz1_0 : w.heap.size < w1.heap.size := by (have := hb1.size; (try simp at this) <;> omega)
      have hz1_1 : w.heap.size + 1 < w1.heap.size := by (have := hb1.size; (try simp at this) <;> omega)
      clear hb1
      go_wp2_with fail
      refine (HA.out _).mono ?_
      rintro e w2 ⟨rfl, rfl⟩
      go_wp2
      refine bodyPost_ret (v := .tuple #[.agg #[.int .i64 0, .int .i64 0], .int .i64 1]) (by simp [results, Try.results25, go_sem, hc1]) rfl ⟨rfl, ?_⟩
      (repeat (first | exact Below.refl _ _ | (with_reducible refine Below.st ?_ (by simp <;> omega)) | (with_reducible refine Below.al ?_ _) | (with_reducible refine Below.call ?_ HB1.out)))
    · rw [show armB a = true by simpa using h1] at HA
      by_cases h2 : s = 1
      · have T : tkE s b a = 0 := by unfold tkE; rw [if_neg h0, if_neg h1, if_pos (hs.trans h2)]
        have U : tkV s b a = (2, a) := by unfold tkV; rw [if_pos T]
        rw [T, U]
        clear T U h0 h1 hs
        subst h2
        go_enter Try.func25, Try.ntmps25
        go_wp2_with fail
        refine (HR.out _).mono ?_
        rintro e w1 ⟨rfl, hb1⟩
        obtain ⟨hc1, hf1⟩ := bcell hb1
        have HB1 := Lib.hid hb1
        have hz1_0 : w.heap.size < w1.heap.size := by (have := hb1.size; (try simp at this) <;> omega)
        have hz1_1 : w.heap.size + 1 < w1.heap.size := by (have := hb1.size; (try simp at this) <;> omega)
        clear hb1
        go_wp2_with fail
        refine (HA.out _).mono ?_
        rintro e w2 ⟨rfl, rfl⟩
        go_wp2
        refine bodyPost_ret (v := .tuple #[.agg #[.int .i64 2, .int .i64 a], .int .i64 0]) (by simp [results, Try.results25, go_sem, hc1]) rfl ⟨rfl, ?_⟩
        (repeat (first | exact Below.refl _ _ | (with_reducible refine Below.st ?_ (by simp <;> omega)) | (with_reducible refine Below.al ?_ _) | (with_reducible refine Below.call ?_ HB1.out)))
      · have T : tkE s b a = 121 := by unfold tkE; rw [if_neg h0, if_neg h1, if_neg (by rw [hs]; exact h2)]
        have U : tkV s b a = (0, 0) := by unfold tkV; rw [T]; rfl
        rw [T, U]
        clear T U h0 h1 hs
        go_enter Try.func25, Try.ntmps25
        go_wp2_with fail
        refine (HR.out _).mono ?_
        rintro e w1 ⟨rfl, hb1⟩
        obtain ⟨hc1, hf1⟩ := bcell hb1
        have HB1 := Lib.hid hb1
        have hz1_0 : w.heap.size < w1.heap.size := by (have := hb1.size; (try simp at this) <;> omega)
        have hz1_1 : w.heap.size + 1 < w1.heap.size := by (have := hb1.size; (try simp at this) <;> omega)
        clear hb1
        go_wp2_with fail
        refine (HA.out _).mono ?_
        rintro e w2 ⟨rfl, rfl⟩
        go_wp2
        refine bodyPost_ret (v := .tuple #[.agg #[.int .i64 0, .int .i64 0], .int .i64 121]) (by simp [results, Try.results25, go_sem, hc1]) rfl ⟨rfl, ?_⟩
        (repeat (first | exact Below.refl _ _ | (with_reducible refine Below.st ?_ (by simp <;> omega)) | (with_reducible refine Below.al ?_ _) | (with_reducible refine Below.call ?_ HB1.out)))

set_option maxRecDepth 100000 in
set_option maxHeartbeats 1000000 in
theorem turn_drop (s b a : Int) (w : World) : Calls Try.prog 42 #[tpV s b, .int .i64 a, .func (.func 44) #[.int .i64 a] #[], .int .i64 122, tpV 3 0] w fun e w' => e = .returned (tpE (dpV s b a) (dpE s b a)) ∧ Below w.heap.size w w' := by
  have HR := Lib.hid (fun w => right_any s b w)
  have HA := Lib.hid (fun w => isArm_any a w)
  have HP := Lib.hid (fun w => holds_any a s b w)
  by_cases h0 : ofV s b = 0
  · have T : dpE s b a = 120 := by unfold dpE; rw [if_pos h0]
    have U : dpV s b a = (0, 0) := by unfold dpV; rw [T]; rfl
    rw [T, U]
    rw [show (!(ofV s b == 0)) = false by simp [h0]] at HR
    clear T U h0
    go_enter Try.func42, Try.ntmps42
    go_wp2_with fail
    refine (HR.out _).mono ?_
    rintro e w1 ⟨rfl, hb1⟩
    obtain ⟨hc1, hf1⟩ := bcell hb1
    have HB1 := Lib.hid hb1
    have hz1_0 : w.heap.size < w1.heap.size := by (have := hb1.size; (try simp at this) <;> omega)
    have hz1_1 : w.heap.size + 1 < w1.heap.size := by (have := hb1.size; (try simp at this) <;> omega)
    have hz1_2 : w.heap.size + 2 < w1.heap.size := by (have := hb1.size; (try simp at this) <;> omega)
    clear hb1
    go_wp2
    refine bodyPost_ret (v := .tuple #[.agg #[.int .i64 0, .int .i64 0], .int .i64 120]) (by simp [results, Try.results42, go_sem, hc1]) rfl ⟨rfl, ?_⟩
    (repeat (first | exact Below.refl _ _ | (with_reducible refine Below.st ?_ (by simp <;> omega)) | (with_reducible refine Below.al ?_ _) | (with_reducible refine Below.call ?_ HB1.out)))
  · rw [show (!(ofV s b == 0)) = true by simp [h0]] at HR
    by_cases h1 : armB a = false
    · have T : dpE s b a = 1 := by unfold dpE; rw [if_neg h0, if_pos h1]
      have U : dpV s b a = (0, 0) := by unfold dpV; rw [T]; rfl
      rw [T, U]
      rw [h1] at HA
      clear T U h0 h1
      go_enter Try.func42, Try.ntmps42
      go_wp2_with fail
      refine (HR.out _).mono ?_
      rintro e w1 ⟨rfl, hb1⟩
      obtain ⟨hc1, hf1⟩ := bcell hb1
      have HB1 := Lib.hid hb1
      have hz1_0 : w.heap.size < w1.heap.size := by (have := hb1.size; (try simp at this) <;> omega)
      have hz1_1 : w.heap.size + 1 < w1.heap.size := by (have := hb1.size; (try simp at this) <;> omega)
      have hz1_2 : w.heap.size + 2 < w1.heap.size := by (have := hb1.size; (try simp at this) <;> omega)
      clear hb1
      go_wp2_with fail
      refine (HA.out _).mono ?_
      rintro e w2 ⟨rfl, rfl⟩
      go_wp2
      refine bodyPost_ret (v := .tuple #[.agg #[.int .i64 0, .int .i64 0], .int .i64 1]) (by simp [results, Try.results42, go_sem, hc1]) rfl ⟨rfl, ?_⟩
      (repeat (first | exact Below.refl _ _ | (with_reducible refine Below.st ?_ (by simp <;> omega)) | (with_reducible refine Below.al ?_ _) | (with_reducible refine Below.call ?_ HB1.out)))
    · rw [show armB a = true by simpa using h1] at HA
      by_cases h2 : ofV s b = 2 ∧ b = a
      · have T : dpE s b a = 0 := by unfold dpE; rw [if_neg h0, if_neg h1, if_pos h2]
        have U : dpV s b a = (3, 0) := by unfold dpV; rw [if_pos T]
        rw [T, U]
        rw [show (ofV s b == 2 && b == a) = true by rw [h2.1, h2.2]; simp] at HP
        clear T U h0 h1 h2
        go_enter Try.func42, Try.ntmps42
        go_wp2_with fail
        refine (HR.out _).mono ?_
        rintro e w1 ⟨rfl, hb1⟩
        obtain ⟨hc1, hf1⟩ := bcell hb1
        have HB1 := Lib.hid hb1
        have hz1_0 : w.heap.size < w1.heap.size := by (have := hb1.size; (try simp at this) <;> omega)
        have hz1_1 : w.heap.size + 1 < w1.heap.size := by (have := hb1.size; (try simp at this) <;> omega)
        have hz1_2 : w.heap.size + 2 < w1.heap.size := by (have := hb1.size; (try simp at this) <;> omega)
        clear hb1
        go_wp2_with fail
        refine (HA.out _).mono ?_
        rintro e w2 ⟨rfl, rfl⟩
        go_wp2_with fail
        refine (HP.out _).mono ?_
        rintro e w3 ⟨rfl, hb3⟩
        obtain ⟨hc3, hf3⟩ := bcell hb3
        have HB3 := Lib.hid hb3
        have hz3_0 : w.heap.size < w3.heap.size := by (have := hb3.size; (try simp at this) <;> omega)
        have hz3_1 : w.heap.size + 1 < w3.heap.size := by (have := hb3.size; (try simp at this) <;> omega)
        have hz3_2 : w.heap.size + 2 < w3.heap.size := by (have := hb3.size; (try simp at this) <;> omega)
        clear hb3
        go_wp2
        refine bodyPost_ret (v := .tuple #[.agg #[.int .i64 3, .int .i64 0], .int .i64 0]) (by simp [results, Try.results42, go_sem, hc1, hc3, hz1_2]) rfl ⟨rfl, ?_⟩
        (repeat (first | exact Below.refl _ _ | (with_reducible refine Below.st ?_ (by simp <;> omega)) | (with_reducible refine Below.al ?_ _) | (with_reducible refine Below.call ?_ HB1.out) | (with_reducible refine Below.call ?_ HB3.out)))
      · have T : dpE s b a = 122 := by unfold dpE; rw [if_neg h0, if_neg h1, if_neg h2]
        have U : dpV s b a = (0, 0) := by unfold dpV; rw [T]; rfl
        rw [T, U]
        rw [show (ofV s b == 2 && b == a) = false by simpa using h2] at HP
        clear T U h0 h1 h2
        go_enter Try.func42, Try.ntmps42
        go_wp2_with fail
        refine (HR.out _).mono ?_
        rintro e w1 ⟨rfl, hb1⟩
        obtain ⟨hc1, hf1⟩ := bcell hb1
        have HB1 := Lib.hid hb1
        have hz1_0 : w.heap.size < w1.heap.size := by (have := hb1.size; (try simp at this) <;> omega)
        have hz1_1 : w.heap.size + 1 < w1.heap.size := by (have := hb1.size; (try simp at this) <;> omega)
        have hz1_2 : w.heap.size + 2 < w1.heap.size := by (have := hb1.size; (try simp at this) <;> omega)
        clear hb1
        go_wp2_with fail
        refine (HA.out _).mono ?_
        rintro e w2 ⟨rfl, rfl⟩
        go_wp2_with fail
        refine (HP.out _).mono ?_
        rintro e w3 ⟨rfl, hb3⟩
        obtain ⟨hc3, hf3⟩ := bcell hb3
        have HB3 := Lib.hid hb3
        have hz3_0 : w.heap.size < w3.heap.size := by (have := hb3.size; (try simp at this) <;> omega)
        have hz3_1 : w.heap.size + 1 < w3.heap.size := by (have := hb3.size; (try simp at this) <;> omega)
        have hz3_2 : w.heap.size + 2 < w3.heap.size := by (have := hb3.size; (try simp at this) <;> omega)
        clear hb3
        go_wp2
        refine bodyPost_ret (v := .tuple #[.agg #[.int .i64 0, .int .i64 0], .int .i64 122]) (by simp [results, Try.results42, go_sem, hc1, hc3, hz1_2]) rfl ⟨rfl, ?_⟩
        (repeat (first | exact Below.refl _ _ | (with_reducible refine Below.st ?_ (by simp <;> omega)) | (with_reducible refine Below.al ?_ _) | (with_reducible refine Below.call ?_ HB1.out) | (with_reducible refine Below.call ?_ HB3.out)))

set_option maxRecDepth 100000 in
set_option maxHeartbeats 1000000 in
theorem drop_any (s b a : Int) (w : World) : Calls Try.prog 24 #[tpV s b, .int .i64 a] w fun e w' => e = .returned (tpE (dpV s b a) (dpE s b a)) ∧ Below w.heap.size w w' := by
  have HT := Lib.hid (fun w => turn_drop s b a w)
  generalize dpV s b a = y at *
  generalize dpE s b a = z at *
  obtain ⟨p, q⟩ := y
  have hmf : ∀ (fn : Fn) (first cap : Array Value) (w : World), (Instr.makeFunc fn first cap).run Try.prog w = .ok (.func fn first cap) w := fun _ _ _ _ => rfl
  go_enter Try.func24, Try.ntmps24
  go_wp2_with fail
  refine (HT.out _).mono ?_
  rintro e w1 ⟨rfl, hb1⟩
  obtain ⟨hc1, hf1⟩ := bcell hb1
  have HB1 := Lib.hid hb1
  have hz1_0 : w.heap.size < w1.heap.size := by (have := hb1.size; (try simp at this) <;> omega)
  have hz1_1 : w.heap.size + 1 < w1.heap.size := by (have := hb1.size; (try simp at this) <;> omega)
  clear hb1
  go_wp2
  refine bodyPost_ret (v := .tuple #[.agg #[.int .i64 p, .int .i64 q], .int .i64 z]) (by simp [results, Try.results24, go_sem, hc1]) rfl ⟨rfl, ?_⟩
  (repeat (first | exact Below.refl _ _ | (with_reducible refine Below.st ?_ (by simp <;> omega)) | (with_reducible refine Below.al ?_ _) | (with_reducible refine Below.call ?_ HB1.out)))

set_option maxRecDepth 100000 in
set_option maxHeartbeats 1000000 in
theorem rdrop_any (s b a : Int) (w : World) : Calls Try.prog 26 #[tpV s b, .int .i64 a] w fun e w' => e = .returned (tpE (dpV s b a) (dpE s b a)) ∧ Below w.heap.size w w' := by
  have HR := Lib.hid (fun w => rright_any s b w)
  have HA := Lib.hid (fun w => rarm_any a w)
  by_cases h0 : ofV s b = 0
  · have T : dpE s b a = 120 := by unfold dpE; rw [if_pos h0]
    have U : dpV s b a = (0, 0) := by unfold dpV; rw [T]; rfl
    rw [T, U]
    rw [show (!(ofV s b == 0)) = false by simp [h0]] at HR
    clear T U h0
    go_enter Try.func26, Try.ntmps26
    go_wp2_with fail
    refine (HR.out _).mono ?_
    rintro e w1 ⟨rfl, hb1⟩
    obtain ⟨hc1, hf1⟩ := bcell hb1
    have HB1 := Lib.hid hb1
    have hz1_0 : w.heap.size < w1.heap.size := by (have := hb1.size; (try simp at this) <;> omega)
    have hz1_1 : w.heap.size + 1 < w1.heap.size := by (have := hb1.size; (try simp at this) <;> omega)
    clear hb1
    go_wp2
    refine bodyPost_ret (v := .tuple #[.agg #[.int .i64 0, .int .i64 0], .int .i64 120]) (by simp [results, Try.results26, go_sem, hc1]) rfl ⟨rfl, ?_⟩
    (repeat (first | exact Below.refl _ _ | (with_reducible refine Below.st ?_ (by simp <;> omega)) | (with_reducible refine Below.al ?_ _) | (with_reducible refine Below.call ?_ HB1.out)))
  · rw [show (!(ofV s b == 0)) = true by simp [h0]] at HR
    have hs : ofV s b = s := (of_cases s b).resolve_left h0
    by_cases h1 : armB a = false
    · have T : dpE s b a = 1 := by unfold dpE; rw [if_neg h0, if_pos h1]
      have U : dpV s b a = (0, 0) := by unfold dpV; rw [T]; rfl
      rw [T, U]
      rw [h1] at HA
      clear T U h0 h1 hs
      go_enter Try.func26, Try.ntmps26
      go_wp2_with fail
      refine (HR.out _).mono ?_
      rintro e w1 ⟨rfl, hb1⟩
      obtain ⟨hc1, hf1⟩ := bcell hb1
      have HB1 := Lib.hid hb1
      have hz1_0 : w.heap.size < w1.heap.size := by (have := hb1.size; (try simp at this) <;> omega)
      have hz1_1 : w.heap.size + 1 < w1.heap.size := by (have := hb1.size; (try simp at this) <;> omega)
      clear hb1
      go_wp2_with fail
      refine (HA.out _).mono ?_
      rintro e w2 ⟨rfl, rfl⟩
      go_wp2
      refine bodyPost_ret (v := .tuple #[.agg #[.int .i64 0, .int .i64 0], .int .i64 1]) (by simp [results, Try.results26, go_sem, hc1]) rfl ⟨rfl, ?_⟩
      (repeat (first | exact Below.refl _ _ | (with_reducible refine Below.st ?_ (by simp <;> omega)) | (with_reducible refine Below.al ?_ _) | (with_reducible refine Below.call ?_ HB1.out)))
    · rw [show armB a = true by simpa using h1] at HA
      by_cases h2 : s = 2
      · by_cases h3 : b = a
        · have T : dpE s b a = 0 := by unfold dpE; rw [if_neg h0, if_neg h1, if_pos ⟨hs.trans h2, h3⟩]
          have U : dpV s b a = (3, 0) := by unfold dpV; rw [if_pos T]
          rw [T, U]
          clear T U h0 h1 hs
          subst h2 h3
          go_enter Try.func26, Try.ntmps26
          go_wp2_with fail
          refine (HR.out _).mono ?_
          rintro e w1 ⟨rfl, hb1⟩
          obtain ⟨hc1, hf1⟩ := bcell hb1
          have HB1 := Lib.hid hb1
          have hz1_0 : w.heap.size < w1.heap.size := by (have := hb1.size; (try simp at this) <;> omega)
          have hz1_1 : w.heap.size + 1 < w1.heap.size := by (have := hb1.size; (try simp at this) <;> omega)
          clear hb1
          go_wp2_with fail
          refine (HA.out _).mono ?_
          rintro e w2 ⟨rfl, rfl⟩
          go_wp2
          refine bodyPost_ret (v := .tuple #[.agg #[.int .i64 3, .int .i64 0], .int .i64 0]) (by simp [results, Try.results26, go_sem, hc1]) rfl ⟨rfl, ?_⟩
          (repeat (first | exact Below.refl _ _ | (with_reducible refine Below.st ?_ (by simp <;> omega)) | (with_reducible refine Below.al ?_ _) | (with_reducible refine Below.call ?_ HB1.out)))
        · have T : dpE s b a = 122 := by unfold dpE; rw [if_neg h0, if_neg h1, if_neg (fun k => h3 k.2)]
          have U : dpV s b a = (0, 0) := by unfold dpV; rw [T]; rfl
          rw [T, U]
          clear T U h0 h1 hs
          subst h2
          go_enter Try.func26, Try.ntmps26
          go_wp2_with fail
          refine (HR.out _).mono ?_
          rintro e w1 ⟨rfl, hb1⟩
          obtain ⟨hc1, hf1⟩ := bcell hb1
          have HB1 := Lib.hid hb1
          have hz1_0 : w.heap.size < w1.heap.size := by (have := hb1.size; (try simp at this) <;> omega)
          have hz1_1 : w.heap.size + 1 < w1.heap.size := by (have := hb1.size; (try simp at this) <;> omega)
          clear hb1
          go_wp2_with fail
          refine (HA.out _).mono ?_
          rintro e w2 ⟨rfl, rfl⟩
          go_wp2
          refine bodyPost_ret (v := .tuple #[.agg #[.int .i64 0, .int .i64 0], .int .i64 122]) (by simp [results, Try.results26, go_sem, hc1]) rfl ⟨rfl, ?_⟩
          (repeat (first | exact Below.refl _ _ | (with_reducible refine Below.st ?_ (by simp <;> omega)) | (with_reducible refine Below.al ?_ _) | (with_reducible refine Below.call ?_ HB1.out)))
      · have T : dpE s b a = 122 := by unfold dpE; rw [if_neg h0, if_neg h1, if_neg (fun k => h2 (hs.symm.trans k.1))]
        have U : dpV s b a = (0, 0) := by unfold dpV; rw [T]; rfl
        rw [T, U]
        clear T U h0 h1 hs
        go_enter Try.func26, Try.ntmps26
        go_wp2_with fail
        refine (HR.out _).mono ?_
        rintro e w1 ⟨rfl, hb1⟩
        obtain ⟨hc1, hf1⟩ := bcell hb1
        have HB1 := Lib.hid hb1
        have hz1_0 : w.heap.size < w1.heap.size := by (have := hb1.size; (try simp at this) <;> omega)
        have hz1_1 : w.heap.size + 1 < w1.heap.size := by (have := hb1.size; (try simp at this) <;> omega)
        clear hb1
        go_wp2_with fail
        refine (HA.out _).mono ?_
        rintro e w2 ⟨rfl, rfl⟩
        go_wp2
        refine bodyPost_ret (v := .tuple #[.agg #[.int .i64 0, .int .i64 0], .int .i64 122]) (by simp [results, Try.results26, go_sem, hc1]) rfl ⟨rfl, ?_⟩
        (repeat (first | exact Below.refl _ _ | (with_reducible refine Below.st ?_ (by simp <;> omega)) | (with_reducible refine Below.al ?_ _) | (with_reducible refine Below.call ?_ HB1.out)))
end Go.Proofs.Ytdghekhkjkkgfaa
