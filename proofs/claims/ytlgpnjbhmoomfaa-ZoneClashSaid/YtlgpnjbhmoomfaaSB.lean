/- Spans. -/
import Derived.Test.YtlgpnjbhmoomfaaChecked
import Derived.Test.YtlgpnjbhmoomfaaMA
import Derived.WalkKit
import Derived.WalkLawsBesides
import Derived.WalkSpells
import Derived.Outline
import Derived.KernelRfl
import Derived.Lib.Hide
namespace Go.Proofs.Ytlgpnjbhmoomfaa.Sp
open Go.RowKit

/-- Two whole numbers as a struct's value. -/
abbrev sv (x y : Int) : Value := .agg #[.int .i64 x, .int .i64 y]
/-- What two spans have in common. -/
def cutV (a b : Int × Int) : Int × Int := if max a.1 b.1 ≤ min a.2 b.2 then (max a.1 b.1, min a.2 b.2) else (0, -1)
def meetsB (a b : Int × Int) : Bool := decide (max a.1 b.1 ≤ min a.2 b.2)
def hullV (a b : Int × Int) : Int × Int := if a.2 < a.1 then (if b.2 < b.1 then (0, -1) else b) else if b.2 < b.1 then a else (min a.1 b.1, max a.2 b.2)
def hasB (a : Int × Int) (n : Int) : Bool := decide (a.1 ≤ n ∧ n ≤ a.2)
def lenV (a : Int × Int) : Int := if a.2 < a.1 then 0 else if a.2 - a.1 < 9223372036854775807 then a.2 - a.1 + 1 else 9223372036854775807

set_option maxHeartbeats 400000 in
theorem empty_any (a b : Int) (w : World) : Calls Try.prog 86 #[.agg #[.int .i64 a, .int .i64 b]] w fun e w' => e = .returned (.bool (decide (b < a))) ∧ Below w.heap.size w w' := by
  go_enter Try.func86, Try.ntmps86
  go_wp2
  go_ret
  exact ⟨ret_b rfl, (Below.refl _ _).alloc (Nat.le_refl _) _⟩
set_option maxHeartbeats 400000 in
theorem none_any (w : World) : Calls Try.prog 85 #[] w fun e w' => e = .returned (.agg #[.int .i64 0, .int .i64 (-1)]) ∧ Below w.heap.size w w' := by
  go_enter Try.func85, Try.ntmps85
  go_wp2
  exact bodyPost_ret (v := .agg #[.int .i64 0, .int .i64 (-1)]) (by simp [results, Try.results85, go_sem]) rfl ⟨rfl, (Below.refl _ _).alloc (Nat.le_refl _) _⟩
/-- Behind a call that makes memory all that was there is as it was. -/
theorem bcell {W w1 : World} (hb : Below W.heap.size W w1) : (∀ b o, b < W.heap.size → w1.cell? ⟨b, o, none⟩ = W.cell? ⟨b, o, none⟩) ∧ (∀ b o, b < W.heap.size → w1.frozen? ⟨b, o, none⟩ = W.frozen? ⟨b, o, none⟩) :=
  ⟨fun b o h => hb.cell (p := ⟨b, o, none⟩) h, fun b o h => hb.frozen (p := ⟨b, o, none⟩) h⟩
theorem Below.al {w w' : World} (h : Below w.heap.size w w') (o : Obj) : Below w.heap.size w (w'.alloc o) := h.alloc h.size o
theorem Below.call {w w' w'' : World} (h : Below w.heap.size w w') (k : Below w'.heap.size w' w'') : Below w.heap.size w w'' := h.trans (k.mono h.size)
theorem Below.st {w w' : World} {p : Addr} {v : Value} (h : Below w.heap.size w w') (hp : w.heap.size ≤ p.block) : Below w.heap.size w (w'.setCell p v) := h.setCell hp v
theorem cutV_no {a b c d : Int} (h : min b d < max a c) : cutV (a, b) (c, d) = (0, -1) := by rw [cutV, if_neg (by simpa using h)]
theorem cutV_yes {a b c d : Int} (h : max a c ≤ min b d) : cutV (a, b) (c, d) = (max a c, min b d) := by rw [cutV, if_pos h]
set_option maxHeartbeats 1000000 in
theorem cut_any (p q : Int × Int) (w : World) : Calls Try.prog 84 #[.agg #[.int .i64 p.1, .int .i64 p.2], .agg #[.int .i64 q.1, .int .i64 q.2]] w fun e w' => e = .returned (.agg #[.int .i64 (cutV p q).1, .int .i64 (cutV p q).2]) ∧ Below w.heap.size w w' := by
  obtain ⟨a, b⟩ := p
  obtain ⟨c, d⟩ := q
  by_cases ha : a < c <;> by_cases hd : d < b
  all_goals
    go_enter Try.func84, Try.ntmps84
    go_wp2_with (first
      | (go_at_call 86; refine (empty_any _ _ _).mono ?_; rintro e w1 ⟨rfl, hb1⟩; obtain ⟨hc1, hf1⟩ := bcell hb1; have HB1 := Lib.hid hb1; have hz1_0 : w.heap.size < w1.heap.size := (by have := hb1.size; (try simp at this) <;> omega); have hz1_1 : w.heap.size + 1 < w1.heap.size := (by have := hb1.size; (try simp at this) <;> omega); have hz1_2 : w.heap.size + 1 + 1 < w1.heap.size := (by have := hb1.size; (try simp at this) <;> omega); have hz1_3 : w.heap.size + 1 + 1 + 1 < w1.heap.size := (by have := hb1.size; (try simp at this) <;> omega); clear hb1)
      | (go_at_call 85; refine (none_any _).mono ?_; rintro e w2 ⟨rfl, hb2⟩; obtain ⟨hc2, hf2⟩ := bcell hb2; have HB2 := Lib.hid hb2; have hz2_0 : w.heap.size < w2.heap.size := (by have := hb2.size; (try simp at this) <;> omega); have hz2_1 : w.heap.size + 1 < w2.heap.size := (by have := hb2.size; (try simp at this) <;> omega); have hz2_2 : w.heap.size + 1 + 1 < w2.heap.size := (by have := hb2.size; (try simp at this) <;> omega); have hz2_3 : w.heap.size + 1 + 1 + 1 < w2.heap.size := (by have := hb2.size; (try simp at this) <;> omega); clear hb2))
    · have e := cutV_no (a := a) (b := b) (c := c) (d := d) (by omega)
      rw [e]
      refine bodyPost_ret (v := .agg #[.int .i64 0, .int .i64 (-1)]) (by simp [results, Try.results84, go_sem, hc1, hc2, hz1_2]) rfl ⟨rfl, ?_⟩
      (repeat (first | exact Below.refl _ _ | (with_reducible refine Below.st ?_ (by simp <;> omega)) | (with_reducible refine Below.al ?_ _) | (with_reducible refine Below.call ?_ HB1.out) | (with_reducible refine Below.call ?_ HB2.out) | (with_reducible refine Below.call ?_ HB3.out) | (with_reducible refine Below.call ?_ HB4.out) ))
    · have e := cutV_yes (a := a) (b := b) (c := c) (d := d) (by omega)
      rw [e]
      refine bodyPost_ret (v := .agg #[.int .i64 (max a c), .int .i64 (min b d)]) (by simp [results, Try.results84, go_sem, hc1]; omega) rfl ⟨rfl, ?_⟩
      (repeat (first | exact Below.refl _ _ | (with_reducible refine Below.st ?_ (by simp <;> omega)) | (with_reducible refine Below.al ?_ _) | (with_reducible refine Below.call ?_ HB1.out) | (with_reducible refine Below.call ?_ HB2.out) | (with_reducible refine Below.call ?_ HB3.out) | (with_reducible refine Below.call ?_ HB4.out) ))
theorem hullV_nn {a b c d : Int} (h : b < a) (k : d < c) : hullV (a, b) (c, d) = (0, -1) := by simp [hullV, h, k]
theorem hullV_ny {a b c d : Int} (h : b < a) (k : ¬ d < c) : hullV (a, b) (c, d) = (c, d) := by simp [hullV, h, k]
theorem hullV_yn {a b c d : Int} (h : ¬ b < a) (k : d < c) : hullV (a, b) (c, d) = (a, b) := by simp [hullV, h, k]
theorem hullV_yy {a b c d : Int} (h : ¬ b < a) (k : ¬ d < c) : hullV (a, b) (c, d) = (min a c, max b d) := by simp [hullV, h, k]
set_option maxHeartbeats 1000000 in
theorem hull_nn (a b c d : Int) (h : b < a) (k : d < c) (w : World) : Calls Try.prog 64 #[.agg #[.int .i64 a, .int .i64 b], .agg #[.int .i64 c, .int .i64 d]] w fun e w' => e = .returned (.agg #[.int .i64 0, .int .i64 (-1)]) ∧ Below w.heap.size w w' := by
  go_enter Try.func64, Try.ntmps64
  go_wp2_with fail
  refine (empty_any _ _ _).mono ?_
  rintro e w1 ⟨rfl, hb1⟩
  obtain ⟨hc1, hf1⟩ := bcell hb1
  have HB1 := Lib.hid hb1
  have hz1_0 : w.heap.size < w1.heap.size := by (have := hb1.size; (try simp at this) <;> omega)
  have hz1_1 : w.heap.size + 1 < w1.heap.size := by (have := hb1.size; (try simp at this) <;> omega)
  have hz1_2 : w.heap.size + 1 + 1 < w1.heap.size := by (have := hb1.size; (try simp at this) <;> omega)
  clear hb1
  go_wp2_with fail
  refine (empty_any _ _ _).mono ?_
  rintro e w2 ⟨rfl, hb2⟩
  obtain ⟨hc2, hf2⟩ := bcell hb2
  have HB2 := Lib.hid hb2
  have hz2_0 : w.heap.size < w2.heap.size := by (have := hb2.size; (try simp at this) <;> omega)
  have hz2_1 : w.heap.size + 1 < w2.heap.size := by (have := hb2.size; (try simp at this) <;> omega)
  have hz2_2 : w.heap.size + 1 + 1 < w2.heap.size := by (have := hb2.size; (try simp at this) <;> omega)
  clear hb2
  go_wp2_with fail
  refine (none_any _).mono ?_
  rintro e w3 ⟨rfl, hb3⟩
  obtain ⟨hc3, hf3⟩ := bcell hb3
  have HB3 := Lib.hid hb3
  have hz3_0 : w.heap.size < w3.heap.size := by (have := hb3.size; (try simp at this) <;> omega)
  have hz3_1 : w.heap.size + 1 < w3.heap.size := by (have := hb3.size; (try simp at this) <;> omega)
  have hz3_2 : w.heap.size + 1 + 1 < w3.heap.size := by (have := hb3.size; (try simp at this) <;> omega)
  clear hb3
  go_wp2
  refine bodyPost_ret (v := .agg #[.int .i64 0, .int .i64 (-1)]) (by simp [results, Try.results64, go_sem, hc1, hc2, hc3, hz1_2, hz2_2]) rfl ⟨rfl, ?_⟩
  (repeat (first | exact Below.refl _ _ | (with_reducible refine Below.st ?_ (by simp <;> omega)) | (with_reducible refine Below.al ?_ _) | (with_reducible refine Below.call ?_ HB1.out) | (with_reducible refine Below.call ?_ HB2.out) | (with_reducible refine Below.call ?_ HB3.out) | (with_reducible refine Below.call ?_ HB4.out) ))
set_option maxHeartbeats 1000000 in
theorem hull_ny (a b c d : Int) (h : b < a) (k : ¬ d < c) (w : World) : Calls Try.prog 64 #[.agg #[.int .i64 a, .int .i64 b], .agg #[.int .i64 c, .int .i64 d]] w fun e w' => e = .returned (.agg #[.int .i64 c, .int .i64 d]) ∧ Below w.heap.size w w' := by
  go_enter Try.func64, Try.ntmps64
  go_wp2_with fail
  refine (empty_any _ _ _).mono ?_
  rintro e w1 ⟨rfl, hb1⟩
  obtain ⟨hc1, hf1⟩ := bcell hb1
  have HB1 := Lib.hid hb1
  have hz1_0 : w.heap.size < w1.heap.size := by (have := hb1.size; (try simp at this) <;> omega)
  have hz1_1 : w.heap.size + 1 < w1.heap.size := by (have := hb1.size; (try simp at this) <;> omega)
  have hz1_2 : w.heap.size + 1 + 1 < w1.heap.size := by (have := hb1.size; (try simp at this) <;> omega)
  clear hb1
  go_wp2_with fail
  refine (empty_any _ _ _).mono ?_
  rintro e w2 ⟨rfl, hb2⟩
  obtain ⟨hc2, hf2⟩ := bcell hb2
  have HB2 := Lib.hid hb2
  have hz2_0 : w.heap.size < w2.heap.size := by (have := hb2.size; (try simp at this) <;> omega)
  have hz2_1 : w.heap.size + 1 < w2.heap.size := by (have := hb2.size; (try simp at this) <;> omega)
  have hz2_2 : w.heap.size + 1 + 1 < w2.heap.size := by (have := hb2.size; (try simp at this) <;> omega)
  clear hb2
  go_wp2_with fail
  refine (empty_any _ _ _).mono ?_
  rintro e w3 ⟨rfl, hb3⟩
  obtain ⟨hc3, hf3⟩ := bcell hb3
  have HB3 := Lib.hid hb3
  have hz3_0 : w.heap.size < w3.heap.size := by (have := hb3.size; (try simp at this) <;> omega)
  have hz3_1 : w.heap.size + 1 < w3.heap.size := by (have := hb3.size; (try simp at this) <;> omega)
  have hz3_2 : w.heap.size + 1 + 1 < w3.heap.size := by (have := hb3.size; (try simp at this) <;> omega)
  clear hb3
  go_wp2
  refine bodyPost_ret (v := .agg #[.int .i64 c, .int .i64 d]) (by simp [results, Try.results64, go_sem, hc1, hc2, hc3, hz1_2, hz2_2]) rfl ⟨rfl, ?_⟩
  (repeat (first | exact Below.refl _ _ | (with_reducible refine Below.st ?_ (by simp <;> omega)) | (with_reducible refine Below.al ?_ _) | (with_reducible refine Below.call ?_ HB1.out) | (with_reducible refine Below.call ?_ HB2.out) | (with_reducible refine Below.call ?_ HB3.out) | (with_reducible refine Below.call ?_ HB4.out) ))
set_option maxHeartbeats 1000000 in
theorem hull_yn (a b c d : Int) (h : ¬ b < a) (k : d < c) (w : World) : Calls Try.prog 64 #[.agg #[.int .i64 a, .int .i64 b], .agg #[.int .i64 c, .int .i64 d]] w fun e w' => e = .returned (.agg #[.int .i64 a, .int .i64 b]) ∧ Below w.heap.size w w' := by
  go_enter Try.func64, Try.ntmps64
  go_wp2_with fail
  refine (empty_any _ _ _).mono ?_
  rintro e w1 ⟨rfl, hb1⟩
  obtain ⟨hc1, hf1⟩ := bcell hb1
  have HB1 := Lib.hid hb1
  have hz1_0 : w.heap.size < w1.heap.size := by (have := hb1.size; (try simp at this) <;> omega)
  have hz1_1 : w.heap.size + 1 < w1.heap.size := by (have := hb1.size; (try simp at this) <;> omega)
  have hz1_2 : w.heap.size + 1 + 1 < w1.heap.size := by (have := hb1.size; (try simp at this) <;> omega)
  clear hb1
  go_wp2_with fail
  refine (empty_any _ _ _).mono ?_
  rintro e w2 ⟨rfl, hb2⟩
  obtain ⟨hc2, hf2⟩ := bcell hb2
  have HB2 := Lib.hid hb2
  have hz2_0 : w.heap.size < w2.heap.size := by (have := hb2.size; (try simp at this) <;> omega)
  have hz2_1 : w.heap.size + 1 < w2.heap.size := by (have := hb2.size; (try simp at this) <;> omega)
  have hz2_2 : w.heap.size + 1 + 1 < w2.heap.size := by (have := hb2.size; (try simp at this) <;> omega)
  clear hb2
  go_wp2_with fail
  refine (empty_any _ _ _).mono ?_
  rintro e w3 ⟨rfl, hb3⟩
  obtain ⟨hc3, hf3⟩ := bcell hb3
  have HB3 := Lib.hid hb3
  have hz3_0 : w.heap.size < w3.heap.size := by (have := hb3.size; (try simp at this) <;> omega)
  have hz3_1 : w.heap.size + 1 < w3.heap.size := by (have := hb3.size; (try simp at this) <;> omega)
  have hz3_2 : w.heap.size + 1 + 1 < w3.heap.size := by (have := hb3.size; (try simp at this) <;> omega)
  clear hb3
  go_wp2
  refine bodyPost_ret (v := .agg #[.int .i64 a, .int .i64 b]) (by simp [results, Try.results64, go_sem, hc1, hc2, hc3, hz1_2, hz2_2]) rfl ⟨rfl, ?_⟩
  (repeat (first | exact Below.refl _ _ | (with_reducible refine Below.st ?_ (by simp <;> omega)) | (with_reducible refine Below.al ?_ _) | (with_reducible refine Below.call ?_ HB1.out) | (with_reducible refine Below.call ?_ HB2.out) | (with_reducible refine Below.call ?_ HB3.out) | (with_reducible refine Below.call ?_ HB4.out) ))
set_option maxHeartbeats 1000000 in
theorem hull_yy (a b c d : Int) (h : ¬ b < a) (k : ¬ d < c) (w : World) : Calls Try.prog 64 #[.agg #[.int .i64 a, .int .i64 b], .agg #[.int .i64 c, .int .i64 d]] w fun e w' => e = .returned (.agg #[.int .i64 (min a c), .int .i64 (max b d)]) ∧ Below w.heap.size w w' := by
  by_cases ha : a ≤ c <;> by_cases hd : d ≤ b
  all_goals
    go_enter Try.func64, Try.ntmps64
    go_wp2_with fail
    refine (empty_any _ _ _).mono ?_
    rintro e w1 ⟨rfl, hb1⟩
    obtain ⟨hc1, hf1⟩ := bcell hb1
    have HB1 := Lib.hid hb1
    have hz1_0 : w.heap.size < w1.heap.size := by (have := hb1.size; (try simp at this) <;> omega)
    have hz1_1 : w.heap.size + 1 < w1.heap.size := by (have := hb1.size; (try simp at this) <;> omega)
    have hz1_2 : w.heap.size + 1 + 1 < w1.heap.size := by (have := hb1.size; (try simp at this) <;> omega)
    clear hb1
    go_wp2_with fail
    refine (empty_any _ _ _).mono ?_
    rintro e w2 ⟨rfl, hb2⟩
    obtain ⟨hc2, hf2⟩ := bcell hb2
    have HB2 := Lib.hid hb2
    have hz2_0 : w.heap.size < w2.heap.size := by (have := hb2.size; (try simp at this) <;> omega)
    have hz2_1 : w.heap.size + 1 < w2.heap.size := by (have := hb2.size; (try simp at this) <;> omega)
    have hz2_2 : w.heap.size + 1 + 1 < w2.heap.size := by (have := hb2.size; (try simp at this) <;> omega)
    clear hb2
    go_wp2_with fail
    refine (empty_any _ _ _).mono ?_
    rintro e w3 ⟨rfl, hb3⟩
    obtain ⟨hc3, hf3⟩ := bcell hb3
    have HB3 := Lib.hid hb3
    have hz3_0 : w.heap.size < w3.heap.size := by (have := hb3.size; (try simp at this) <;> omega)
    have hz3_1 : w.heap.size + 1 < w3.heap.size := by (have := hb3.size; (try simp at this) <;> omega)
    have hz3_2 : w.heap.size + 1 + 1 < w3.heap.size := by (have := hb3.size; (try simp at this) <;> omega)
    clear hb3
    go_wp2
    refine bodyPost_ret (v := .agg #[.int .i64 (min a c), .int .i64 (max b d)]) (by simp [results, Try.results64, go_sem, hc1, hc2, hc3, hz1_2, hz2_2]; omega) rfl ⟨rfl, ?_⟩
    (repeat (first | exact Below.refl _ _ | (with_reducible refine Below.st ?_ (by simp <;> omega)) | (with_reducible refine Below.al ?_ _) | (with_reducible refine Below.call ?_ HB1.out) | (with_reducible refine Below.call ?_ HB2.out) | (with_reducible refine Below.call ?_ HB3.out) | (with_reducible refine Below.call ?_ HB4.out) ))
theorem hull_any (p q : Int × Int) (w : World) : Calls Try.prog 64 #[.agg #[.int .i64 p.1, .int .i64 p.2], .agg #[.int .i64 q.1, .int .i64 q.2]] w fun e w' => e = .returned (.agg #[.int .i64 (hullV p q).1, .int .i64 (hullV p q).2]) ∧ Below w.heap.size w w' := by
  obtain ⟨a, b⟩ := p
  obtain ⟨c, d⟩ := q
  by_cases h : b < a <;> by_cases k : d < c
  · rw [hullV_nn h k]; exact hull_nn a b c d h k w
  · rw [hullV_ny h k]; exact hull_ny a b c d h k w
  · rw [hullV_yn h k]; exact hull_yn a b c d h k w
  · rw [hullV_yy h k]; exact hull_yy a b c d h k w
end Go.Proofs.Ytlgpnjbhmoomfaa.Sp
namespace Go.Proofs.Ytlgpnjbhmoomfaa.Sp
open Go.RowKit

theorem cut_eq (p q : Int × Int) : (!(decide ((cutV p q).1 = 0) && decide ((cutV p q).2 = -1))) = meetsB p q := by
  unfold cutV meetsB
  by_cases h : max p.1 q.1 ≤ min p.2 q.2
  · rw [if_pos h, decide_eq_true h]
    by_cases h0 : max p.1 q.1 = 0
    · have : ¬ min p.2 q.2 = -1 := by omega
      simp [this]
    · simp [h0]
  · rw [if_neg h, decide_eq_false h]
    rfl
set_option maxHeartbeats 1000000 in
theorem meets_any (p q : Int × Int) (w : World) : Calls Try.prog 63 #[.agg #[.int .i64 p.1, .int .i64 p.2], .agg #[.int .i64 q.1, .int .i64 q.2]] w fun e w' => e = .returned (.bool (meetsB p q)) ∧ Below w.heap.size w w' := by
  have hm := cut_eq p q
  obtain ⟨a, b⟩ := p
  obtain ⟨c, d⟩ := q
  have HM := Lib.hid hm
  clear hm
  go_enter Try.func63, Try.ntmps63
  go_wp2_with fail
  refine (cut_any (a, b) (c, d) _).mono ?_
  rintro e w1 ⟨rfl, hb1⟩
  obtain ⟨hc1, hf1⟩ := bcell hb1
  have HB1 := Lib.hid hb1
  have hz1_0 : w.heap.size < w1.heap.size := by (have := hb1.size; (try simp at this) <;> omega)
  have hz1_1 : w.heap.size + 1 < w1.heap.size := by (have := hb1.size; (try simp at this) <;> omega)
  clear hb1
  go_wp2_with fail
  refine (none_any _).mono ?_
  rintro e w2 ⟨rfl, hb2⟩
  obtain ⟨hc2, hf2⟩ := bcell hb2
  have HB2 := Lib.hid hb2
  have hz2_0 : w.heap.size < w2.heap.size := by (have := hb2.size; (try simp at this) <;> omega)
  have hz2_1 : w.heap.size + 1 < w2.heap.size := by (have := hb2.size; (try simp at this) <;> omega)
  clear hb2
  go_wp2
  all_goals
    go_ret
    exact ⟨ret_b (by rw [← HM.out]; simp [*]), by (repeat (first | exact Below.refl _ _ | (with_reducible refine Below.st ?_ (by simp <;> omega)) | (with_reducible refine Below.al ?_ _) | (with_reducible refine Below.call ?_ HB1.out) | (with_reducible refine Below.call ?_ HB2.out) | (with_reducible refine Below.call ?_ HB3.out) | (with_reducible refine Below.call ?_ HB4.out) ))⟩
end Go.Proofs.Ytlgpnjbhmoomfaa.Sp
