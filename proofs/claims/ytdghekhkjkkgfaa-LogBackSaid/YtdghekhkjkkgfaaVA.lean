/- Logs: may a change be, is a log right: plain words; the calls that tell of one change. -/
import Derived.Test.YtdghekhkjkkgfaaHC
import Derived.Test.YtdghekhkjkkgfaaHA
namespace Go.Proofs.Ytdghekhkjkkgfaa
open Go.RowKit

/-- A log. -/
abbrev lgV (r l : Int) (A : Option Addr) (n c : Nat) : Value := .agg #[.int .i64 r, .int .i64 l, .slice A n c]
/-- May an arm change a well by so much? -/
def mayB (b n : Int) : Bool := decide (1 ≤ b ∧ b ≤ 8 ∧ -1099511627776 ≤ n ∧ n ≤ 1099511627776 ∧ n ≠ 0)
/-- Is a list's change as it must be? -/
def okC (xs : List Ch) (l : Int) (i : Nat) : Bool := decide ((xs.getD i ch0).a = l - xs.length + 1 + i) && mayB (xs.getD i ch0).b (xs.getD i ch0).c
def rlB (xs : List Ch) (l : Int) : Bool := (List.range xs.length).all (okC xs l)
theorem rl_false {xs : List Ch} {l : Int} (k : Nat) (hk : k < xs.length) (h : okC xs l k = false) : rlB xs l = false := by
  unfold rlB
  rw [List.all_eq_false]
  exact ⟨k, List.mem_range.2 hk, by simp [h]⟩
theorem rl_true {xs : List Ch} {l : Int} (h : ∀ k, k < xs.length → okC xs l k = true) : rlB xs l = true := by
  unfold rlB
  rw [List.all_eq_true]
  exact fun k hk => h k (List.mem_range.1 hk)
theorem rl_at {xs : List Ch} {l : Int} (h : rlB xs l = true) (k : Nat) (hk : k < xs.length) : okC xs l k = true := by
  unfold rlB at h
  rw [List.all_eq_true] at h
  exact h k (List.mem_range.2 hk)
def rgC (r l : Int) (n : Nat) : Prop := 1 ≤ r ∧ r ≤ 64 ∧ 0 ≤ l ∧ l ≤ 2147483647 ∧ (n : Int) ≤ r ∧ (n : Int) ≤ l
instance (r l : Int) (n : Nat) : Decidable (rgC r l n) := inferInstanceAs (Decidable (_ ∧ _))
/-- Is a log right? -/
def rgB (r l : Int) (xs : List Ch) : Bool := decide (rgC r l xs.length) && rlB xs l
theorem rg_parts {r l : Int} {xs : List Ch} (h : rgB r l xs = true) : rgC r l xs.length ∧ rlB xs l = true := by
  unfold rgB at h
  rw [Bool.and_eq_true, decide_eq_true_eq] at h
  exact h
theorem rg_no {r l : Int} {xs : List Ch} (h : ¬ rgC r l xs.length) : rgB r l xs = false := by
  unfold rgB
  rw [decide_eq_false h]
  rfl
theorem rg_yes {r l : Int} {xs : List Ch} (h : rgC r l xs.length) : rgB r l xs = rlB xs l := by
  unfold rgB
  rw [decide_eq_true h]
  rfl
theorem may_any (b n : Int) (w : World) : Calls Try.prog 36 #[.int .i64 b, .int .i64 n] w fun e w' => e = .returned (.bool (mayB b n)) ∧ w = w' := by
  by_cases h0 : 1 ≤ b
  · skip
    by_cases h1 : b ≤ 8
    · skip
      by_cases h2 : -1099511627776 ≤ n
      · skip
        by_cases h3 : n ≤ 1099511627776
        · skip
          by_cases h4 : n ≠ 0
          · rw [show mayB b n = true from decide_eq_true (by omega)]
            go_enter Try.func36, Try.ntmps36
            go_wp2
            go_ret
            exact ⟨by first | rfl | exact ret_b (bne_iff_ne.2 (by assumption)) | exact ret_b (by rw [bne_eq_false_iff_eq]; omega), rfl⟩
          · rw [show mayB b n = false from decide_eq_false (by omega)]
            go_enter Try.func36, Try.ntmps36
            go_wp2
            go_ret
            exact ⟨by first | rfl | exact ret_b (bne_iff_ne.2 (by assumption)) | exact ret_b (by rw [bne_eq_false_iff_eq]; omega), rfl⟩
        · rw [show mayB b n = false from decide_eq_false (by omega)]
          go_enter Try.func36, Try.ntmps36
          go_wp2
          go_ret
          exact ⟨by first | rfl | exact ret_b (bne_iff_ne.2 (by assumption)) | exact ret_b (by rw [bne_eq_false_iff_eq]; omega), rfl⟩
      · rw [show mayB b n = false from decide_eq_false (by omega)]
        go_enter Try.func36, Try.ntmps36
        go_wp2
        go_ret
        exact ⟨by first | rfl | exact ret_b (bne_iff_ne.2 (by assumption)) | exact ret_b (by rw [bne_eq_false_iff_eq]; omega), rfl⟩
    · rw [show mayB b n = false from decide_eq_false (by omega)]
      go_enter Try.func36, Try.ntmps36
      go_wp2
      go_ret
      exact ⟨by first | rfl | exact ret_b (bne_iff_ne.2 (by assumption)) | exact ret_b (by rw [bne_eq_false_iff_eq]; omega), rfl⟩
  · rw [show mayB b n = false from decide_eq_false (by omega)]
    go_enter Try.func36, Try.ntmps36
    go_wp2
    go_ret
    exact ⟨by first | rfl | exact ret_b (bne_iff_ne.2 (by assumption)) | exact ret_b (by rw [bne_eq_false_iff_eq]; omega), rfl⟩
theorem rmay_any (b n : Int) (w : World) : Calls Try.prog 38 #[.int .i64 b, .int .i64 n] w fun e w' => e = .returned (.bool (mayB b n)) ∧ w = w' := by
  by_cases h0 : 1 ≤ b
  · skip
    by_cases h1 : b ≤ 8
    · skip
      by_cases h2 : n ≠ 0
      · skip
        by_cases h3 : -1099511627776 ≤ n
        · skip
          by_cases h4 : n ≤ 1099511627776
          · rw [show mayB b n = true from decide_eq_true (by omega)]
            go_enter Try.func38, Try.ntmps38
            go_wp2
            go_ret
            exact ⟨by first | rfl | exact ret_b (bne_iff_ne.2 (by assumption)) | exact ret_b (by rw [bne_eq_false_iff_eq]; omega), rfl⟩
          · rw [show mayB b n = false from decide_eq_false (by omega)]
            go_enter Try.func38, Try.ntmps38
            go_wp2
            go_ret
            exact ⟨by first | rfl | exact ret_b (bne_iff_ne.2 (by assumption)) | exact ret_b (by rw [bne_eq_false_iff_eq]; omega), rfl⟩
        · rw [show mayB b n = false from decide_eq_false (by omega)]
          go_enter Try.func38, Try.ntmps38
          go_wp2
          go_ret
          exact ⟨by first | rfl | exact ret_b (bne_iff_ne.2 (by assumption)) | exact ret_b (by rw [bne_eq_false_iff_eq]; omega), rfl⟩
      · rw [show mayB b n = false from decide_eq_false (by omega)]
        go_enter Try.func38, Try.ntmps38
        go_wp2
        go_ret
        exact ⟨by first | rfl | exact ret_b (bne_iff_ne.2 (by assumption)) | exact ret_b (by rw [bne_eq_false_iff_eq]; omega), rfl⟩
    · rw [show mayB b n = false from decide_eq_false (by omega)]
      go_enter Try.func38, Try.ntmps38
      go_wp2
      go_ret
      exact ⟨by first | rfl | exact ret_b (bne_iff_ne.2 (by assumption)) | exact ret_b (by rw [bne_eq_false_iff_eq]; omega), rfl⟩
  · rw [show mayB b n = false from decide_eq_false (by omega)]
    go_enter Try.func38, Try.ntmps38
    go_wp2
    go_ret
    exact ⟨by first | rfl | exact ret_b (bne_iff_ne.2 (by assumption)) | exact ret_b (by rw [bne_eq_false_iff_eq]; omega), rfl⟩
end Go.Proofs.Ytdghekhkjkkgfaa
