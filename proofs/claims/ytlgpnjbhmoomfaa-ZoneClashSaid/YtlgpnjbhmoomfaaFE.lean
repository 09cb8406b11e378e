/- What is wrong with borders: as the program finds it, and as the reference does. -/
import Derived.Test.YtlgpnjbhmoomfaaFD
namespace Go.Proofs.Ytlgpnjbhmoomfaa
open Go.RowKit

theorem drewN_two (w : World) (a b : Nat) : ∃ d, (w.drewN a).drewN b = w.drewN d := ⟨a + b, by simp [World.drewN, Nat.add_assoc]⟩
/-- The first wrong border from one on. -/
def chkAt (l : List Nat) (i : Nat) : Int :=
  if i < l.length then
    (if nanb (l.getD i 0) = true then 20
    else if 0 < i ∧ leb (l.getD i 0) (l.getD (i - 1) 0) = true then 70
    else chkAt l (i + 1))
  else 0
termination_by l.length - i
def chkE (l : List Nat) : Int := if l.length < 2 then 1 else if 25 < l.length then 2 else chkAt l 0
theorem chk_end (l : List Nat) (i : Nat) (h : l.length ≤ i) : chkAt l i = 0 := by rw [chkAt, if_neg (by omega)]
theorem chk_nan (l : List Nat) (i : Nat) (h : i < l.length) (hn : nanb (l.getD i 0) = true) : chkAt l i = 20 := by rw [chkAt, if_pos h, if_pos hn]
theorem chk_bad (l : List Nat) (i : Nat) (h : i < l.length) (hn : nanb (l.getD i 0) = false) (h0 : 0 < i) (hb : leb (l.getD i 0) (l.getD (i - 1) 0) = true) : chkAt l i = 70 := by
  rw [chkAt, if_pos h, if_neg (by simp only [hn]; simp), if_pos ⟨h0, hb⟩]
theorem chk_next (l : List Nat) (i : Nat) (h : i < l.length) (hn : nanb (l.getD i 0) = false) (hb : i = 0 ∨ leb (l.getD i 0) (l.getD (i - 1) 0) = false) : chkAt l (i + 1) = chkAt l i := by
  rw [chkAt.eq_def l i, if_pos h, if_neg (by simp only [hn]; simp), if_neg]
  rintro ⟨h0, hb2⟩
  rcases hb with hb | hb
  · omega
  · rw [hb] at hb2; cases hb2

set_option maxHeartbeats 2000000 in
theorem check_any (v : Value) (xs : List Nat) (w : World) (h : KF.IsL w w.heap.size v xs) : Calls Try.prog 79 #[v] w fun e w' => e = .returned (.int .i64 (chkE xs)) ∧ w = w' := by
  by_cases h2 : xs.length < 2
  · obtain ⟨⟨A, cap, rfl, hc, hA⟩, hf, hl⟩ := h
    go_enter Try.func79, Try.ntmps79
    go_wp2
    go_step3
    go_wp2
    rw [Exit.noGoto_ret]
    go_ret
    exact ⟨ret_i (by unfold chkE; rw [if_pos h2]), rfl⟩
  obtain ⟨b, off, cap, rfl, hc, hb, hl, hcell, hlt⟩ := KF.cells h (by omega)
  clear h
  by_cases h25 : 25 < xs.length
  · go_enter Try.func79, Try.ntmps79
    go_wp2
    go_step3
    go_wp2
    rw [Exit.noGoto_ret]
    go_ret
    exact ⟨ret_i (by unfold chkE; rw [if_neg h2, if_pos h25]), rfl⟩
  have HE := Lib.hid (show chkE xs = chkAt xs 0 by unfold chkE; rw [if_neg h2, if_neg h25])
  have HC := Lib.hid hcell
  have HL := Lib.hid hlt
  have HX := Lib.hid (fun i => chk_next xs i)
  have HN := Lib.hid (fun i => chk_nan xs i)
  have HB := Lib.hid (fun i => chk_bad xs i)
  have HD := Lib.hid (fun i => chk_end xs i)
  have ole : ∀ a b, (FloatKind.f64.format.order a b == some .lt || FloatKind.f64.format.order a b == some .eq) = leb a b := fun _ _ => rfl
  clear hcell hlt
  go_enter Try.func79, Try.ntmps79
  go_wp2
  go_step3
  go_wp2
  go_step3
  go_wp2
  go_loop [3, 16] (fun e i => ∃ k : Nat, k ≤ xs.length ∧ e = .int .i64 0 ∧ i = .int .i64 k ∧ chkAt xs k = chkAt xs 0) (fun _ i => xs.length - (intOf i).toNat)
  case atStart => exact ⟨0, by omega, rfl, rfl, rfl⟩
  case round =>
    obtain ⟨k, hk, rfl, rfl, hgo⟩ := hrel
    have HG := Lib.hid hgo
    clear hgo
    by_cases hlt : k < xs.length
    · have hcell := HC.out k hlt
      have HX' := Lib.hid (HX.out k hlt)
      have HN' := Lib.hid (HN.out k hlt)
      have HB' := Lib.hid (HB.out k hlt)
      by_cases h0 : 0 < k
      · have hprev := HC.out (k - 1) (by omega)
        generalize xs.getD (k - 1) 0 = g at *
        generalize xs.getD k 0 = f at *
        rcases Bool.eq_false_or_eq_true (nanb f) with hn | hn
        · have HR := Lib.hid (HN'.out hn)
          go_wp2_with (go_at_call 87; refine (isNone_any _ _).mono ?_; rintro e w' ⟨rfl, rfl⟩)
          rw [Exit.noGoto_ret]
          go_ret
          exact ⟨ret_i (by rw [HE.out, ← HG.out, HR.out]), rfl⟩
        · rcases Bool.eq_false_or_eq_true (leb f g) with hb | hb
          · have HR := Lib.hid (HB'.out hn h0 hb)
            go_wp2_with (go_at_call 87; refine (isNone_any _ _).mono ?_; rintro e w' ⟨rfl, rfl⟩)
            rw [Exit.noGoto_ret]
            go_ret
            exact ⟨ret_i (by rw [HE.out, ← HG.out, HR.out]), rfl⟩
          · have HR := Lib.hid (HX'.out hn (.inr hb))
            go_wp2_with (go_at_call 87; refine (isNone_any _ _).mono ?_; rintro e w' ⟨rfl, rfl⟩)
            go_round
            case rel => exact ⟨k + 1, by omega, rfl, num_i (by omega), by rw [HR.out, HG.out]⟩
            case measure => simp [intOf]; omega
      · generalize xs.getD k 0 = f at *
        rcases Bool.eq_false_or_eq_true (nanb f) with hn | hn
        · have HR := Lib.hid (HN'.out hn)
          go_wp2_with (go_at_call 87; refine (isNone_any _ _).mono ?_; rintro e w' ⟨rfl, rfl⟩)
          rw [Exit.noGoto_ret]
          go_ret
          exact ⟨ret_i (by rw [HE.out, ← HG.out, HR.out]), rfl⟩
        · have HR := Lib.hid (HX'.out hn (.inl (by omega)))
          go_wp2_with (go_at_call 87; refine (isNone_any _ _).mono ?_; rintro e w' ⟨rfl, rfl⟩)
          go_round
          case rel => exact ⟨k + 1, by omega, rfl, num_i (by omega), by rw [HR.out, HG.out]⟩
          case measure => simp [intOf]; omega
    · go_wp2
      go_ret
      exact ⟨ret_i (by rw [HE.out, ← HG.out, HD.out k (by omega)]), rfl⟩
set_option maxHeartbeats 2000000 in
theorem rcheck_any (v : Value) (xs : List Nat) (w : World) (h : KF.IsL w w.heap.size v xs) : Calls Try.prog 74 #[v] w fun e w' => e = .returned (.int .i64 (chkE xs)) ∧ ∃ d, w' = w.drewN d := by
  by_cases h2 : xs.length < 2
  · obtain ⟨⟨A, cap, rfl, hc, hA⟩, hf, hl⟩ := h
    go_enter Try.func74, Try.ntmps74
    go_wp2
    go_ret
    exact ⟨ret_i (by unfold chkE; rw [if_pos h2]), 0, rfl⟩
  obtain ⟨b, off, cap, rfl, hc, hb, hl, hcell, hlt⟩ := KF.cells h (by omega)
  clear h
  by_cases h25 : 25 < xs.length
  · go_enter Try.func74, Try.ntmps74
    go_wp2
    go_ret
    exact ⟨ret_i (by unfold chkE; rw [if_neg h2, if_pos h25]), 0, rfl⟩
  have HE := Lib.hid (show chkE xs = chkAt xs 0 by unfold chkE; rw [if_neg h2, if_neg h25])
  have HC := Lib.hid hcell
  have HX := Lib.hid (fun i => chk_next xs i)
  have HN := Lib.hid (fun i => chk_nan xs i)
  have HB := Lib.hid (fun i => chk_bad xs i)
  have HD := Lib.hid (fun i => chk_end xs i)
  have ole : ∀ a b, (FloatKind.f64.format.order a b == some .lt || FloatKind.f64.format.order a b == some .eq) = leb a b := fun _ _ => rfl
  clear hcell hlt
  go_enter Try.func74, Try.ntmps74
  go_wp2
  go_loopw [3] (fun i wr => ∃ k d : Nat, k ≤ xs.length ∧ i = .int .i64 k ∧ chkAt xs k = chkAt xs 0 ∧ wr = w.drewN d) (fun i _ => xs.length - (intOf i).toNat)
  case atStart => exact ⟨0, 0, by omega, rfl, rfl, rfl⟩
  case round =>
    obtain ⟨k, d, hk, rfl, hgo, hw⟩ := hrel
    have HW := Lib.hid hw
    clear hw
    have HG := Lib.hid hgo
    clear hgo
    by_cases hlt : k < xs.length
    · have hcell : wr.cell? ⟨b, off + k, none⟩ = some (.float .f64 (xs.getD k 0)) := by rw [HW.out]; exact HC.out k hlt
      have HX' := Lib.hid (HX.out k hlt)
      have HN' := Lib.hid (HN.out k hlt)
      have HB' := Lib.hid (HB.out k hlt)
      by_cases h0 : 0 < k
      · have hd : decide (0 < (k : Int)) = true := decide_eq_true (by omega)
        have hprev : wr.cell? ⟨b, off + (k - 1), none⟩ = some (.float .f64 (xs.getD (k - 1) 0)) := by rw [HW.out]; exact HC.out (k - 1) (by omega)
        generalize xs.getD (k - 1) 0 = g at *
        generalize xs.getD k 0 = f at *
        rcases Bool.eq_false_or_eq_true (nanb f) with hn | hn
        · have HR := Lib.hid (HN'.out hn)
          go_wp2_with (go_at_call 89; refine (rnone_any _ _).mono ?_; rintro e w' ⟨rfl, rfl⟩)
          go_ret
          exact ⟨ret_i (by rw [HE.out, ← HG.out, HR.out]), by rw [HW.out]; first | exact ⟨_, rfl⟩ | exact drewN_two _ _ _⟩
        · rcases Bool.eq_false_or_eq_true (leb f g) with hb | hb
          · have HR := Lib.hid (HB'.out hn h0 hb)
            go_wp2_with (go_at_call 89; refine (rnone_any _ _).mono ?_; rintro e w' ⟨rfl, rfl⟩)
            go_quiet (fail)
            go_wp2
            go_ret
            exact ⟨ret_i (by rw [HE.out, ← HG.out, HR.out]), by rw [HW.out]; first | exact ⟨_, rfl⟩ | exact drewN_two _ _ _⟩
          · have HR := Lib.hid (HX'.out hn (.inr hb))
            go_wp2_with (go_at_call 89; refine (rnone_any _ _).mono ?_; rintro e w' ⟨rfl, rfl⟩)
            go_quiet (fail)
            go_wp2
            go_roundw
            case rel => obtain ⟨d2, hd2⟩ := drewN_two w d nq; exact ⟨k + 1, d2, by omega, num_i (by omega), by rw [HR.out, HG.out], by rw [HW.out]; exact hd2⟩
            case measure => simp [intOf]; omega
      · have hd : decide (0 < (k : Int)) = false := decide_eq_false (by omega)
        generalize xs.getD k 0 = f at *
        rcases Bool.eq_false_or_eq_true (nanb f) with hn | hn
        · have HR := Lib.hid (HN'.out hn)
          go_wp2_with (go_at_call 89; refine (rnone_any _ _).mono ?_; rintro e w' ⟨rfl, rfl⟩)
          go_ret
          exact ⟨ret_i (by rw [HE.out, ← HG.out, HR.out]), by rw [HW.out]; first | exact ⟨_, rfl⟩ | exact drewN_two _ _ _⟩
        · have HR := Lib.hid (HX'.out hn (.inl (by omega)))
          go_wp2_with (go_at_call 89; refine (rnone_any _ _).mono ?_; rintro e w' ⟨rfl, rfl⟩)
          go_quiet (fail)
          go_wp2
          go_roundw
          case rel => obtain ⟨d2, hd2⟩ := drewN_two w d nq; exact ⟨k + 1, d2, by omega, num_i (by omega), by rw [HR.out, HG.out], by rw [HW.out]; exact hd2⟩
          case measure => simp [intOf]; omega
    · go_wp2
      go_ret
      exact ⟨ret_i (by rw [HE.out, ← HG.out, HD.out k (by omega)]), _, HW.out⟩
end Go.Proofs.Ytlgpnjbhmoomfaa
