/- Words for decks in memory; whether a plate, a rack may be: what the program and the reference answer. -/
import Derived.Test.YtacjonncakhhmaaGreatPz04
import Derived.Test.YtacjonncakhhmaaGreatPz03
namespace Go.Proofs.YtacjonncakhhmaaGreat
open Go.RowKit
theorem drewN_two (w : World) (a b : Nat) : ∃ d, (w.drewN a).drewN b = w.drewN d := ⟨a + b, by simp [World.drewN, Nat.add_assoc]⟩
/-- The first wrong border from one on. -/
def chkAt (l : List Nat) (i : Nat) : Int :=
 if i < l.length then
  (if nanb (l.getD i 0) = true then 20
  else if 0 < i ∧ leb (l.getD i 0) (l.getD (i - 1) 0) = true then 70
  else chkAt l (i + 1))
 else 0
termination_by l.length - i
def chkE (l : List Nat) : Int := if l.length < 2 then 1 else if 25 < l.length then 2 else chkAt l 0
theorem chk_end (l : List Nat) (i : Nat) (h : l.length ≤ i) : chkAt l i = 0 := by rw [chkAt, if_neg (by omega)]
theorem chk_nan (l : List Nat) (i : Nat) (h : i < l.length) (hn : nanb (l.getD i 0) = true) : chkAt l i = 20 := by rw [chkAt, if_pos h, if_pos hn]
theorem chk_bad (l : List Nat) (i : Nat) (h : i < l.length) (hn : nanb (l.getD i 0) = false) (h0 : 0 < i) (hb : leb (l.getD i 0) (l.getD (i - 1) 0) = true) : chkAt l i = 70 := by
 rw [chkAt, if_pos h, if_neg (by simp only [hn]; simp), if_pos ⟨h0, hb⟩]
theorem chk_next (l : List Nat) (i : Nat) (h : i < l.length) (hn : nanb (l.getD i 0) = false) (hb : i = 0 ∨ leb (l.getD i 0) (l.getD (i - 1) 0) = false) : chkAt l (i + 1) = chkAt l i := by
 rw [chkAt.eq_def l i, if_pos h, if_neg (by simp only [hn]; simp), if_neg]
 rintro ⟨h0, hb2⟩
 rcases hb with hb | hb
 ·omega
 ·rw [hb] at hb2; cases hb2
set_option maxHeartbeats 2000000 in
theorem check_any (v : Value) (xs : List Nat) (w : World) (h : KF.IsL w w.heap.size v xs) : Calls Tryz.prog 86 #[v] w fun e w' => e = .returned (.int .i64 (chkE xs)) ∧ w = w' := by
 by_cases h2 : xs.length < 2
 ·obtain ⟨⟨A, cap, rfl, hc, hA⟩, hf, hl⟩ := h
  go_enter Tryz.func86, Tryz.ntmps86
  go_wp2
  go_step3
  go_wp2
  rw [Exit.noGoto_ret]
  go_ret
  exact ⟨ret_i (by unfold chkE; rw [if_pos h2]), rfl⟩
 obtain ⟨b, off, cap, rfl, hc, hb, hl, hcell, hlt⟩ := KF.cells h (by omega)
 clear h
 by_cases h25 : 25 < xs.length
 ·go_enter Tryz.func86, Tryz.ntmps86
  go_wp2
  go_step3
  go_wp2
  rw [Exit.noGoto_ret]
  go_ret
  exact ⟨ret_i (by unfold chkE; rw [if_neg h2, if_pos h25]), rfl⟩
 have HE := Lib.hid (show chkE xs = chkAt xs 0 by unfold chkE; rw [if_neg h2, if_neg h25])
 have HC := Lib.hid hcell
 have HL := Lib.hid hlt
 have HX := Lib.hid (fun i => chk_next xs i)
 have HN := Lib.hid (fun i => chk_nan xs i)
 have HB := Lib.hid (fun i => chk_bad xs i)
 have HD := Lib.hid (fun i => chk_end xs i)
 have ole : ∀ a b, (FloatKind.f64.format.order a b == some .lt || FloatKind.f64.format.order a b == some .eq) = leb a b := fun _ _ => rfl
 clear hcell hlt
 go_enter Tryz.func86, Tryz.ntmps86
 go_wp2
 go_step3
 go_wp2
 go_step3
 go_wp2
 go_loop [3, 16] (fun e i => ∃ k : Nat, k ≤ xs.length ∧ e = .int .i64 0 ∧ i = .int .i64 k ∧ chkAt xs k = chkAt xs 0) (fun _ i => xs.length - (intOf i).toNat)
 case atStart => exact ⟨0, by omega, rfl, rfl, rfl⟩
 case round =>
  obtain ⟨k, hk, rfl, rfl, hgo⟩ := hrel
  have HG := Lib.hid hgo
  clear hgo
  by_cases hlt : k < xs.length
  ·have hcell := HC.out k hlt
   have HX' := Lib.hid (HX.out k hlt)
   have HN' := Lib.hid (HN.out k hlt)
   have HB' := Lib.hid (HB.out k hlt)
   by_cases h0 : 0 < k
   ·have hprev := HC.out (k - 1) (by omega)
    generalize xs.getD (k - 1) 0 = g at *
    generalize xs.getD k 0 = f at *
    rcases Bool.eq_false_or_eq_true (nanb f) with hn | hn
    ·have HR := Lib.hid (HN'.out hn)
     go_wp2_with (go_at_call 108; refine (isNone_any _ _).mono ?_; rintro e w' ⟨rfl, rfl⟩)
     rw [Exit.noGoto_ret]
     go_ret
     exact ⟨ret_i (by rw [HE.out, ← HG.out, HR.out]), rfl⟩
    ·rcases Bool.eq_false_or_eq_true (leb f g) with hb | hb
     ·have HR := Lib.hid (HB'.out hn h0 hb)
      go_wp2_with (go_at_call 108; refine (isNone_any _ _).mono ?_; rintro e w' ⟨rfl, rfl⟩)
      rw [Exit.noGoto_ret]
      go_ret
      exact ⟨ret_i (by rw [HE.out, ← HG.out, HR.out]), rfl⟩
     ·have HR := Lib.hid (HX'.out hn (.inr hb))
      go_wp2_with (go_at_call 108; refine (isNone_any _ _).mono ?_; rintro e w' ⟨rfl, rfl⟩)
      go_round
      case rel => exact ⟨k + 1, by omega, rfl, num_i (by omega), by rw [HR.out, HG.out]⟩
      case measure => simp [intOf]; omega
   ·generalize xs.getD k 0 = f at *
    rcases Bool.eq_false_or_eq_true (nanb f) with hn | hn
    ·have HR := Lib.hid (HN'.out hn)
     go_wp2_with (go_at_call 108; refine (isNone_any _ _).mono ?_; rintro e w' ⟨rfl, rfl⟩)
     rw [Exit.noGoto_ret]
     go_ret
     exact ⟨ret_i (by rw [HE.out, ← HG.out, HR.out]), rfl⟩
    ·have HR := Lib.hid (HX'.out hn (.inl (by omega)))
     go_wp2_with (go_at_call 108; refine (isNone_any _ _).mono ?_; rintro e w' ⟨rfl, rfl⟩)
     go_round
     case rel => exact ⟨k + 1, by omega, rfl, num_i (by omega), by rw [HR.out, HG.out]⟩
     case measure => simp [intOf]; omega
  ·go_wp2
   go_ret
   exact ⟨ret_i (by rw [HE.out, ← HG.out, HD.out k (by omega)]), rfl⟩
set_option maxHeartbeats 2000000 in
theorem rcheck_any (v : Value) (xs : List Nat) (w : World) (h : KF.IsL w w.heap.size v xs) : Calls Tryz.prog 119 #[v] w fun e w' => e = .returned (.int .i64 (chkE xs)) ∧ ∃ d, w' = w.drewN d := by
 by_cases h2 : xs.length < 2
 ·obtain ⟨⟨A, cap, rfl, hc, hA⟩, hf, hl⟩ := h
  go_enter Tryz.func119, Tryz.ntmps119
  go_wp2
  go_ret
  exact ⟨ret_i (by unfold chkE; rw [if_pos h2]), 0, rfl⟩
 obtain ⟨b, off, cap, rfl, hc, hb, hl, hcell, hlt⟩ := KF.cells h (by omega)
 clear h
 by_cases h25 : 25 < xs.length
 ·go_enter Tryz.func119, Tryz.ntmps119
  go_wp2
  go_ret
  exact ⟨ret_i (by unfold chkE; rw [if_neg h2, if_pos h25]), 0, rfl⟩
 have HE := Lib.hid (show chkE xs = chkAt xs 0 by unfold chkE; rw [if_neg h2, if_neg h25])
 have HC := Lib.hid hcell
 have HX := Lib.hid (fun i => chk_next xs i)
 have HN := Lib.hid (fun i => chk_nan xs i)
 have HB := Lib.hid (fun i => chk_bad xs i)
 have HD := Lib.hid (fun i => chk_end xs i)
 have ole : ∀ a b, (FloatKind.f64.format.order a b == some .lt || FloatKind.f64.format.order a b == some .eq) = leb a b := fun _ _ => rfl
 clear hcell hlt
 go_enter Tryz.func119, Tryz.ntmps119
 go_wp2
 go_loopw [3] (fun i wr => ∃ k d : Nat, k ≤ xs.length ∧ i = .int .i64 k ∧ chkAt xs k = chkAt xs 0 ∧ wr = w.drewN d) (fun i _ => xs.length - (intOf i).toNat)
 case atStart => exact ⟨0, 0, by omega, rfl, rfl, rfl⟩
 case round =>
  obtain ⟨k, d, hk, rfl, hgo, hw⟩ := hrel
  have HW := Lib.hid hw
  clear hw
  have HG := Lib.hid hgo
  clear hgo
  by_cases hlt : k < xs.length
  ·have hcell : wr.cell? ⟨b, off + k, none⟩ = some (.float .f64 (xs.getD k 0)) := by rw [HW.out]; exact HC.out k hlt
   have HX' := Lib.hid (HX.out k hlt)
   have HN' := Lib.hid (HN.out k hlt)
   have HB' := Lib.hid (HB.out k hlt)
   by_cases h0 : 0 < k
   ·have hd : decide (0 < (k : Int)) = true := decide_eq_true (by omega)
    have hprev : wr.cell? ⟨b, off + (k - 1), none⟩ = some (.float .f64 (xs.getD (k - 1) 0)) := by rw [HW.out]; exact HC.out (k - 1) (by omega)
    generalize xs.getD (k - 1) 0 = g at *
    generalize xs.getD k 0 = f at *
    rcases Bool.eq_false_or_eq_true (nanb f) with hn | hn
    ·have HR := Lib.hid (HN'.out hn)
     go_wp2_with (go_at_call 124; refine (rnone_any _ _).mono ?_; rintro e w' ⟨rfl, rfl⟩)
     go_ret
     exact ⟨ret_i (by rw [HE.out, ← HG.out, HR.out]), by rw [HW.out]; first | exact ⟨_, rfl⟩ | exact drewN_two _ _ _⟩
    ·rcases Bool.eq_false_or_eq_true (leb f g) with hb | hb
     ·have HR := Lib.hid (HB'.out hn h0 hb)
      go_wp2_with (go_at_call 124; refine (rnone_any _ _).mono ?_; rintro e w' ⟨rfl, rfl⟩)
      go_quiet (fail)
      go_wp2
      go_ret
      exact ⟨ret_i (by rw [HE.out, ← HG.out, HR.out]), by rw [HW.out]; first | exact ⟨_, rfl⟩ | exact drewN_two _ _ _⟩
     ·have HR := Lib.hid (HX'.out hn (.inr hb))
      go_wp2_with (go_at_call 124; refine (rnone_any _ _).mono ?_; rintro e w' ⟨rfl, rfl⟩)
      go_quiet (fail)
      go_wp2
      go_roundw
      case rel => obtain ⟨d2, hd2⟩ := drewN_two w d nq; exact ⟨k + 1, d2, by omega, num_i (by omega), by rw [HR.out, HG.out], by rw [HW.out]; exact hd2⟩
      case measure => simp [intOf]; omega
   ·have hd : decide (0 < (k : Int)) = false := decide_eq_false (by omega)
    generalize xs.getD k 0 = f at *
    rcases Bool.eq_false_or_eq_true (nanb f) with hn | hn
    ·have HR := Lib.hid (HN'.out hn)
     go_wp2_with (go_at_call 124; refine (rnone_any _ _).mono ?_; rintro e w' ⟨rfl, rfl⟩)
     go_ret
     exact ⟨ret_i (by rw [HE.out, ← HG.out, HR.out]), by rw [HW.out]; first | exact ⟨_, rfl⟩ | exact drewN_two _ _ _⟩
    ·have HR := Lib.hid (HX'.out hn (.inl (by omega)))
     go_wp2_with (go_at_call 124; refine (rnone_any _ _).mono ?_; rintro e w' ⟨rfl, rfl⟩)
     go_quiet (fail)
     go_wp2
     go_roundw
     case rel => obtain ⟨d2, hd2⟩ := drewN_two w d nq; exact ⟨k + 1, d2, by omega, num_i (by omega), by rw [HR.out, HG.out], by rw [HW.out]; exact hd2⟩
     case measure => simp [intOf]; omega
  ·go_wp2
   go_ret
   exact ⟨ret_i (by rw [HE.out, ← HG.out, HD.out k (by omega)]), _, HW.out⟩
end Go.Proofs.YtacjonncakhhmaaGreat
namespace Go.Proofs.YtacjonncakhhmaaGreat
/-- Borders that rise. -/
structure Rise (l : List Nat) : Prop where
 two : 2 ≤ l.length
 most : l.length ≤ 25
 num : ∀ i, i < l.length → ¬ nan (l.getD i 0)
 lt : ∀ i j, i < j → j < l.length → vf (l.getD i 0) < vf (l.getD j 0)
theorem Rise.le {l : List Nat} (h : Rise l) (i j : Nat) (hij : i ≤ j) (hj : j < l.length) : vf (l.getD i 0) ≤ vf (l.getD j 0) := by
 rcases Nat.lt_or_eq_of_le hij with h1 | h1
 ·exact Int.le_of_lt (h.lt i j h1 hj)
 ·rw [h1]; omega
theorem chk_all (l : List Nat) : ∀ n i, n = l.length - i → chkAt l i = 0 → ∀ j, i ≤ j → j < l.length → ¬ nan (l.getD j 0) ∧ (0 < j → leb (l.getD j 0) (l.getD (j - 1) 0) = false) := by
 intro n
 induction n with
 | zero => intro i hn _ j h1 h2; omega
 | succ n ih =>
  intro i hn hc j h1 h2
  rw [chkAt, if_pos (by omega)] at hc
  by_cases hnan : nanb (l.getD i 0) = true
  ·rw [if_pos hnan] at hc; omega
  rw [if_neg hnan] at hc
  by_cases hb : 0 < i ∧ leb (l.getD i 0) (l.getD (i - 1) 0) = true
  ·rw [if_pos hb] at hc; omega
  rw [if_neg hb] at hc
  by_cases hij : i = j
  ·subst hij
   refine ⟨by unfold nanb at hnan; simpa using hnan, fun h0 => ?_⟩
   rw [← Bool.not_eq_true]
   exact fun hh => hb ⟨h0, hh⟩
  ·exact ih (i + 1) (by omega) hc j (by omega) h2
theorem rise_of (l : List Nat) (h : chkE l = 0) : Rise l := by
 unfold chkE at h
 by_cases h1 : l.length < 2
 ·rw [if_pos h1] at h; omega
 rw [if_neg h1] at h
 by_cases h2 : 25 < l.length
 ·rw [if_pos h2] at h; omega
 rw [if_neg h2] at h
 have ha := chk_all l _ 0 rfl h
 have hnum : ∀ i, i < l.length → ¬ nan (l.getD i 0) := fun i hi => (ha i (Nat.zero_le _) hi).1
 have step : ∀ i, i + 1 < l.length → vf (l.getD i 0) < vf (l.getD (i + 1) 0) := fun i hi => by
  have h3 := (ha (i + 1) (Nat.zero_le _) hi).2 (by omega)
  rw [Nat.add_sub_cancel] at h3
  apply Int.lt_of_not_ge
  intro hh
  have := (leb_iff (l.getD (i + 1) 0) (l.getD i 0)).2 ⟨hnum _ hi, hnum _ (by omega), hh⟩
  rw [this] at h3
  cases h3
 refine ⟨by omega, by omega, hnum, fun i j hij => ?_⟩
 induction j with
 | zero => omega
 | succ j ih =>
  intro hj
  by_cases e : i = j
  ·subst e; exact step i hj
  ·exact Int.lt_trans (ih (by omega) (by omega)) (step j hj)
theorem ltb_num {a b : Nat} (ha : ¬ nan a) (hb : ¬ nan b) : ltb a b = decide (vf a < vf b) := by
 rw [Bool.eq_iff_iff, ltb_iff, decide_eq_true_eq]
 exact ⟨fun h => h.2.2, fun h => ⟨ha, hb, h⟩⟩
theorem leb_num {a b : Nat} (ha : ¬ nan a) (hb : ¬ nan b) : leb a b = decide (vf a ≤ vf b) := by
 rw [Bool.eq_iff_iff, leb_iff, decide_eq_true_eq]
 exact ⟨fun h => h.2.2, fun h => ⟨ha, hb, h⟩⟩
theorem gtb_num {a b : Nat} (ha : ¬ nan a) (hb : ¬ nan b) : gtb a b = decide (vf b < vf a) := by
 rw [Bool.eq_iff_iff, gtb_iff, decide_eq_true_eq]
 exact ⟨fun h => h.2.2, fun h => ⟨ha, hb, h⟩⟩
theorem geb_num {a b : Nat} (ha : ¬ nan a) (hb : ¬ nan b) : geb a b = decide (vf b ≤ vf a) := by
 rw [Bool.eq_iff_iff, geb_iff, decide_eq_true_eq]
 exact ⟨fun h => h.2.2, fun h => ⟨ha, hb, h⟩⟩
/-- The first lane that a lies below the upper border of; the last one that b is not below. -/
def loV (l : List Nat) (a : Nat) (k : Nat) : Nat := if k + 2 < l.length ∧ geb a (l.getD (k + 1) 0) = true then loV l a (k + 1) else k
termination_by l.length - k
def hiV (l : List Nat) (b : Nat) : Nat → Nat
 | 0 => 0
 | k + 1 => if ltb b (l.getD (k + 1) 0) = true then hiV l b k else k + 1
theorem lo_next (l : List Nat) (a k : Nat) (h : k + 2 < l.length) (hg : geb a (l.getD (k + 1) 0) = true) : loV l a (k + 1) = loV l a k := by
 rw [loV.eq_def l a k, if_pos ⟨h, hg⟩]
theorem lo_end (l : List Nat) (a k : Nat) (h : l.length ≤ k + 2 ∨ geb a (l.getD (k + 1) 0) = false) : loV l a k = k := by
 rw [loV, if_neg]
 rintro ⟨h1, h2⟩
 rcases h with h | h
 ·omega
 ·rw [h] at h2; cases h2
theorem hi_next (l : List Nat) (b k : Nat) (hg : ltb b (l.getD k 0) = true) (h0 : ltb b (l.getD 0 0) = false) : 0 < k ∧ hiV l b (k - 1) = hiV l b k := by
 cases k with
 | zero => rw [h0] at hg; cases hg
 | succ k =>
  refine ⟨by omega, ?_⟩
  rw [Nat.add_sub_cancel, hiV.eq_def l b (k + 1)]
  simp only [hg, if_true]
theorem hi_end (l : List Nat) (b k : Nat) (hg : ltb b (l.getD k 0) = false) : hiV l b k = k := by
 cases k with
 | zero => rfl
 | succ k =>
  rw [hiV, hg, if_neg (by simp)]
/-- Lies it off the rail? -/
def outB (l : List Nat) (a b : Nat) : Bool := gtb a (l.getD (l.length - 1) 0) || ltb b (l.getD 0 0)
theorem lo_spec (l : List Nat) (h : Rise l) (a : Nat) (ha : ¬ nan a) : ∀ n k, n = l.length - k → k + 2 ≤ l.length → (∀ j, j < k → vf (l.getD (j + 1) 0) ≤ vf a) →
  loV l a k + 2 ≤ l.length ∧ (∀ j, j < loV l a k → vf (l.getD (j + 1) 0) ≤ vf a) ∧ (loV l a k + 2 = l.length ∨ vf a < vf (l.getD (loV l a k + 1) 0)) := by
 intro n
 induction n with
 | zero => intro k h1 h2; omega
 | succ n ih =>
  intro k hn hk hj
  by_cases hc : k + 2 < l.length ∧ geb a (l.getD (k + 1) 0) = true
  ·rw [loV, if_pos hc]
   refine ih (k + 1) (by omega) (by omega) fun j hj2 => ?_
   by_cases e : j = k
   ·subst e
    exact ((geb_iff _ _).1 hc.2).2.2
   ·exact hj j (by omega)
  ·rw [loV, if_neg hc]
   refine ⟨hk, hj, ?_⟩
   by_cases e : k + 2 = l.length
   ·exact .inl e
   ·right
    have hg : ¬ geb a (l.getD (k + 1) 0) = true := fun hh => hc ⟨by omega, hh⟩
    rw [geb_num ha (h.num _ (by omega)), decide_eq_true_eq] at hg
    omega
theorem hi_spec (l : List Nat) (h : Rise l) (b : Nat) (hb : ¬ nan b) (h0 : vf (l.getD 0 0) ≤ vf b) : ∀ k, k < l.length →
  hiV l b k ≤ k ∧ vf (l.getD (hiV l b k) 0) ≤ vf b ∧ ∀ j, hiV l b k < j → j ≤ k → vf b < vf (l.getD j 0) := by
 intro k
 induction k with
 | zero => intro _; exact ⟨Nat.le_refl _, h0, fun j h1 h2 => by unfold hiV at h1; omega⟩
 | succ k ih =>
  intro hk
  obtain ⟨i1, i2, i3⟩ := ih (by omega)
  by_cases hc : ltb b (l.getD (k + 1) 0) = true
  ·rw [hiV, if_pos hc]
   refine ⟨by omega, i2, fun j h1 h2 => ?_⟩
   by_cases e : j = k + 1
   ·subst e
    exact ((ltb_iff _ _).1 hc).2.2
   ·exact i3 j h1 (by omega)
  ·rw [hiV, if_neg hc]
   rw [ltb_num hb (h.num _ hk), decide_eq_true_eq] at hc
   exact ⟨Nat.le_refl _, by omega, fun j h1 h2 => by omega⟩
/-- What is known of the touched lanes. -/
theorem lanes_spec (l : List Nat) (h : Rise l) (a b : Nat) (ha : ¬ nan a) (hb : ¬ nan b) (hab : vf a ≤ vf b) (ho : outB l a b = false) :
  loV l a 0 ≤ hiV l b (l.length - 2) ∧ hiV l b (l.length - 2) + 2 ≤ l.length ∧ (∀ j, j < loV l a 0 → vf (l.getD (j + 1) 0) ≤ vf a) ∧ (loV l a 0 + 2 = l.length ∨ vf a < vf (l.getD (loV l a 0 + 1) 0)) ∧
  vf (l.getD (hiV l b (l.length - 2)) 0) ≤ vf b ∧ (∀ j, hiV l b (l.length - 2) < j → j + 2 ≤ l.length → vf b < vf (l.getD j 0)) ∧ vf a ≤ vf (l.getD (l.length - 1) 0) ∧ vf (l.getD 0 0) ≤ vf b := by
 have h2 := h.two
 unfold outB at ho
 rw [Bool.or_eq_false_iff, gtb_num ha (h.num _ (by omega)), ltb_num hb (h.num _ (by omega)), decide_eq_false_iff_not, decide_eq_false_iff_not] at ho
 obtain ⟨o1, o2⟩ := ho
 obtain ⟨a1, a2, a3⟩ := lo_spec l h a ha _ 0 rfl (by omega) (fun j hj => by omega)
 obtain ⟨b1, b2, b3⟩ := hi_spec l h b hb (by omega) (l.length - 2) (by omega)
 refine ⟨?_, by omega, a2, a3, b2, fun j j1 j2 => b3 j j1 (by omega), by omega, by omega⟩
 apply Nat.le_of_not_lt
 intro hh
 have x := b3 (hiV l b (l.length - 2) + 1) (by omega) (by omega)
 have y := a2 (hiV l b (l.length - 2)) hh
 omega
/-- Is a lane touched? -/
def tchB (l : List Nat) (a b k : Nat) : Bool := (if k + 2 = l.length then leb a (l.getD (k + 1) 0) else ltb a (l.getD (k + 1) 0)) && geb b (l.getD k 0)
theorem tch_iff (l : List Nat) (h : Rise l) (a b : Nat) (ha : ¬ nan a) (hb : ¬ nan b) (hab : vf a ≤ vf b) (ho : outB l a b = false) (k : Nat) (hk : k + 2 ≤ l.length) :
  tchB l a b k = true ↔ loV l a 0 ≤ k ∧ k ≤ hiV l b (l.length - 2) := by
 obtain ⟨s1, s2, s3, s4, s5, s6, s7, s8⟩ := lanes_spec l h a b ha hb hab ho
 unfold tchB
 rw [Bool.and_eq_true, geb_num hb (h.num _ (by omega)), decide_eq_true_eq]
 constructor
 ·rintro ⟨t1, t2⟩
  constructor
  ·apply Nat.le_of_not_lt
   intro hh
   have x := s3 k hh
   rw [if_neg (by omega), ltb_num ha (h.num _ (by omega)), decide_eq_true_eq] at t1
   omega
  ·apply Nat.le_of_not_lt
   intro hh
   have x := s6 k hh hk
   omega
 ·rintro ⟨t1, t2⟩
  constructor
  ·by_cases e : k + 2 = l.length
   ·rw [if_pos e, leb_num ha (h.num _ (by omega)), decide_eq_true_eq]
    rw [show k + 1 = l.length - 1 by omega]
    exact s7
   ·rw [if_neg e, ltb_num ha (h.num _ (by omega)), decide_eq_true_eq]
    rcases s4 with s4 | s4
    ·omega
    ·have := h.le (loV l a 0 + 1) (k + 1) (by omega) (by omega)
     omega
  ·have := h.le k _ t2 (by omega)
   omega
theorem tch_out (l : List Nat) (h : Rise l) (a b : Nat) (ha : ¬ nan a) (hb : ¬ nan b) (ho : outB l a b = true) (k : Nat) (hk : k + 2 ≤ l.length) : tchB l a b k = false := by
 have h2 := h.two
 unfold outB at ho
 rw [Bool.or_eq_true, gtb_num ha (h.num _ (by omega)), ltb_num hb (h.num _ (by omega)), decide_eq_true_eq, decide_eq_true_eq] at ho
 rw [← Bool.not_eq_true]
 unfold tchB
 rw [Bool.and_eq_true, geb_num hb (h.num _ (by omega)), decide_eq_true_eq]
 rintro ⟨t1, t2⟩
 rcases ho with ho | ho
 ·have x := h.le (k + 1) (l.length - 1) (by omega) (by omega)
  by_cases e : k + 2 = l.length
  ·rw [if_pos e, leb_num ha (h.num _ (by omega)), decide_eq_true_eq] at t1
   omega
  ·rw [if_neg e, ltb_num ha (h.num _ (by omega)), decide_eq_true_eq] at t1
   omega
 ·have x := h.le 0 k (by omega) (by omega)
  omega
/-- All that are touched. -/
def tchs (l : List Nat) (a b : Nat) (k : Nat) : List Nat := (List.range k).filter (tchB l a b)
theorem tchs_out (l : List Nat) (h : Rise l) (a b : Nat) (ha : ¬ nan a) (hb : ¬ nan b) (ho : outB l a b = true) : tchs l a b (l.length - 1) = [] := by
 unfold tchs
 rw [List.filter_eq_nil_iff]
 intro k hk
 rw [List.mem_range] at hk
 rw [tch_out l h a b ha hb ho k (by omega)]
 simp
theorem tchs_in (l : List Nat) (h : Rise l) (a b : Nat) (ha : ¬ nan a) (hb : ¬ nan b) (hab : vf a ≤ vf b) (ho : outB l a b = false) :
  tchs l a b (l.length - 1) = List.range' (loV l a 0) (hiV l b (l.length - 2) - loV l a 0 + 1) := by
 obtain ⟨s1, s2, _⟩ := lanes_spec l h a b ha hb hab ho
 have hti := tch_iff l h a b ha hb hab ho
 generalize loV l a 0 = lo at *
 generalize hiV l b (l.length - 2) = hi at *
 unfold tchs
 have hs1 : ((List.range (l.length - 1)).filter (tchB l a b)).Pairwise (· < ·) := List.Pairwise.filter _ List.pairwise_lt_range
 have hs2 : (List.range' lo (hi - lo + 1)).Pairwise (· < ·) := List.pairwise_lt_range'
 refine List.Perm.eq_of_pairwise (le := (· < ·)) (fun x y _ _ h1 h2 => by omega) hs1 hs2 ?_
 refine (List.perm_ext_iff_of_nodup (hs1.imp (fun h => Nat.ne_of_lt h)) (hs2.imp (fun h => Nat.ne_of_lt h))).2 fun k => ?_
 rw [List.mem_filter, List.mem_range, List.mem_range'_1]
 constructor
 ·rintro ⟨h1, h2⟩
  have := (hti k (by omega)).1 h2
  omega
 ·rintro ⟨h1, h2⟩
  exact ⟨by omega, (hti k (by omega)).2 (by omega)⟩
/-- The reference's lane of a place. -/
def atV (l : List Nat) (x : Nat) : Nat → Nat
 | 0 => 0
 | k + 1 => if leb (l.getD k 0) x = true then k else atV l x k
end Go.Proofs.YtacjonncakhhmaaGreat
namespace Go.Proofs.YtacjonncakhhmaaGreat
open Go.RowKit
/-- A plate: its numbers, where its volumes lie, and what they are. -/
structure Pl where
 rows : Int
 cols : Int
 x : Nat
 p : Nat
 r : Nat
 cap : Int
 sA : Option Addr
 sn : Nat
 sc : Nat
 st : List Int
structure Rk where
 rows : Int
 cols : Int
 x : Nat
 p : Nat
 r : Nat
/-- Four numbers. -/
structure Q4 where
 a : Int
 b : Int
 c : Int
 d : Int
 deriving DecidableEq
def plCells (q : Pl) : List Value := [.int .i64 q.rows, .int .i64 q.cols, .float .f64 q.x, .float .f64 q.p, .float .f64 q.r, .int .i64 q.cap, .slice q.sA q.sn q.sc]
def rkCells (q : Rk) : List Value := [.int .i64 q.rows, .int .i64 q.cols, .float .f64 q.x, .float .f64 q.p, .float .f64 q.r]
def q4Cells (q : Q4) : List Value := [.int .i64 q.a, .int .i64 q.b, .int .i64 q.c, .int .i64 q.d]
noncomputable def KP : Lk Tryz.prog Pl where
 S := 23
 E := 47
 n := 7
 zero := .agg #[.int .i64 0, .int .i64 0, .float .f64 0, .float .f64 0, .float .f64 0, .int .i64 0, .slice none 0 0]
 bytes := 72
 cells := plCells
 dflt := ⟨0, 0, 0, 0, 0, 0, none, 0, 0, []⟩
 ok q := fits q.rows ∧ fits q.cols ∧ q.x < 18446744073709551616 ∧ q.p < 18446744073709551616 ∧ q.r < 18446744073709551616 ∧ fits q.cap
 und := Tryz.underlying23
 info := by kernel_rfl
 zs := rfl
 pos := by decide
 small := by decide
 len _ := rfl
 one x u hu := by
  simp only [plCells, List.mem_cons, List.not_mem_nil, or_false] at hu
  rcases hu with rfl | rfl | rfl | rfl | rfl | rfl | rfl <;> rfl
noncomputable def KR : Lk Tryz.prog Rk where
 S := 24
 E := 52
 n := 5
 zero := .agg #[.int .i64 0, .int .i64 0, .float .f64 0, .float .f64 0, .float .f64 0]
 bytes := 40
 cells := rkCells
 dflt := ⟨0, 0, 0, 0, 0⟩
 ok q := fits q.rows ∧ fits q.cols ∧ q.x < 18446744073709551616 ∧ q.p < 18446744073709551616 ∧ q.r < 18446744073709551616
 und := Tryz.underlying24
 info := by kernel_rfl
 zs := rfl
 pos := by decide
 small := by decide
 len _ := rfl
 one x u hu := by
  simp only [rkCells, List.mem_cons, List.not_mem_nil, or_false] at hu
  rcases hu with rfl | rfl | rfl | rfl | rfl <;> rfl
noncomputable def KU : Lk Tryz.prog Q4 where
 S := 141
 E := 144
 n := 4
 zero := .agg #[.int .i64 0, .int .i64 0, .int .i64 0, .int .i64 0]
 bytes := 32
 cells := q4Cells
 dflt := ⟨0, 0, 0, 0⟩
 ok q := fits q.a ∧ fits q.b ∧ fits q.c ∧ fits q.d
 und := Tryz.underlying141
 info := by kernel_rfl
 zs := rfl
 pos := by decide
 small := by decide
 len _ := rfl
 one x u hu := by
  simp only [q4Cells, List.mem_cons, List.not_mem_nil, or_false] at hu
  rcases hu with rfl | rfl | rfl | rfl <;> rfl
noncomputable def KQ : Lk Tryz.prog Q4 where
 S := 155
 E := 114
 n := 4
 zero := .agg #[.int .i64 0, .int .i64 0, .int .i64 0, .int .i64 0]
 bytes := 32
 cells := q4Cells
 dflt := ⟨0, 0, 0, 0⟩
 ok q := fits q.a ∧ fits q.b ∧ fits q.c ∧ fits q.d
 und := Tryz.underlying155
 info := by kernel_rfl
 zs := rfl
 pos := by decide
 small := by decide
 len _ := rfl
 one x u hu := by
  simp only [q4Cells, List.mem_cons, List.not_mem_nil, or_false] at hu
  rcases hu with rfl | rfl | rfl | rfl <;> rfl
/-- A list's length is the slice's. -/
theorem Lk.IsL.len {P : Program} {α : Type} {K : Lk P α} {w : World} {B : Nat} {A : Option Addr} {n c : Nat} {xs : List α} (h : K.IsL w B (.slice A n c) xs) : n = xs.length := by
 obtain ⟨⟨A', c', hv, _⟩, _⟩ := h
 injection hv
/-- An element's cells. -/
theorem Lk.IsL.elem {P : Program} {α : Type} {K : Lk P α} {w : World} {B : Nat} {A : Option Addr} {n c : Nat} {xs : List α} (h : K.IsL w B (.slice A n c) xs) (h0 : 0 < xs.length) : ∃ b off, A = some ⟨b, off, none⟩ ∧ b < B ∧ xs.length ≤ c ∧
  ∀ i, i < xs.length → ∀ j u, (K.cells (xs.getD i K.dflt))[j]? = some u → w.cell? ⟨b, off + (i * K.n + j), none⟩ = some u := by
 obtain ⟨⟨A', c', hv, hc, hA⟩, _⟩ := h
 obtain ⟨b, off, rfl, hb, hcell⟩ := hA h0
 injection hv with e1 e2 e3
 exact ⟨b, off, e1, hb, by omega, hcell⟩
theorem Lk.IsL.okAt {P : Program} {α : Type} {K : Lk P α} {w : World} {B : Nat} {v : Value} {xs : List α} (h : K.IsL w B v xs) (i : Nat) (hi : i < xs.length) : K.ok (xs.getD i K.dflt) := h.2.1 _ (getD_mem' xs i _ hi)
/-- A deck: where its lists lie, and what they are. -/
structure Dk where
 bA : Option Addr
 bn : Nat
 bc : Nat
 bl : List Nat
 pA : Option Addr
 pn : Nat
 pc : Nat
 pl : List Pl
 rA : Option Addr
 rn : Nat
 rc : Nat
 rl : List Rk
 arms : Int
/-- A deck's value. -/
abbrev Dk.v (d : Dk) : Value := .agg #[.slice d.bA d.bn d.bc, .slice d.pA d.pn d.pc, .slice d.rA d.rn d.rc, .int .i64 d.arms]
/-- A deck that lies in memory below a block. -/
structure Dk.In (w : World) (B : Nat) (d : Dk) : Prop where
 b : KF.IsL w B (.slice d.bA d.bn d.bc) d.bl
 p : KP.IsL w B (.slice d.pA d.pn d.pc) d.pl
 r : KR.IsL w B (.slice d.rA d.rn d.rc) d.rl
 s : ∀ q ∈ d.pl, KI.IsL w B (.slice q.sA q.sn q.sc) q.st
 a : fits d.arms
theorem Dk.In.below {w w' : World} {B : Nat} {d : Dk} (h : d.In w B) (hb : Below B w w') : d.In w' B := ⟨h.b.below hb, h.p.below hb, h.r.below hb, fun q hq => (h.s q hq).below hb, h.a⟩
theorem Dk.In.more {w : World} {B B' : Nat} {d : Dk} (h : d.In w B) (hB : B ≤ B') : d.In w B' := ⟨h.b.more hB, h.p.more hB, h.r.more hB, fun q hq => (h.s q hq).more hB, h.a⟩
theorem Dk.In.then {w w' : World} {d : Dk} (h : d.In w w.heap.size) (hb : Below w.heap.size w w') : d.In w' w'.heap.size := (h.below hb).more hb.size
theorem Dk.In.drewN {w : World} {B : Nat} {d : Dk} (h : d.In w B) (n : Nat) : d.In (w.drewN n) B := ⟨h.b, h.p, h.r, h.s, h.a⟩
/-- May so many rows and columns be? -/
def sizeB (r c : Int) : Bool := decide (1 ≤ r ∧ r ≤ 32 ∧ 1 ≤ c ∧ c ≤ 48)
set_option maxHeartbeats 1000000 in
theorem rightSize_any (r c : Int) (w : World) : Calls Tryz.prog 88 #[.int .i64 r, .int .i64 c] w fun e w' => e = .returned (.bool (sizeB r c)) ∧ w = w' := by
 by_cases h1 : 1 ≤ r <;> by_cases h2 : r ≤ 32 <;> by_cases h3 : 1 ≤ c
 all_goals (try (exfalso; omega; done))
 all_goals
  go_enter Tryz.func88, Tryz.ntmps88
  go_wp2
  go_ret
  exact ⟨ret_b (by first | exact (decide_eq_false (by omega)).symm | exact (decide_eq_true (by omega)).symm | (rw [sizeB, Bool.eq_iff_iff]; simp only [decide_eq_true_eq]; omega)), rfl⟩
set_option maxHeartbeats 1000000 in
theorem box_any (r c : Int) (w : World) : Calls Tryz.prog 121 #[.int .i64 r, .int .i64 c] w fun e w' => e = .returned (.bool (sizeB r c)) ∧ w = w' := by
 by_cases h1 : 1 ≤ r <;> by_cases h2 : r ≤ 32 <;> by_cases h3 : 1 ≤ c
 all_goals (try (exfalso; omega; done))
 all_goals
  go_enter Tryz.func121, Tryz.ntmps121
  go_wp2
  go_ret
  exact ⟨ret_b (by first | exact (decide_eq_false (by omega)).symm | exact (decide_eq_true (by omega)).symm | (rw [sizeB, Bool.eq_iff_iff]; simp only [decide_eq_true_eq]; omega)), rfl⟩
theorem size_of {r c : Int} (h : sizeB r c = true) : 1 ≤ r ∧ r ≤ 32 ∧ 1 ≤ c ∧ c ≤ 48 := by unfold sizeB at h; simpa using h
theorem size_mul {r c : Int} (h : sizeB r c = true) : 1 ≤ r * c ∧ r * c ≤ 1536 := by
 obtain ⟨h1, h2, h3, h4⟩ := size_of h
 have a := Int.mul_le_mul h2 h4 (by omega) (by omega)
 have b := Int.mul_le_mul h1 h3 (by omega) (by omega)
 omega
end Go.Proofs.YtacjonncakhhmaaGreat
