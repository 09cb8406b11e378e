/- Mutexes: taken, given back, as the reference tells it. -/
import Derived.Test.YtbflkdkbfidleaaUB
namespace Go.Proofs.Ytbflkdkbfidleaa
open Go.RowKit
set_option maxRecDepth 100000 in
set_option maxHeartbeats 4000000 in
theorem rmay_any (v : Value) (t : List Int) (id who : Int) (w : World) (hv : KI.IsL w w.heap.size v t) :
    Calls Try.prog 42 #[v, .int .i64 id, .int .i64 who] w fun e w' => e = .returned (.int .i64 (rfE t id who)) ∧ Below w.heap.size w w' := by
  have HV := Lib.hid hv
  obtain ⟨A, c, rfl, hc⟩ := hv.shape
  have hl := hv.2.2
  have hE : rfE t id who = if rgO t && armO who then if hasB t.length id then 0 else 3 else 1 := rfl
  rw [hE]
  have HR := Lib.hid (fun w => rright_o (.slice A t.length c) t w)
  have HH := Lib.hid (hasB_iff t.length id)
  clear hE hv
  have hA : armO who = (decide (1 ≤ who) && decide (who ≤ 8)) := rfl
  rw [hA]
  clear hA
  generalize rgO t = r at *
  cases r
  · simp only [Bool.false_and, Bool.false_eq_true, if_false]
    go_enter Try.func42, Try.ntmps42
    go_wp2_with fail
    refine (HR.out _ HV.out).mono ?_
    rintro e w1 ⟨rfl, hb1⟩
    go_wp2
    go_ret
    exact ⟨rfl, hb1⟩
  by_cases h1 : who < 1
  · rw [show decide (1 ≤ who) = false from decide_eq_false (by omega)]
    simp only [Bool.false_and, Bool.and_false, Bool.false_eq_true, if_false]
    go_enter Try.func42, Try.ntmps42
    go_wp2_with fail
    refine (HR.out _ HV.out).mono ?_
    rintro e w1 ⟨rfl, hb1⟩
    go_wp2
    go_ret
    exact ⟨rfl, hb1⟩
  by_cases h8 : who > 8
  · rw [show decide (who ≤ 8) = false from decide_eq_false (by omega)]
    simp only [Bool.and_false, Bool.false_eq_true, if_false]
    go_enter Try.func42, Try.ntmps42
    go_wp2_with fail
    refine (HR.out _ HV.out).mono ?_
    rintro e w1 ⟨rfl, hb1⟩
    go_wp2
    go_ret
    exact ⟨rfl, hb1⟩
  rw [show decide (1 ≤ who) = true from decide_eq_true (by omega), show decide (who ≤ 8) = true from decide_eq_true (by omega)]
  simp only [Bool.and_self, if_true]
  by_cases h2 : id < 0
  · rw [show hasB t.length id = false by rw [← Bool.not_eq_true]; intro h; have := HH.out.1 h; omega]
    simp only [Bool.false_eq_true, if_false]
    go_enter Try.func42, Try.ntmps42
    go_wp2_with fail
    refine (HR.out _ HV.out).mono ?_
    rintro e w1 ⟨rfl, hb1⟩
    go_wp2
    go_ret
    exact ⟨rfl, hb1⟩
  by_cases h3 : (t.length : Int) ≤ id
  · rw [show hasB t.length id = false by rw [← Bool.not_eq_true]; intro h; have := HH.out.1 h; omega]
    simp only [Bool.false_eq_true, if_false]
    go_enter Try.func42, Try.ntmps42
    go_wp2_with fail
    refine (HR.out _ HV.out).mono ?_
    rintro e w1 ⟨rfl, hb1⟩
    go_wp2
    go_ret
    exact ⟨rfl, hb1⟩
  rw [show hasB t.length id = true from HH.out.2 (by omega)]
  simp only [if_true]
  go_enter Try.func42, Try.ntmps42
  go_wp2_with fail
  refine (HR.out _ HV.out).mono ?_
  rintro e w1 ⟨rfl, hb1⟩
  go_wp2
  go_ret
  exact ⟨rfl, hb1⟩
set_option maxRecDepth 100000 in
set_option maxHeartbeats 4000000 in
theorem rput_any (v : Value) (t : List Int) (j : Nat) (who : Int) (hw : fits who) (w : World) (hv : KI.IsL w w.heap.size v t) (hl : t.length ≤ 100000) (hj : j < t.length) :
    Calls Try.prog 43 #[v, .int .i64 j, .int .i64 who] w fun e w' => ∃ v', e = .returned v' ∧ KI.Own w' w.heap.size v' (t.set j who) ∧ Below w.heap.size w w' := by
  have HV := Lib.hid hv
  obtain ⟨A, c, rfl, hc⟩ := hv.shape
  clear hv
  go_enter Try.func43, Try.ntmps43
  go_wp2_with (at_builtin; refine Lk.wpList_app (K := KI) _ rfl _ _ rfl rfl w.heap.size w.heap.size _ _ [] t rfl rfl (Lk.Own.made w w.heap.size 0 #[] (Nat.le_refl _) (by unfold maxLen; omega) rfl) (HV.out.below (Below.al (Below.refl _ w) _)) ?c1 ?c2 ?_)
  case c1 => simp; omega
  case c2 => simp
  intro v1 w4 hown hgrow _
  have HB4 := Lib.hid (Lk.Own.grow' (K := KI) (Lk.Own.made w w.heap.size 0 #[] (Nat.le_refl _) (by unfold maxLen; omega) rfl) (Below.al (Below.refl _ w) _) (by simp) hgrow)
  obtain ⟨g, cp, rfl, hg1, hg2, hg3⟩ := hown.shape (by omega)
  obtain ⟨f1, f2⟩ := KI.Own.at hown rfl j hj
  have HP := Lib.hid (KI.Own.put hown rfl j who hw)
  clear hown hgrow
  generalize t.getD j 0 = old at *
  go_wp2
  go_ret
  exact ⟨_, rfl, HP.out.1, HB4.out.setCell hg1 _⟩
set_option maxRecDepth 100000 in
set_option maxHeartbeats 4000000 in
theorem rlock_any (v : Value) (t : List Int) (id who : Int) (hwf : fits who) (w : World) (hv : KI.IsL w w.heap.size v t) (hl : t.length ≤ 100000) :
    Calls Try.prog 14 #[v, .int .i64 id, .int .i64 who] w fun e w' => ∃ v', e = .returned (.tuple #[v', .int .i64 (lkE t id who)]) ∧ KI.Own w' w.heap.size v' (lkL t id who) ∧ Below w.heap.size w w' := by
  have HV := Lib.hid hv
  have HR := Lib.hid (rmay_any v t id who w hv)
  have HC := Lib.hid (rfE_cases t id who)
  have HO := Lib.hid (fun h => rfE_ok (t := t) (id := id) (who := who) h)
  have hE : lkE t id who = if rfE t id who = 0 then if t.getD id.toNat 0 = 0 then 0 else if t.getD id.toNat 0 = who then 171 else 170 else rfE t id who := rfl
  have hL : lkL t id who = if lkE t id who = 0 then t.set id.toNat who else [] := rfl
  rw [hL, hE]
  clear hE hL
  generalize rfE t id who = r at *
  obtain ⟨A, c, rfl, hc⟩ := hv.shape
  clear hv
  by_cases h0 : r = 0
  · subst h0
    obtain ⟨⟨hi0, hi1⟩, ⟨hw1, hw2⟩, _⟩ := HO.out rfl
    obtain ⟨j, rfl⟩ := Int.eq_ofNat_of_zero_le hi0
    rw [show ((j : Int)).toNat = j from rfl]
    have hj : j < t.length := by omega
    have HW := Lib.hid (fun w1 h => rput_any (.slice A t.length c) t j who hwf w1 h hl hj)
    obtain ⟨b, off, cap', hs, _, hb, _, hcell, _⟩ := KI.cells HV.out (by omega)
    simp only [Value.slice.injEq] at hs
    obtain ⟨rfl, _, rfl⟩ := hs
    have e1 := hcell j hj
    clear hcell hc HC HO
    generalize t.getD j 0 = x at *
    by_cases hx0 : x = 0
    · subst hx0
      have hne : ((0 : Int) == who) = false := by rw [beq_eq_false_iff_ne]; omega
      simp only [if_true]
      go_enter Try.func14, Try.ntmps14
      go_wp2_with fail
      refine HR.out.mono ?_
      rintro e w1 ⟨rfl, hb1⟩
      have HB1 := Lib.hid hb1
      have e1 := keep_cell hb1 e1
      clear hb1
      go_wp2_with fail
      refine (HW.out _ (HV.out.then HB1.out)).mono ?_
      rintro e w2 ⟨v2, rfl, ho2, hb2⟩
      go_wp2
      go_ret2
      exact ⟨_, rfl, ho2.mono HB1.out.size, Below.call HB1.out hb2⟩
    by_cases hxw : x = who
    · subst hxw
      simp only [hx0, if_false, if_true, Int.reduceEq]
      go_enter Try.func14, Try.ntmps14
      go_wp2_with fail
      refine HR.out.mono ?_
      rintro e w1 ⟨rfl, hb1⟩
      have HB1 := Lib.hid hb1
      have e1 := keep_cell hb1 e1
      clear hb1
      go_wp2
      go_ret2
      exact ⟨_, rfl, Lk.Own.nil _ _, HB1.out⟩
    · simp only [hx0, hxw, if_false, reduceIte, Int.reduceEq]
      go_enter Try.func14, Try.ntmps14
      go_wp2_with fail
      refine HR.out.mono ?_
      rintro e w1 ⟨rfl, hb1⟩
      have HB1 := Lib.hid hb1
      have e1 := keep_cell hb1 e1
      clear hb1
      go_wp2
      go_ret2
      exact ⟨_, rfl, Lk.Own.nil _ _, HB1.out⟩
  · have hr : r = 1 ∨ r = 3 := by have := HC.out; omega
    clear HO HC h0
    rcases hr with rfl | rfl
    all_goals
      simp only [if_false, Int.reduceEq]
      go_enter Try.func14, Try.ntmps14
      go_wp2_with fail
      refine HR.out.mono ?_
      rintro e w1 ⟨rfl, hb1⟩
      go_wp2
      go_ret2
      exact ⟨_, rfl, Lk.Own.nil _ _, hb1⟩
set_option maxRecDepth 100000 in
set_option maxHeartbeats 4000000 in
theorem runlock_any (v : Value) (t : List Int) (id who : Int) (hwf : fits who) (w : World) (hv : KI.IsL w w.heap.size v t) (hl : t.length ≤ 100000) :
    Calls Try.prog 15 #[v, .int .i64 id, .int .i64 who] w fun e w' => ∃ v', e = .returned (.tuple #[v', .int .i64 (ulE t id who)]) ∧ KI.Own w' w.heap.size v' (ulL t id who) ∧ Below w.heap.size w w' := by
  have HV := Lib.hid hv
  have HR := Lib.hid (rmay_any v t id who w hv)
  have HC := Lib.hid (rfE_cases t id who)
  have HO := Lib.hid (fun h => rfE_ok (t := t) (id := id) (who := who) h)
  have hE : ulE t id who = if rfE t id who = 0 then if t.getD id.toNat 0 = who then 0 else 172 else rfE t id who := rfl
  have hL : ulL t id who = if ulE t id who = 0 then t.set id.toNat 0 else [] := rfl
  rw [hL, hE]
  clear hE hL
  generalize rfE t id who = r at *
  obtain ⟨A, c, rfl, hc⟩ := hv.shape
  clear hv
  by_cases h0 : r = 0
  · subst h0
    obtain ⟨⟨hi0, hi1⟩, ⟨hw1, hw2⟩, _⟩ := HO.out rfl
    obtain ⟨j, rfl⟩ := Int.eq_ofNat_of_zero_le hi0
    rw [show ((j : Int)).toNat = j from rfl]
    have hj : j < t.length := by omega
    have HW := Lib.hid (fun w1 h => rput_any (.slice A t.length c) t j 0 (by decide) w1 h hl hj)
    obtain ⟨b, off, cap', hs, _, hb, _, hcell, _⟩ := KI.cells HV.out (by omega)
    simp only [Value.slice.injEq] at hs
    obtain ⟨rfl, _, rfl⟩ := hs
    have e1 := hcell j hj
    clear hcell hc HC HO
    generalize t.getD j 0 = x at *
    by_cases hxw : x = who
    · subst hxw
      simp only [if_true]
      go_enter Try.func15, Try.ntmps15
      go_wp2_with fail
      refine HR.out.mono ?_
      rintro e w1 ⟨rfl, hb1⟩
      have HB1 := Lib.hid hb1
      have e1 := keep_cell hb1 e1
      clear hb1
      go_wp2_with fail
      refine (HW.out _ (HV.out.then HB1.out)).mono ?_
      rintro e w2 ⟨v2, rfl, ho2, hb2⟩
      go_wp2
      go_ret2
      exact ⟨_, rfl, ho2.mono HB1.out.size, Below.call HB1.out hb2⟩
    · simp only [hxw, if_false, if_true, Int.reduceEq]
      go_enter Try.func15, Try.ntmps15
      go_wp2_with fail
      refine HR.out.mono ?_
      rintro e w1 ⟨rfl, hb1⟩
      have HB1 := Lib.hid hb1
      have e1 := keep_cell hb1 e1
      clear hb1
      go_wp2
      go_ret2
      exact ⟨_, rfl, Lk.Own.nil _ _, HB1.out⟩
  · have hr : r = 1 ∨ r = 3 := by have := HC.out; omega
    clear HO HC h0
    rcases hr with rfl | rfl
    all_goals
      simp only [if_false, Int.reduceEq]
      go_enter Try.func15, Try.ntmps15
      go_wp2_with fail
      refine HR.out.mono ?_
      rintro e w1 ⟨rfl, hb1⟩
      go_wp2
      go_ret2
      exact ⟨_, rfl, Lk.Own.nil _ _, hb1⟩
end Go.Proofs.Ytbflkdkbfidleaa
