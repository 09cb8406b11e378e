/- Owners, as the reference tells it: are they right, may they be asked? -/
import Derived.Test.YtacjonncakhhmaaOE
namespace Go.Proofs.Ytacjonncakhhmaa
open Go.RowKit
set_option maxRecDepth 100000 in
set_option maxHeartbeats 4000000 in
theorem rright_o (v : Value) (o : List Int) (w : World) (hv : KI.IsL w w.heap.size v o) : Calls Try.prog 32 #[v] w fun e w' => e = .returned (.bool (rgO o)) ∧ Below w.heap.size w w' := by
  have HV := Lib.hid hv
  obtain ⟨A, c, rfl, hc⟩ := hv.shape
  have hl := hv.2.2
  clear hv
  have HR := Lib.hid (fun k (hk : k < o.length) (h : whoB (o.getD k 0) = true) => show rgO o = false by
    unfold rgO
    rw [Bool.not_eq_false', List.any_eq_true]
    exact ⟨_, getD_mem' o k 0 hk, h⟩)
  have HT := Lib.hid (fun (h : ∀ j, j < o.length → whoB (o.getD j 0) = false) => show rgO o = true by
    unfold rgO
    rw [Bool.not_eq_true', List.any_eq_false]
    intro x hx
    obtain ⟨j, hj, e⟩ := List.getElem_of_mem hx
    have := h j hj
    rw [List.getD_eq_getElem?_getD, List.getElem?_eq_getElem hj, Option.getD_some, e] at this
    rw [this]
    exact Bool.false_ne_true)
  generalize rgO o = r at *
  go_enter Try.func32, Try.ntmps32
  go_wp2
  go_loopw [3] (fun i wr => ∃ k : Nat, k ≤ o.length ∧ i = .int .i64 k ∧ (∀ j, j < k → whoB (o.getD j 0) = false) ∧ w = wr) (fun i _ => o.length - (intOf i).toNat)
  case atStart => exact ⟨0, Nat.zero_le _, rfl, fun j hj => absurd hj (Nat.not_lt_zero _), rfl⟩
  case round =>
    obtain ⟨k, hk, rfl, hj, rfl⟩ := hrel
    have HJ := Lib.hid hj
    clear hj
    by_cases hlt : k < o.length
    · obtain ⟨b, off, cap', hs, _, hb, hl2, hcell, hf⟩ := KI.cells HV.out (by omega)
      simp only [Value.slice.injEq] at hs
      obtain ⟨rfl, _, rfl⟩ := hs
      have e1 := hcell k hlt
      have HW := Lib.hid (whoB_iff (o.getD k 0))
      have HRk := Lib.hid (HR.out k hlt)
      obtain ⟨x, hx⟩ : ∃ x, o.getD k 0 = x := ⟨_, rfl⟩
      have HX := Lib.hid hx
      rw [hx] at e1 HW HRk
      clear hcell hf hx
      by_cases h0 : x < 0
      · go_wp2
        go_ret
        exact ⟨by rw [HRk.out (by rw [← Bool.not_eq_false]; intro h; have := HW.out.1 h; omega)]; rfl, Below.refl _ _⟩
      by_cases h8 : 8 < x
      · go_wp2
        go_ret
        exact ⟨by rw [HRk.out (by rw [← Bool.not_eq_false]; intro h; have := HW.out.1 h; omega)]; rfl, Below.refl _ _⟩
      · go_wp2
        go_roundw
        case rel => exact ⟨k + 1, by omega, num_i (by omega), fun j hj => by
          by_cases h : j = k
          · subst h; rw [HX.out]; exact HW.out.2 (by omega)
          · exact HJ.out j (by omega), by first | rfl | trivial⟩
        case measure => simp [intOf]; omega
    · obtain rfl : k = o.length := by omega
      go_wp2
      go_ret
      exact ⟨by rw [HT.out HJ.out]; rfl, Below.refl _ _⟩
def myE (o ids : List Int) (who : Int) : Int := if rgO o && armO who && decide (Two.Inc ids) then if ids.any (fun x => !hasB o.length x) then 3 else 0 else 1
def myI (o ids : List Int) (who : Int) : Int := if rgO o && armO who && decide (Two.Inc ids) then (fstN (fun x => !hasB o.length x) ids).1 else 0
set_option maxRecDepth 100000 in
set_option maxHeartbeats 4000000 in
theorem rmay_o (v u : Value) (o ids : List Int) (who : Int) (w : World) (hv : KI.IsL w w.heap.size v o) (hu : KI.IsL w w.heap.size u ids) :
    Calls Try.prog 70 #[v, u, .int .i64 who] w fun e w' => e = .returned (.tuple #[.int .i64 (myI o ids who), .int .i64 (myE o ids who)]) ∧ Below w.heap.size w w' := by
  have HV := Lib.hid hv
  have HU := Lib.hid hu
  obtain ⟨A, c, rfl, hc⟩ := hv.shape
  obtain ⟨A2, c2, rfl, hc2⟩ := hu.shape
  have hl := hv.2.2
  have hl2 := hu.2.2
  have hE : myE o ids who = if rgO o && armO who && decide (Two.Inc ids) then if (fstN (fun x => !hasB o.length x) ids).2 then 3 else 0 else 1 := by rw [fstN_snd]; rfl
  have hI : myI o ids who = if rgO o && armO who && decide (Two.Inc ids) then (fstN (fun x => !hasB o.length x) ids).1 else 0 := rfl
  have HR := Lib.hid (fun w => rright_o (.slice A o.length c) o w)
  have HS := Lib.hid (fun w h => Two.rright_any (.slice A2 ids.length c2) ids w h)
  have HH := Lib.hid (hasB_iff o.length)
  rw [hE, hI]
  have HF := Lib.hid (fstN_hit (fun x => !hasB o.length x) ids)
  have HN := Lib.hid (fstN_none (fun x => !hasB o.length x) ids)
  generalize fstN (fun x => !hasB o.length x) ids = z at *
  obtain ⟨z1, z2⟩ := z
  clear hE hI hv hu
  have hA : armO who = (decide (1 ≤ who) && decide (who ≤ 8)) := rfl
  rw [hA]
  clear hA
  generalize rgO o = r at *
  generalize decide (Two.Inc ids) = i at *
  cases r
  · simp only [Bool.false_and, Bool.false_eq_true, if_false]
    go_enter Try.func70, Try.ntmps70
    go_wp2_with fail
    refine (HR.out _ HV.out).mono ?_
    rintro e w1 ⟨rfl, hb1⟩
    go_wp2
    go_ret2
    exact ⟨rfl, hb1⟩
  by_cases h1 : who < 1
  · rw [show decide (1 ≤ who) = false from decide_eq_false (by omega)]
    simp only [Bool.false_and, Bool.and_false, Bool.false_eq_true, if_false]
    go_enter Try.func70, Try.ntmps70
    go_wp2_with fail
    refine (HR.out _ HV.out).mono ?_
    rintro e w1 ⟨rfl, hb1⟩
    go_wp2
    go_ret2
    exact ⟨rfl, hb1⟩
  by_cases h8 : who > 8
  · rw [show decide (who ≤ 8) = false from decide_eq_false (by omega)]
    simp only [Bool.false_and, Bool.and_false, Bool.false_eq_true, if_false]
    go_enter Try.func70, Try.ntmps70
    go_wp2_with fail
    refine (HR.out _ HV.out).mono ?_
    rintro e w1 ⟨rfl, hb1⟩
    go_wp2
    go_ret2
    exact ⟨rfl, hb1⟩
  rw [show decide (1 ≤ who) = true from decide_eq_true (by omega), show decide (who ≤ 8) = true from decide_eq_true (by omega)]
  simp only [Bool.and_self, Bool.true_and]
  go_enter Try.func70, Try.ntmps70
  go_wp2_with fail
  refine (HR.out _ HV.out).mono ?_
  rintro e w1 ⟨rfl, hb1⟩
  have HB1 := Lib.hid hb1
  clear hb1
  go_wp2_with fail
  refine (HS.out _ (two_of (HU.out.then HB1.out))).mono ?_
  rintro e w2 ⟨rfl, d, rfl⟩
  have HB2 := Lib.hid (below_drewN HB1.out d)
  generalize w1.drewN d = w2 at *
  cases i
  · go_wp2
    go_ret2
    exact ⟨rfl, HB2.out⟩
  go_wp2
  go_loopw [8] (fun i wr => ∃ k : Nat, k ≤ ids.length ∧ i = .int .i64 k ∧ (∀ j, j < k → hasB o.length (ids.getD j 0) = true) ∧ Below w.heap.size w wr) (fun i _ => ids.length - (intOf i).toNat)
  case atStart => exact ⟨0, Nat.zero_le _, rfl, fun j hj => absurd hj (Nat.not_lt_zero _), HB2.out⟩
  case round =>
    obtain ⟨k, hk, rfl, hj, hbl⟩ := hrel
    have HJ := Lib.hid hj
    have HB := Lib.hid hbl
    clear hj hbl
    by_cases hlt : k < ids.length
    · obtain ⟨b, off, cap', hs, _, hb, hl2, hcell, hf⟩ := KI.cells (HU.out.then HB.out) (by omega)
      simp only [Value.slice.injEq] at hs
      obtain ⟨rfl, _, rfl⟩ := hs
      have e1 := hcell k hlt
      have HFk := Lib.hid (HF.out k hlt)
      obtain ⟨x, hx⟩ : ∃ x, ids.getD k 0 = x := ⟨_, rfl⟩
      have HX := Lib.hid hx
      rw [hx] at e1 HFk
      clear hcell hf hx
      by_cases h0 : 0 ≤ x ∧ x < o.length
      · obtain ⟨h0, h1'⟩ := h0
        go_wp2
        go_roundw
        case rel => exact ⟨k + 1, by omega, num_i (by omega), fun j hj => by
          by_cases h : j = k
          · subst h; rw [HX.out]; exact (HH.out x).2 ⟨h0, h1'⟩
          · exact HJ.out j (by omega), HB.out⟩
        case measure => simp [intOf]; omega
      · have hno : hasB o.length x = false := by rw [← Bool.not_eq_true]; exact fun h => h0 ((HH.out x).1 h)
        have hz := Lib.hid (HFk.out (by rw [hno]; rfl) (fun j hj => by rw [HJ.out j hj]; rfl))
        clear hno
        have e := hz.out
        simp only [Prod.mk.injEq] at e
        obtain ⟨rfl, rfl⟩ := e
        clear hz
        by_cases hx0 : z1 < 0
        · go_wp2_with fail
          try go_quiet (fail)
          go_wp2
          go_ret2
          exact ⟨rfl, by first | exact HB.out | exact below_drewN HB.out _⟩
        · have hx1 : (o.length : Int) ≤ z1 := by omega
          clear h0
          go_wp2_with fail
          try go_quiet (fail)
          go_wp2
          go_ret2
          exact ⟨rfl, by first | exact HB.out | exact below_drewN HB.out _⟩
    · obtain rfl : k = ids.length := by omega
      have e := HN.out (fun j hj => by rw [HJ.out j hj]; rfl)
      simp only [Prod.mk.injEq] at e
      obtain ⟨rfl, rfl⟩ := e
      go_wp2
      go_ret2
      exact ⟨rfl, HB.out⟩
end Go.Proofs.Ytacjonncakhhmaa
