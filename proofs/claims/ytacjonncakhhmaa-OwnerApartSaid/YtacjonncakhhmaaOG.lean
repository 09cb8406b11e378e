/- Owners, as the reference tells it: what is taken and given. -/
import Derived.Test.YtacjonncakhhmaaOF
namespace Go.Proofs.Ytacjonncakhhmaa
open Go.RowKit
theorem my_bad (o ids : List Int) (who : Int) (q : Int → Bool) (nt nx : Int) (h : myE o ids who ≠ 0) : psI o ids who q = myI o ids who ∧ psE o ids who q nt = myE o ids who ∧ psL o ids who q nx = [] := by
  unfold myE myI psI psE psL at *
  rw [← fstN_snd] at *
  by_cases h1 : (rgO o && armO who && decide (Two.Inc ids)) = true
  · simp only [h1, if_true] at *
    by_cases h2 : (fstN (fun x => !hasB o.length x) ids).2 = true
    · simp [h2]
    · simp [h2] at h
  · simp [h1]
theorem my_ok (o ids : List Int) (who : Int) (q : Int → Bool) (nt nx : Int) (h : myE o ids who = 0) : myI o ids who = 0 ∧ (∀ x ∈ ids, 0 ≤ x ∧ x < o.length) ∧ psI o ids who q = (fstN (fun x => !q (o.getD x.toNat 0)) ids).1 ∧ psE o ids who q nt = (if (fstN (fun x => !q (o.getD x.toNat 0)) ids).2 then nt else 0) ∧
    psL o ids who q nx = if (fstN (fun x => !q (o.getD x.toNat 0)) ids).2 then [] else setAll o ids nx := by
  unfold myE at h
  have h1 : (rgO o && armO who && decide (Two.Inc ids)) = true := by
    by_cases h1 : (rgO o && armO who && decide (Two.Inc ids)) = true
    · exact h1
    · rw [if_neg h1] at h; cases h
  rw [if_pos h1] at h
  have h2 : ids.any (fun x => !hasB o.length x) = false := by
    rw [← Bool.not_eq_true]
    intro h2
    rw [if_pos h2] at h
    cases h
  have h3 := has_all o.length ids h2
  have h4 : fstN (fun x => !hasB o.length x) ids = (0, false) := by
    have e := fstN_snd (fun x => !hasB o.length x) ids
    rw [h2] at e
    have : fstN (fun x => !hasB o.length x) ids = ((fstN (fun x => !hasB o.length x) ids).1, false) := by rw [← e]
    rw [this, fstN_miss this]
  refine ⟨?_, h3, ?_, ?_, ?_⟩
  · unfold myI; rw [if_pos h1, h4]
  · unfold psI; rw [if_pos h1, h2]; rfl
  · unfold psE; rw [if_pos h1, h2, fstN_snd]; rfl
  · unfold psL; rw [if_pos h1, h2, fstN_snd]; rfl
set_option maxRecDepth 100000 in
set_option maxHeartbeats 4000000 in
theorem with_o (v u : Value) (o ids : List Int) (nx : Int) (hnx : fits nx) (w : World) (hv : KI.IsL w w.heap.size v o) (hu : KI.IsL w w.heap.size u ids) (hl : o.length ≤ 1000) (hin : ∀ x ∈ ids, 0 ≤ x ∧ x < o.length) :
    Calls Try.prog 71 #[v, u, .int .i64 nx] w fun e w' => ∃ v', e = .returned v' ∧ KI.Own w' w.heap.size v' (setAll o ids nx) ∧ Below w.heap.size w w' := by
  have HV := Lib.hid hv
  have HU := Lib.hid hu
  have HIN := Lib.hid hin
  obtain ⟨A, c, rfl, hc⟩ := hv.shape
  obtain ⟨A2, c2, rfl, hc2⟩ := hu.shape
  have hl2 := hu.2.2
  clear hv hu hin
  go_enter Try.func71, Try.ntmps71
  go_wp2_with (at_builtin; refine Lk.wpList_app (K := KI) _ rfl _ _ rfl rfl w.heap.size w.heap.size _ _ [] o rfl rfl (Lk.Own.made w w.heap.size 0 #[] (Nat.le_refl _) (by unfold maxLen; omega) rfl) (HV.out.below (Below.al (Below.refl _ w) _)) ?c1 ?c2 ?_)
  case c1 => simp; omega
  case c2 => simp
  intro v5 w4 hown hgrow _
  have HB5 := Lib.hid (Lk.Own.grow' (K := KI) (Lk.Own.made w w.heap.size 0 #[] (Nat.le_refl _) (by unfold maxLen; omega) rfl) (Below.al (Below.refl _ w) _) (by simp) hgrow)
  have HO5 := Lib.hid (show KI.Own w4 w.heap.size v5 o by simpa using hown)
  clear hown hgrow
  go_wp2
  go_loopw [8] (fun i wr => ∃ k : Nat, k ≤ ids.length ∧ i = .int .i64 k ∧ KI.Own wr w.heap.size v5 (setAll o (ids.take k) nx) ∧ Below w.heap.size w wr) (fun i _ => ids.length - (intOf i).toNat)
  case atStart => exact ⟨0, Nat.zero_le _, rfl, HO5.out, HB5.out⟩
  case round =>
    obtain ⟨k, hk, rfl, hown, hbl⟩ := hrel
    have HO := Lib.hid hown
    have HB := Lib.hid hbl
    clear hown hbl
    by_cases hlt : k < ids.length
    · obtain ⟨b, off, cap', hs, _, hb, hl2, hcell, _⟩ := KI.cells (HU.out.then HB.out) (by omega)
      simp only [Value.slice.injEq] at hs
      obtain ⟨rfl, _, rfl⟩ := hs
      have e1 := hcell k hlt
      have hin := HIN.out _ (getD_mem' ids k 0 hlt)
      have HS := Lib.hid (setAll_snoc o (ids.take k) (ids.getD k 0) nx)
      rw [← take_snoc ids k 0 hlt] at HS
      have hsl := setAll_len o (ids.take k) nx
      clear hcell
      generalize ids.getD k 0 = x at *
      obtain ⟨hx0, hx1⟩ := hin
      obtain ⟨j, rfl⟩ := Int.eq_ofNat_of_zero_le hx0
      obtain ⟨g, cp, hv5, hg1, hg2, hg3⟩ := HO.out.shape (by omega)
      rw [hsl] at hv5 hg3
      subst hv5
      obtain ⟨f1, f2⟩ := KI.Own.at HO.out hsl j (by omega)
      generalize (setAll o (ids.take k) nx).getD j 0 = old at *
      go_wp2
      go_roundw
      case rel =>
        have hp := KI.Own.put HO.out hsl j nx hnx
        rw [show ((j : Int)).toNat = j from rfl] at HS
        exact ⟨k + 1, by omega, num_i (by omega), by rw [HS.out]; exact hp.1, HB.out.setCell hg1 _⟩
      case measure => simp [intOf]; omega
    · obtain rfl : k = ids.length := by omega
      rw [List.take_length] at HO
      go_wp2
      go_ret
      exact ⟨_, rfl, HO.out, HB.out⟩
set_option maxRecDepth 100000 in
set_option maxHeartbeats 4000000 in
theorem rtake_o (v u : Value) (o ids : List Int) (who : Int) (hw : fits who) (w : World) (hv : KI.IsL w w.heap.size v o) (hu : KI.IsL w w.heap.size u ids) (hl : o.length ≤ 1000) :
    Calls Try.prog 29 #[v, u, .int .i64 who] w fun e w' => ∃ v', e = .returned (.tuple #[v', .int .i64 (psI o ids who (takeQ who)), .int .i64 (psE o ids who (takeQ who) 140)]) ∧ KI.Own w' w.heap.size v' (psL o ids who (takeQ who) who) ∧ Below w.heap.size w w' := by
  have HV := Lib.hid hv
  have HU := Lib.hid hu
  have HM := Lib.hid (rmay_o v u o ids who w hv hu)
  obtain ⟨A, c, rfl, hc⟩ := hv.shape
  obtain ⟨A2, c2, rfl, hc2⟩ := hu.shape
  have hl2 := hu.2.2
  have hlo := hv.2.2
  clear hv hu
  by_cases hE : myE o ids who = 0
  · obtain ⟨e0, hin, e1, e2, e3⟩ := my_ok o ids who (takeQ who) 140 who hE
    rw [e1, e2, e3]
    have HIN := Lib.hid hin
    have HW := Lib.hid (fun w h1 h2 => with_o (.slice A o.length c) (.slice A2 ids.length c2) o ids who (hw) w h1 h2 hl hin)
    rw [hE, e0] at HM
    clear e0 e1 e2 e3 hin hE
    have HF := Lib.hid (fstN_hit (fun x => !takeQ who (o.getD x.toNat 0)) ids)
    have HN := Lib.hid (fstN_none (fun x => !takeQ who (o.getD x.toNat 0)) ids)
    generalize fstN (fun x => !takeQ who (o.getD x.toNat 0)) ids = z at *
    obtain ⟨z1, z2⟩ := z
    go_enter Try.func29, Try.ntmps29
    go_wp2_with fail
    refine HM.out.mono ?_
    rintro e w1 ⟨rfl, hb1⟩
    have HB1 := Lib.hid hb1
    clear hb1 HM
    go_wp2
    go_loopw [11] (fun i wr => ∃ k : Nat, k ≤ ids.length ∧ i = .int .i64 k ∧ (∀ j, j < k → takeQ who (o.getD (ids.getD j 0).toNat 0) = true) ∧ Below w.heap.size w wr) (fun i _ => ids.length - (intOf i).toNat)
    case atStart => exact ⟨0, Nat.zero_le _, rfl, fun j hj => absurd hj (Nat.not_lt_zero _), HB1.out⟩
    case round =>
      obtain ⟨k, hk, rfl, hj, hbl⟩ := hrel
      have HJ := Lib.hid hj
      have HB := Lib.hid hbl
      clear hj hbl
      by_cases hlt : k < ids.length
      · obtain ⟨b, off, cap', hs, _, hb, _, hcell, hf⟩ := KI.cells (HU.out.then HB.out) (by omega)
        simp only [Value.slice.injEq] at hs
        obtain ⟨rfl, _, rfl⟩ := hs
        have e1 := hcell k hlt
        have HFk := Lib.hid (HF.out k hlt)
        have hinx := HIN.out _ (getD_mem' ids k 0 hlt)
        obtain ⟨x, hx⟩ : ∃ x, ids.getD k 0 = x := ⟨_, rfl⟩
        have HX := Lib.hid hx
        rw [hx] at e1 HFk hinx
        clear hcell hf hx
        obtain ⟨hx0, hx1⟩ := hinx
        obtain ⟨m, rfl⟩ := Int.eq_ofNat_of_zero_le hx0
        obtain ⟨b2, off2, cap2, hs, _, hb2, _, hcell, hf⟩ := KI.cells (HV.out.then HB.out) (by omega)
        simp only [Value.slice.injEq] at hs
        obtain ⟨rfl, _, rfl⟩ := hs
        have e2 := hcell m (by omega)
        obtain ⟨y, hy⟩ : ∃ y, o.getD m 0 = y := ⟨_, rfl⟩
        rw [show ((m : Int)).toNat = m from rfl, hy] at HFk
        rw [hy] at e2
        have HY := Lib.hid hy
        clear hcell hf hy
        by_cases h0 : y = 0
        · have hq : takeQ who y = true := by unfold takeQ; rw [decide_eq_true h0]; rfl
          go_wp2
          go_roundw
          case rel => exact ⟨k + 1, by omega, num_i (by omega), fun j hj => by
            by_cases h : j = k
            · subst h; rw [HX.out, show ((m : Int)).toNat = m from rfl, HY.out]; exact hq
            · exact HJ.out j (by omega), HB.out⟩
          case measure => simp [intOf]; omega
        by_cases h1 : y = who
        · have hq : takeQ who y = true := by unfold takeQ; rw [decide_eq_true h1, Bool.or_true]
          go_wp2
          go_roundw
          case rel => exact ⟨k + 1, by omega, num_i (by omega), fun j hj => by
            by_cases h : j = k
            · subst h; rw [HX.out, show ((m : Int)).toNat = m from rfl, HY.out]; exact hq
            · exact HJ.out j (by omega), HB.out⟩
          case measure => simp [intOf]; omega
        · have hq : takeQ who y = false := by unfold takeQ; rw [decide_eq_false h0, decide_eq_false h1]; rfl
          have g0 : (y != 0) = true := by simpa using h0
          have g1 : (y != who) = true := by simpa using h1
          clear h0 h1
          have e := HFk.out (by rw [hq]; rfl) (fun j hj => by rw [HJ.out j hj]; rfl)
          simp only [Prod.mk.injEq] at e
          obtain ⟨rfl, rfl⟩ := e
          clear HFk
          go_wp2_with fail
          go_quiet (fail)
          go_wp2
          go_ret3
          exact ⟨_, rfl, Lk.Own.nil _ _, below_drewN HB.out _⟩
      · obtain rfl : k = ids.length := by omega
        have e := HN.out (fun j hj => by rw [HJ.out j hj]; rfl)
        simp only [Prod.mk.injEq] at e
        obtain ⟨rfl, rfl⟩ := e
        go_wp2_with fail
        refine (HW.out _ (HV.out.then HB.out) (HU.out.then HB.out)).mono ?_
        rintro e w3 ⟨v3, rfl, ho3, hb3⟩
        go_wp2
        go_ret3
        exact ⟨_, rfl, ho3.mono HB.out.size, Below.call HB.out hb3⟩
  · obtain ⟨e1, e2, e3⟩ := my_bad o ids who (takeQ who) 140 who hE
    rw [e1, e2, e3]
    generalize myE o ids who = E at *
    generalize myI o ids who = I at *
    have hE' : (E == 0) = false := by simpa using hE
    go_enter Try.func29, Try.ntmps29
    go_wp2_with fail
    refine HM.out.mono ?_
    rintro e w1 ⟨rfl, hb1⟩
    go_wp2
    go_ret3
    exact ⟨_, rfl, Lk.Own.nil _ _, hb1⟩
set_option maxRecDepth 100000 in
set_option maxHeartbeats 4000000 in
theorem rgive_o (v u : Value) (o ids : List Int) (who : Int) (w : World) (hv : KI.IsL w w.heap.size v o) (hu : KI.IsL w w.heap.size u ids) (hl : o.length ≤ 1000) :
    Calls Try.prog 34 #[v, u, .int .i64 who] w fun e w' => ∃ v', e = .returned (.tuple #[v', .int .i64 (psI o ids who (giveQ who)), .int .i64 (psE o ids who (giveQ who) 141)]) ∧ KI.Own w' w.heap.size v' (psL o ids who (giveQ who) 0) ∧ Below w.heap.size w w' := by
  have HV := Lib.hid hv
  have HU := Lib.hid hu
  have HM := Lib.hid (rmay_o v u o ids who w hv hu)
  obtain ⟨A, c, rfl, hc⟩ := hv.shape
  obtain ⟨A2, c2, rfl, hc2⟩ := hu.shape
  have hl2 := hu.2.2
  have hlo := hv.2.2
  clear hv hu
  by_cases hE : myE o ids who = 0
  · obtain ⟨e0, hin, e1, e2, e3⟩ := my_ok o ids who (giveQ who) 141 0 hE
    rw [e1, e2, e3]
    have HIN := Lib.hid hin
    have HW := Lib.hid (fun w h1 h2 => with_o (.slice A o.length c) (.slice A2 ids.length c2) o ids 0 (by decide) w h1 h2 hl hin)
    rw [hE, e0] at HM
    clear e0 e1 e2 e3 hin hE
    have HF := Lib.hid (fstN_hit (fun x => !giveQ who (o.getD x.toNat 0)) ids)
    have HN := Lib.hid (fstN_none (fun x => !giveQ who (o.getD x.toNat 0)) ids)
    generalize fstN (fun x => !giveQ who (o.getD x.toNat 0)) ids = z at *
    obtain ⟨z1, z2⟩ := z
    go_enter Try.func34, Try.ntmps34
    go_wp2_with fail
    refine HM.out.mono ?_
    rintro e w1 ⟨rfl, hb1⟩
    have HB1 := Lib.hid hb1
    clear hb1 HM
    go_wp2
    go_loopw [11] (fun i wr => ∃ k : Nat, k ≤ ids.length ∧ i = .int .i64 k ∧ (∀ j, j < k → giveQ who (o.getD (ids.getD j 0).toNat 0) = true) ∧ Below w.heap.size w wr) (fun i _ => ids.length - (intOf i).toNat)
    case atStart => exact ⟨0, Nat.zero_le _, rfl, fun j hj => absurd hj (Nat.not_lt_zero _), HB1.out⟩
    case round =>
      obtain ⟨k, hk, rfl, hj, hbl⟩ := hrel
      have HJ := Lib.hid hj
      have HB := Lib.hid hbl
      clear hj hbl
      by_cases hlt : k < ids.length
      · obtain ⟨b, off, cap', hs, _, hb, _, hcell, hf⟩ := KI.cells (HU.out.then HB.out) (by omega)
        simp only [Value.slice.injEq] at hs
        obtain ⟨rfl, _, rfl⟩ := hs
        have e1 := hcell k hlt
        have HFk := Lib.hid (HF.out k hlt)
        have hinx := HIN.out _ (getD_mem' ids k 0 hlt)
        obtain ⟨x, hx⟩ : ∃ x, ids.getD k 0 = x := ⟨_, rfl⟩
        have HX := Lib.hid hx
        rw [hx] at e1 HFk hinx
        clear hcell hf hx
        obtain ⟨hx0, hx1⟩ := hinx
        obtain ⟨m, rfl⟩ := Int.eq_ofNat_of_zero_le hx0
        obtain ⟨b2, off2, cap2, hs, _, hb2, _, hcell, hf⟩ := KI.cells (HV.out.then HB.out) (by omega)
        simp only [Value.slice.injEq] at hs
        obtain ⟨rfl, _, rfl⟩ := hs
        have e2 := hcell m (by omega)
        obtain ⟨y, hy⟩ : ∃ y, o.getD m 0 = y := ⟨_, rfl⟩
        rw [show ((m : Int)).toNat = m from rfl, hy] at HFk
        rw [hy] at e2
        have HY := Lib.hid hy
        clear hcell hf hy
        by_cases h1 : y = who
        · have hq : giveQ who y = true := by unfold giveQ; rw [decide_eq_true h1]
          go_wp2
          go_roundw
          case rel => exact ⟨k + 1, by omega, num_i (by omega), fun j hj => by
            by_cases h : j = k
            · subst h; rw [HX.out, show ((m : Int)).toNat = m from rfl, HY.out]; exact hq
            · exact HJ.out j (by omega), HB.out⟩
          case measure => simp [intOf]; omega
        · have hq : giveQ who y = false := by unfold giveQ; rw [decide_eq_false h1]
          have g1 : (y != who) = true := by simpa using h1
          clear h1
          have e := HFk.out (by rw [hq]; rfl) (fun j hj => by rw [HJ.out j hj]; rfl)
          simp only [Prod.mk.injEq] at e
          obtain ⟨rfl, rfl⟩ := e
          clear HFk
          go_wp2_with fail
          go_quiet (fail)
          go_wp2
          go_ret3
          exact ⟨_, rfl, Lk.Own.nil _ _, below_drewN HB.out _⟩
      · obtain rfl : k = ids.length := by omega
        have e := HN.out (fun j hj => by rw [HJ.out j hj]; rfl)
        simp only [Prod.mk.injEq] at e
        obtain ⟨rfl, rfl⟩ := e
        go_wp2_with fail
        refine (HW.out _ (HV.out.then HB.out) (HU.out.then HB.out)).mono ?_
        rintro e w3 ⟨v3, rfl, ho3, hb3⟩
        go_wp2
        go_ret3
        exact ⟨_, rfl, ho3.mono HB.out.size, Below.call HB.out hb3⟩
  · obtain ⟨e1, e2, e3⟩ := my_bad o ids who (giveQ who) 141 0 hE
    rw [e1, e2, e3]
    generalize myE o ids who = E at *
    generalize myI o ids who = I at *
    have hE' : (E == 0) = false := by simpa using hE
    go_enter Try.func34, Try.ntmps34
    go_wp2_with fail
    refine HM.out.mono ?_
    rintro e w1 ⟨rfl, hb1⟩
    go_wp2
    go_ret3
    exact ⟨_, rfl, Lk.Own.nil _ _, hb1⟩
end Go.Proofs.Ytacjonncakhhmaa
