/- Texts of numbers read: the reference's Parse, walked. -/
import Derived.Test.YtjpojidpmmodnaaNF
namespace Go.Proofs.Ytjpojidpmmodnaa
open Go.RowKit

set_option maxHeartbeats 2000000 in
theorem rparse_0 (s : ByteArray) (l : List UInt8) (hs : IsT s l) (hm : l.length ≤ 9223372036854775807) (hmi : mnus l = false) (w : World) :
    Calls Try.prog 28 #[.string s] w fun e w' => e = .returned (.tuple #[.int .i64 (prsV l), .int .i64 (prsE l)]) ∧ w = w' := by
  have hsz := hs.size
  have HI := Lib.hid hs
  have HM := Lib.hid hmi
  have hdg : dgs l = l.drop 0 := by rw [dgs, hmi]; rfl
  have HG := Lib.hid hdg
  have hix0 : 0 < l.length → ∀ w : World, (Instr.index 9 (.string s) (.int .i64 0)).run Try.prog w = .ok (.int .u8 ((l.getD 0 0).toNat : Int)) w := fun hl0 w => hs.idx 0 hl0 w
  have hix1 : 1 < l.length → ∀ w : World, (Instr.index 9 (.string s) (.int .i64 1)).run Try.prog w = .ok (.int .u8 ((l.getD 1 0).toNat : Int)) w := fun hl0 w => hs.idx 1 hl0 w
  have hne : 0 < l.length → (((l.getD 0 0).toNat : Int) == 45) = false := fun hl0 => by
    rw [mnus_iff l hl0] at hmi
    simp at hmi
    simp only [List.getD_eq_getElem?_getD, beq_eq_false_iff_ne, ne_eq]
    omega
  have hv0 : prs l = none → prsV l = 0 ∧ prsE l = 30 := fun h => by rw [prsV, prsE, h]; exact ⟨rfl, rfl⟩
  have HV := Lib.hid hv0
  have H1 := Lib.hid hix1
  have H0 := Lib.hid hix0
  have HN := Lib.hid hne
  clear hs hdg hix0 hix1 hne hv0
  by_cases hlen : 0 + 1 ≤ l.length ∧ l.length ≤ 0 + 19
  · obtain ⟨hl1, hl19⟩ := hlen
    have hix0 := H0.out (by omega)
    have hne := HN.out (by omega)
    have hixf := H0.out (by omega)
    have HZ : (l.getD 0 0).toNat = 48 ↔ (l.drop 0).head? = some 48 := by
      rw [List.head?_drop, List.getD_eq_getElem?_getD]
      rw [List.getElem?_eq_getElem (by omega)]
      simp only [Option.getD_some, Option.some.injEq]
      exact ⟨fun h => UInt8.toNat_inj.1 (by rw [h]; rfl), fun h => by rw [h]; rfl⟩
    have HZZ := Lib.hid HZ
    clear HZ hmi H0 H1 HN
    have hL0 : ((l.length : Int) == 0) = false := by rw [beq_eq_false_iff_ne]; omega
    generalize (l.getD 0 0).toNat = ca at *
    (try generalize (l.getD 1 0).toNat = cb at *)
    go_enter Try.func28, Try.ntmps28
    go_wp2
    go_loop [5, 6] (fun z i => ∃ k : Nat, 0 ≤ k ∧ k ≤ l.length ∧ ((l.drop 0).take (k - 0)).all isd = true ∧ z = .int .u64 (val ((l.drop 0).take (k - 0)) : Int) ∧ i = .int .i64 (k : Int)) (fun _ i => l.length - (intOf i).toNat)
    case atStart => exact ⟨0, Nat.le_refl _, by omega, by simp, by simp [val], rfl⟩
    case round =>
      obtain ⟨k, hfk, hk, hall, rfl, rfl⟩ := hrel
      have hv := val_lt _ hall
      have HA := Lib.hid hall
      clear hall
      by_cases hlt : k < l.length
      · have hix := HI.out.idx k hlt
        have ek : (l.drop 0).getD (k - 0) 0 = l.getD k 0 := by
          rw [List.getD_eq_getElem?_getD, List.getD_eq_getElem?_getD, List.getElem?_drop, show 0 + (k - 0) = k by omega]
        have hkd : k - 0 < (l.drop 0).length := by rw [List.length_drop]; omega
        have hvt := val_take (l.drop 0) (k - 0) hkd
        have hat := all_take (l.drop 0) (k - 0) hkd
        have hna := not_all (l.drop 0) (k - 0) hkd
        rw [ek, show k - 0 + 1 = k + 1 - 0 by omega] at hvt hat
        rw [ek] at hna
        have HVT := Lib.hid hvt
        have HAT := Lib.hid hat
        have HNA := Lib.hid hna
        have hp1 : 10 ^ ((l.drop 0).take (k - 0)).length ≤ 10 ^ 18 := Nat.pow_le_pow_right (by decide) (by rw [List.length_take]; omega)
        have hv1 : val ((l.drop 0).take (k - 0)) < 10 ^ 18 := by omega
        clear hvt hat hna ek hkd
        generalize l.getD k 0 = c at *
        generalize val ((l.drop 0).take (k - 0)) = v at *
        clear hp1 hv
        have hc := c.toNat_lt
        clear hix0 hne hixf
        go_wp2
        all_goals try
          go_ret2
          have hd : isd c = false := by
            unfold isd
            rw [Bool.and_eq_false_iff, decide_eq_false_iff_not, decide_eq_false_iff_not]
            omega
          have hr : rd (dgs l) = none := by rw [HG.out, rd, if_neg]; intro hh; rw [HNA.out hd] at hh; exact absurd hh.2.2 (by simp)
          have hp := HV.out (prs_none l hr)
          exact ⟨ret_ii hp.1.symm hp.2.symm, rfl⟩
        · go_round
          case rel =>
            have hd : isd c = true := by rw [isd_iff]; omega
            refine ⟨k + 1, by omega, by omega, by rw [HAT.out, HA.out, hd]; rfl, num_u ?_, num_i (by omega)⟩
            rw [HVT.out]
            (try rw [IntKind.wrap_u64])
            omega
          case measure => simp [intOf]; omega
      · obtain rfl : k = l.length := by omega
        have ha := HA.out
        rw [List.take_of_length_le (by rw [List.length_drop]; omega)] at *
        have hr : rd (dgs l) = some (val (l.drop 0)) := by rw [HG.out, rd, if_pos ⟨by rw [List.length_drop]; omega, by rw [List.length_drop]; omega, ha⟩]
        generalize val (l.drop 0) = m at *
        have hbig := prs_big l m hr
        have hok := prs_ok l m hr
        have hzero := prs_zero l m hr
        have hm19 := (rd_some hr).2.2.2.2
        rw [HG.out] at hok hzero
        have hzz := HZZ.out
        have hze : ca = 48 → 1 < l.length → prsV l = 0 ∧ prsE l = 30 := fun h1 h2 => HV.out (hzero (hzz.1 h1) h2)
        have hbe : 9223372036854775807 < m → prsV l = 0 ∧ prsE l = 30 := fun h => HV.out (hbig (Or.inl ⟨HM.out, h⟩))
        have hoe : ¬ (ca = 48 ∧ 1 < l.length) → m ≤ 9223372036854775807 → prsV l = (m : Int) ∧ prsE l = 0 ∧ True := fun h1 h2 => by
          have e := hok (fun k => h1 ⟨hzz.2 k.1, k.2⟩) (fun k => by rcases k with k | k; · omega
                                                                    · omega)
          rw [HM.out] at e
          rw [prsV, prsE, e.1]
          exact ⟨rfl, rfl, by have := e.2; simp at this ⊢ <;> omega⟩
        have HB := Lib.hid hbe
        have HO := Lib.hid hoe
        have HE := Lib.hid hze
        clear hr hbig hok hzero ha hv hzz hbe hoe hze
        go_wp2
        all_goals go_ret2
        all_goals refine ⟨ret_ii ?_ ?_, rfl⟩
        all_goals first
          | exact (HE.out (by omega) (by omega)).1.symm
          | exact (HE.out (by omega) (by omega)).2.symm
          | exact (HB.out (by omega)).1.symm
          | exact (HB.out (by omega)).2.symm
          | exact (HO.out (by omega) (by omega)).2.1.symm
          | (have e := HO.out (by omega) (by omega)
             rw [e.1]
             (try simp only [wrap64])
             (try simp only [IntKind.wrap_u64])
             try omega)
  · have HL := Lib.hid hlen
    have hrn : prs l = none := by
      refine prs_none l ?_
      rw [HG.out, rd, if_neg]
      intro hh
      rw [List.length_drop] at hh
      omega
    have hp := HV.out hrn
    have HP := Lib.hid hp
    clear hlen hrn hp
    by_cases hl0 : 0 < l.length
    · have hix0 := H0.out hl0
      have hne := HN.out hl0
      clear H0 H1 HN hmi
      generalize (l.getD 0 0).toNat = c0 at *
      go_enter Try.func28, Try.ntmps28
      go_wp2
      all_goals first
        | (exfalso; have := HL.out; omega)
        | (go_ret2
           exact ⟨ret_ii HP.out.1.symm HP.out.2.symm, rfl⟩)
    · have hsz0 : l.length = 0 := by omega
      clear H0 H1 HN
      rw [hsz0] at hsz
      go_enter Try.func28, Try.ntmps28
      go_wp2
      go_ret2
      exact ⟨ret_ii HP.out.1.symm HP.out.2.symm, rfl⟩

set_option maxHeartbeats 2000000 in
theorem rparse_1 (s : ByteArray) (l : List UInt8) (hs : IsT s l) (hm : l.length ≤ 9223372036854775807) (hmi : mnus l = true) (w : World) :
    Calls Try.prog 28 #[.string s] w fun e w' => e = .returned (.tuple #[.int .i64 (prsV l), .int .i64 (prsE l)]) ∧ w = w' := by
  have hsz := hs.size
  have HI := Lib.hid hs
  have HM := Lib.hid hmi
  have hdg : dgs l = l.drop 1 := by rw [dgs, hmi]; rfl
  have HG := Lib.hid hdg
  have hix0 : 0 < l.length → ∀ w : World, (Instr.index 9 (.string s) (.int .i64 0)).run Try.prog w = .ok (.int .u8 ((l.getD 0 0).toNat : Int)) w := fun hl0 w => hs.idx 0 hl0 w
  have hix1 : 1 < l.length → ∀ w : World, (Instr.index 9 (.string s) (.int .i64 1)).run Try.prog w = .ok (.int .u8 ((l.getD 1 0).toNat : Int)) w := fun hl0 w => hs.idx 1 hl0 w
  have hne : 0 < l.length → (((l.getD 0 0).toNat : Int) == 45) = true := fun hl0 => by
    rw [mnus_iff l hl0] at hmi
    simp at hmi
    simp only [List.getD_eq_getElem?_getD, beq_iff_eq]
    omega
  have hv0 : prs l = none → prsV l = 0 ∧ prsE l = 30 := fun h => by rw [prsV, prsE, h]; exact ⟨rfl, rfl⟩
  have HV := Lib.hid hv0
  have H1 := Lib.hid hix1
  have H0 := Lib.hid hix0
  have HN := Lib.hid hne
  clear hs hdg hix0 hix1 hne hv0
  by_cases hlen : 1 + 1 ≤ l.length ∧ l.length ≤ 1 + 19
  · obtain ⟨hl1, hl19⟩ := hlen
    have hix0 := H0.out (by omega)
    have hne := HN.out (by omega)
    have hixf := H1.out (by omega)
    have HZ : (l.getD 1 0).toNat = 48 ↔ (l.drop 1).head? = some 48 := by
      rw [List.head?_drop, List.getD_eq_getElem?_getD]
      rw [List.getElem?_eq_getElem (by omega)]
      simp only [Option.getD_some, Option.some.injEq]
      exact ⟨fun h => UInt8.toNat_inj.1 (by rw [h]; rfl), fun h => by rw [h]; rfl⟩
    have HZZ := Lib.hid HZ
    clear HZ hmi H0 H1 HN
    have hL0 : ((l.length : Int) == 1) = false := by rw [beq_eq_false_iff_ne]; omega
    generalize (l.getD 0 0).toNat = ca at *
    (try generalize (l.getD 1 0).toNat = cb at *)
    go_enter Try.func28, Try.ntmps28
    go_wp2
    go_loop [5, 6] (fun z i => ∃ k : Nat, 1 ≤ k ∧ k ≤ l.length ∧ ((l.drop 1).take (k - 1)).all isd = true ∧ z = .int .u64 (val ((l.drop 1).take (k - 1)) : Int) ∧ i = .int .i64 (k : Int)) (fun _ i => l.length - (intOf i).toNat)
    case atStart => exact ⟨1, Nat.le_refl _, by omega, by simp, by simp [val], rfl⟩
    case round =>
      obtain ⟨k, hfk, hk, hall, rfl, rfl⟩ := hrel
      have hv := val_lt _ hall
      have HA := Lib.hid hall
      clear hall
      by_cases hlt : k < l.length
      · have hix := HI.out.idx k hlt
        have ek : (l.drop 1).getD (k - 1) 0 = l.getD k 0 := by
          rw [List.getD_eq_getElem?_getD, List.getD_eq_getElem?_getD, List.getElem?_drop, show 1 + (k - 1) = k by omega]
        have hkd : k - 1 < (l.drop 1).length := by rw [List.length_drop]; omega
        have hvt := val_take (l.drop 1) (k - 1) hkd
        have hat := all_take (l.drop 1) (k - 1) hkd
        have hna := not_all (l.drop 1) (k - 1) hkd
        rw [ek, show k - 1 + 1 = k + 1 - 1 by omega] at hvt hat
        rw [ek] at hna
        have HVT := Lib.hid hvt
        have HAT := Lib.hid hat
        have HNA := Lib.hid hna
        have hp1 : 10 ^ ((l.drop 1).take (k - 1)).length ≤ 10 ^ 18 := Nat.pow_le_pow_right (by decide) (by rw [List.length_take]; omega)
        have hv1 : val ((l.drop 1).take (k - 1)) < 10 ^ 18 := by omega
        clear hvt hat hna ek hkd
        generalize l.getD k 0 = c at *
        generalize val ((l.drop 1).take (k - 1)) = v at *
        clear hp1 hv
        have hc := c.toNat_lt
        clear hix0 hne hixf
        go_wp2
        all_goals try
          go_ret2
          have hd : isd c = false := by
            unfold isd
            rw [Bool.and_eq_false_iff, decide_eq_false_iff_not, decide_eq_false_iff_not]
            omega
          have hr : rd (dgs l) = none := by rw [HG.out, rd, if_neg]; intro hh; rw [HNA.out hd] at hh; exact absurd hh.2.2 (by simp)
          have hp := HV.out (prs_none l hr)
          exact ⟨ret_ii hp.1.symm hp.2.symm, rfl⟩
        · go_round
          case rel =>
            have hd : isd c = true := by rw [isd_iff]; omega
            refine ⟨k + 1, by omega, by omega, by rw [HAT.out, HA.out, hd]; rfl, num_u ?_, num_i (by omega)⟩
            rw [HVT.out]
            (try rw [IntKind.wrap_u64])
            omega
          case measure => simp [intOf]; omega
      · obtain rfl : k = l.length := by omega
        have ha := HA.out
        rw [List.take_of_length_le (by rw [List.length_drop]; omega)] at *
        have hr : rd (dgs l) = some (val (l.drop 1)) := by rw [HG.out, rd, if_pos ⟨by rw [List.length_drop]; omega, by rw [List.length_drop]; omega, ha⟩]
        generalize val (l.drop 1) = m at *
        have hbig := prs_big l m hr
        have hok := prs_ok l m hr
        have hzero := prs_zero l m hr
        have hm19 := (rd_some hr).2.2.2.2
        rw [HG.out] at hok hzero
        have hzz := HZZ.out
        have hze : cb = 48 → 1 < l.length → prsV l = 0 ∧ prsE l = 30 := fun h1 h2 => HV.out (hzero (hzz.1 h1) h2)
        have hbe : 9223372036854775808 < m → prsV l = 0 ∧ prsE l = 30 := fun h => HV.out (hbig (Or.inr h))
        have hoe : ¬ (cb = 48 ∧ 1 < l.length) → m ≤ 9223372036854775808 → prsV l = -(m : Int) ∧ prsE l = 0 ∧ 1 ≤ m := fun h1 h2 => by
          have e := hok (fun k => h1 ⟨hzz.2 k.1, k.2⟩) (fun k => by rcases k with k | k; · rw [HM.out] at k; cases k.1
                                                                    · omega)
          rw [HM.out] at e
          rw [prsV, prsE, e.1]
          exact ⟨rfl, rfl, by have := e.2; simp at this ⊢ <;> omega⟩
        have HB := Lib.hid hbe
        have HO := Lib.hid hoe
        have HE := Lib.hid hze
        clear hr hbig hok hzero ha hv hzz hbe hoe hze
        go_wp2
        all_goals go_ret2
        all_goals refine ⟨ret_ii ?_ ?_, rfl⟩
        all_goals first
          | exact (HE.out (by omega) (by omega)).1.symm
          | exact (HE.out (by omega) (by omega)).2.symm
          | exact (HB.out (by omega)).1.symm
          | exact (HB.out (by omega)).2.symm
          | exact (HO.out (by omega) (by omega)).2.1.symm
          | (have e := HO.out (by omega) (by omega)
             rw [e.1]
             (try simp only [wrap64])
             (try simp only [IntKind.wrap_u64])
             try omega)
  · have HL := Lib.hid hlen
    have hrn : prs l = none := by
      refine prs_none l ?_
      rw [HG.out, rd, if_neg]
      intro hh
      rw [List.length_drop] at hh
      omega
    have hp := HV.out hrn
    have HP := Lib.hid hp
    clear hlen hrn hp
    by_cases hl0 : 0 < l.length
    · have hix0 := H0.out hl0
      have hne := HN.out hl0
      clear H0 H1 HN hmi
      generalize (l.getD 0 0).toNat = c0 at *
      go_enter Try.func28, Try.ntmps28
      go_wp2
      all_goals first
        | (exfalso; have := HL.out; omega)
        | (go_ret2
           exact ⟨ret_ii HP.out.1.symm HP.out.2.symm, rfl⟩)
    · have hsz0 : l.length = 0 := by omega
      clear H0 H1 HN
      rw [mnus_len hmi] at hsz0
      simp at hsz0

theorem rparse_any (s : ByteArray) (l : List UInt8) (hs : IsT s l) (hm : l.length ≤ 9223372036854775807) (w : World) :
    Calls Try.prog 28 #[.string s] w fun e w' => e = .returned (.tuple #[.int .i64 (prsV l), .int .i64 (prsE l)]) ∧ w = w' := by
  cases h : mnus l with
  | false => exact rparse_0 s l hs hm h w
  | true => exact rparse_1 s l hs hm h w
end Go.Proofs.Ytjpojidpmmodnaa
