/- Mutexes: the law MutexRuns. -/
import Derived.Test.YtbflkdkbfidleaaUK
import Derived.Test.YtbflkdkbfidleaaUL
namespace Go.Proofs.Ytbflkdkbfidleaa
open Go.RowKit
theorem rg_set {t : List Int} (h : rgO t = true) (j : Nat) (x : Int) (h0 : 0 ≤ x) (h8 : x ≤ 8) : rgO (t.set j x) = true := by
  unfold rgO at h ⊢
  rw [Bool.not_eq_true', List.any_eq_false] at h ⊢
  intro y hy
  rcases List.mem_or_eq_of_mem_set hy with hy | rfl
  · exact h y hy
  · rw [Bool.not_eq_true]
    exact (whoB_iff _).2 ⟨h0, h8⟩
theorem lk_fact {t : List Int} {id who : Int} (h : lkE t id who = 0) : ∃ j : Nat, id = j ∧ j < t.length ∧ t.getD j 0 = 0 ∧ lkL t id who = t.set j who ∧ rgO (t.set j who) = true := by
  have hL : lkL t id who = t.set id.toNat who := if_pos h
  unfold lkE at h
  split at h
  · rename_i h1
    obtain ⟨⟨a1, a2⟩, ⟨a3, a4⟩, a5⟩ := rfE_ok h1
    split at h
    · rename_i h2
      obtain ⟨j, rfl⟩ := Int.eq_ofNat_of_zero_le a1
      exact ⟨j, rfl, by omega, h2, hL, rg_set a5 j who (by omega) a4⟩
    · split at h <;> omega
  · rename_i h1
    exact absurd h h1
theorem ul_fact {t : List Int} {id who : Int} (h : ulE t id who = 0) : ∃ j : Nat, id = j ∧ j < t.length ∧ t.getD j 0 = who ∧ ulL t id who = t.set j 0 ∧ rgO (t.set j 0) = true := by
  have hL : ulL t id who = t.set id.toNat 0 := if_pos h
  unfold ulE at h
  split at h
  · rename_i h1
    obtain ⟨⟨a1, a2⟩, ⟨a3, a4⟩, a5⟩ := rfE_ok h1
    split at h
    · rename_i h2
      obtain ⟨j, rfl⟩ := Int.eq_ofNat_of_zero_le a1
      exact ⟨j, rfl, by omega, h2, hL, rg_set a5 j 0 (by omega) (by omega)⟩
    · omega
  · rename_i h1
    exact absurd h h1
theorem set_at (t : List Int) (j k : Nat) (x : Int) (hj : j < t.length) : (t.set j x).getD k 0 = if k = j then x else t.getD k 0 := by
  rw [List.getD_eq_getElem?_getD, List.getD_eq_getElem?_getD, List.getElem?_set]
  by_cases h : j = k
  · rw [if_pos h, if_pos h.symm, if_pos (by omega)]
    rfl
  · rw [if_neg h, if_neg (fun e => h e.symm)]
set_option maxRecDepth 100000 in
set_option maxHeartbeats 4000000 in
theorem mutexRuns_walk (n : Int) (v : Value) (l : List Gp) (w : World) (hv : KG.IsL w w.heap.size v l) :
    Calls Try.prog 6 #[.int .i64 n, v] w fun e w' => e = .returned (.bool true) ∧ Below w.heap.size w w' := by
  have HV := Lib.hid hv
  obtain ⟨A, c, rfl, hc⟩ := hv.shape
  have hl := hv.2.2
  clear hv
  have HLV := Lib.hid (fun w => lives17 w)
  by_cases h1 : n < 0
  · go_enter Try.func6, Try.ntmps6
    go_wp2_with fail
    refine (HLV.out _).mono ?_
    rintro e w1 ⟨rfl, hb1⟩
    go_wp2
    go_ret
    exact ⟨rfl, hb1⟩
  by_cases h2 : n > 200
  · go_enter Try.func6, Try.ntmps6
    go_wp2_with fail
    refine (HLV.out _).mono ?_
    rintro e w1 ⟨rfl, hb1⟩
    go_wp2
    go_ret
    exact ⟨rfl, hb1⟩
  by_cases h3 : (l.length : Int) > 200
  · go_enter Try.func6, Try.ntmps6
    go_wp2_with fail
    refine (HLV.out _).mono ?_
    rintro e w1 ⟨rfl, hb1⟩
    go_wp2
    go_ret
    exact ⟨rfl, hb1⟩
  obtain ⟨m, rfl⟩ := Int.eq_ofNat_of_zero_le (show 0 ≤ n by omega)
  have HNO := Lib.hid (show newO (m : Int) = List.replicate m 0 from if_neg (by omega))
  have HNW := Lib.hid (fun w => new_o (m : Int) w)
  have HNR := Lib.hid (show rgO (List.replicate m 0) = true by
    unfold rgO
    rw [Bool.not_eq_true', List.any_eq_false]
    intro y hy
    rw [(List.mem_replicate.1 hy).2]
    decide)
  rw [HNO.out] at HNW
  go_enter Try.func6, Try.ntmps6
  go_wp2_with fail
  refine (HNW.out _).mono ?_
  rintro e w1 ⟨v1, rfl, ho1, hb1⟩
  have HB1 := Lib.hid hb1
  have HT1 := Lib.hid (ho1.isL (by rw [List.length_replicate]; omega))
  obtain ⟨A1, c1, rfl, _⟩ := HT1.out.shape
  rw [List.length_replicate]
  clear hb1 ho1
  go_wp2_with fail
  refine (HLV.out _).mono ?_
  rintro e w2 ⟨rfl, hb2⟩
  have HB2 := Lib.hid (Below.call HB1.out hb2)
  have HT2 := Lib.hid (HT1.out.then hb2)
  clear hb2 HT1
  go_wp2
  go_loopg [5, 6] l.length (fun gh u i wr => ∃ k T, k ≤ l.length ∧ gh = l.length - k ∧ i = .int .i64 (k : Int) ∧ List.length T = m ∧ rgO T = true ∧ KI.IsL wr wr.heap.size u T ∧ Below w.heap.size w wr)
  case atStart => exact ⟨0, _, Nat.zero_le _, rfl, rfl, by simp, HNR.out, by simpa using HT2.out, HB2.out⟩
  case round =>
    obtain ⟨k, T, hk, rfl, rfl, hTl, hTr, hT, hbl⟩ := hrel
    have HT := Lib.hid hT
    have HTR := Lib.hid hTr
    have HB := Lib.hid hbl
    obtain ⟨A5, c5, rfl, hc5⟩ := hT.shape
    rw [hTl] at HT hc5 ⊢
    have HTL := Lib.hid hTl
    clear hT hTr hbl hTl
    by_cases hlt : k < l.length
    · obtain ⟨b, off, rfl, hb, _, hcell⟩ := gp_cells (HV.out.then HB.out) (by omega)
      obtain ⟨d0, d1, d2⟩ := hcell k hlt
      have HFO := Lib.hid ((HV.out.2.1 _ (getD_mem' l k gp0 hlt)).2)
      clear hcell
      generalize l.getD k gp0 = q at *
      obtain ⟨qf, qi, qo⟩ := q
      simp only at d0 d1 d2 HFO
      have HBW := Lib.hid (show b < wr.heap.size from hb)
      cases qf
      · as_aux_lemma =>
        have HKL := Lib.hid (fun w h1 h2 => lock_any (.slice A5 m c5) T qi qo HFO.out w h1 h2)
        have HLL := Lib.hid (lkL_len T qi qo)
        have HFA := Lib.hid (fun h => lk_fact (t := T) (id := qi) (who := qo) h)
        generalize lkE T qi qo = E at *
        generalize lkL T qi qo = U at *
        go_wp2_with fail
        go_region_held3 (fun w' => w'.cell? ⟨b, off + k * 3, none⟩ = some (.bool false) ∧ w'.cell? ⟨b, off + k * 3 + 1, none⟩ = some (.int .i64 qi) ∧ w'.cell? ⟨b, off + k * 3 + 2, none⟩ = some (.int .i64 qo) ∧ Below wr.heap.size wr w')
          (first | exact ⟨d0, d1, d2, (Below.refl _ _).drew⟩ | assumption | go_keep | (go_split_ands; exact ⟨keep_cell hbc (by assumption), keep_cell hbc (by assumption), keep_cell hbc (by assumption), Below.call (by assumption) hbc⟩))
          (first | (go_at_call 12; ((with_reducible refine (HKL.out _ (HT.out.then (by go_split_ands; assumption)) (by have := HTL.out; omega)).mono ?_); rintro e w4 ⟨v4, rfl, ho4, hbc⟩)))
        rename_i hHeld
        obtain ⟨f0, f1, f2, hb4⟩ := hHeld
        have HB4 := Lib.hid (Below.call HB.out hb4)
        have HT4 := Lib.hid (HT.out.then hb4)
        have HU4 := Lib.hid (ho4.isL (by have := HLL.out; have := HTL.out; omega))
        have HB5 := Lib.hid hb4
        clear ho4 hbc hb4 d0 d1 d2 HT HKL HB
        obtain ⟨A6, c6, rfl, hc6⟩ := HU4.out.shape
        by_cases hE : E = 0
        · subst hE
          obtain ⟨j, rfl, hj, hg, rfl, hrg⟩ := HFA.out rfl
          have HRG := Lib.hid hrg
          have HSL := Lib.hid (show (T.set j qo).length = m by rw [List.length_set]; exact HTL.out)
          rw [HSL.out] at hc6 ⊢
          rw [HSL.out] at HU4
          have hjm : j < m := by have := HTL.out; omega
          have HSA := Lib.hid (fun k => set_at T j k qo (by have := HTL.out; omega))
          have HG := Lib.hid hg
          clear HFA HLL hrg hj hg
          go_wp2
          obtain ⟨wo, hwo⟩ : ∃ wo, wo = w4 := ⟨_, rfl⟩
          subst hwo
          simp only [show decide (m ≤ j) = false from decide_eq_false (by omega), show decide ((j : Int) < 0) = false from decide_eq_false (by omega), Bool.or_self]
          go_loopg [9] m (fun gh i wr => ∃ y d : Nat, y ≤ m ∧ gh = m - y ∧ i = .int .i64 (y : Int) ∧ wr = wo.drewN d)
          case atStart => exact ⟨0, 0, Nat.zero_le _, rfl, rfl, rfl⟩
          case round =>
            as_aux_lemma =>
            obtain ⟨y, d, hy, rfl, rfl, hw⟩ := hrel
            have HWD := Lib.hid hw
            have f0 : wr.cell? ⟨b, off + k * 3, none⟩ = some (.bool false) := by rw [hw]; exact f0
            have f1 : wr.cell? ⟨b, off + k * 3 + 1, none⟩ = some (.int .i64 j) := by rw [hw]; exact f1
            have f2 : wr.cell? ⟨b, off + k * 3 + 2, none⟩ = some (.int .i64 qo) := by rw [hw]; exact f2
            obtain ⟨b5, o5, cp5, hs5, _, hb5, _, hcT, _⟩ := KI.cells HT4.out (by have := HTL.out; omega)
            simp only [Value.slice.injEq] at hs5
            obtain ⟨rfl, -, rfl⟩ := hs5
            obtain ⟨b6, o6, cp6, hs6, _, hb6, _, hcU, _⟩ := KI.cells HU4.out (by rw [HSL.out]; omega)
            simp only [Value.slice.injEq] at hs6
            obtain ⟨rfl, -, rfl⟩ := hs6
            have hlm : m ≤ 9223372036854775807 := by omega
            by_cases hym : y < m
            · by_cases hyj : y = j
              · as_aux_lemma =>
                subst hyj
                clear hcT hcU hw
                go_wp2_with fail
                go_quiet (fail)
                go_wp2
                go_roundg (m - (y + 1))
                case measure => omega
                case rel => exact ⟨y + 1, _, by omega, rfl, num_i (by omega), by rw [HWD.out]; exact World.drewN_drewN _ _ _⟩
              · as_aux_lemma =>
                have e5 : wr.cell? ⟨b5, o5 + y, none⟩ = some (.int .i64 (T.getD y 0)) := by rw [hw]; exact hcT y (by have := HTL.out; omega)
                have e6 : wr.cell? ⟨b6, o6 + y, none⟩ = some (.int .i64 (T.getD y 0)) := by
                  rw [hw]
                  have := hcU y (by rw [HSL.out]; omega)
                  rw [HSA.out, if_neg hyj] at this
                  exact this
                have hbq : ¬ ((y : Int) = (j : Int)) := by omega
                clear hcT hcU hw hyj
                generalize T.getD y 0 = z at *
                go_wp2_with fail
                go_quiet (fail)
                go_wp2
                go_roundg (m - (y + 1))
                case measure => omega
                case rel => exact ⟨y + 1, _, by omega, rfl, num_i (by omega), by rw [HWD.out]; exact World.drewN_drewN _ _ _⟩
            · as_aux_lemma =>
              obtain rfl : y = m := by omega
              have e5 : wr.cell? ⟨b5, o5 + j, none⟩ = some (.int .i64 (0)) := by
                rw [hw]
                have := hcT j (by have := HTL.out; omega)
                rw [HG.out] at this
                exact this
              have e6 : wr.cell? ⟨b6, o6 + j, none⟩ = some (.int .i64 (qo)) := by
                rw [hw]
                have := hcU j (by rw [HSL.out]; omega)
                rw [HSA.out, if_pos rfl] at this
                exact this
              have HU7 := Lib.hid (show KI.IsL wr wr.heap.size _ _ by rw [hw]; exact HU4.out.drewN d)
              have HB7 := Lib.hid (show Below w.heap.size w wr by rw [hw]; exact below_drewN HB4.out d)
              clear hcT hcU hw
              go_wp2_with fail
              simp only [List.append_eq, List.cons_append, List.nil_append]
              go_quiet (fail)
              go_wp2
              go_roundg (l.length - (k + 1))
              case measure => omega
              case rel => exact ⟨k + 1, T.set j qo, by omega, rfl, num_i (by omega), HSL.out, HRG.out, HU7.out.drewN _, below_drewN HB7.out _⟩
        · have hEb : (E == 0) = false := by rw [beq_eq_false_iff_ne]; exact hE
          have HE := Lib.hid hE
          clear hE
          go_wp2
          go_roundg (l.length - (k + 1))
          case measure => omega
          case rel => exact ⟨k + 1, T, by omega, rfl, num_i (by omega), HTL.out, HTR.out, HT4.out, HB4.out⟩
      · as_aux_lemma =>
        have HKL := Lib.hid (fun w h1 h2 => unlock_any (.slice A5 m c5) T qi qo HFO.out w h1 h2)
        have HLL := Lib.hid (ulL_len T qi qo)
        have HFA := Lib.hid (fun h => ul_fact (t := T) (id := qi) (who := qo) h)
        generalize ulE T qi qo = E at *
        generalize ulL T qi qo = U at *
        go_wp2_with fail
        go_region_held3 (fun w' => w'.cell? ⟨b, off + k * 3, none⟩ = some (.bool true) ∧ w'.cell? ⟨b, off + k * 3 + 1, none⟩ = some (.int .i64 qi) ∧ w'.cell? ⟨b, off + k * 3 + 2, none⟩ = some (.int .i64 qo) ∧ Below wr.heap.size wr w')
          (first | exact ⟨d0, d1, d2, (Below.refl _ _).drew⟩ | assumption | go_keep | (go_split_ands; exact ⟨keep_cell hbc (by assumption), keep_cell hbc (by assumption), keep_cell hbc (by assumption), Below.call (by assumption) hbc⟩))
          (first | (go_at_call 13; ((with_reducible refine (HKL.out _ (HT.out.then (by go_split_ands; assumption)) (by have := HTL.out; omega)).mono ?_); rintro e w4 ⟨v4, rfl, ho4, hbc⟩)))
        rename_i hHeld
        obtain ⟨f0, f1, f2, hb4⟩ := hHeld
        have HB4 := Lib.hid (Below.call HB.out hb4)
        have HT4 := Lib.hid (HT.out.then hb4)
        have HU4 := Lib.hid (ho4.isL (by have := HLL.out; have := HTL.out; omega))
        have HB5 := Lib.hid hb4
        clear ho4 hbc hb4 d0 d1 d2 HT HKL HB
        obtain ⟨A6, c6, rfl, hc6⟩ := HU4.out.shape
        by_cases hE : E = 0
        · subst hE
          obtain ⟨j, rfl, hj, hg, rfl, hrg⟩ := HFA.out rfl
          have HRG := Lib.hid hrg
          have HSL := Lib.hid (show (T.set j 0).length = m by rw [List.length_set]; exact HTL.out)
          rw [HSL.out] at hc6 ⊢
          rw [HSL.out] at HU4
          have hjm : j < m := by have := HTL.out; omega
          have HSA := Lib.hid (fun k => set_at T j k 0 (by have := HTL.out; omega))
          have HG := Lib.hid hg
          clear HFA HLL hrg hj hg
          go_wp2
          obtain ⟨wo, hwo⟩ : ∃ wo, wo = w4 := ⟨_, rfl⟩
          subst hwo
          simp only [show decide (m ≤ j) = false from decide_eq_false (by omega), show decide ((j : Int) < 0) = false from decide_eq_false (by omega), Bool.or_self]
          go_loopg [9] m (fun gh i wr => ∃ y d : Nat, y ≤ m ∧ gh = m - y ∧ i = .int .i64 (y : Int) ∧ wr = wo.drewN d)
          case atStart => exact ⟨0, 0, Nat.zero_le _, rfl, rfl, rfl⟩
          case round =>
            as_aux_lemma =>
            obtain ⟨y, d, hy, rfl, rfl, hw⟩ := hrel
            have HWD := Lib.hid hw
            have f0 : wr.cell? ⟨b, off + k * 3, none⟩ = some (.bool true) := by rw [hw]; exact f0
            have f1 : wr.cell? ⟨b, off + k * 3 + 1, none⟩ = some (.int .i64 j) := by rw [hw]; exact f1
            have f2 : wr.cell? ⟨b, off + k * 3 + 2, none⟩ = some (.int .i64 qo) := by rw [hw]; exact f2
            obtain ⟨b5, o5, cp5, hs5, _, hb5, _, hcT, _⟩ := KI.cells HT4.out (by have := HTL.out; omega)
            simp only [Value.slice.injEq] at hs5
            obtain ⟨rfl, -, rfl⟩ := hs5
            obtain ⟨b6, o6, cp6, hs6, _, hb6, _, hcU, _⟩ := KI.cells HU4.out (by rw [HSL.out]; omega)
            simp only [Value.slice.injEq] at hs6
            obtain ⟨rfl, -, rfl⟩ := hs6
            have hlm : m ≤ 9223372036854775807 := by omega
            by_cases hym : y < m
            · by_cases hyj : y = j
              · as_aux_lemma =>
                subst hyj
                clear hcT hcU hw
                go_wp2_with fail
                go_quiet (fail)
                go_wp2
                go_roundg (m - (y + 1))
                case measure => omega
                case rel => exact ⟨y + 1, _, by omega, rfl, num_i (by omega), by rw [HWD.out]; exact World.drewN_drewN _ _ _⟩
              · as_aux_lemma =>
                have e5 : wr.cell? ⟨b5, o5 + y, none⟩ = some (.int .i64 (T.getD y 0)) := by rw [hw]; exact hcT y (by have := HTL.out; omega)
                have e6 : wr.cell? ⟨b6, o6 + y, none⟩ = some (.int .i64 (T.getD y 0)) := by
                  rw [hw]
                  have := hcU y (by rw [HSL.out]; omega)
                  rw [HSA.out, if_neg hyj] at this
                  exact this
                have hbq : ¬ ((y : Int) = (j : Int)) := by omega
                clear hcT hcU hw hyj
                generalize T.getD y 0 = z at *
                go_wp2_with fail
                go_quiet (fail)
                go_wp2
                go_roundg (m - (y + 1))
                case measure => omega
                case rel => exact ⟨y + 1, _, by omega, rfl, num_i (by omega), by rw [HWD.out]; exact World.drewN_drewN _ _ _⟩
            · as_aux_lemma =>
              obtain rfl : y = m := by omega
              have e5 : wr.cell? ⟨b5, o5 + j, none⟩ = some (.int .i64 (qo)) := by
                rw [hw]
                have := hcT j (by have := HTL.out; omega)
                rw [HG.out] at this
                exact this
              have e6 : wr.cell? ⟨b6, o6 + j, none⟩ = some (.int .i64 (0)) := by
                rw [hw]
                have := hcU j (by rw [HSL.out]; omega)
                rw [HSA.out, if_pos rfl] at this
                exact this
              have HU7 := Lib.hid (show KI.IsL wr wr.heap.size _ _ by rw [hw]; exact HU4.out.drewN d)
              have HB7 := Lib.hid (show Below w.heap.size w wr by rw [hw]; exact below_drewN HB4.out d)
              clear hcT hcU hw
              go_wp2_with fail
              simp only [List.append_eq, List.cons_append, List.nil_append]
              go_quiet (fail)
              go_wp2
              go_roundg (l.length - (k + 1))
              case measure => omega
              case rel => exact ⟨k + 1, T.set j 0, by omega, rfl, num_i (by omega), HSL.out, HRG.out, HU7.out.drewN _, below_drewN HB7.out _⟩
        · have hEb : (E == 0) = false := by rw [beq_eq_false_iff_ne]; exact hE
          have HE := Lib.hid hE
          clear hE
          go_wp2
          go_roundg (l.length - (k + 1))
          case measure => omega
          case rel => exact ⟨k + 1, T, by omega, rfl, num_i (by omega), HTL.out, HTR.out, HT4.out, HB4.out⟩
    · obtain rfl : k = l.length := by omega
      have HRT := Lib.hid (right_o (.slice A5 m c5) T wr HT.out)
      rw [HTR.out] at HRT
      go_wp2_with fail
      refine HRT.out.mono ?_
      rintro e w4 ⟨rfl, hb4⟩
      go_wp2
      go_ret
      exact ⟨rfl, Below.call HB.out hb4⟩
end Go.Proofs.Ytbflkdkbfidleaa
