/- Logs: is one right, as the program tells it. -/
import Derived.Test.YtdghekhkjkkgfaaVA
namespace Go.Proofs.Ytdghekhkjkkgfaa
open Go.RowKit

set_option maxRecDepth 100000 in
set_option maxHeartbeats 2000000 in
theorem rightList_any (A : Option Addr) (c : Nat) (xs : List Ch) (l : Int) (h0 : (xs.length : Int) ≤ l) (h1 : l ≤ 2147483647) (w : World) (hv : KC.IsL w w.heap.size (.slice A xs.length c) xs) : Calls Try.prog 39 #[.slice A xs.length c, .int .i64 l] w fun e w' => e = .returned (.bool (rlB xs l)) ∧ Below w.heap.size w w' := by
  have HV := Lib.hid hv
  clear hv
  go_enter Try.func39, Try.ntmps39
  go_wp2
  go_step3
  go_wp2
  go_step3
  go_wp2
  go_loopw [5, 6, 15] (fun t v i wr => ∃ k : Nat, t = .bool true ∧ i = .int .i64 k ∧ v = .int .i64 (l - xs.length + k) ∧ k ≤ xs.length ∧ (∀ j, j < k → okC xs l j = true) ∧ Below w.heap.size w wr) (fun _ _ i _ => xs.length - (intOf i).toNat)
  case atStart => exact ⟨0, rfl, rfl, num_i (by omega), Nat.zero_le _, fun j hj => absurd hj (Nat.not_lt_zero j), Below.refl _ _⟩
  case round =>
    obtain ⟨k, rfl, rfl, rfl, hk, hok, hbl⟩ := hrel
    have HB := Lib.hid hbl
    have HO := Lib.hid hok
    clear hbl hok
    by_cases hlt : k < xs.length
    · obtain ⟨b', off, rfl, hb', hbc, hcell⟩ := ch_cells (HV.out.below HB.out) (by omega)
      obtain ⟨e1, e2, e3⟩ := hcell k hlt
      have HP := Lib.hid (show okC xs l k = (decide ((xs.getD k ch0).a = l - xs.length + 1 + k) && mayB (xs.getD k ch0).b (xs.getD k ch0).c) from rfl)
      have hbw : b' < wr.heap.size := Nat.lt_of_lt_of_le hb' HB.out.size
      clear hcell
      generalize xs.getD k ch0 = q at *
      obtain ⟨a, b, n⟩ := q
      dsimp only at *
      have HM := Lib.hid (fun w => may_any b n w)
      by_cases ha : a = l - xs.length + 1 + k
      · cases hm : mayB b n
        · have HF := Lib.hid (rl_false k hlt (HP.out.trans (by rw [hm, Bool.and_false])))
          rw [hm] at HM
          clear hm HP
          go_wp2_with fail
          refine (HM.out _).mono ?_
          rintro e w2 ⟨rfl, rfl⟩
          go_wp2
          rw [Exit.noGoto_ret]
          go_ret
          exact ⟨by rw [HF.out]; rfl, Below.al HB.out _⟩
        · have HF := Lib.hid (HP.out.trans (by rw [hm, Bool.and_true, decide_eq_true ha]))
          rw [hm] at HM
          clear hm HP
          go_wp2_with fail
          refine (HM.out _).mono ?_
          rintro e w2 ⟨rfl, rfl⟩
          go_wp2
          go_roundw
          case rel => exact ⟨k + 1, rfl, num_i (by omega), num_i (by omega), by omega, fun j hj => by
            by_cases h : j = k
            · subst h; exact HF.out
            · exact HO.out j (by omega), Below.al HB.out _⟩
          case measure => simp [intOf]; omega
      · have HF := Lib.hid (rl_false k hlt (HP.out.trans (by rw [decide_eq_false ha, Bool.false_and])))
        clear HP
        go_wp2_with fail
        rw [Exit.noGoto_ret]
        go_ret
        exact ⟨by rw [HF.out]; rfl, Below.al HB.out _⟩
    · obtain rfl : k = xs.length := by omega
      have HF := Lib.hid (rl_true HO.out)
      go_wp2
      rw [Exit.noGoto_ret]
      go_ret
      exact ⟨by rw [HF.out]; rfl, HB.out⟩

set_option maxRecDepth 100000 in
set_option maxHeartbeats 2000000 in
theorem right_any' (r l : Int) (A : Option Addr) (c : Nat) (xs : List Ch) (w : World) (hv : KC.IsL w w.heap.size (.slice A xs.length c) xs) : Calls Try.prog 13 #[lgV r l A xs.length c] w fun e w' => e = .returned (.bool (rgB r l xs)) ∧ Below w.heap.size w w' := by
  have HV := Lib.hid hv
  have hl := hv.2.2
  clear hv
  by_cases g0 : 1 ≤ r
  · by_cases g1 : r ≤ 64
    · by_cases g2 : 0 ≤ l
      · by_cases g3 : l ≤ 2147483647
        · by_cases g4 : (xs.length : Int) ≤ r
          · by_cases g5 : (xs.length : Int) ≤ l
            · rw [rg_yes (show rgC r l xs.length from ⟨g0, g1, g2, g3, g4, g5⟩)]
              have HL := Lib.hid (fun w h => rightList_any A c xs l g5 g3 w h)
              go_enter Try.func13, Try.ntmps13
              go_wp2_with fail
              refine (HL.out _ (HV.out.then (Below.al (Below.refl _ _) _))).mono ?_
              rintro e w2 ⟨rfl, hb2⟩
              have HB := Lib.hid (Below.box _ hb2)
              clear hb2
              go_wp2
              go_ret
              exact ⟨rfl, HB.out⟩
            · rw [rg_no (show ¬ rgC r l xs.length by unfold rgC; omega)]
              go_enter Try.func13, Try.ntmps13
              go_wp2
              go_ret
              exact ⟨rfl, Below.al (Below.refl _ _) _⟩
          · rw [rg_no (show ¬ rgC r l xs.length by unfold rgC; omega)]
            go_enter Try.func13, Try.ntmps13
            go_wp2
            go_ret
            exact ⟨rfl, Below.al (Below.refl _ _) _⟩
        · rw [rg_no (show ¬ rgC r l xs.length by unfold rgC; omega)]
          go_enter Try.func13, Try.ntmps13
          go_wp2
          go_ret
          exact ⟨rfl, Below.al (Below.refl _ _) _⟩
      · rw [rg_no (show ¬ rgC r l xs.length by unfold rgC; omega)]
        go_enter Try.func13, Try.ntmps13
        go_wp2
        go_ret
        exact ⟨rfl, Below.al (Below.refl _ _) _⟩
    · rw [rg_no (show ¬ rgC r l xs.length by unfold rgC; omega)]
      go_enter Try.func13, Try.ntmps13
      go_wp2
      go_ret
      exact ⟨rfl, Below.al (Below.refl _ _) _⟩
  · rw [rg_no (show ¬ rgC r l xs.length by unfold rgC; omega)]
    go_enter Try.func13, Try.ntmps13
    go_wp2
    go_ret
    exact ⟨rfl, Below.al (Below.refl _ _) _⟩

end Go.Proofs.Ytdghekhkjkkgfaa
