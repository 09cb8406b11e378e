/- Logs: is one right, as the reference tells it. -/
import Derived.Test.YtdghekhkjkkgfaaVA
import Derived.Test.YtdghekhkjkkgfaaKX
namespace Go.Proofs.Ytdghekhkjkkgfaa
open Go.RowKit

set_option maxRecDepth 100000 in
set_option maxHeartbeats 2000000 in
theorem rlright_any (r l : Int) (A : Option Addr) (c : Nat) (xs : List Ch) (w : World) (hv : KC.IsL w w.heap.size (.slice A xs.length c) xs) : Calls Try.prog 14 #[lgV r l A xs.length c] w fun e w' => e = .returned (.bool (rgB r l xs)) ∧ Below w.heap.size w w' := by
  have HV := Lib.hid hv
  have hl := hv.2.2
  clear hv
  by_cases g0 : 1 ≤ r
  · by_cases g1 : r ≤ 64
    · by_cases g2 : 0 ≤ l
      · by_cases g3 : l ≤ 2147483647
        · by_cases g4 : (xs.length : Int) ≤ r
          · by_cases g5 : (xs.length : Int) ≤ l
            · rw [rg_yes (show rgC r l xs.length from ⟨g0, g1, g2, g3, g4, g5⟩)]
              go_enter Try.func14, Try.ntmps14
              obtain ⟨w0, hw0⟩ : ∃ w0, w0 = w.alloc (.cells #[.int .i64 r, .int .i64 l, .slice A xs.length c] 24) := ⟨_, rfl⟩
              have HB0 := Lib.hid (show Below w.heap.size w w0 by rw [hw0]; exact Below.al (Below.refl _ _) _)
              have HC0 := Lib.hid (show Cells3 w0 w.heap.size (.int .i64 r) (.int .i64 l) (.slice A xs.length c) by rw [hw0]; exact Cells3.new w _ _ _ _)
              have HF := Lib.hid (show ∀ wr, Below w0.heap.size w0 wr → Cells3 wr w.heap.size (.int .i64 r) (.int .i64 l) (.slice A xs.length c) from fun wr hb => HC0.out.below hb)
              obtain ⟨c1, c2, c3, _⟩ := HC0.out
              go_wp2
              rw [← hw0]
              clear hw0 c1 c2 c3
              go_loopw [3] (fun i wr => ∃ k : Nat, i = .int .i64 k ∧ k ≤ xs.length ∧ (∀ j, j < k → okC xs l j = true) ∧ Below w0.heap.size w0 wr) (fun i _ => xs.length - (intOf i).toNat)
              case atStart => exact ⟨0, rfl, Nat.zero_le _, fun j hj => absurd hj (Nat.not_lt_zero j), Below.refl _ _⟩
              case round =>
                obtain ⟨k, rfl, hk, hok, hbl⟩ := hrel
                have HB := Lib.hid hbl
                have HO := Lib.hid hok
                obtain ⟨c1, c2, c3, _⟩ := HF.out wr hbl
                clear hbl hok
                by_cases hlt : k < xs.length
                · obtain ⟨b', off, rfl, hb', hbc, hcell⟩ := ch_cells (HV.out.below (Below.call HB0.out HB.out)) (by omega)
                  obtain ⟨e1, e2, e3⟩ := hcell k hlt
                  have HP := Lib.hid (show okC xs l k = (decide ((xs.getD k ch0).a = l - xs.length + 1 + k) && mayB (xs.getD k ch0).b (xs.getD k ch0).c) from rfl)
                  have hbw : b' < wr.heap.size := Nat.lt_of_lt_of_le hb' (Nat.le_trans HB0.out.size HB.out.size)
                  have hbg : w.heap.size < wr.heap.size := World.block_lt_of_cell? wr _ c1
                  clear hcell
                  generalize xs.getD k ch0 = q at *
                  obtain ⟨a, b, n⟩ := q
                  dsimp only at *
                  have HM := Lib.hid (fun w => rmay_any b n w)
                  by_cases ha : a = l - xs.length + 1 + k
                  · cases hm : mayB b n
                    · have HF := Lib.hid (rl_false k hlt (HP.out.trans (by rw [hm, Bool.and_false])))
                      rw [hm] at HM
                      clear hm HP
                      go_wp2_with fail
                      refine (HM.out _).mono ?_
                      rintro e w2 ⟨rfl, rfl⟩
                      go_wp2
                      go_ret
                      exact ⟨by rw [HF.out]; rfl, Below.al (Below.call HB0.out HB.out) _⟩
                    · have HF2 := Lib.hid (HP.out.trans (by rw [hm, Bool.and_true, decide_eq_true ha]))
                      rw [hm] at HM
                      clear hm HP
                      go_wp2_with fail
                      refine (HM.out _).mono ?_
                      rintro e w2 ⟨rfl, rfl⟩
                      go_wp2
                      go_roundw
                      case rel => exact ⟨k + 1, num_i (by omega), by omega, fun j hj => by
                        by_cases h : j = k
                        · subst h; exact HF2.out
                        · exact HO.out j (by omega), Below.al HB.out _⟩
                      case measure => simp [intOf]; omega
                  · have HF := Lib.hid (rl_false k hlt (HP.out.trans (by rw [decide_eq_false ha, Bool.false_and])))
                    clear HP
                    go_wp2_with fail
                    go_ret
                    exact ⟨by rw [HF.out]; rfl, Below.al (Below.call HB0.out HB.out) _⟩
                · obtain rfl : k = xs.length := by omega
                  have HF := Lib.hid (rl_true HO.out)
                  go_wp2
                  go_ret
                  exact ⟨by rw [HF.out]; rfl, Below.call HB0.out HB.out⟩
            · rw [rg_no (show ¬ rgC r l xs.length by unfold rgC; omega)]
              go_enter Try.func14, Try.ntmps14
              go_wp2
              go_ret
              exact ⟨rfl, Below.al (Below.refl _ _) _⟩
          · rw [rg_no (show ¬ rgC r l xs.length by unfold rgC; omega)]
            go_enter Try.func14, Try.ntmps14
            go_wp2
            go_ret
            exact ⟨rfl, Below.al (Below.refl _ _) _⟩
        · rw [rg_no (show ¬ rgC r l xs.length by unfold rgC; omega)]
          go_enter Try.func14, Try.ntmps14
          go_wp2
          go_ret
          exact ⟨rfl, Below.al (Below.refl _ _) _⟩
      · rw [rg_no (show ¬ rgC r l xs.length by unfold rgC; omega)]
        go_enter Try.func14, Try.ntmps14
        go_wp2
        go_ret
        exact ⟨rfl, Below.al (Below.refl _ _) _⟩
    · rw [rg_no (show ¬ rgC r l xs.length by unfold rgC; omega)]
      go_enter Try.func14, Try.ntmps14
      go_wp2
      go_ret
      exact ⟨rfl, Below.al (Below.refl _ _) _⟩
  · rw [rg_no (show ¬ rgC r l xs.length by unfold rgC; omega)]
    go_enter Try.func14, Try.ntmps14
    go_wp2
    go_ret
    exact ⟨rfl, Below.al (Below.refl _ _) _⟩
end Go.Proofs.Ytdghekhkjkkgfaa
