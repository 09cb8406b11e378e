/- Plans: what is held, as the reference tells it. -/
import Derived.Test.YtbflkdkbfidleaaVE
import Derived.Test.YtbflkdkbfidleaaVD
namespace Go.Proofs.Ytbflkdkbfidleaa
open Go.RowKit
set_option maxRecDepth 100000 in
set_option maxHeartbeats 4000000 in
theorem rholds_any (v : Value) (l : List (Int × Int)) (k : Int) (w : World) (hv : KD.IsL w w.heap.size v l) (hl : l.length ≤ 900) :
    Calls Try.prog 37 #[v, .int .i64 k] w fun e w' => ∃ v', e = .returned v' ∧ KI.IsL w' w'.heap.size v' (hlV l k) ∧ Below w.heap.size w w' := by
  have HV := Lib.hid hv
  obtain ⟨A, c, rfl, hc⟩ := hv.shape
  have hl2 := hv.2.2
  have hS : hlV l k = hdL (l.take (wi k l.length)) := rfl
  rw [hS]
  clear hS hv
  have HWI := Lib.hid (show ∀ m : Nat, m ≤ wi k l.length → (m < wi k l.length ↔ (m < l.length ∧ (m : Int) < k)) from fun m hm => by unfold wi at *; omega)
  have HWL := Lib.hid (show wi k l.length ≤ l.length by unfold wi; omega)
  have HSN := Lib.hid (fun k h => hdL_snoc l k h)
  have HLN := Lib.hid (fun k => hdL_len (l.take k))
  generalize wi k l.length = n at *
  go_enter Try.func37, Try.ntmps37
  go_wp2
  go_loopg [5, 6] n (fun gh u i wr => ∃ m : Nat, m ≤ n ∧ gh = n - m ∧ i = .int .i64 m ∧ KI.IsL wr wr.heap.size u (hdL (l.take m)) ∧ Below w.heap.size w wr)
  case atStart => exact ⟨0, Nat.zero_le _, rfl, rfl, Lk.IsL.nil _ _ _ _, Below.refl _ _⟩
  case round =>
    obtain ⟨m, hm, rfl, rfl, hown, hbl⟩ := hrel
    have HO := Lib.hid hown
    have HB := Lib.hid hbl
    clear hown hbl
    by_cases hlt : m < n
    · obtain ⟨hml, hmk⟩ := (HWI.out m hm).1 hlt
      have HS := Lib.hid (HSN.out m hml)
      have HL := Lib.hid (HLN.out m)
      have HTL := Lib.hid (show (l.take m).length ≤ 900 by rw [List.length_take]; omega)
      obtain ⟨b, off, rfl, hb, _, hcell⟩ := dd_cells (HV.out.then HB.out) (by omega)
      obtain ⟨e0, e1⟩ := hcell m hml
      have HF := Lib.hid ((HV.out.2.1 _ (getD_mem' l m (0, 0) hml)).2)
      clear hcell
      generalize l.getD m (0, 0) = p at *
      obtain ⟨p1, p2⟩ := p
      simp only at e0 e1 HF
      generalize hdL (l.take m) = h at *
      have HPT := Lib.hid (fun w' hx => Two.put_any u5 h p2 HF.out w' hx (by have := HL.out; have := HTL.out; omega))
      have HLS := Lib.hid (fun u w' hx hy => Two.rless_any u5 u h [p2] w' hx hy (by have := HL.out; have := HTL.out; omega))
      by_cases h1 : p1 = 1
      · subst h1
        rw [show hdS h (1, p2) = Two.put h p2 from rfl] at HS
        go_wp2_with fail
        refine (HPT.out _ (two_of HO.out)).mono ?_
        rintro e w2 ⟨v2, rfl, hil, hb2⟩
        have HB2 := Lib.hid (Below.call HB.out hb2)
        have e0 := keep_cell hb2 e0
        have e1 := keep_cell hb2 e1
        have HI2 := Lib.hid (of_two hil)
        clear hil hb2
        go_wp2
        go_roundg (n - (m + 1))
        case measure => omega
        case rel => exact ⟨m + 1, by omega, rfl, num_i (by omega), by rw [HS.out]; exact HI2.out, HB2.out⟩
      · by_cases h4 : p1 = 4
        · subst h4
          rw [show hdS h (4, p2) = h.filter (fun y => !decide (y ∈ [p2])) from rfl] at HS
          go_wp2_with fail
          refine (HLS.out _ _ (two_of (HO.out.then (Below.al (Below.refl _ wr) _))) (two_of (Lk.IsL.lit (K := KI) wr p2 _ HF.out rfl wr.heap.size rfl |>.more (by simp)))).mono ?_
          rintro e w2 ⟨v2, rfl, hil, hb2⟩
          have HB2 := Lib.hid (Below.call (Below.al HB.out _) hb2)
          have HI2 := Lib.hid (of_two hil)
          clear hil hb2
          go_wp2
          go_roundg (n - (m + 1))
          case measure => omega
          case rel => exact ⟨m + 1, by omega, rfl, num_i (by omega), by rw [HS.out]; exact HI2.out, HB2.out⟩
        · rw [show hdS h (p1, p2) = h by unfold hdS; rw [if_neg h1, if_neg h4]] at HS
          have hq1 : (p1 == 1) = false := by rw [beq_eq_false_iff_ne]; exact h1
          have hq4 : (p1 == 4) = false := by rw [beq_eq_false_iff_ne]; exact h4
          clear h1 h4
          go_wp2
          go_roundg (n - (m + 1))
          case measure => omega
          case rel => exact ⟨m + 1, by omega, rfl, num_i (by omega), by rw [HS.out]; exact HO.out, HB.out⟩
    · obtain rfl : m = n := by omega
      have hno := (not_congr (HWI.out m hm)).1 (by omega)
      by_cases hml : (m : Int) < l.length
      · have hmk : k ≤ (m : Int) := by
          by_cases h : k ≤ (m : Int)
          · exact h
          · exact absurd ⟨by omega, by omega⟩ hno
        clear hno
        go_wp2
        go_ret
        exact ⟨_, rfl, HO.out, HB.out⟩
      · clear hno
        go_wp2
        go_ret
        exact ⟨_, rfl, HO.out, HB.out⟩
end Go.Proofs.Ytbflkdkbfidleaa
