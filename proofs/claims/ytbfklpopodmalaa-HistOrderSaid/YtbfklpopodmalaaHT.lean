/- Histories: pairs that are mixed, of one history. -/
import Derived.Test.YtbfklpopodmalaaHS
namespace Go.Proofs.Ytbfklpopodmalaa
open Go.RowKit Go.Maps
set_option maxRecDepth 100000 in
set_option maxHeartbeats 4000000 in

theorem mixed_hx (v : Value) (w : World) (hv : KE.IsL w w.heap.size v hx) :
    Calls Try.prog 17 #[v] w fun e w' => e = .returned (.int .i64 1) ∧ Below w.heap.size w w' := by
  have HT := Lib.hid (tcs_hx v w hv)
  have HA1 := Lib.hid (fun w => ahead_any 1 6 2 4 w)
  have HA2 := Lib.hid (fun w => ahead_any 2 4 1 6 w)
  rw [show (decide ((6 : Int) ≠ 0) && decide ((6 : Int) < 2)) = false from rfl] at HA1
  rw [show (decide ((4 : Int) ≠ 0) && decide ((4 : Int) < 1)) = false from rfl] at HA2
  obtain ⟨A, c, rfl, hc⟩ := hv.shape
  clear hv hc
  go_enter Try.func17, Try.ntmps17
  go_wp2_with fail
  go_step3
  go_wp2_with fail
  refine HT.out.mono ?_
  rintro e w1 ⟨v', rfl, hil, hb⟩
  have HB1 := Lib.hid hb
  have HIL := Lib.hid hil
  obtain ⟨A1, c1, rfl, hc1⟩ := hil.shape
  obtain ⟨b, off, rfl, hbl, _, hcell⟩ := cx_cells HIL.out (by decide)
  obtain ⟨e0, e1⟩ := hcell 0 (by decide)
  obtain ⟨e2, e3⟩ := hcell 1 (by decide)
  simp only [List.getD_cons_zero, List.getD_cons_succ] at e0 e1 e2 e3
  have HF := Lib.hid (And.intro e0 (And.intro e1 (And.intro e2 e3)))
  have HBl := Lib.hid hbl
  clear hil hb hcell HT hbl e0 e1 e2 e3
  simp only [List.length_cons, List.length_nil, Nat.zero_add, Nat.reduceAdd] at hc1 ⊢
  clear HIL
  go_wp2_with fail
  go_step3
  go_wp2
  go_loopg [4, 13] 2 (fun gh n i wr => ((gh = 2 ∧ n = .int .i64 0 ∧ i = .int .i64 0) ∨ (gh = 1 ∧ n = .int .i64 1 ∧ i = .int .i64 1) ∨ (gh = 0 ∧ n = .int .i64 1 ∧ i = .int .i64 2)) ∧ Below w1.heap.size w1 wr)
  case atStart => exact ⟨.inl ⟨rfl, rfl, rfl⟩, Below.refl _ _⟩
  case round =>
    obtain ⟨hcs, hb⟩ := hrel
    have HB := Lib.hid hb
    clear hb
    rcases hcs with ⟨rfl, rfl, rfl⟩ | ⟨rfl, rfl, rfl⟩ | ⟨rfl, rfl, rfl⟩
    · obtain ⟨e0, e1, e2, e3⟩ := HF.out
      replace e0 := keep_cell HB.out e0
      replace e1 := keep_cell HB.out e1
      replace e2 := keep_cell HB.out e2
      replace e3 := keep_cell HB.out e3
      simp only [Nat.zero_mul, Nat.one_mul, Nat.add_zero] at e0 e1 e2 e3
      obtain ⟨wo, hwo⟩ : ∃ wo, wo = wr.alloc (.cells #[.int .i64 1, .int .i64 6] 46) := ⟨_, rfl⟩
      have hbo : Below wr.heap.size wr wo := by rw [hwo]; exact Below.al (Below.refl _ _) _
      have HBo := Lib.hid (Below.call HB.out hbo)
      have y0 := Lib.hid (show wo.cell? ⟨wr.heap.size, 0, none⟩ = some (.int .i64 1) by rw [hwo]; simp [go_sem])
      have y1 := Lib.hid (show wo.cell? ⟨wr.heap.size, 1, none⟩ = some (.int .i64 6) by rw [hwo]; simp [go_sem])
      have E2 := Lib.hid (keep_cell hbo e2)
      have E3 := Lib.hid (keep_cell hbo e3)
      go_upto_region 6 with fail
      rw [← hwo]
      clear hwo hbo e0 e1 e2 e3
      obtain ⟨D, hD⟩ : ∃ D, wr.heap.size = D := ⟨_, rfl⟩
      rw [hD] at y0 y1 ⊢
      clear hD
      obtain ⟨wq, hwq⟩ : ∃ wq, wq = wr := ⟨_, rfl⟩
      subst hwq
      go_wp2
      go_loopg [4, 23] 1 (fun gh n i wr => ((gh = 1 ∧ n = .int .i64 0 ∧ i = .int .i64 0) ∨ (gh = 0 ∧ n = .int .i64 1 ∧ i = .int .i64 1)) ∧ Below wo.heap.size wo wr)
      case atStart => exact ⟨.inl ⟨rfl, rfl, rfl⟩, Below.refl _ _⟩
      case round =>
        obtain ⟨hcs, hb⟩ := hrel
        have HBi := Lib.hid hb
        clear hb
        rcases hcs with ⟨rfl, rfl, rfl⟩ | ⟨rfl, rfl, rfl⟩
        · have z0 := keep_cell HBi.out y0.out
          have z1 := keep_cell HBi.out y1.out
          have z2 := keep_cell HBi.out E2.out
          have z3 := keep_cell HBi.out E3.out
          obtain ⟨wp, hwp⟩ : ∃ wp, wp = wr.alloc (.cells #[.int .i64 2, .int .i64 4] 46) := ⟨_, rfl⟩
          have hbp : Below wr.heap.size wr wp := by rw [hwp]; exact Below.al (Below.refl _ _) _
          have x0 := keep_cell hbp z0
          have x1 := keep_cell hbp z1
          have x2 : wp.cell? ⟨wr.heap.size, 0, none⟩ = some (.int .i64 2) := by rw [hwp]; simp [go_sem]
          have x3 : wp.cell? ⟨wr.heap.size, 1, none⟩ = some (.int .i64 4) := by rw [hwp]; simp [go_sem]
          have HBp := Lib.hid (Below.call HBi.out hbp)
          go_upto_region 9 with fail
          rw [← hwp]
          clear hwp hbp z0 z1 z2 z3
          go_wp2_with fail
          refine (HA1.out _).mono ?_
          rintro e w5 ⟨rfl, hb⟩
          have HB5 := Lib.hid (Below.call HBp.out hb)
          replace x0 := keep_cell hb x0
          replace x1 := keep_cell hb x1
          replace x2 := keep_cell hb x2
          replace x3 := keep_cell hb x3
          clear hb
          go_wp2_with fail
          refine (HA2.out _).mono ?_
          rintro e w6 ⟨rfl, hb⟩
          have HB6 := Lib.hid (Below.call HB5.out hb)
          clear hb x0 x1 x2 x3
          go_wp2
          go_roundg 0
          case measure => omega
          case rel => exact ⟨.inr ⟨rfl, rfl, rfl⟩, HB6.out⟩
        · go_wp2
          go_roundg 1
          case measure => omega
          case rel => exact ⟨.inr (.inl ⟨rfl, rfl, rfl⟩), Below.call HBo.out HBi.out⟩
    · obtain ⟨e0, e1, e2, e3⟩ := HF.out
      replace e0 := keep_cell HB.out e0
      replace e1 := keep_cell HB.out e1
      replace e2 := keep_cell HB.out e2
      replace e3 := keep_cell HB.out e3
      simp only [Nat.zero_mul, Nat.one_mul, Nat.add_zero] at e0 e1 e2 e3
      clear e0 e1
      obtain ⟨wo, hwo⟩ : ∃ wo, wo = wr.alloc (.cells #[.int .i64 2, .int .i64 4] 46) := ⟨_, rfl⟩
      have hbo : Below wr.heap.size wr wo := by rw [hwo]; exact Below.al (Below.refl _ _) _
      have HBo := Lib.hid (Below.call HB.out hbo)
      go_upto_region 6 with fail
      rw [← hwo]
      clear hwo hbo e2 e3
      by_cases hc2 : c1 = 2
      · subst hc2
        go_wp2
        go_loopg [4, 23] 0 (fun gh n i wr => gh = 0 ∧ n = .int .i64 1 ∧ i = .int .i64 0 ∧ wo = wr)
        case atStart => exact ⟨rfl, rfl, rfl, rfl⟩
        case round =>
          obtain ⟨rfl, rfl, rfl, rfl⟩ := hrel
          go_wp2
          go_roundg 0
          case measure => omega
          case rel => exact ⟨.inr (.inr ⟨rfl, rfl, rfl⟩), HBo.out⟩
      · go_wp2
        go_loopg [4, 23] 0 (fun gh n i wr => gh = 0 ∧ n = .int .i64 1 ∧ i = .int .i64 0 ∧ wo = wr)
        case atStart => exact ⟨rfl, rfl, rfl, rfl⟩
        case round =>
          obtain ⟨rfl, rfl, rfl, rfl⟩ := hrel
          go_wp2
          go_roundg 0
          case measure => omega
          case rel => exact ⟨.inr (.inr ⟨rfl, rfl, rfl⟩), HBo.out⟩
    · go_wp2
      rw [Exit.noGoto_ret]
      go_ret
      exact ⟨rfl, Below.call HB1.out HB.out⟩
end Go.Proofs.Ytbfklpopodmalaa
