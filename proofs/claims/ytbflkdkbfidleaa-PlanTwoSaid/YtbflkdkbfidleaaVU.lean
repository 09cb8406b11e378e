/- Plans: the law PlanTwo. -/
import Derived.Test.YtbflkdkbfidleaaVT
import Derived.Test.YtbflkdkbfidleaaVS
import Derived.Test.YtbflkdkbfidleaaTB
namespace Go.Proofs.Ytbflkdkbfidleaa
open Go.RowKit
set_option maxRecDepth 100000 in
set_option maxHeartbeats 4000000 in

theorem planTwo_walk (v : Value) (l : List Int) (b : Bool) (w : World) (hv : KI.IsL w w.heap.size v l) :
    Calls Try.prog 9 #[v, .bool b] w fun e w' => e = .returned (.bool true) ∧ Below w.heap.size w w' := by
  have LV := Lib.hid hv
  obtain ⟨A, c, rfl, hc⟩ := hv.shape
  clear hv
  have HLV := Lib.hid (fun w => lives18 w)
  by_cases h1 : l.length > 200
  · go_enter Try.func9, Try.ntmps9
    go_wp2_with fail
    refine (HLV.out _).mono ?_
    rintro e w1 ⟨rfl, hb1⟩
    go_wp2
    go_ret
    exact ⟨rfl, hb1⟩
  have HF := Lib.hid (fun v w h1 h2 => Two.rfrom_any v l w h1 h2)
  have hi := Two.inc_mk l
  have hn := Two.mk_len_le l
  generalize Two.mk l = ids at *
  have HN := Lib.hid (show ids.length ≤ 200 by omega)
  clear hn
  have HM := Lib.hid (fun v w h1 h2 => make_any v ids b w h1 h2)
  have HS0 := fun w => steps_any ids.length b w
  simp only [← mkV_steps ids b hi (by have := HN.out; omega)] at HS0
  have HS := Lib.hid HS0
  clear HS0
  have HLM := Lib.hid (mkV_len ids b)
  have HT0 := fun v w h1 h2 => two_any v (mkV ids b) w h1 h2
  simp only [mkV_two ids b hi] at HT0
  have HT := Lib.hid HT0
  clear HT0
  have HH := Lib.hid (fun v k w h1 h2 => holds_any v (mkV ids b) k w h1 h2)
  have HD := Lib.hid (mkV_do ids b hi)
  have HZ0 := fun v w h1 h2 => holds_any v (mkV ids b) (mkV ids b).length w h1 h2
  simp only [mkV_none ids b hi] at HZ0
  have HZ := Lib.hid HZ0
  clear HZ0
  clear hi
  generalize mkV ids b = m at *
  have HLM := Lib.hid (show m.length ≤ 602 by have := HLM.out; have := HN.out; omega)
  go_enter Try.func9, Try.ntmps9
  go_wp2_with fail
  refine (HF.out _ _ (two_of LV.out) (by omega)).mono ?_
  rintro e k1 ⟨vI, rfl, hi1, hb1⟩
  have LI := Lib.hid (of_two hi1)
  have HB1 := Lib.hid hb1
  clear hi1 hb1 HF LV
  obtain ⟨AI, cI, rfl, hcI⟩ := LI.out.shape
  go_wp2_with fail
  refine (HM.out _ _ LI.out (by have := HN.out; omega)).mono ?_
  rintro e k2 ⟨vP, rfl, ho2, hb2⟩
  have LI := Lib.hid (LI.out.then hb2)
  have LP := Lib.hid (ho2.isL (by have := HLM.out; omega))
  have HB2 := Lib.hid (Below.call HB1.out hb2)
  clear ho2 hb2 HM HB1
  obtain ⟨AP, cP, rfl, hcP⟩ := LP.out.shape
  go_wp2_with fail
  refine (HLV.out _).mono ?_
  rintro e k3 ⟨rfl, hb3⟩
  have LI := Lib.hid (LI.out.then hb3)
  have LP := Lib.hid (LP.out.then hb3)
  have HB3 := Lib.hid (Below.call HB2.out hb3)
  clear hb3 HB2
  go_wp2_with fail
  refine (HT.out _ _ LP.out (by have := HLM.out; omega)).mono ?_
  rintro e k4 ⟨rfl, hb4⟩
  have LI := Lib.hid (LI.out.then hb4)
  have LP := Lib.hid (LP.out.then hb4)
  have HB4 := Lib.hid (Below.call HB3.out hb4)
  clear hb4 HB3 HT
  go_wp2_with fail
  refine (HS.out _).mono ?_
  rintro e wq ⟨rfl, rfl⟩
  clear HS
  have hml := HLM.out
  go_wp2
  go_loopg [7] m.length (fun gh i wr => ∃ k : Nat, k ≤ m.length ∧ gh = m.length - k ∧ i = .int .i64 k ∧ Below k4.heap.size k4 wr)
  case atStart => exact ⟨0, Nat.zero_le _, rfl, rfl, Below.refl _ _⟩
  case round =>
    obtain ⟨k, hk, rfl, rfl, hbl⟩ := hrel
    have HB := Lib.hid hbl
    clear hbl
    have LI := Lib.hid (LI.out.then HB.out)
    have LP := Lib.hid (LP.out.then HB.out)
    by_cases hlt : k < m.length
    · obtain ⟨bp, off, rfl, hb, _, hcell⟩ := dd_cells LP.out (by omega)
      obtain ⟨e0, e1⟩ := hcell k hlt
      have HDK := Lib.hid (HD.out k hlt)
      clear hcell
      generalize m.getD k (0, 0) = d at *
      obtain ⟨d1, d2⟩ := d
      simp only at e0 e1 HDK
      by_cases h3 : d1 = 3
      · subst h3
        have hx := HDK.out rfl
        go_wp2_with fail
        refine (HH.out _ _ _ LP.out (by omega)).mono ?_
        rintro e w2 ⟨vH, rfl, hil, hb2⟩
        rw [hx] at hil
        have LH := Lib.hid hil
        have LI2 := Lib.hid (LI.out.then hb2)
        have HB2 := Lib.hid (Below.call HB.out hb2)
        clear hil hb2
        go_wp2_with fail
        refine (Two.same_any _ _ ids ids _ (two_of LH.out) (two_of LI2.out)).mono ?_
        rintro e wq ⟨rfl, dq, rfl⟩
        have HB5 := Lib.hid (below_drewN HB2.out dq)
        simp only [decide_true]
        generalize w2.drewN dq = w5 at *
        go_wp2
        go_roundg (m.length - (k + 1))
        case measure => omega
        case rel => exact ⟨k + 1, by omega, rfl, num_i (by omega), HB5.out⟩
      · go_wp2
        go_roundg (m.length - (k + 1))
        case measure => omega
        case rel => exact ⟨k + 1, by omega, rfl, num_i (by omega), HB.out⟩
    · obtain rfl : k = m.length := by omega
      go_wp2_with fail
      refine (HZ.out _ _ LP.out (by omega)).mono ?_
      rintro e w2 ⟨vH, rfl, hil, hb2⟩
      obtain ⟨AH, cH, rfl, hcH⟩ := hil.shape
      have HB5 := Lib.hid (Below.call HB4.out (Below.call HB.out hb2))
      clear hil hb2
      go_wp2
      go_ret
      exact ⟨rfl, HB5.out⟩
end Go.Proofs.Ytbflkdkbfidleaa
