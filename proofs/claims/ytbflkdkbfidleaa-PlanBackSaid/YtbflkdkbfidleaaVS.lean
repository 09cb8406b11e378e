/- Plans: the laws PlanMakes and PlanTells. -/
import Derived.Test.YtbflkdkbfidleaaVR
import Derived.Test.YtbflkdkbfidleaaVF
import Derived.Test.YtbflkdkbfidleaaVG
namespace Go.Proofs.Ytbflkdkbfidleaa
open Go.RowKit
theorem bkV_len (ids : List Int) (k : Int) : (bkV ids k).length ≤ ids.length + 1 := by
  unfold bkV
  split
  · simp; omega
  · simp
theorem mkV_len (ids : List Int) (l : Bool) : (mkV ids l).length ≤ 3 * ids.length + 2 := by
  unfold mkV
  split
  · have := mkL_len l ids
    simp only [List.length_append, List.length_map, List.length_reverse, List.length_cons, List.length_nil]
    omega
  · simp
set_option maxRecDepth 100000 in
set_option maxHeartbeats 4000000 in
theorem planMakes_walk (v : Value) (ids : List Int) (l : Bool) (k : Int) (w : World) (hv : KI.IsL w w.heap.size v ids) :
    Calls Try.prog 7 #[v, .bool l, .int .i64 k] w fun e w' => e = .returned (.bool true) ∧ Below w.heap.size w w' := by
  have LV := Lib.hid hv
  obtain ⟨A, c, rfl, hc⟩ := hv.shape
  clear hv
  have HLV := Lib.hid (fun w => lives18 w)
  by_cases h1 : ids.length > 200
  · go_enter Try.func7, Try.ntmps7
    go_wp2_with fail
    refine (HLV.out _).mono ?_
    rintro e w1 ⟨rfl, hb1⟩
    go_wp2
    go_ret
    exact ⟨rfl, hb1⟩
  have HL1 := Lib.hid (mkV_len ids l)
  have HL2 := Lib.hid (bkV_len ids k)
  have HM := Lib.hid (fun v w h1 h2 => make_any v ids l w h1 h2)
  have HRM := Lib.hid (fun v w h1 h2 => rmake_any v ids l w h1 h2)
  have HB := Lib.hid (fun v w h1 h2 => back_any v ids k w h1 h2)
  have HRB := Lib.hid (fun v w h1 h2 => rback_any v ids k w h1 h2)
  have HS := Lib.hid (fun w => steps_any k l w)
  have HRS := Lib.hid (fun w => rsteps_any k l w)
  generalize mkV ids l = m at *
  generalize bkV ids k = n at *
  generalize stV k l = s at *
  go_enter Try.func7, Try.ntmps7
  go_wp2_with fail
  refine (HLV.out _).mono ?_
  rintro e k1 ⟨rfl, hb⟩
  have HBk1 := Lib.hid hb
  have LV := Lib.hid (LV.out.then HBk1.out)
  clear hb
  go_wp2_with fail
  refine (HM.out _ _ LV.out (by omega)).mono ?_
  rintro e k2 ⟨vLA, rfl, ho, hb⟩
  have HBk2 := Lib.hid hb
  have LV := Lib.hid (LV.out.then HBk2.out)
  have LA := Lib.hid (ho.isL (by have := HL1.out; omega))
  clear ho
  clear hb
  have HBk2t := Lib.hid (Below.call HBk1.out HBk2.out)
  go_wp2_with fail
  refine (HRM.out _ _ LV.out (by omega)).mono ?_
  rintro e k3 ⟨vLB, rfl, ho, hb⟩
  have HBk3 := Lib.hid hb
  have LV := Lib.hid (LV.out.then HBk3.out)
  have LA := Lib.hid (LA.out.then HBk3.out)
  have LB := Lib.hid (ho.isL (by have := HL1.out; omega))
  clear ho
  clear hb
  have HBk3t := Lib.hid (Below.call HBk2t.out HBk3.out)
  go_wp2_with fail
  refine (dsame_any _ _ m m _ LA.out LB.out).mono ?_
  rintro e wq ⟨rfl, dq, rfl⟩
  have HBk4 := Lib.hid (below_drewN (Below.refl k3.heap.size k3) dq)
  generalize k3.drewN dq = k4 at *
  have LV := Lib.hid (LV.out.then HBk4.out)
  have LA := Lib.hid (LA.out.then HBk4.out)
  have LB := Lib.hid (LB.out.then HBk4.out)
  have HBk4t := Lib.hid (Below.call HBk3t.out HBk4.out)
  simp only [decide_true]
  go_wp2_with fail
  refine (HB.out _ _ LV.out (by omega)).mono ?_
  rintro e k5 ⟨vLC, rfl, ho, hb⟩
  have HBk5 := Lib.hid hb
  have LV := Lib.hid (LV.out.then HBk5.out)
  have LA := Lib.hid (LA.out.then HBk5.out)
  have LB := Lib.hid (LB.out.then HBk5.out)
  have LC := Lib.hid (ho.isL (by have := HL2.out; omega))
  clear ho
  clear hb
  have HBk5t := Lib.hid (Below.call HBk4t.out HBk5.out)
  go_wp2_with fail
  refine (HRB.out _ _ LV.out (by omega)).mono ?_
  rintro e k6 ⟨vLD, rfl, ho, hb⟩
  have HBk6 := Lib.hid hb
  have LV := Lib.hid (LV.out.then HBk6.out)
  have LA := Lib.hid (LA.out.then HBk6.out)
  have LB := Lib.hid (LB.out.then HBk6.out)
  have LC := Lib.hid (LC.out.then HBk6.out)
  have LD := Lib.hid (ho.isL (by have := HL2.out; omega))
  clear ho
  clear hb
  have HBk6t := Lib.hid (Below.call HBk5t.out HBk6.out)
  go_wp2_with fail
  refine (dsame_any _ _ n n _ LC.out LD.out).mono ?_
  rintro e wq ⟨rfl, dq, rfl⟩
  have HBk7 := Lib.hid (below_drewN (Below.refl k6.heap.size k6) dq)
  generalize k6.drewN dq = k7 at *
  have LV := Lib.hid (LV.out.then HBk7.out)
  have LA := Lib.hid (LA.out.then HBk7.out)
  have LB := Lib.hid (LB.out.then HBk7.out)
  have LC := Lib.hid (LC.out.then HBk7.out)
  have LD := Lib.hid (LD.out.then HBk7.out)
  have HBk7t := Lib.hid (Below.call HBk6t.out HBk7.out)
  simp only [decide_true]
  go_wp2_with fail
  refine (HS.out _).mono ?_
  rintro e wq ⟨rfl, rfl⟩
  go_wp2_with fail
  refine (HRS.out _).mono ?_
  rintro e wq ⟨rfl, rfl⟩
  go_wp2
  go_ret
  exact ⟨by simp, HBk7t.out⟩
set_option maxRecDepth 100000 in
set_option maxHeartbeats 4000000 in
theorem planTells_walk (v : Value) (l : List (Int × Int)) (k : Int) (w : World) (hv : KD.IsL w w.heap.size v l) :
    Calls Try.prog 8 #[v, .int .i64 k] w fun e w' => e = .returned (.bool true) ∧ Below w.heap.size w w' := by
  have LV := Lib.hid hv
  obtain ⟨A, c, rfl, hc⟩ := hv.shape
  clear hv
  have HLV := Lib.hid (fun w => lives18 w)
  by_cases h1 : l.length > 300
  · go_enter Try.func8, Try.ntmps8
    go_wp2_with fail
    refine (HLV.out _).mono ?_
    rintro e w1 ⟨rfl, hb1⟩
    go_wp2
    go_ret
    exact ⟨rfl, hb1⟩
  have HT := Lib.hid (fun v w h1 h2 => two_any v l w h1 h2)
  have HRT := Lib.hid (fun v w h1 h2 => rtwo_any v l w h1 h2)
  have HH := Lib.hid (fun v w h1 h2 => holds_any v l k w h1 h2)
  have HRH := Lib.hid (fun v w h1 h2 => rholds_any v l k w h1 h2)
  generalize twV l = t at *
  generalize hlV l k = h at *
  go_enter Try.func8, Try.ntmps8
  go_wp2_with fail
  refine (HLV.out _).mono ?_
  rintro e k1 ⟨rfl, hb⟩
  have HBk1 := Lib.hid hb
  have LV := Lib.hid (LV.out.then HBk1.out)
  clear hb
  go_wp2_with fail
  refine (HT.out _ _ LV.out (by omega)).mono ?_
  rintro e k2 ⟨rfl, hb⟩
  have HBk2 := Lib.hid hb
  have LV := Lib.hid (LV.out.then HBk2.out)
  clear hb
  have HBk2t := Lib.hid (Below.call HBk1.out HBk2.out)
  go_wp2_with fail
  refine (HRT.out _ _ LV.out (by omega)).mono ?_
  rintro e k3 ⟨rfl, hb⟩
  have HBk3 := Lib.hid hb
  have LV := Lib.hid (LV.out.then HBk3.out)
  clear hb
  have HBk3t := Lib.hid (Below.call HBk2t.out HBk3.out)
  go_wp2_with fail
  refine (HH.out _ _ LV.out (by omega)).mono ?_
  rintro e k4 ⟨vLA, rfl, hi, hb⟩
  have HBk4 := Lib.hid hb
  have LV := Lib.hid (LV.out.then HBk4.out)
  have LA := Lib.hid hi
  clear hi hb
  have HBk4t := Lib.hid (Below.call HBk3t.out HBk4.out)
  go_wp2_with fail
  refine (HRH.out _ _ LV.out (by omega)).mono ?_
  rintro e k5 ⟨vLB, rfl, hi, hb⟩
  have HBk5 := Lib.hid hb
  have LV := Lib.hid (LV.out.then HBk5.out)
  have LA := Lib.hid (LA.out.then HBk5.out)
  have LB := Lib.hid hi
  clear hi hb
  have HBk5t := Lib.hid (Below.call HBk4t.out HBk5.out)
  go_wp2_with fail
  refine (Two.same_any _ _ h h _ (two_of LA.out) (two_of LB.out)).mono ?_
  rintro e wq ⟨rfl, dq, rfl⟩
  have HBk6 := Lib.hid (below_drewN (Below.refl k5.heap.size k5) dq)
  generalize k5.drewN dq = k6 at *
  have LV := Lib.hid (LV.out.then HBk6.out)
  have LA := Lib.hid (LA.out.then HBk6.out)
  have LB := Lib.hid (LB.out.then HBk6.out)
  have HBk6t := Lib.hid (Below.call HBk5t.out HBk6.out)
  simp only [decide_true]
  go_wp2
  go_ret
  exact ⟨by simp, HBk6t.out⟩
end Go.Proofs.Ytbflkdkbfidleaa
