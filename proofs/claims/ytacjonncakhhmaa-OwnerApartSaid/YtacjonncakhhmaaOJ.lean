/- Owners: the laws of taking and of giving. -/
import Derived.Test.YtacjonncakhhmaaOI
namespace Go.Proofs.Ytacjonncakhhmaa
open Go.RowKit
theorem psL_len (o ids : List Int) (who : Int) (q : Int → Bool) (nx : Int) : (psL o ids who q nx).length ≤ o.length := by
  unfold psL
  split
  · split
    · simp
    · split
      · simp
      · rw [setAll_len]; omega
  · simp
set_option maxRecDepth 100000 in
set_option maxHeartbeats 4000000 in
theorem ownerTakes_walk (v u : Value) (o ids : List Int) (who : Int) (w : World) (hv : KI.IsL w w.heap.size v o) (hu : KI.IsL w w.heap.size u ids) (hw : fits who) :
    Calls Try.prog 6 #[v, u, .int .i64 who] w fun e w' => e = .returned (.bool true) ∧ Below w.heap.size w w' := by
  have HV := Lib.hid hv
  have HU := Lib.hid hu
  obtain ⟨A, c, rfl, hc⟩ := hv.shape
  obtain ⟨A2, c2, rfl, hc2⟩ := hu.shape
  have HW := Lib.hid hw
  clear hv hu hw
  have HLV := Lib.hid (fun w => lives14 w)
  by_cases h1 : o.length > 1000
  · go_enter Try.func6, Try.ntmps6
    go_wp2_with fail
    refine (HLV.out _).mono ?_
    rintro e w1 ⟨rfl, hb1⟩
    go_wp2
    go_ret
    exact ⟨rfl, hb1⟩
  by_cases h2 : ids.length > 1000
  · go_enter Try.func6, Try.ntmps6
    go_wp2_with fail
    refine (HLV.out _).mono ?_
    rintro e w1 ⟨rfl, hb1⟩
    go_wp2
    go_ret
    exact ⟨rfl, hb1⟩
  have HL := Lib.hid (psL_len o ids who (takeQ who) who)
  have HT := Lib.hid (fun v u w h1 h2 h3 => take_o v u o ids who HW.out w h1 h2 h3)
  have HRT := Lib.hid (fun v u w h1 h2 h3 => rtake_o v u o ids who HW.out w h1 h2 h3)
  have HRO := Lib.hid (fun v w h => right_o v o w h)
  have HRR := Lib.hid (fun v w h => rright_o v o w h)
  generalize psI o ids who (takeQ who) = pI at *
  generalize psE o ids who (takeQ who) 140 = pE at *
  generalize psL o ids who (takeQ who) who = pL at *
  generalize rgO o = r at *
  go_enter Try.func6, Try.ntmps6
  go_wp2_with (at_builtin; refine Lk.wpList_app (K := KI) _ rfl _ _ rfl rfl w.heap.size w.heap.size _ _ [] o rfl rfl (Lk.Own.made w w.heap.size 0 #[] (Nat.le_refl _) (by unfold maxLen; omega) rfl) (HV.out.below (Below.al (Below.refl _ w) _)) ?c1 ?c2 ?_)
  case c1 => simp; omega
  case c2 => simp
  intro vC w4 hown hgrow _
  have HB4 := Lib.hid (Lk.Own.grow' (K := KI) (Lk.Own.made w w.heap.size 0 #[] (Nat.le_refl _) (by unfold maxLen; omega) rfl) (Below.al (Below.refl _ w) _) (by simp) hgrow)
  have LC := Lib.hid ((show KI.Own w4 w.heap.size vC o by simpa using hown).isL (by omega))
  have LV := Lib.hid (HV.out.then HB4.out)
  have LU := Lib.hid (HU.out.then HB4.out)
  clear hown hgrow HV HU
  go_wp2_with fail
  refine (HT.out _ _ _ LC.out LU.out (by omega)).mono ?_
  rintro e k1 ⟨vLA, rfl, ho, hb⟩
  have HBk1 := Lib.hid hb
  have LC := Lib.hid (LC.out.then HBk1.out)
  have LV := Lib.hid (LV.out.then HBk1.out)
  have LU := Lib.hid (LU.out.then HBk1.out)
  have LA := Lib.hid (ho.isL (by have := HL.out; omega))
  clear ho
  clear hb
  have HBk1t := Lib.hid (Below.call HB4.out HBk1.out)
  go_wp2_with fail
  refine (HRT.out _ _ _ LV.out LU.out (by omega)).mono ?_
  rintro e k2 ⟨vLB, rfl, ho, hb⟩
  have HBk2 := Lib.hid hb
  have LC := Lib.hid (LC.out.then HBk2.out)
  have LV := Lib.hid (LV.out.then HBk2.out)
  have LU := Lib.hid (LU.out.then HBk2.out)
  have LA := Lib.hid (LA.out.then HBk2.out)
  have LB := Lib.hid (ho.isL (by have := HL.out; omega))
  clear ho
  clear hb
  have HBk2t := Lib.hid (Below.call HBk1t.out HBk2.out)
  go_wp2_with fail
  refine (HLV.out _).mono ?_
  rintro e k3 ⟨rfl, hb⟩
  have HBk3 := Lib.hid hb
  have LC := Lib.hid (LC.out.then HBk3.out)
  have LV := Lib.hid (LV.out.then HBk3.out)
  have LU := Lib.hid (LU.out.then HBk3.out)
  have LA := Lib.hid (LA.out.then HBk3.out)
  have LB := Lib.hid (LB.out.then HBk3.out)
  clear hb
  have HBk3t := Lib.hid (Below.call HBk2t.out HBk3.out)
  go_wp2_with fail
  refine (Two.same_any _ _ pL pL _ (two_of LA.out) (two_of LB.out)).mono ?_
  rintro e wq ⟨rfl, dq, rfl⟩
  have HBk4 := Lib.hid (below_drewN (Below.refl k3.heap.size k3) dq)
  generalize k3.drewN dq = k4 at *
  have LC := Lib.hid (LC.out.then HBk4.out)
  have LV := Lib.hid (LV.out.then HBk4.out)
  have LU := Lib.hid (LU.out.then HBk4.out)
  have LA := Lib.hid (LA.out.then HBk4.out)
  have LB := Lib.hid (LB.out.then HBk4.out)
  have HBk4t := Lib.hid (Below.call HBk3t.out HBk4.out)
  simp only [decide_true]
  go_wp2_with fail
  refine (Two.same_any _ _ o o _ (two_of LC.out) (two_of LV.out)).mono ?_
  rintro e wq ⟨rfl, dq, rfl⟩
  have HBk5 := Lib.hid (below_drewN (Below.refl k4.heap.size k4) dq)
  generalize k4.drewN dq = k5 at *
  have LC := Lib.hid (LC.out.then HBk5.out)
  have LV := Lib.hid (LV.out.then HBk5.out)
  have LU := Lib.hid (LU.out.then HBk5.out)
  have LA := Lib.hid (LA.out.then HBk5.out)
  have LB := Lib.hid (LB.out.then HBk5.out)
  have HBk5t := Lib.hid (Below.call HBk4t.out HBk5.out)
  simp only [decide_true]
  go_wp2_with fail
  refine (HRO.out _ _ LV.out).mono ?_
  rintro e k6 ⟨rfl, hb⟩
  have HBk6 := Lib.hid hb
  have LC := Lib.hid (LC.out.then HBk6.out)
  have LV := Lib.hid (LV.out.then HBk6.out)
  have LU := Lib.hid (LU.out.then HBk6.out)
  have LA := Lib.hid (LA.out.then HBk6.out)
  have LB := Lib.hid (LB.out.then HBk6.out)
  clear hb
  have HBk6t := Lib.hid (Below.call HBk5t.out HBk6.out)
  go_wp2_with fail
  refine (HRR.out _ _ LV.out).mono ?_
  rintro e k7 ⟨rfl, hb⟩
  have HBk7 := Lib.hid hb
  have LC := Lib.hid (LC.out.then HBk7.out)
  have LV := Lib.hid (LV.out.then HBk7.out)
  have LU := Lib.hid (LU.out.then HBk7.out)
  have LA := Lib.hid (LA.out.then HBk7.out)
  have LB := Lib.hid (LB.out.then HBk7.out)
  clear hb
  have HBk7t := Lib.hid (Below.call HBk6t.out HBk7.out)
  go_wp2
  go_ret
  exact ⟨by simp, HBk7t.out⟩
end Go.Proofs.Ytacjonncakhhmaa
