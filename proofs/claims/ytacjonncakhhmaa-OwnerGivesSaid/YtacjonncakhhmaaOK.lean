/- Owners: the law of giving. -/
import Derived.Test.YtacjonncakhhmaaOJ
namespace Go.Proofs.Ytacjonncakhhmaa
open Go.RowKit
set_option maxRecDepth 100000 in
set_option maxHeartbeats 4000000 in
theorem ownerGives_walk (v u : Value) (o ids : List Int) (who : Int) (w : World) (hv : KI.IsL w w.heap.size v o) (hu : KI.IsL w w.heap.size u ids) (hw : fits who) :
    Calls Try.prog 7 #[v, u, .int .i64 who] w fun e w' => e = .returned (.bool true) ∧ Below w.heap.size w w' := by
  have HV := Lib.hid hv
  have HU := Lib.hid hu
  obtain ⟨A, c, rfl, hc⟩ := hv.shape
  obtain ⟨A2, c2, rfl, hc2⟩ := hu.shape
  have HW := Lib.hid hw
  clear hv hu hw
  have HLV := Lib.hid (fun w => lives14 w)
  by_cases h1 : o.length > 1000
  · go_enter Try.func7, Try.ntmps7
    go_wp2_with fail
    refine (HLV.out _).mono ?_
    rintro e w1 ⟨rfl, hb1⟩
    go_wp2
    go_ret
    exact ⟨rfl, hb1⟩
  by_cases h2 : ids.length > 1000
  · go_enter Try.func7, Try.ntmps7
    go_wp2_with fail
    refine (HLV.out _).mono ?_
    rintro e w1 ⟨rfl, hb1⟩
    go_wp2
    go_ret
    exact ⟨rfl, hb1⟩
  have HL := Lib.hid (psL_len o ids who (giveQ who) 0)
  have HT := Lib.hid (fun v u w h1 h2 h3 => give_o v u o ids who w h1 h2 h3)
  have HRT := Lib.hid (fun v u w h1 h2 h3 => rgive_o v u o ids who w h1 h2 h3)
  have HLK := Lib.hid (fun v u w h1 h2 => lacks_o v u o ids who w h1 h2)
  have HRL := Lib.hid (fun v u w h1 h2 => rlacks_o v u o ids who w h1 h2)
  have HOF := Lib.hid (fun v w h1 h2 => of_o v o who w h1 h2)
  have HRF := Lib.hid (fun v w h1 h2 => rof_o v o who w h1 h2)
  have HOL := Lib.hid (ofL_len o who o.length)
  generalize psI o ids who (giveQ who) = pI at *
  generalize psE o ids who (giveQ who) 141 = pE at *
  generalize psL o ids who (giveQ who) 0 = pL at *
  generalize fstN (lkB o who) ids = z at *
  generalize ofL o who o.length = oL at *
  obtain ⟨z1, z2⟩ := z
  go_enter Try.func7, Try.ntmps7
  go_wp2_with (at_builtin; refine Lk.wpList_app (K := KI) _ rfl _ _ rfl rfl w.heap.size w.heap.size _ _ [] o rfl rfl (Lk.Own.made w w.heap.size 0 #[] (Nat.le_refl _) (by unfold maxLen; omega) rfl) (HV.out.below (Below.al (Below.refl _ w) _)) ?c1 ?c2 ?_)
  case c1 => simp; omega
  case c2 => simp
  intro vC w4 hown hgrow _
  have HB4 := Lib.hid (Lk.Own.grow' (K := KI) (Lk.Own.made w w.heap.size 0 #[] (Nat.le_refl _) (by unfold maxLen; omega) rfl) (Below.al (Below.refl _ w) _) (by simp) hgrow)
  have LC := Lib.hid ((show KI.Own w4 w.heap.size vC o by simpa using hown).isL (by omega))
  have LV := Lib.hid (HV.out.then HB4.out)
  have LU := Lib.hid (HU.out.then HB4.out)
  clear hown hgrow HV HU
  go_wp2_with fail
  refine (HT.out _ _ _ LC.out LU.out (by omega)).mono ?_
  rintro e k1 ⟨vLA, rfl, ho, hb⟩
  have HBk1 := Lib.hid hb
  have LC := Lib.hid (LC.out.then HBk1.out)
  have LV := Lib.hid (LV.out.then HBk1.out)
  have LU := Lib.hid (LU.out.then HBk1.out)
  have LA := Lib.hid (ho.isL (by have := HL.out; omega))
  clear ho
  clear hb
  have HBk1t := Lib.hid (Below.call HB4.out HBk1.out)
  go_wp2_with fail
  refine (HRT.out _ _ _ LV.out LU.out (by omega)).mono ?_
  rintro e k2 ⟨vLB, rfl, ho, hb⟩
  have HBk2 := Lib.hid hb
  have LC := Lib.hid (LC.out.then HBk2.out)
  have LV := Lib.hid (LV.out.then HBk2.out)
  have LU := Lib.hid (LU.out.then HBk2.out)
  have LA := Lib.hid (LA.out.then HBk2.out)
  have LB := Lib.hid (ho.isL (by have := HL.out; omega))
  clear ho
  clear hb
  have HBk2t := Lib.hid (Below.call HBk1t.out HBk2.out)
  go_wp2_with fail
  refine (HLK.out _ _ _ LC.out LU.out).mono ?_
  rintro e k3 ⟨rfl, hb⟩
  have HBk3 := Lib.hid hb
  have LC := Lib.hid (LC.out.then HBk3.out)
  have LV := Lib.hid (LV.out.then HBk3.out)
  have LU := Lib.hid (LU.out.then HBk3.out)
  have LA := Lib.hid (LA.out.then HBk3.out)
  have LB := Lib.hid (LB.out.then HBk3.out)
  clear hb
  have HBk3t := Lib.hid (Below.call HBk2t.out HBk3.out)
  go_wp2_with fail
  refine (HRL.out _ _ _ LV.out LU.out).mono ?_
  rintro e k4 ⟨rfl, hb⟩
  have HBk4 := Lib.hid hb
  have LC := Lib.hid (LC.out.then HBk4.out)
  have LV := Lib.hid (LV.out.then HBk4.out)
  have LU := Lib.hid (LU.out.then HBk4.out)
  have LA := Lib.hid (LA.out.then HBk4.out)
  have LB := Lib.hid (LB.out.then HBk4.out)
  clear hb
  have HBk4t := Lib.hid (Below.call HBk3t.out HBk4.out)
  go_wp2_with fail
  refine (HLV.out _).mono ?_
  rintro e k5 ⟨rfl, hb⟩
  have HBk5 := Lib.hid hb
  have LC := Lib.hid (LC.out.then HBk5.out)
  have LV := Lib.hid (LV.out.then HBk5.out)
  have LU := Lib.hid (LU.out.then HBk5.out)
  have LA := Lib.hid (LA.out.then HBk5.out)
  have LB := Lib.hid (LB.out.then HBk5.out)
  clear hb
  have HBk5t := Lib.hid (Below.call HBk4t.out HBk5.out)
  go_wp2_with fail
  refine (Two.same_any _ _ pL pL _ (two_of LA.out) (two_of LB.out)).mono ?_
  rintro e wq ⟨rfl, dq, rfl⟩
  have HBk6 := Lib.hid (below_drewN (Below.refl k5.heap.size k5) dq)
  generalize k5.drewN dq = k6 at *
  have LC := Lib.hid (LC.out.then HBk6.out)
  have LV := Lib.hid (LV.out.then HBk6.out)
  have LU := Lib.hid (LU.out.then HBk6.out)
  have LA := Lib.hid (LA.out.then HBk6.out)
  have LB := Lib.hid (LB.out.then HBk6.out)
  have HBk6t := Lib.hid (Below.call HBk5t.out HBk6.out)
  simp only [decide_true]
  go_wp2_with fail
  refine (HOF.out _ _ LC.out (by omega)).mono ?_
  rintro e k7 ⟨vLF, rfl, ho, hb⟩
  have HBk7 := Lib.hid hb
  have LC := Lib.hid (LC.out.then HBk7.out)
  have LV := Lib.hid (LV.out.then HBk7.out)
  have LU := Lib.hid (LU.out.then HBk7.out)
  have LA := Lib.hid (LA.out.then HBk7.out)
  have LB := Lib.hid (LB.out.then HBk7.out)
  have LF := Lib.hid (ho.isL (by have := HOL.out; omega))
  clear ho
  clear hb
  have HBk7t := Lib.hid (Below.call HBk6t.out HBk7.out)
  go_wp2_with fail
  refine (HRF.out _ _ LV.out (by omega)).mono ?_
  rintro e k8 ⟨vLG, rfl, ho, hb⟩
  have HBk8 := Lib.hid hb
  have LC := Lib.hid (LC.out.then HBk8.out)
  have LV := Lib.hid (LV.out.then HBk8.out)
  have LU := Lib.hid (LU.out.then HBk8.out)
  have LA := Lib.hid (LA.out.then HBk8.out)
  have LB := Lib.hid (LB.out.then HBk8.out)
  have LF := Lib.hid (LF.out.then HBk8.out)
  have LG := Lib.hid (ho.isL (by have := HOL.out; omega))
  clear ho
  clear hb
  have HBk8t := Lib.hid (Below.call HBk7t.out HBk8.out)
  go_wp2_with fail
  refine (Two.same_any _ _ oL oL _ (two_of LF.out) (two_of LG.out)).mono ?_
  rintro e wq ⟨rfl, dq, rfl⟩
  have HBk9 := Lib.hid (below_drewN (Below.refl k8.heap.size k8) dq)
  generalize k8.drewN dq = k9 at *
  have LC := Lib.hid (LC.out.then HBk9.out)
  have LV := Lib.hid (LV.out.then HBk9.out)
  have LU := Lib.hid (LU.out.then HBk9.out)
  have LA := Lib.hid (LA.out.then HBk9.out)
  have LB := Lib.hid (LB.out.then HBk9.out)
  have LF := Lib.hid (LF.out.then HBk9.out)
  have LG := Lib.hid (LG.out.then HBk9.out)
  have HBk9t := Lib.hid (Below.call HBk8t.out HBk9.out)
  simp only [decide_true]
  go_wp2_with fail
  refine (Two.same_any _ _ o o _ (two_of LC.out) (two_of LV.out)).mono ?_
  rintro e wq ⟨rfl, dq, rfl⟩
  have HBk10 := Lib.hid (below_drewN (Below.refl k9.heap.size k9) dq)
  generalize k9.drewN dq = k10 at *
  have LC := Lib.hid (LC.out.then HBk10.out)
  have LV := Lib.hid (LV.out.then HBk10.out)
  have LU := Lib.hid (LU.out.then HBk10.out)
  have LA := Lib.hid (LA.out.then HBk10.out)
  have LB := Lib.hid (LB.out.then HBk10.out)
  have LF := Lib.hid (LF.out.then HBk10.out)
  have LG := Lib.hid (LG.out.then HBk10.out)
  have HBk10t := Lib.hid (Below.call HBk9t.out HBk10.out)
  simp only [decide_true]
  go_wp2
  go_ret
  exact ⟨by simp, HBk10t.out⟩
end Go.Proofs.Ytacjonncakhhmaa
