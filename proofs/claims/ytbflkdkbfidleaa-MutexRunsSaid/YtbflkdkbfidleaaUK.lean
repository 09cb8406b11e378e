/- Mutexes: the laws MutexDoes, MutexStuck, MutexOrder. -/
import Derived.Test.YtbflkdkbfidleaaUC
import Derived.Test.YtbflkdkbfidleaaUH
import Derived.Test.YtbflkdkbfidleaaUI
import Derived.Test.YtbflkdkbfidleaaUJ
namespace Go.Proofs.Ytbflkdkbfidleaa
open Go.RowKit
theorem lkL_len (t : List Int) (id who : Int) : (lkL t id who).length ≤ t.length := by
  unfold lkL
  split
  · rw [List.length_set]; omega
  · simp
theorem ulL_len (t : List Int) (id who : Int) : (ulL t id who).length ≤ t.length := by
  unfold ulL
  split
  · rw [List.length_set]; omega
  · simp
theorem stL_len (t ws : List Int) : (stL t ws).length ≤ 9 := by
  unfold stL
  split
  · exact stK_len t ws 9
  · simp
set_option maxRecDepth 100000 in
set_option maxHeartbeats 4000000 in
theorem mutexDoes_walk (v : Value) (t : List Int) (id who : Int) (w : World) (hv : KI.IsL w w.heap.size v t) (hw : fits who) :
    Calls Try.prog 3 #[v, .int .i64 id, .int .i64 who] w fun e w' => e = .returned (.bool true) ∧ Below w.heap.size w w' := by
  have HV := Lib.hid hv
  obtain ⟨A, c, rfl, hc⟩ := hv.shape
  have HW := Lib.hid hw
  clear hv hw
  have HLV := Lib.hid (fun w => lives17 w)
  by_cases h1 : t.length > 1000
  · go_enter Try.func3, Try.ntmps3
    go_wp2_with fail
    refine (HLV.out _).mono ?_
    rintro e w1 ⟨rfl, hb1⟩
    go_wp2
    go_ret
    exact ⟨rfl, hb1⟩
  have HL1 := Lib.hid (lkL_len t id who)
  have HL2 := Lib.hid (ulL_len t id who)
  have HL3 := Lib.hid (ofL_len t who t.length)
  have HT := Lib.hid (fun v w h1 h2 => lock_any v t id who HW.out w h1 h2)
  have HU := Lib.hid (fun v w h1 h2 => unlock_any v t id who HW.out w h1 h2)
  have HRT := Lib.hid (fun v w h1 h2 => rlock_any v t id who HW.out w h1 h2)
  have HRU := Lib.hid (fun v w h1 h2 => runlock_any v t id who HW.out w h1 h2)
  have HRO := Lib.hid (fun v w h => right_o v t w h)
  have HRR := Lib.hid (fun v w h => rright_o v t w h)
  have HOF := Lib.hid (fun v w h1 h2 => of_o v t who w h1 h2)
  have HRF := Lib.hid (fun v w h1 h2 => rof_o v t who w h1 h2)
  generalize lkE t id who = e1 at *
  generalize lkL t id who = l1 at *
  generalize ulE t id who = e2 at *
  generalize ulL t id who = l2 at *
  generalize ofL t who t.length = oL at *
  generalize rgO t = r at *
  go_enter Try.func3, Try.ntmps3
  go_wp2_with (at_builtin; refine Lk.wpList_app (K := KI) _ rfl _ _ rfl rfl w.heap.size w.heap.size _ _ [] t rfl rfl (Lk.Own.made w w.heap.size 0 #[] (Nat.le_refl _) (by unfold maxLen; omega) rfl) (HV.out.below (Below.al (Below.refl _ w) _)) ?c1 ?c2 ?_)
  case c1 => simp; omega
  case c2 => simp
  intro vC w4 hown hgrow _
  have HB4 := Lib.hid (Lk.Own.grow' (K := KI) (Lk.Own.made w w.heap.size 0 #[] (Nat.le_refl _) (by unfold maxLen; omega) rfl) (Below.al (Below.refl _ w) _) (by simp) hgrow)
  have LC := Lib.hid ((show KI.Own w4 w.heap.size vC t by simpa using hown).isL (by omega))
  have LV := Lib.hid (HV.out.then HB4.out)
  clear hown hgrow HV
  go_wp2_with fail
  refine (HT.out _ _ LC.out (by omega)).mono ?_
  rintro e k1 ⟨vLA, rfl, ho, hb⟩
  have HBk1 := Lib.hid hb
  have LC := Lib.hid (LC.out.then HBk1.out)
  have LV := Lib.hid (LV.out.then HBk1.out)
  have LA := Lib.hid (ho.isL (by have := HL1.out; omega))
  clear ho
  clear hb
  have HBk1t := Lib.hid (Below.call HB4.out HBk1.out)
  go_wp2_with fail
  refine (HU.out _ _ LC.out (by omega)).mono ?_
  rintro e k2 ⟨vLB, rfl, ho, hb⟩
  have HBk2 := Lib.hid hb
  have LC := Lib.hid (LC.out.then HBk2.out)
  have LV := Lib.hid (LV.out.then HBk2.out)
  have LA := Lib.hid (LA.out.then HBk2.out)
  have LB := Lib.hid (ho.isL (by have := HL2.out; omega))
  clear ho
  clear hb
  have HBk2t := Lib.hid (Below.call HBk1t.out HBk2.out)
  go_wp2_with fail
  refine (HRT.out _ _ LV.out (by omega)).mono ?_
  rintro e k3 ⟨vLD, rfl, ho, hb⟩
  have HBk3 := Lib.hid hb
  have LC := Lib.hid (LC.out.then HBk3.out)
  have LV := Lib.hid (LV.out.then HBk3.out)
  have LA := Lib.hid (LA.out.then HBk3.out)
  have LB := Lib.hid (LB.out.then HBk3.out)
  have LD := Lib.hid (ho.isL (by have := HL1.out; omega))
  clear ho
  clear hb
  have HBk3t := Lib.hid (Below.call HBk2t.out HBk3.out)
  go_wp2_with fail
  refine (HRU.out _ _ LV.out (by omega)).mono ?_
  rintro e k4 ⟨vLE, rfl, ho, hb⟩
  have HBk4 := Lib.hid hb
  have LC := Lib.hid (LC.out.then HBk4.out)
  have LV := Lib.hid (LV.out.then HBk4.out)
  have LA := Lib.hid (LA.out.then HBk4.out)
  have LB := Lib.hid (LB.out.then HBk4.out)
  have LD := Lib.hid (LD.out.then HBk4.out)
  have LE := Lib.hid (ho.isL (by have := HL2.out; omega))
  clear ho
  clear hb
  have HBk4t := Lib.hid (Below.call HBk3t.out HBk4.out)
  go_wp2_with fail
  refine (HLV.out _).mono ?_
  rintro e k5 ⟨rfl, hb⟩
  have HBk5 := Lib.hid hb
  have LC := Lib.hid (LC.out.then HBk5.out)
  have LV := Lib.hid (LV.out.then HBk5.out)
  have LA := Lib.hid (LA.out.then HBk5.out)
  have LB := Lib.hid (LB.out.then HBk5.out)
  have LD := Lib.hid (LD.out.then HBk5.out)
  have LE := Lib.hid (LE.out.then HBk5.out)
  clear hb
  have HBk5t := Lib.hid (Below.call HBk4t.out HBk5.out)
  go_wp2_with fail
  refine (Two.same_any _ _ l1 l1 _ (two_of LA.out) (two_of LD.out)).mono ?_
  rintro e wq ⟨rfl, dq, rfl⟩
  have HBk6 := Lib.hid (below_drewN (Below.refl k5.heap.size k5) dq)
  generalize k5.drewN dq = k6 at *
  have LC := Lib.hid (LC.out.then HBk6.out)
  have LV := Lib.hid (LV.out.then HBk6.out)
  have LA := Lib.hid (LA.out.then HBk6.out)
  have LB := Lib.hid (LB.out.then HBk6.out)
  have LD := Lib.hid (LD.out.then HBk6.out)
  have LE := Lib.hid (LE.out.then HBk6.out)
  have HBk6t := Lib.hid (Below.call HBk5t.out HBk6.out)
  simp only [decide_true]
  go_wp2_with fail
  refine (Two.same_any _ _ l2 l2 _ (two_of LB.out) (two_of LE.out)).mono ?_
  rintro e wq ⟨rfl, dq, rfl⟩
  have HBk7 := Lib.hid (below_drewN (Below.refl k6.heap.size k6) dq)
  generalize k6.drewN dq = k7 at *
  have LC := Lib.hid (LC.out.then HBk7.out)
  have LV := Lib.hid (LV.out.then HBk7.out)
  have LA := Lib.hid (LA.out.then HBk7.out)
  have LB := Lib.hid (LB.out.then HBk7.out)
  have LD := Lib.hid (LD.out.then HBk7.out)
  have LE := Lib.hid (LE.out.then HBk7.out)
  have HBk7t := Lib.hid (Below.call HBk6t.out HBk7.out)
  simp only [decide_true]
  go_wp2_with fail
  refine (Two.same_any _ _ t t _ (two_of LC.out) (two_of LV.out)).mono ?_
  rintro e wq ⟨rfl, dq, rfl⟩
  have HBk8 := Lib.hid (below_drewN (Below.refl k7.heap.size k7) dq)
  generalize k7.drewN dq = k8 at *
  have LC := Lib.hid (LC.out.then HBk8.out)
  have LV := Lib.hid (LV.out.then HBk8.out)
  have LA := Lib.hid (LA.out.then HBk8.out)
  have LB := Lib.hid (LB.out.then HBk8.out)
  have LD := Lib.hid (LD.out.then HBk8.out)
  have LE := Lib.hid (LE.out.then HBk8.out)
  have HBk8t := Lib.hid (Below.call HBk7t.out HBk8.out)
  simp only [decide_true]
  go_wp2_with fail
  refine (HRO.out _ _ LC.out).mono ?_
  rintro e k9 ⟨rfl, hb⟩
  have HBk9 := Lib.hid hb
  have LC := Lib.hid (LC.out.then HBk9.out)
  have LV := Lib.hid (LV.out.then HBk9.out)
  have LA := Lib.hid (LA.out.then HBk9.out)
  have LB := Lib.hid (LB.out.then HBk9.out)
  have LD := Lib.hid (LD.out.then HBk9.out)
  have LE := Lib.hid (LE.out.then HBk9.out)
  clear hb
  have HBk9t := Lib.hid (Below.call HBk8t.out HBk9.out)
  go_wp2_with fail
  refine (HRR.out _ _ LV.out).mono ?_
  rintro e k10 ⟨rfl, hb⟩
  have HBk10 := Lib.hid hb
  have LC := Lib.hid (LC.out.then HBk10.out)
  have LV := Lib.hid (LV.out.then HBk10.out)
  have LA := Lib.hid (LA.out.then HBk10.out)
  have LB := Lib.hid (LB.out.then HBk10.out)
  have LD := Lib.hid (LD.out.then HBk10.out)
  have LE := Lib.hid (LE.out.then HBk10.out)
  clear hb
  have HBk10t := Lib.hid (Below.call HBk9t.out HBk10.out)
  have hrr : (r == r) = true := by simp
  go_wp2_with fail
  refine (HOF.out _ _ LC.out (by omega)).mono ?_
  rintro e k11 ⟨vLF, rfl, ho, hb⟩
  have HBk11 := Lib.hid hb
  have LC := Lib.hid (LC.out.then HBk11.out)
  have LV := Lib.hid (LV.out.then HBk11.out)
  have LA := Lib.hid (LA.out.then HBk11.out)
  have LB := Lib.hid (LB.out.then HBk11.out)
  have LD := Lib.hid (LD.out.then HBk11.out)
  have LE := Lib.hid (LE.out.then HBk11.out)
  have LF := Lib.hid (ho.isL (by have := HL3.out; omega))
  clear ho
  clear hb
  have HBk11t := Lib.hid (Below.call HBk10t.out HBk11.out)
  go_wp2_with fail
  refine (HRF.out _ _ LV.out (by omega)).mono ?_
  rintro e k12 ⟨vLG, rfl, ho, hb⟩
  have HBk12 := Lib.hid hb
  have LC := Lib.hid (LC.out.then HBk12.out)
  have LV := Lib.hid (LV.out.then HBk12.out)
  have LA := Lib.hid (LA.out.then HBk12.out)
  have LB := Lib.hid (LB.out.then HBk12.out)
  have LD := Lib.hid (LD.out.then HBk12.out)
  have LE := Lib.hid (LE.out.then HBk12.out)
  have LF := Lib.hid (LF.out.then HBk12.out)
  have LG := Lib.hid (ho.isL (by have := HL3.out; omega))
  clear ho
  clear hb
  have HBk12t := Lib.hid (Below.call HBk11t.out HBk12.out)
  go_wp2_with fail
  refine (Two.same_any _ _ oL oL _ (two_of LF.out) (two_of LG.out)).mono ?_
  rintro e wq ⟨rfl, dq, rfl⟩
  have HBk13 := Lib.hid (below_drewN (Below.refl k12.heap.size k12) dq)
  generalize k12.drewN dq = k13 at *
  have LC := Lib.hid (LC.out.then HBk13.out)
  have LV := Lib.hid (LV.out.then HBk13.out)
  have LA := Lib.hid (LA.out.then HBk13.out)
  have LB := Lib.hid (LB.out.then HBk13.out)
  have LD := Lib.hid (LD.out.then HBk13.out)
  have LE := Lib.hid (LE.out.then HBk13.out)
  have LF := Lib.hid (LF.out.then HBk13.out)
  have LG := Lib.hid (LG.out.then HBk13.out)
  have HBk13t := Lib.hid (Below.call HBk12t.out HBk13.out)
  simp only [decide_true]
  go_wp2
  go_ret
  exact ⟨by simp, HBk13t.out⟩
set_option maxRecDepth 100000 in
set_option maxHeartbeats 4000000 in
theorem mutexStuck_walk (v u : Value) (t ws : List Int) (w : World) (hv : KI.IsL w w.heap.size v t) (hu : KI.IsL w w.heap.size u ws) :
    Calls Try.prog 4 #[v, u] w fun e w' => e = .returned (.bool true) ∧ Below w.heap.size w w' := by
  have LV := Lib.hid hv
  have LU := Lib.hid hu
  obtain ⟨A, c, rfl, hc⟩ := hv.shape
  obtain ⟨A2, c2, rfl, hc2⟩ := hu.shape
  clear hv hu
  have HLV := Lib.hid (fun w => lives17 w)
  by_cases h1 : t.length > 1000
  · go_enter Try.func4, Try.ntmps4
    go_wp2_with fail
    refine (HLV.out _).mono ?_
    rintro e w1 ⟨rfl, hb1⟩
    go_wp2
    go_ret
    exact ⟨rfl, hb1⟩
  by_cases h2 : ws.length > 100
  · go_enter Try.func4, Try.ntmps4
    go_wp2_with fail
    refine (HLV.out _).mono ?_
    rintro e w1 ⟨rfl, hb1⟩
    go_wp2
    go_ret
    exact ⟨rfl, hb1⟩
  have HL := Lib.hid (stL_len t ws)
  have HS := Lib.hid (fun v u w h1 h2 => stuck_any v u t ws w h1 h2)
  have HRS := Lib.hid (fun v u w h1 h2 => rstuck_any v u t ws w h1 h2)
  have HO := Lib.hid (fun v u w h1 h2 => ordered_any v u t ws w h1 h2)
  have HRO := Lib.hid (fun v u w h1 h2 => rordered_any v u t ws w h1 h2)
  generalize stL t ws = l1 at *
  generalize ordV t ws = r at *
  go_enter Try.func4, Try.ntmps4
  go_wp2_with fail
  refine (HLV.out _).mono ?_
  rintro e k1 ⟨rfl, hb⟩
  have HBk1 := Lib.hid hb
  have LV := Lib.hid (LV.out.then HBk1.out)
  have LU := Lib.hid (LU.out.then HBk1.out)
  clear hb
  go_wp2_with fail
  refine (HS.out _ _ _ LV.out LU.out).mono ?_
  rintro e k2 ⟨vLA, rfl, ho, hb⟩
  have HBk2 := Lib.hid hb
  have LV := Lib.hid (LV.out.then HBk2.out)
  have LU := Lib.hid (LU.out.then HBk2.out)
  have LA := Lib.hid (ho.isL (by have := HL.out; omega))
  clear ho
  clear hb
  have HBk2t := Lib.hid (Below.call HBk1.out HBk2.out)
  go_wp2_with fail
  refine (HRS.out _ _ _ LV.out LU.out).mono ?_
  rintro e k3 ⟨vLB, rfl, ho, hb⟩
  have HBk3 := Lib.hid hb
  have LV := Lib.hid (LV.out.then HBk3.out)
  have LU := Lib.hid (LU.out.then HBk3.out)
  have LA := Lib.hid (LA.out.then HBk3.out)
  have LB := Lib.hid (ho.isL (by have := HL.out; omega))
  clear ho
  clear hb
  have HBk3t := Lib.hid (Below.call HBk2t.out HBk3.out)
  go_wp2_with fail
  refine (Two.same_any _ _ l1 l1 _ (two_of LA.out) (two_of LB.out)).mono ?_
  rintro e wq ⟨rfl, dq, rfl⟩
  have HBk4 := Lib.hid (below_drewN (Below.refl k3.heap.size k3) dq)
  generalize k3.drewN dq = k4 at *
  have LV := Lib.hid (LV.out.then HBk4.out)
  have LU := Lib.hid (LU.out.then HBk4.out)
  have LA := Lib.hid (LA.out.then HBk4.out)
  have LB := Lib.hid (LB.out.then HBk4.out)
  have HBk4t := Lib.hid (Below.call HBk3t.out HBk4.out)
  simp only [decide_true]
  go_wp2_with fail
  refine (HO.out _ _ _ LV.out LU.out).mono ?_
  rintro e k5 ⟨rfl, hb⟩
  have HBk5 := Lib.hid hb
  have LV := Lib.hid (LV.out.then HBk5.out)
  have LU := Lib.hid (LU.out.then HBk5.out)
  have LA := Lib.hid (LA.out.then HBk5.out)
  have LB := Lib.hid (LB.out.then HBk5.out)
  clear hb
  have HBk5t := Lib.hid (Below.call HBk4t.out HBk5.out)
  go_wp2_with fail
  refine (HRO.out _ _ _ LV.out LU.out).mono ?_
  rintro e k6 ⟨rfl, hb⟩
  have HBk6 := Lib.hid hb
  have LV := Lib.hid (LV.out.then HBk6.out)
  have LU := Lib.hid (LU.out.then HBk6.out)
  have LA := Lib.hid (LA.out.then HBk6.out)
  have LB := Lib.hid (LB.out.then HBk6.out)
  clear hb
  have HBk6t := Lib.hid (Below.call HBk5t.out HBk6.out)
  go_wp2
  go_ret
  exact ⟨by simp, HBk6t.out⟩
set_option maxRecDepth 100000 in
set_option maxHeartbeats 4000000 in
theorem mutexOrder_walk (v u : Value) (t ws : List Int) (w : World) (hv : KI.IsL w w.heap.size v t) (hu : KI.IsL w w.heap.size u ws) :
    Calls Try.prog 5 #[v, u] w fun e w' => e = .returned (.bool true) ∧ Below w.heap.size w w' := by
  have LV := Lib.hid hv
  have LU := Lib.hid hu
  obtain ⟨A, c, rfl, hc⟩ := hv.shape
  obtain ⟨A2, c2, rfl, hc2⟩ := hu.shape
  clear hv hu
  have HLV := Lib.hid (fun w => lives17 w)
  by_cases h1 : t.length > 1000
  · go_enter Try.func5, Try.ntmps5
    go_wp2_with fail
    refine (HLV.out _).mono ?_
    rintro e w1 ⟨rfl, hb1⟩
    go_wp2
    go_ret
    exact ⟨rfl, hb1⟩
  by_cases h2 : ws.length > 100
  · go_enter Try.func5, Try.ntmps5
    go_wp2_with fail
    refine (HLV.out _).mono ?_
    rintro e w1 ⟨rfl, hb1⟩
    go_wp2
    go_ret
    exact ⟨rfl, hb1⟩
  have HLO := Lib.hid (fun h : ordV t ws = true => stL_ord h)
  have HS := Lib.hid (fun v u w h1 h2 => stuck_any v u t ws w h1 h2)
  have HO := Lib.hid (fun v u w h1 h2 => ordered_any v u t ws w h1 h2)
  generalize stL t ws = l1 at *
  generalize ordV t ws = r at *
  cases r
  · go_enter Try.func5, Try.ntmps5
    go_wp2_with fail
    refine (HO.out _ _ _ LV.out LU.out).mono ?_
    rintro e k1 ⟨rfl, hb⟩
    have HBk1 := Lib.hid hb
    have LV := Lib.hid (LV.out.then HBk1.out)
    have LU := Lib.hid (LU.out.then HBk1.out)
    clear hb
    go_wp2_with fail
    refine (HLV.out _).mono ?_
    rintro e k2 ⟨rfl, hb⟩
    have HBk2 := Lib.hid hb
    have LV := Lib.hid (LV.out.then HBk2.out)
    have LU := Lib.hid (LU.out.then HBk2.out)
    clear hb
    have HBk2t := Lib.hid (Below.call HBk1.out HBk2.out)
    go_wp2
    go_ret
    exact ⟨rfl, HBk2t.out⟩
  · have hl1 := HLO.out rfl
    subst hl1
    clear HLO
    go_enter Try.func5, Try.ntmps5
    go_wp2_with fail
    refine (HO.out _ _ _ LV.out LU.out).mono ?_
    rintro e k1 ⟨rfl, hb⟩
    have HBk1 := Lib.hid hb
    have LV := Lib.hid (LV.out.then HBk1.out)
    have LU := Lib.hid (LU.out.then HBk1.out)
    clear hb
    go_wp2_with fail
    refine (HLV.out _).mono ?_
    rintro e k2 ⟨rfl, hb⟩
    have HBk2 := Lib.hid hb
    have LV := Lib.hid (LV.out.then HBk2.out)
    have LU := Lib.hid (LU.out.then HBk2.out)
    clear hb
    have HBk2t := Lib.hid (Below.call HBk1.out HBk2.out)
    go_wp2_with fail
    refine (HS.out _ _ _ LV.out LU.out).mono ?_
    rintro e k3 ⟨vLA, rfl, ho, hb⟩
    have HBk3 := Lib.hid hb
    have LV := Lib.hid (LV.out.then HBk3.out)
    have LU := Lib.hid (LU.out.then HBk3.out)
    have LA := Lib.hid (ho.isL (by decide))
    clear ho
    clear hb
    have HBk3t := Lib.hid (Below.call HBk2t.out HBk3.out)
    obtain ⟨AT, cT, rfl, _⟩ := LA.out.shape
    go_wp2
    go_ret
    exact ⟨rfl, HBk3t.out⟩
end Go.Proofs.Ytbflkdkbfidleaa
