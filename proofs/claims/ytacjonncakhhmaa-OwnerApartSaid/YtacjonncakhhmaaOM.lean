/- Owners: the law of two arms that take what is apart. -/
import Derived.Test.YtacjonncakhhmaaOJ
import Derived.Test.YtacjonncakhhmaaOL
namespace Go.Proofs.Ytacjonncakhhmaa
open Go.RowKit
set_option maxRecDepth 100000 in
set_option maxHeartbeats 4000000 in
theorem ownerApart_walk (v u1 u2 : Value) (o a b : List Int) (x y : Int) (w : World) (hv : KI.IsL w w.heap.size v o) (hu1 : KI.IsL w w.heap.size u1 a) (hu2 : KI.IsL w w.heap.size u2 b) (hx : fits x) (hy : fits y) :
    Calls Try.prog 9 #[v, u1, u2, .int .i64 x, .int .i64 y] w fun e w' => e = .returned (.bool true) ∧ Below w.heap.size w w' := by
  have LV := Lib.hid hv
  have LA := Lib.hid hu1
  have LB := Lib.hid hu2
  obtain ⟨A, c, rfl, hc⟩ := hv.shape
  obtain ⟨A1, c1, rfl, hc1⟩ := hu1.shape
  obtain ⟨A2, c2, rfl, hc2⟩ := hu2.shape
  have HX := Lib.hid hx
  have HY := Lib.hid hy
  have hl0 := hv.2.2
  have hl1 := hu1.2.2
  have hl2 := hu2.2.2
  clear hv hu1 hu2 hx hy
  have HLV := Lib.hid (fun w => lives14 w)
  by_cases h1 : o.length > 1000
  · go_enter Try.func9, Try.ntmps9
    go_wp2_with fail
    refine (HLV.out _).mono ?_
    rintro e w1 ⟨rfl, hb1⟩
    go_wp2
    go_ret
    exact ⟨rfl, hb1⟩
  by_cases h2 : a.length > 1000
  · go_enter Try.func9, Try.ntmps9
    go_wp2_with fail
    refine (HLV.out _).mono ?_
    rintro e w1 ⟨rfl, hb1⟩
    go_wp2
    go_ret
    exact ⟨rfl, hb1⟩
  by_cases h3 : b.length > 1000
  · go_enter Try.func9, Try.ntmps9
    go_wp2_with fail
    refine (HLV.out _).mono ?_
    rintro e w1 ⟨rfl, hb1⟩
    go_wp2
    go_ret
    exact ⟨rfl, hb1⟩
  have HFA := Lib.hid (fun v w h => Two.rfrom_any v a w h (by omega))
  have HFB := Lib.hid (fun v w h => Two.rfrom_any v b w h (by omega))
  have HMA := Lib.hid (Two.mk_len_le a)
  have HMB := Lib.hid (Two.mk_len_le b)
  have HAB := Lib.hid (show ∀ z ∈ (Two.mk b).filter (fun z => !decide (z ∈ Two.mk a)), z ∉ Two.mk a from fun z hz => by simpa using (List.mem_filter.1 hz).2)
  generalize Two.mk a = s at *
  generalize Two.mk b = tb at *
  have HLS := Lib.hid (fun v u w h1 h2 => Two.rless_any v u tb s w h1 h2 (by have := HMB.out; omega))
  have HLT := Lib.hid (List.length_filter_le (fun z => !decide (z ∈ s)) tb)
  generalize tb.filter (fun z => !decide (z ∈ s)) = t at *
  have HT1 := Lib.hid (fun v u w h1 h2 h3 => take_o v u o s x HX.out w h1 h2 h3)
  have HT2 := Lib.hid (fun v u w h1 h2 h3 => take_o v u o t y HY.out w h1 h2 h3)
  have HS1 := Lib.hid (psL_len o s x (takeQ x) x)
  have HS2 := Lib.hid (psL_len o t y (takeQ y) y)
  have HM := Lib.hid (fun h k => apart_math o s t x y HAB.out h k)
  have HN := Lib.hid (fun h k => apart_math o t s y x (fun z h1 h2 => HAB.out z h2 h1) h k)
  have HC := Lib.hid (fun h k => apart_comm o s t x y h k HAB.out)
  have HI := Lib.hid (ps_in o s x (takeQ x) 140 (by decide))
  have HJ := Lib.hid (ps_in o t y (takeQ y) 140 (by decide))
  generalize psI o s x (takeQ x) = i1 at *
  generalize psI o t y (takeQ y) = i2 at *
  generalize psE o s x (takeQ x) 140 = e1 at *
  generalize psE o t y (takeQ y) 140 = e2 at *
  generalize psL o s x (takeQ x) x = p at *
  generalize psL o t y (takeQ y) y = q at *
  go_enter Try.func9, Try.ntmps9
  go_wp2_with fail
  refine (HFA.out _ _ (two_of LA.out)).mono ?_
  rintro e k1 ⟨vLS, rfl, ho, hb⟩
  have HBk1 := Lib.hid hb
  have LV := Lib.hid (LV.out.then HBk1.out)
  have LA := Lib.hid (LA.out.then HBk1.out)
  have LB := Lib.hid (LB.out.then HBk1.out)
  have LS := Lib.hid (of_two ho)
  clear ho hb
  go_wp2_with fail
  refine (HFB.out _ _ (two_of LB.out)).mono ?_
  rintro e k2 ⟨vLD, rfl, ho, hb⟩
  have HBk2 := Lib.hid hb
  have LV := Lib.hid (LV.out.then HBk2.out)
  have LA := Lib.hid (LA.out.then HBk2.out)
  have LB := Lib.hid (LB.out.then HBk2.out)
  have LS := Lib.hid (LS.out.then HBk2.out)
  have LD := Lib.hid (of_two ho)
  clear ho hb
  have HBk2t := Lib.hid (Below.call HBk1.out HBk2.out)
  go_wp2_with fail
  refine (HLS.out _ _ _ (two_of LD.out) (two_of LS.out)).mono ?_
  rintro e k3 ⟨vLT, rfl, ho, hb⟩
  have HBk3 := Lib.hid hb
  have LV := Lib.hid (LV.out.then HBk3.out)
  have LA := Lib.hid (LA.out.then HBk3.out)
  have LB := Lib.hid (LB.out.then HBk3.out)
  have LS := Lib.hid (LS.out.then HBk3.out)
  have LD := Lib.hid (LD.out.then HBk3.out)
  have LT := Lib.hid (of_two ho)
  clear ho hb
  have HBk3t := Lib.hid (Below.call HBk2t.out HBk3.out)
  go_wp2_with fail
  refine (HT1.out _ _ _ LV.out LS.out (by omega)).mono ?_
  rintro e k4 ⟨vLP, rfl, ho, hb⟩
  have HBk4 := Lib.hid hb
  have LV := Lib.hid (LV.out.then HBk4.out)
  have LA := Lib.hid (LA.out.then HBk4.out)
  have LB := Lib.hid (LB.out.then HBk4.out)
  have LS := Lib.hid (LS.out.then HBk4.out)
  have LD := Lib.hid (LD.out.then HBk4.out)
  have LT := Lib.hid (LT.out.then HBk4.out)
  have LP := Lib.hid (ho.isL (by have := HS1.out; omega))
  clear ho
  clear hb
  have HBk4t := Lib.hid (Below.call HBk3t.out HBk4.out)
  go_wp2_with fail
  refine (HT2.out _ _ _ LV.out LT.out (by omega)).mono ?_
  rintro e k5 ⟨vLQ, rfl, ho, hb⟩
  have HBk5 := Lib.hid hb
  have LV := Lib.hid (LV.out.then HBk5.out)
  have LA := Lib.hid (LA.out.then HBk5.out)
  have LB := Lib.hid (LB.out.then HBk5.out)
  have LS := Lib.hid (LS.out.then HBk5.out)
  have LD := Lib.hid (LD.out.then HBk5.out)
  have LT := Lib.hid (LT.out.then HBk5.out)
  have LP := Lib.hid (LP.out.then HBk5.out)
  have LQ := Lib.hid (ho.isL (by have := HS2.out; omega))
  clear ho
  clear hb
  have HBk5t := Lib.hid (Below.call HBk4t.out HBk5.out)
  go_wp2_with fail
  refine (HLV.out _).mono ?_
  rintro e k6 ⟨rfl, hb⟩
  have HBk6 := Lib.hid hb
  have LV := Lib.hid (LV.out.then HBk6.out)
  have LA := Lib.hid (LA.out.then HBk6.out)
  have LB := Lib.hid (LB.out.then HBk6.out)
  have LS := Lib.hid (LS.out.then HBk6.out)
  have LD := Lib.hid (LD.out.then HBk6.out)
  have LT := Lib.hid (LT.out.then HBk6.out)
  have LP := Lib.hid (LP.out.then HBk6.out)
  have LQ := Lib.hid (LQ.out.then HBk6.out)
  clear hb
  have HBk6t := Lib.hid (Below.call HBk5t.out HBk6.out)
  by_cases z1 : e1 = 0
  case neg =>
    have y1 : (e1 != 0) = true := by simpa using z1
    clear z1
    go_wp2_with fail
    refine (HLV.out _).mono ?_
    rintro e kz ⟨rfl, hbz⟩
    go_wp2
    go_ret
    exact ⟨rfl, Below.call HBk6t.out hbz⟩
  by_cases z2 : e2 = 0
  case neg =>
    have y2 : (e2 != 0) = true := by simpa using z2
    clear z2
    subst z1
    go_wp2_with fail
    refine (HLV.out _).mono ?_
    rintro e kz ⟨rfl, hbz⟩
    go_wp2
    go_ret
    exact ⟨rfl, Below.call HBk6t.out hbz⟩
  subst z1
  subst z2
  obtain ⟨m1, m2, m3⟩ := HM.out rfl rfl
  obtain ⟨n1, n2, n3⟩ := HN.out rfl rfl
  have hc := HC.out (HI.out rfl) (HJ.out rfl)
  subst m1
  subst n1
  have HS1 := Lib.hid (psL_len (setAll o s x) t y (takeQ y) y)
  have HS2 := Lib.hid (psL_len (setAll o t y) s x (takeQ x) x)
  have HS3 := Lib.hid (setAll_len o s x)
  have HS4 := Lib.hid (setAll_len o t y)
  have HT1 := Lib.hid (fun v u w h1 h2 h3 => take_o v u (setAll o s x) t y HY.out w h1 h2 h3)
  have HT2 := Lib.hid (fun v u w h1 h2 h3 => take_o v u (setAll o t y) s x HX.out w h1 h2 h3)
  rw [m2, m3] at HT1
  rw [n2, n3, ← hc] at HT2
  rw [m3] at HS1
  rw [n3, ← hc] at HS2
  generalize psI (setAll o s x) t y (takeQ y) = i3 at *
  generalize psI (setAll o t y) s x (takeQ x) = i4 at *
  generalize setAll (setAll o s x) t y = r at *
  generalize setAll o s x = p at *
  generalize setAll o t y = q at *
  clear m2 m3 n2 n3 hc
  go_wp2_with fail
  refine (HT1.out _ _ _ LP.out LT.out (by have := HS3.out; omega)).mono ?_
  rintro e k7 ⟨vLU, rfl, ho, hb⟩
  have HBk7 := Lib.hid hb
  have LV := Lib.hid (LV.out.then HBk7.out)
  have LA := Lib.hid (LA.out.then HBk7.out)
  have LB := Lib.hid (LB.out.then HBk7.out)
  have LS := Lib.hid (LS.out.then HBk7.out)
  have LD := Lib.hid (LD.out.then HBk7.out)
  have LT := Lib.hid (LT.out.then HBk7.out)
  have LP := Lib.hid (LP.out.then HBk7.out)
  have LQ := Lib.hid (LQ.out.then HBk7.out)
  have LU := Lib.hid (ho.isL (by have := HS1.out; have := HS3.out; omega))
  clear ho
  clear hb
  have HBk7t := Lib.hid (Below.call HBk6t.out HBk7.out)
  go_wp2_with fail
  refine (HT2.out _ _ _ LQ.out LS.out (by have := HS4.out; omega)).mono ?_
  rintro e k8 ⟨vLW, rfl, ho, hb⟩
  have HBk8 := Lib.hid hb
  have LV := Lib.hid (LV.out.then HBk8.out)
  have LA := Lib.hid (LA.out.then HBk8.out)
  have LB := Lib.hid (LB.out.then HBk8.out)
  have LS := Lib.hid (LS.out.then HBk8.out)
  have LD := Lib.hid (LD.out.then HBk8.out)
  have LT := Lib.hid (LT.out.then HBk8.out)
  have LP := Lib.hid (LP.out.then HBk8.out)
  have LQ := Lib.hid (LQ.out.then HBk8.out)
  have LU := Lib.hid (LU.out.then HBk8.out)
  have LW := Lib.hid (ho.isL (by have := HS1.out; have := HS3.out; omega))
  clear ho
  clear hb
  have HBk8t := Lib.hid (Below.call HBk7t.out HBk8.out)
  go_wp2_with fail
  refine (Two.same_any _ _ r r _ (two_of LU.out) (two_of LW.out)).mono ?_
  rintro e wq ⟨rfl, dq, rfl⟩
  have HBk9 := Lib.hid (below_drewN (Below.refl k8.heap.size k8) dq)
  generalize k8.drewN dq = k9 at *
  have LV := Lib.hid (LV.out.then HBk9.out)
  have LA := Lib.hid (LA.out.then HBk9.out)
  have LB := Lib.hid (LB.out.then HBk9.out)
  have LS := Lib.hid (LS.out.then HBk9.out)
  have LD := Lib.hid (LD.out.then HBk9.out)
  have LT := Lib.hid (LT.out.then HBk9.out)
  have LP := Lib.hid (LP.out.then HBk9.out)
  have LQ := Lib.hid (LQ.out.then HBk9.out)
  have LU := Lib.hid (LU.out.then HBk9.out)
  have LW := Lib.hid (LW.out.then HBk9.out)
  have HBk9t := Lib.hid (Below.call HBk8t.out HBk9.out)
  simp only [decide_true]
  go_wp2
  go_ret
  exact ⟨by simp, HBk9t.out⟩
end Go.Proofs.Ytacjonncakhhmaa
