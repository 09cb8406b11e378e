/- Stocks: Fill, Waste, by the reference. -/
import Derived.Test.YtacjonncakhhmaaGreatPz34
import Derived.Test.YtacjonncakhhmaaGreatPz35
import Derived.Test.YtacjonncakhhmaaGreatPz45
import Derived.Test.YtacjonncakhhmaaGreatPz46
import Derived.Test.YtacjonncakhhmaaGreatPz47
import Derived.Test.YtacjonncakhhmaaGreatPz44
namespace Go.Proofs.YtacjonncakhhmaaGreat
open Go.RowKit
set_option maxRecDepth 100000 in
set_option maxHeartbeats 4000000 in
theorem rfill_any (d : Dk) (s : Stk) (b' id n : Int) (w : World) (hd : d.In w w.heap.size) (hs : s.In w w.heap.size) (hn : fits n) :
  Calls Tryz.prog 21 #[d.v, s.v, .int .i64 b', .int .i64 id, .int .i64 n] w fun e w' => ∃ t : Stk, e = .returned (.tuple #[t.v, .int .i64 (cgE d s.ab b' (foE d s.ab id (max n 0) (s.ab.inn + n)))]) ∧ t.In w' w'.heap.size ∧ t.ab = (if cgE d s.ab b' (foE d s.ab id (max n 0) (s.ab.inn + n)) = 0 then foA s.ab b' id.toNat (max n 0) 4 (s.ab.inn + n) else ab0) ∧ Below w.heap.size w w' ∧ t.Far w.heap.size := by
 obtain ⟨w0, hw0⟩ : ∃ w0, w0 = (((w.alloc (.cells #[.slice d.bA d.bn d.bc, .slice d.pA d.pn d.pc, .slice d.rA d.rn d.rc, .int .i64 d.arms] 26)).alloc (.cells #[.slice s.cA s.cl.length s.cc, .slice s.lA s.ll.length s.lc, .slice s.tA s.tl.length s.tc, .int .i64 s.st, .int .i64 s.inn, .int .i64 s.out] 31)).alloc (.cells #[.slice none 0 0, .slice none 0 0, .slice none 0 0, .int .i64 0, .int .i64 0, .int .i64 0] 31)) := ⟨_, rfl⟩
 have HB0 := Lib.hid (show Below w.heap.size w w0 by rw [hw0]; exact Below.al (Below.al (Below.al (Below.refl _ _) _) _) _)
 have HD0 := Lib.hid (hd.then HB0.out)
 have HS0 := Lib.hid (hs.then HB0.out)
 obtain ⟨Gd, hGd⟩ : ∃ Gd, Gd = w.heap.size := ⟨_, rfl⟩
 obtain ⟨Gs, hGs⟩ : ∃ Gs, Gs = w.heap.size + 1 := ⟨_, rfl⟩
 obtain ⟨Gr, hGr⟩ : ∃ Gr, Gr = w.heap.size + 1 + 1 := ⟨_, rfl⟩
 have HK := Lib.hid (show DkAt w0 Gd d by rw [hw0, hGd]; exact ((Cells4.new w _ _ _ _ _).below (Below.al (Below.refl _ _) _)).below (Below.al (Below.refl _ _) _))
 have HT := Lib.hid (show SkAt w0 Gs s by
  have e : (w.alloc (.cells #[.slice d.bA d.bn d.bc, .slice d.pA d.pn d.pc, .slice d.rA d.rn d.rc, .int .i64 d.arms] 26)).heap.size = w.heap.size + 1 := by simp
  rw [hw0, hGs, ← e]
  exact (Cells6.new (w.alloc (.cells #[.slice d.bA d.bn d.bc, .slice d.pA d.pn d.pc, .slice d.rA d.rn d.rc, .int .i64 d.arms] 26)) 31 _ _ _ _ _ _).below (Below.al (Below.refl _ _) _))
 have HR := Lib.hid (show Cells6 w0 Gr (.slice none 0 0) (.slice none 0 0) (.slice none 0 0) (.int .i64 0) (.int .i64 0) (.int .i64 0) by
  have e : ((w.alloc (.cells #[.slice d.bA d.bn d.bc, .slice d.pA d.pn d.pc, .slice d.rA d.rn d.rc, .int .i64 d.arms] 26)).alloc (.cells #[.slice s.cA s.cl.length s.cc, .slice s.lA s.ll.length s.lc, .slice s.tA s.tl.length s.tc, .int .i64 s.st, .int .i64 s.inn, .int .i64 s.out] 31)).heap.size = w.heap.size + 1 + 1 := by simp
  rw [hw0, hGr, ← e]
  exact Cells6.new ((w.alloc (.cells #[.slice d.bA d.bn d.bc, .slice d.pA d.pn d.pc, .slice d.rA d.rn d.rc, .int .i64 d.arms] 26)).alloc (.cells #[.slice s.cA s.cl.length s.cc, .slice s.lA s.ll.length s.lc, .slice s.tA s.tl.length s.tc, .int .i64 s.st, .int .i64 s.inn, .int .i64 s.out] 31)) 31 _ _ _ _ _ _)
 have HG := Lib.hid (show Gd = w.heap.size ∧ Gs = w.heap.size + 1 ∧ Gr = w.heap.size + 2 ∧ w0.heap.size = w.heap.size + 3 from ⟨hGd, hGs, by omega, by rw [hw0]; simp⟩)
 have HMY := Lib.hid (rmay_any d s b' w0 HD0.out HS0.out)
 have HNO := Lib.hid (fun h => @cgE_no d s.ab b' (foE d s.ab id (max n 0) (s.ab.inn + n)) h)
 have HYE := Lib.hid (fun h => @cgE_yes d s.ab b' h)
 have HP := Lib.hid (fun (h : rgS d s.ab = true) => (isP_eq d (rg_ab d s.ab h).2.2.2.1 id).1)
 have HQ := Lib.hid (fun (h : rgS d s.ab = true) => rg_ab d s.ab h)
 have HLN := Lib.hid (fun (h : rgS d s.ab = true) => rg_lens d s h)
 have HWL := Lib.hid (fun w => well_any s id w)
 have HFL := Lib.hid (show foE d s.ab id (max n 0) (s.ab.inn + n) = flE d id (Cel.chE (s.cl.getD id.toNat ce0) (max n 0)) (s.inn + n) from rfl)
 have HAA := Lib.hid (show foA s.ab b' id.toNat (max n 0) 4 (s.ab.inn + n) = foA s.ab b' id.toNat (max n 0) 4 (s.inn + n) from rfl)
 generalize foE d s.ab id (max n 0) (s.ab.inn + n) = F at *
 generalize foA s.ab b' id.toNat (max n 0) 4 (s.ab.inn + n) = dA at *
 obtain ⟨E, hE⟩ : ∃ E, cgE d s.ab b' F = E := ⟨_, rfl⟩
 rw [hE] at HNO
 rw [hE]
 have HE := Lib.hid hE
 clear hE
 obtain ⟨mm, hm⟩ : ∃ mm, cgE d s.ab b' 0 = mm := ⟨_, rfl⟩
 rw [hm] at HMY HNO HYE
 clear hm
 obtain ⟨d0, d1, d2, d3, -⟩ := HK.out
 obtain ⟨t0, t1, t2, t3, t4, t5, -⟩ := HT.out
 rw [hw0, hGd] at d0 d1 d2 d3
 rw [hw0, hGs] at t0 t1 t2 t3 t4 t5
 go_enter Tryz.func21, Tryz.ntmps21
 go_wp2_with fail
 rw [← hw0]
 try rw [← hGr]
 try rw [← hGs]
 try rw [← hGd]
 clear hw0 hGd hGs hGr d0 d1 d2 d3 t0 t1 t2 t3 t4 t5
 refine HMY.out.mono ?_
 rintro e w1 ⟨rfl, hb1⟩
 have HB1 := Lib.hid hb1
 clear hb1 HMY
 by_cases h0 : mm = 0
 case neg =>
  have h0b : (mm != 0) = true := by simpa using h0
  have hEm : E = mm := HNO.out h0
  subst hEm
  have HNZ := Lib.hid h0
  clear h0
  obtain ⟨r0, r1, r2, r3, r4, r5, y0, y1, y2, y3, y4, y5, -⟩ := HR.out.below HB1.out
  go_wp2
  obtain ⟨q0, q1, q2, q3, q4, q5, -⟩ := (HR.out.below HB1.out).set (.slice none 0 0) (.slice none 0 0) (.slice none 0 0) (.int .i64 0) (.int .i64 0) (.int .i64 0)
  refine bodyPost_ret (v := .tuple #[stk0.v, .int .i64 (E)]) ?_ rfl ?_
  ·simp [results, Tryz.results21, go_sem, q0, q1, q2, q3, q4, q5, stk0]
  ·exact ⟨stk0, rfl, stk0_in _ _, by first | rfl | (rw [if_neg HNZ.out]; rfl), below_set6 (Below.call HB0.out HB1.out) (by have := HG.out; omega) _ _ _ _ _ _, stk0_far _⟩
 subst h0
 obtain ⟨hrg, hEF⟩ := HYE.out rfl
 have hEF : F = E := (hEF F).symm.trans HE.out
 subst hEF
 have HPP := Lib.hid (HP.out hrg)
 have HQQ := Lib.hid (HQ.out hrg)
 have HLL := Lib.hid (HLN.out hrg)
 clear hrg HP HQ HLN HNO HYE HE
 obtain ⟨t0, t1, t2, t3, t4, t5, -⟩ := HT.out.below HB1.out
 go_wp2_with fail
 clear t0 t1 t2 t3 t4 t5
 refine (HWL.out w1).mono ?_
 rintro e w2 ⟨rfl, hb2⟩
 have HB2 := Lib.hid (show Below w0.heap.size w0 w2 from HB1.out.trans (hb2.mono HB1.out.size))
 clear hb2 HB1
 have hwn : s.cl.length = wellN d := HLL.out.2.2.2.2.1
 by_cases hid : 0 ≤ id ∧ id < (s.cl.length : Int)
 case neg =>
  have hEm : F = 3 := by
   rw [HFL.out]
   unfold flE
   rw [HPP.out, decide_eq_false (by omega), if_neg (by simp)]
  subst hEm
  rw [decide_eq_false hid]
  clear hid hwn
  obtain ⟨r0, r1, r2, r3, r4, r5, y0, y1, y2, y3, y4, y5, -⟩ := HR.out.below HB2.out
  go_wp2
  obtain ⟨q0, q1, q2, q3, q4, q5, -⟩ := (HR.out.below HB2.out).set (.slice none 0 0) (.slice none 0 0) (.slice none 0 0) (.int .i64 0) (.int .i64 0) (.int .i64 0)
  refine bodyPost_ret (v := .tuple #[stk0.v, .int .i64 (3)]) ?_ rfl ?_
  ·simp [results, Tryz.results21, go_sem, q0, q1, q2, q3, q4, q5, stk0]
  ·exact ⟨stk0, rfl, stk0_in _ _, by first | rfl | (rw [if_neg (by decide)]; rfl), below_set6 (Below.call HB0.out HB2.out) (by have := HG.out; omega) _ _ _ _ _ _, stk0_far _⟩
 have hP : isP d 1 id = true := by rw [HPP.out, decide_eq_true (by omega)]
 rw [decide_eq_true hid]
 obtain ⟨k, rfl⟩ := Int.eq_ofNat_of_zero_le hid.1
 have ek : (k : Int).toNat = k := by omega
 rw [ek] at HFL HAA
 have hk : k < s.cl.length := by omega
 have HKK := Lib.hid (show k < s.cl.length ∧ k < s.ll.length from ⟨hk, by have := HLL.out.2.2.2.2.2.1; omega⟩)
 have HFL := Lib.hid (show F = (if Cel.chE (s.cl.getD k ce0) (max n 0) = 0 then (if flowB (s.inn + n) = true then 0 else 4) else Cel.chE (s.cl.getD k ce0) (max n 0)) from by rw [HFL.out]; unfold flE; rw [if_pos hP])
 clear hid ek hP HPP hwn
 obtain ⟨gb, off, eA, -, hcc, hcell⟩ := ce_cells (HS0.out.then HB2.out).c (by omega)
 obtain ⟨c0, c1, c2⟩ := hcell k hk
 obtain ⟨X, hX⟩ : ∃ X, s.cl.getD k ce0 = X := ⟨_, rfl⟩
 rw [hX] at c0 c1 c2 HFL
 have HXX := Lib.hid hX
 obtain ⟨t0, t1, t2, t3, t4, t5, -⟩ := HT.out.below HB2.out
 rw [eA] at t0
 have hki : (k : Int) < s.cl.length := by omega
 have HPO := Lib.hid (fun w => Cel.rpour_any X n hn w)
 have HCH := Lib.hid (show Cel.chE X (max n 0) = 0 → (Cel.chV X (max n 0)).b - X.b = max n 0 ∧ X.Right ∧ max n 0 ≠ 0 from fun h => ⟨chV_b h, (ch_ok h).1, (ch_ok h).2.1⟩)
 have HCF := Lib.hid (chV_fit X (max n 0))
 have HAA := Lib.hid (show dA = ⟨s.cl.set k (Cel.chV X (max n 0)), s.ab.l.set k (ptA s.ab k (Cel.chV X (max n 0)) b'), s.tl, s.st, s.inn + n, s.out⟩ from by rw [HAA.out]; show foA s.ab b' k (max n 0) 4 _ = _; unfold foA; rw [show s.ab.c.getD k ce0 = X from HXX.out]; rfl)
 obtain ⟨⟨ca, cb, cc⟩, hv⟩ : ∃ v, Cel.chV X (max n 0) = v := ⟨_, rfl⟩
 rw [hv] at HPO HCH HCF HAA
 generalize hce : Cel.chE X (max n 0) = er at *
 clear hv hce hcell hX hk eA
 go_wp2_with fail
 --CUT1
 clear t0 t1 t2 t3 t4 t5 c0 c1 c2 hki
 refine (HPO.out w2).mono ?_
 rintro e w3 ⟨rfl, hb3⟩
 obtain ⟨v3, hv3⟩ : ∃ v3, v3 = w3.alloc (.cells #[.int .i64 ca, .int .i64 cb, .int .i64 cc] 58) := ⟨_, rfl⟩
 have hba := Below.al hb3 (.cells #[.int .i64 ca, .int .i64 cb, .int .i64 cc] 58)
 rw [← hv3] at hba
 have HB3 := Lib.hid (show Below w0.heap.size w0 v3 from HB2.out.trans (hba.mono HB2.out.size))
 have HC3 := Lib.hid (show Cells3 v3 w3.heap.size (.int .i64 ca) (.int .i64 cb) (.int .i64 cc) by rw [hv3]; exact Cells3.new w3 _ _ _ _)
 clear hb3 hba HB2 HPO
 by_cases her : er = 0
 case neg =>
  have herb : (er != 0) = true := by simpa using her
  have hEm : F = er := by rw [HFL.out, if_neg her]
  subst hEm
  have HNZ := Lib.hid her
  clear her
  obtain ⟨r0, r1, r2, r3, r4, r5, y0, y1, y2, y3, y4, y5, -⟩ := HR.out.below HB3.out
  rw [hv3] at r0 r1 r2 r3 r4 r5 y0 y1 y2 y3 y4 y5
  go_wp2
  rw [← hv3]
  obtain ⟨q0, q1, q2, q3, q4, q5, -⟩ := (HR.out.below HB3.out).set (.slice none 0 0) (.slice none 0 0) (.slice none 0 0) (.int .i64 0) (.int .i64 0) (.int .i64 0)
  refine bodyPost_ret (v := .tuple #[stk0.v, .int .i64 F]) ?_ rfl ?_
  ·simp [results, Tryz.results21, go_sem, q0, q1, q2, q3, q4, q5, stk0]
  ·exact ⟨stk0, rfl, stk0_in _ _, by first | rfl | (rw [if_neg HNZ.out]; rfl), below_set6 (Below.call HB0.out HB3.out) (by have := HG.out; omega) _ _ _ _ _ _, stk0_far _⟩
 obtain ⟨hcb, hXr, hM0⟩ := HCH.out her
 have hfl0 := HQQ.out.1
 have hz0 : s.ab.inn = s.inn := rfl
 rw [hz0] at hfl0
 have hwz : Go.RowKit.wrap64 (1152921504606846976 - s.inn) = 1152921504606846976 - s.inn := wrap64_fits _ (by unfold fits; omega)
 obtain ⟨t0, t1, t2, t3, t4, t5, -⟩ := HT.out.below HB3.out
 rw [hv3] at t0 t1 t2 t3 t4 t5
 have hn1 : 1 ≤ n := by omega
 by_cases hov : 1152921504606846976 - s.inn < n
 case pos =>
  have hEm : F = 4 := by
   rw [HFL.out, if_pos her, if_neg]
   intro h
   unfold flowB at h
   rw [Bool.and_eq_true, decide_eq_true_eq, decide_eq_true_eq] at h
   omega
  subst hEm
  subst her
  clear hcb hXr hM0 hfl0 hz0 hn1
  obtain ⟨r0, r1, r2, r3, r4, r5, y0, y1, y2, y3, y4, y5, -⟩ := HR.out.below HB3.out
  rw [hv3] at r0 r1 r2 r3 r4 r5 y0 y1 y2 y3 y4 y5
  go_wp2
  rw [← hv3]
  obtain ⟨q0, q1, q2, q3, q4, q5, -⟩ := (HR.out.below HB3.out).set (.slice none 0 0) (.slice none 0 0) (.slice none 0 0) (.int .i64 0) (.int .i64 0) (.int .i64 0)
  refine bodyPost_ret (v := .tuple #[stk0.v, .int .i64 4]) ?_ rfl ?_
  ·simp [results, Tryz.results21, go_sem, q0, q1, q2, q3, q4, q5, stk0]
  ·exact ⟨stk0, rfl, stk0_in _ _, by first | rfl | (rw [if_neg (by decide)]; rfl), below_set6 (Below.call HB0.out HB3.out) (by have := HG.out; omega) _ _ _ _ _ _, stk0_far _⟩
 have hEm : F = 0 := by
  rw [HFL.out, if_pos her, if_pos]
  unfold flowB
  rw [Bool.and_eq_true, decide_eq_true_eq, decide_eq_true_eq]
  omega
 subst hEm
 subst her
 obtain ⟨f, hf⟩ : ∃ f, s.inn + n = f := ⟨_, rfl⟩
 have HFF := Lib.hid (show fits f ∧ Go.RowKit.wrap64 (s.inn + n) = f from ⟨by unfold fits; omega, by rw [← hf]; exact wrap64_fits _ (by unfold fits; omega)⟩)
 have HNF := Lib.hid (show fits (cb - X.b) from by show fits ((⟨ca, cb, cc⟩ : Cel.Ce).b - X.b); rw [hcb]; unfold fits at hn ⊢; omega)
 rw [hf] at HAA
 clear hcb hXr hM0 hfl0 hz0 hn1 HFL hf HCH
 have HCP := Lib.hid (rcopy_any s v3 (HS0.out.then HB3.out) (by have := HLL.out; omega) (by have := HLL.out; omega) (by have := HLL.out; omega) (fun q hq => by have := HLL.out.2.2.2.1 q hq; omega))
 go_wp2_with fail
 rw [← hv3]
 --CUT2
 clear hv3 t0 t1 t2 t3 t4 t5 hwz hov
 obtain ⟨Gc, hGc⟩ : ∃ Gc, Gc = w3.heap.size := ⟨_, rfl⟩
 rw [← hGc] at HC3
 try rw [← hGc]
 clear hGc
 refine HCP.out.mono ?_
 rintro e w4 ⟨t, rfl, hta, htr, hb4, hta2⟩
 obtain ⟨v4, hv4⟩ : ∃ v4, v4 = w4.alloc (.cells #[.slice t.cA t.cl.length t.cc, .slice t.lA t.ll.length t.lc, .slice t.tA t.tl.length t.tc, .int .i64 t.st, .int .i64 t.inn, .int .i64 t.out] 31) := ⟨_, rfl⟩
 have hba := Below.al (Below.refl w4.heap.size w4) (.cells #[.slice t.cA t.cl.length t.cc, .slice t.lA t.ll.length t.lc, .slice t.tA t.tl.length t.tc, .int .i64 t.st, .int .i64 t.inn, .int .i64 t.out] 31)
 rw [← hv4] at hba
 have HTA := Lib.hid hta
 have HTR := Lib.hid (htr.below hba)
 have HRO := Lib.hid (htr.out (D := w4.heap.size) (Nat.le_refl _))
 have HTX := Lib.hid hta2
 have HSZ := Lib.hid (show v3.heap.size ≤ w4.heap.size ∧ w4.heap.size < v4.heap.size from ⟨hb4.size, by rw [hv4]; simp⟩)
 have HB4 := Lib.hid (show Below w0.heap.size w0 v4 from HB3.out.trans ((Below.call hb4 hba).mono HB3.out.size))
 have HC4 := Lib.hid (HC3.out.below (Below.call hb4 hba))
 have HT4 := Lib.hid (show SkAt v4 w4.heap.size t by rw [hv4]; exact Cells6.new w4 _ _ _ _ _ _ _)
 clear hta htr hb4 hta2 hba HC3 HCP
 obtain ⟨u0, u1, u2, u3, u4, u5, -⟩ := HT4.out
 obtain ⟨c0, c1, c2, -⟩ := HC4.out
 rw [hv4] at u0 u1 u2 u3 u4 u5 c0 c1 c2
 go_wp2_with fail
 rw [← hv4]
 --CUT3
 clear hv4 u0 u1 u2 u3 u4 u5 c0 c1 c2
 obtain ⟨Gt, hGt⟩ : ∃ Gt, Gt = w4.heap.size := ⟨_, rfl⟩
 rw [← hGt] at HT4 HRO HSZ HTX
 try rw [← hGt]
 clear hGt
 have htc : t.cl = s.cl := congrArg Ab.c HTA.out
 have htl : t.ll.length = s.ll.length := by
  have h := congrArg (fun a : Ab => a.l.length) HTA.out
  have e1 : t.ab.l.length = t.ll.length := by show (t.ll.map Lo.ab).length = _; rw [List.length_map]
  have e2 : s.ab.l.length = s.ll.length := by show (s.ll.map Lo.ab).length = _; rw [List.length_map]
  rw [← e1, ← e2]; exact h
 have HTC := Lib.hid htc
 have HTL := Lib.hid htl
 refine (rput_any t b' v4 v3.heap.size k ⟨ca, cb, cc⟩ HTR.out (by rw [htc]; exact HKK.out.1) (by rw [htl]; exact HKK.out.2) HCF.out (by rw [htc, HXX.out]; exact HNF.out) (by rw [htc]; have := HLL.out; omega) (by rw [htl]; have := HLL.out; omega)).mono ?_
 rintro e w5 ⟨q, rfl, hq, htr5, hb5, hkp, hqa, hfz⟩
 have HQ5 := Lib.hid hq
 have HTR5 := Lib.hid htr5
 have HQA := Lib.hid hqa
 have HB5 := Lib.hid (show Below w0.heap.size w0 w5 from HB4.out.trans (hb5.mono HB3.out.size))
 have HT5 := Lib.hid (show SkAt w5 Gt t from ⟨hkp _ _ HT4.out.1 (fun e => HRO.out.1 e.symm) (fun e => HRO.out.2.1 e.symm), hkp _ _ HT4.out.2.1 (fun e => HRO.out.1 e.symm) (fun e => HRO.out.2.1 e.symm), hkp _ _ HT4.out.2.2.1 (fun e => HRO.out.1 e.symm) (fun e => HRO.out.2.1 e.symm), hkp _ _ HT4.out.2.2.2.1 (fun e => HRO.out.1 e.symm) (fun e => HRO.out.2.1 e.symm), hkp _ _ HT4.out.2.2.2.2.1 (fun e => HRO.out.1 e.symm) (fun e => HRO.out.2.1 e.symm), hkp _ _ HT4.out.2.2.2.2.2.1 (fun e => HRO.out.1 e.symm) (fun e => HRO.out.2.1 e.symm), hfz _ (show Gt < _ from HSZ.out.2) (HT4.out.2.2.2.2.2.2.1), hfz _ (show Gt < _ from HSZ.out.2) (HT4.out.2.2.2.2.2.2.2.1), hfz _ (show Gt < _ from HSZ.out.2) (HT4.out.2.2.2.2.2.2.2.2.1), hfz _ (show Gt < _ from HSZ.out.2) (HT4.out.2.2.2.2.2.2.2.2.2.1), hfz _ (show Gt < _ from HSZ.out.2) (HT4.out.2.2.2.2.2.2.2.2.2.2.1), hfz _ (show Gt < _ from HSZ.out.2) (HT4.out.2.2.2.2.2.2.2.2.2.2.2.1), Nat.lt_of_lt_of_le HSZ.out.2 hb5.size⟩)
 have HGT := Lib.hid (show v3.heap.size ≤ Gt ∧ Gt < w5.heap.size from ⟨HSZ.out.1, Nat.lt_of_lt_of_le HSZ.out.2 hb5.size⟩)
 clear hq htr5 hb5 hkp hqa hfz htc htl HTR HT4 HC4 HB4
 obtain ⟨u0, u1, u2, u3, u4, u5, y0, y1, y2, y3, y4, y5, -⟩ := HT5.out
 have hwf : Go.RowKit.wrap64 (t.inn + n) = f := by
  have e : t.inn = s.inn := congrArg Ab.inn HTA.out
  rw [e]; exact HFF.out.2
 go_upto_region 14 with fail
 rw [hwf]
 --CUT4
 clear u0 u1 u2 u3 u4 u5 y0 y1 y2 y3 y4 y5 hwf
 have hrt : Gr ≠ Gt := by have := HG.out; have := HGT.out; have := HB3.out.size; omega
 have HT6 := Lib.hid (show Cells6 (w5.setCell ⟨Gt, 4, none⟩ (.int .i64 f)) Gt (.slice t.cA t.cl.length t.cc) (.slice t.lA t.ll.length t.lc) (.slice t.tA t.tl.length t.tc) (.int .i64 t.st) (.int .i64 f) (.int .i64 t.out) from (HT5.out.s (.int .i64 f)).2.2.2.2.1)
 have HR6 := Lib.hid ((HR.out.below HB5.out).off (D := Gt) (o := 4) hrt.symm (.int .i64 f))
 have HB6 := Lib.hid (show Below w0.heap.size w0 (w5.setCell ⟨Gt, 4, none⟩ (.int .i64 f)) from HB5.out.setCell (by show w0.heap.size ≤ Gt; have := HGT.out; have := HB3.out.size; omega) _)
 have HYY := Lib.hid (show ∀ p ∈ t.ll.set k q, ∀ a, p.A = some a → a.block ≠ Gt from setOk (Q := fun p => ∀ a, p.A = some a → a.block ≠ Gt) (fun p hp a ha => by have := HTX.out p hp a ha; omega) k q (fun a ha => by have := HQA.out a ha; have := HSZ.out; omega))
 have HM6 := Lib.hid (show Rw (w5.setCell ⟨Gt, 4, none⟩ (.int .i64 f)) v3.heap.size _ from HTR5.out.far (D := Gt) (fun e => HRO.out.1 e) (fun e => HRO.out.2.1 e) (fun e => HRO.out.2.2 e) HYY.out (.int .i64 f))
 clear HT5 HB5 HTR5 hrt
 generalize w5.setCell ⟨Gt, 4, none⟩ (.int .i64 f) = w6 at *
 obtain ⟨u0, u1, u2, u3, u4, u5, -⟩ := HT6.out
 obtain ⟨r0, r1, r2, r3, r4, r5, y0, y1, y2, y3, y4, y5, -⟩ := HR6.out
 go_wp2
 --CUT5
 obtain ⟨q0, q1, q2, q3, q4, q5, -⟩ := HR6.out.set (.slice t.cA t.cl.length t.cc) (.slice t.lA t.ll.length t.lc) (.slice t.tA t.tl.length t.tc) (.int .i64 t.st) (.int .i64 f) (.int .i64 t.out)
 have hfar : ({ t with ll := t.ll.set k q, cl := t.cl.set k ⟨ca, cb, cc⟩ } : Stk).Far v3.heap.size := HM6.out.farr
 have hlen1 : t.cl.length ≤ 100000 := by rw [HTC.out]; have := HLL.out; omega
 have hlen2 : t.ll.length ≤ 100000 := by rw [HTL.out]; have := HLL.out; omega
 have htt : t.tl = s.tl := congrArg Ab.t HTA.out
 have hlen3 : t.tl.length ≤ 100000 := by rw [htt]; have := HLL.out; omega
 have hin := (HM6.out.inn (by show (t.cl.set k _).length ≤ _; rw [List.length_set]; exact hlen1) (by show (t.ll.set k _).length ≤ _; rw [List.length_set]; exact hlen2) hlen3).set6 hfar (D := Gr) (by have := HG.out; have := HB3.out.size; omega) (.slice t.cA t.cl.length t.cc) (.slice t.lA t.ll.length t.lc) (.slice t.tA t.tl.length t.tc) (.int .i64 t.st) (.int .i64 f) (.int .i64 t.out)
 have hlc : (t.cl.set k (⟨ca, cb, cc⟩ : Cel.Ce)).length = t.cl.length := List.length_set
 have hll : (t.ll.set k q).length = t.ll.length := List.length_set
 refine bodyPost_ret (v := .tuple #[.agg #[.slice t.cA t.cl.length t.cc, .slice t.lA t.ll.length t.lc, .slice t.tA t.tl.length t.tc, .int .i64 t.st, .int .i64 f, .int .i64 t.out], .int .i64 0]) ?_ rfl ?_
 ·simp [results, Tryz.results21, go_sem, q0, q1, q2, q3, q4, q5]
 ·refine ⟨⟨t.cA, t.cc, t.cl.set k ⟨ca, cb, cc⟩, t.lA, t.lc, t.ll.set k q, t.tA, t.tc, t.tl, t.st, f, t.out⟩, by show _ = Ending.returned (.tuple #[.agg #[.slice t.cA (t.cl.set k (⟨ca, cb, cc⟩ : Cel.Ce)).length t.cc, .slice t.lA (t.ll.set k q).length t.lc, _, _, _, _], _]); rw [hlc, hll], ?_, ?_, below_set6 (Below.call HB0.out HB6.out) (by have := HG.out; omega) _ _ _ _ _ _, by have h := hfar.less (B' := w.heap.size) (by have := HG.out; have := HB3.out.size; omega); exact h⟩
  ·have h := hin
   exact ⟨by simpa using h.c, by simpa using h.l, by simpa using h.t, fun p hp => by have := h.x p hp; simpa using this, h.f.1, HFF.out.1, h.f.2.2⟩
  ·have hq2 := HQ5.out
   rw [ptL_ab t k (by rw [HTL.out]; exact HKK.out.2), HTA.out] at hq2
   have e : t.ll.map Lo.ab = s.ab.l := congrArg Ab.l HTA.out
   have e4 : t.st = s.st := congrArg Ab.st HTA.out
   have e5 : t.out = s.out := congrArg Ab.out HTA.out
   first
    | (rw [if_pos rfl, HAA.out]; simp only [Stk.ab, List.map_set, hq2, HTC.out, htt, e4, e5]; rw [e]; rfl)
    | (rw [HAA.out]; simp only [Stk.ab, List.map_set, hq2, HTC.out, htt, e4, e5]; rw [e]; rfl)
--CUTW
set_option maxRecDepth 100000 in
set_option maxHeartbeats 4000000 in
theorem rwaste_any (d : Dk) (s : Stk) (b' id n : Int) (w : World) (hd : d.In w w.heap.size) (hs : s.In w w.heap.size) (hn : fits n) :
  Calls Tryz.prog 22 #[d.v, s.v, .int .i64 b', .int .i64 id, .int .i64 n] w fun e w' => ∃ t : Stk, e = .returned (.tuple #[t.v, .int .i64 (cgE d s.ab b' (foE d s.ab id (-(max n 0)) (s.ab.out + n)))]) ∧ t.In w' w'.heap.size ∧ t.ab = (if cgE d s.ab b' (foE d s.ab id (-(max n 0)) (s.ab.out + n)) = 0 then foA s.ab b' id.toNat (-(max n 0)) 5 (s.ab.out + n) else ab0) ∧ Below w.heap.size w w' ∧ t.Far w.heap.size := by
 obtain ⟨w0, hw0⟩ : ∃ w0, w0 = (((w.alloc (.cells #[.slice d.bA d.bn d.bc, .slice d.pA d.pn d.pc, .slice d.rA d.rn d.rc, .int .i64 d.arms] 26)).alloc (.cells #[.slice s.cA s.cl.length s.cc, .slice s.lA s.ll.length s.lc, .slice s.tA s.tl.length s.tc, .int .i64 s.st, .int .i64 s.inn, .int .i64 s.out] 31)).alloc (.cells #[.slice none 0 0, .slice none 0 0, .slice none 0 0, .int .i64 0, .int .i64 0, .int .i64 0] 31)) := ⟨_, rfl⟩
 have HB0 := Lib.hid (show Below w.heap.size w w0 by rw [hw0]; exact Below.al (Below.al (Below.al (Below.refl _ _) _) _) _)
 have HD0 := Lib.hid (hd.then HB0.out)
 have HS0 := Lib.hid (hs.then HB0.out)
 obtain ⟨Gd, hGd⟩ : ∃ Gd, Gd = w.heap.size := ⟨_, rfl⟩
 obtain ⟨Gs, hGs⟩ : ∃ Gs, Gs = w.heap.size + 1 := ⟨_, rfl⟩
 obtain ⟨Gr, hGr⟩ : ∃ Gr, Gr = w.heap.size + 1 + 1 := ⟨_, rfl⟩
 have HK := Lib.hid (show DkAt w0 Gd d by rw [hw0, hGd]; exact ((Cells4.new w _ _ _ _ _).below (Below.al (Below.refl _ _) _)).below (Below.al (Below.refl _ _) _))
 have HT := Lib.hid (show SkAt w0 Gs s by
  have e : (w.alloc (.cells #[.slice d.bA d.bn d.bc, .slice d.pA d.pn d.pc, .slice d.rA d.rn d.rc, .int .i64 d.arms] 26)).heap.size = w.heap.size + 1 := by simp
  rw [hw0, hGs, ← e]
  exact (Cells6.new (w.alloc (.cells #[.slice d.bA d.bn d.bc, .slice d.pA d.pn d.pc, .slice d.rA d.rn d.rc, .int .i64 d.arms] 26)) 31 _ _ _ _ _ _).below (Below.al (Below.refl _ _) _))
 have HR := Lib.hid (show Cells6 w0 Gr (.slice none 0 0) (.slice none 0 0) (.slice none 0 0) (.int .i64 0) (.int .i64 0) (.int .i64 0) by
  have e : ((w.alloc (.cells #[.slice d.bA d.bn d.bc, .slice d.pA d.pn d.pc, .slice d.rA d.rn d.rc, .int .i64 d.arms] 26)).alloc (.cells #[.slice s.cA s.cl.length s.cc, .slice s.lA s.ll.length s.lc, .slice s.tA s.tl.length s.tc, .int .i64 s.st, .int .i64 s.inn, .int .i64 s.out] 31)).heap.size = w.heap.size + 1 + 1 := by simp
  rw [hw0, hGr, ← e]
  exact Cells6.new ((w.alloc (.cells #[.slice d.bA d.bn d.bc, .slice d.pA d.pn d.pc, .slice d.rA d.rn d.rc, .int .i64 d.arms] 26)).alloc (.cells #[.slice s.cA s.cl.length s.cc, .slice s.lA s.ll.length s.lc, .slice s.tA s.tl.length s.tc, .int .i64 s.st, .int .i64 s.inn, .int .i64 s.out] 31)) 31 _ _ _ _ _ _)
 have HG := Lib.hid (show Gd = w.heap.size ∧ Gs = w.heap.size + 1 ∧ Gr = w.heap.size + 2 ∧ w0.heap.size = w.heap.size + 3 from ⟨hGd, hGs, by omega, by rw [hw0]; simp⟩)
 have HMY := Lib.hid (rmay_any d s b' w0 HD0.out HS0.out)
 have HNO := Lib.hid (fun h => @cgE_no d s.ab b' (foE d s.ab id (-(max n 0)) (s.ab.out + n)) h)
 have HYE := Lib.hid (fun h => @cgE_yes d s.ab b' h)
 have HP := Lib.hid (fun (h : rgS d s.ab = true) => (isP_eq d (rg_ab d s.ab h).2.2.2.1 id).1)
 have HQ := Lib.hid (fun (h : rgS d s.ab = true) => rg_ab d s.ab h)
 have HLN := Lib.hid (fun (h : rgS d s.ab = true) => rg_lens d s h)
 have HWL := Lib.hid (fun w => well_any s id w)
 have HFL := Lib.hid (show foE d s.ab id (-(max n 0)) (s.ab.out + n) = flE d id (Cel.chE (s.cl.getD id.toNat ce0) (-(max n 0))) (s.out + n) from rfl)
 have HAA := Lib.hid (show foA s.ab b' id.toNat (-(max n 0)) 5 (s.ab.out + n) = foA s.ab b' id.toNat (-(max n 0)) 5 (s.out + n) from rfl)
 generalize foE d s.ab id (-(max n 0)) (s.ab.out + n) = F at *
 generalize foA s.ab b' id.toNat (-(max n 0)) 5 (s.ab.out + n) = dA at *
 obtain ⟨E, hE⟩ : ∃ E, cgE d s.ab b' F = E := ⟨_, rfl⟩
 rw [hE] at HNO
 rw [hE]
 have HE := Lib.hid hE
 clear hE
 obtain ⟨mm, hm⟩ : ∃ mm, cgE d s.ab b' 0 = mm := ⟨_, rfl⟩
 rw [hm] at HMY HNO HYE
 clear hm
 obtain ⟨d0, d1, d2, d3, -⟩ := HK.out
 obtain ⟨t0, t1, t2, t3, t4, t5, -⟩ := HT.out
 rw [hw0, hGd] at d0 d1 d2 d3
 rw [hw0, hGs] at t0 t1 t2 t3 t4 t5
 go_enter Tryz.func22, Tryz.ntmps22
 go_wp2_with fail
 rw [← hw0]
 try rw [← hGr]
 try rw [← hGs]
 try rw [← hGd]
 clear hw0 hGd hGs hGr d0 d1 d2 d3 t0 t1 t2 t3 t4 t5
 refine HMY.out.mono ?_
 rintro e w1 ⟨rfl, hb1⟩
 have HB1 := Lib.hid hb1
 clear hb1 HMY
 by_cases h0 : mm = 0
 case neg =>
  have h0b : (mm != 0) = true := by simpa using h0
  have hEm : E = mm := HNO.out h0
  subst hEm
  have HNZ := Lib.hid h0
  clear h0
  obtain ⟨r0, r1, r2, r3, r4, r5, y0, y1, y2, y3, y4, y5, -⟩ := HR.out.below HB1.out
  go_wp2
  obtain ⟨q0, q1, q2, q3, q4, q5, -⟩ := (HR.out.below HB1.out).set (.slice none 0 0) (.slice none 0 0) (.slice none 0 0) (.int .i64 0) (.int .i64 0) (.int .i64 0)
  refine bodyPost_ret (v := .tuple #[stk0.v, .int .i64 (E)]) ?_ rfl ?_
  ·simp [results, Tryz.results22, go_sem, q0, q1, q2, q3, q4, q5, stk0]
  ·exact ⟨stk0, rfl, stk0_in _ _, by first | rfl | (rw [if_neg HNZ.out]; rfl), below_set6 (Below.call HB0.out HB1.out) (by have := HG.out; omega) _ _ _ _ _ _, stk0_far _⟩
 subst h0
 obtain ⟨hrg, hEF⟩ := HYE.out rfl
 have hEF : F = E := (hEF F).symm.trans HE.out
 subst hEF
 have HPP := Lib.hid (HP.out hrg)
 have HQQ := Lib.hid (HQ.out hrg)
 have HLL := Lib.hid (HLN.out hrg)
 clear hrg HP HQ HLN HNO HYE HE
 obtain ⟨t0, t1, t2, t3, t4, t5, -⟩ := HT.out.below HB1.out
 go_wp2_with fail
 clear t0 t1 t2 t3 t4 t5
 refine (HWL.out w1).mono ?_
 rintro e w2 ⟨rfl, hb2⟩
 have HB2 := Lib.hid (show Below w0.heap.size w0 w2 from HB1.out.trans (hb2.mono HB1.out.size))
 clear hb2 HB1
 have hwn : s.cl.length = wellN d := HLL.out.2.2.2.2.1
 by_cases hid : 0 ≤ id ∧ id < (s.cl.length : Int)
 case neg =>
  have hEm : F = 3 := by
   rw [HFL.out]
   unfold flE
   rw [HPP.out, decide_eq_false (by omega), if_neg (by simp)]
  subst hEm
  rw [decide_eq_false hid]
  clear hid hwn
  obtain ⟨r0, r1, r2, r3, r4, r5, y0, y1, y2, y3, y4, y5, -⟩ := HR.out.below HB2.out
  go_wp2
  obtain ⟨q0, q1, q2, q3, q4, q5, -⟩ := (HR.out.below HB2.out).set (.slice none 0 0) (.slice none 0 0) (.slice none 0 0) (.int .i64 0) (.int .i64 0) (.int .i64 0)
  refine bodyPost_ret (v := .tuple #[stk0.v, .int .i64 (3)]) ?_ rfl ?_
  ·simp [results, Tryz.results22, go_sem, q0, q1, q2, q3, q4, q5, stk0]
  ·exact ⟨stk0, rfl, stk0_in _ _, by first | rfl | (rw [if_neg (by decide)]; rfl), below_set6 (Below.call HB0.out HB2.out) (by have := HG.out; omega) _ _ _ _ _ _, stk0_far _⟩
 have hP : isP d 1 id = true := by rw [HPP.out, decide_eq_true (by omega)]
 rw [decide_eq_true hid]
 obtain ⟨k, rfl⟩ := Int.eq_ofNat_of_zero_le hid.1
 have ek : (k : Int).toNat = k := by omega
 rw [ek] at HFL HAA
 have hk : k < s.cl.length := by omega
 have HKK := Lib.hid (show k < s.cl.length ∧ k < s.ll.length from ⟨hk, by have := HLL.out.2.2.2.2.2.1; omega⟩)
 have HFL := Lib.hid (show F = (if Cel.chE (s.cl.getD k ce0) (-(max n 0)) = 0 then (if flowB (s.out + n) = true then 0 else 4) else Cel.chE (s.cl.getD k ce0) (-(max n 0))) from by rw [HFL.out]; unfold flE; rw [if_pos hP])
 clear hid ek hP HPP hwn
 obtain ⟨gb, off, eA, -, hcc, hcell⟩ := ce_cells (HS0.out.then HB2.out).c (by omega)
 obtain ⟨c0, c1, c2⟩ := hcell k hk
 obtain ⟨X, hX⟩ : ∃ X, s.cl.getD k ce0 = X := ⟨_, rfl⟩
 rw [hX] at c0 c1 c2 HFL
 have HXX := Lib.hid hX
 obtain ⟨t0, t1, t2, t3, t4, t5, -⟩ := HT.out.below HB2.out
 rw [eA] at t0
 have hki : (k : Int) < s.cl.length := by omega
 have HPO := Lib.hid (fun w => Cel.rdraw_any X n hn w)
 have HCH := Lib.hid (show Cel.chE X (-(max n 0)) = 0 → (Cel.chV X (-(max n 0))).b - X.b = -(max n 0) ∧ X.Right ∧ -(max n 0) ≠ 0 from fun h => ⟨chV_b h, (ch_ok h).1, (ch_ok h).2.1⟩)
 have HCF := Lib.hid (chV_fit X (-(max n 0)))
 have HAA := Lib.hid (show dA = ⟨s.cl.set k (Cel.chV X (-(max n 0))), s.ab.l.set k (ptA s.ab k (Cel.chV X (-(max n 0))) b'), s.tl, s.st, s.inn, s.out + n⟩ from by rw [HAA.out]; show foA s.ab b' k (-(max n 0)) 5 _ = _; unfold foA; rw [show s.ab.c.getD k ce0 = X from HXX.out]; rfl)
 obtain ⟨⟨ca, cb, cc⟩, hv⟩ : ∃ v, Cel.chV X (-(max n 0)) = v := ⟨_, rfl⟩
 rw [hv] at HPO HCH HCF HAA
 generalize hce : Cel.chE X (-(max n 0)) = er at *
 clear hv hce hcell hX hk eA
 go_wp2_with fail
 --CUT1
 clear t0 t1 t2 t3 t4 t5 c0 c1 c2 hki
 refine (HPO.out w2).mono ?_
 rintro e w3 ⟨rfl, hb3⟩
 obtain ⟨v3, hv3⟩ : ∃ v3, v3 = w3.alloc (.cells #[.int .i64 ca, .int .i64 cb, .int .i64 cc] 58) := ⟨_, rfl⟩
 have hba := Below.al hb3 (.cells #[.int .i64 ca, .int .i64 cb, .int .i64 cc] 58)
 rw [← hv3] at hba
 have HB3 := Lib.hid (show Below w0.heap.size w0 v3 from HB2.out.trans (hba.mono HB2.out.size))
 have HC3 := Lib.hid (show Cells3 v3 w3.heap.size (.int .i64 ca) (.int .i64 cb) (.int .i64 cc) by rw [hv3]; exact Cells3.new w3 _ _ _ _)
 clear hb3 hba HB2 HPO
 by_cases her : er = 0
 case neg =>
  have herb : (er != 0) = true := by simpa using her
  have hEm : F = er := by rw [HFL.out, if_neg her]
  subst hEm
  have HNZ := Lib.hid her
  clear her
  obtain ⟨r0, r1, r2, r3, r4, r5, y0, y1, y2, y3, y4, y5, -⟩ := HR.out.below HB3.out
  rw [hv3] at r0 r1 r2 r3 r4 r5 y0 y1 y2 y3 y4 y5
  go_wp2
  rw [← hv3]
  obtain ⟨q0, q1, q2, q3, q4, q5, -⟩ := (HR.out.below HB3.out).set (.slice none 0 0) (.slice none 0 0) (.slice none 0 0) (.int .i64 0) (.int .i64 0) (.int .i64 0)
  refine bodyPost_ret (v := .tuple #[stk0.v, .int .i64 F]) ?_ rfl ?_
  ·simp [results, Tryz.results22, go_sem, q0, q1, q2, q3, q4, q5, stk0]
  ·exact ⟨stk0, rfl, stk0_in _ _, by first | rfl | (rw [if_neg HNZ.out]; rfl), below_set6 (Below.call HB0.out HB3.out) (by have := HG.out; omega) _ _ _ _ _ _, stk0_far _⟩
 obtain ⟨hcb, hXr, hM0⟩ := HCH.out her
 have hfl0 := HQQ.out.2.1
 have hz0 : s.ab.out = s.out := rfl
 rw [hz0] at hfl0
 have hwz : Go.RowKit.wrap64 (1152921504606846976 - s.out) = 1152921504606846976 - s.out := wrap64_fits _ (by unfold fits; omega)
 obtain ⟨t0, t1, t2, t3, t4, t5, -⟩ := HT.out.below HB3.out
 rw [hv3] at t0 t1 t2 t3 t4 t5
 have hn1 : 1 ≤ n := by omega
 by_cases hov : 1152921504606846976 - s.out < n
 case pos =>
  have hEm : F = 4 := by
   rw [HFL.out, if_pos her, if_neg]
   intro h
   unfold flowB at h
   rw [Bool.and_eq_true, decide_eq_true_eq, decide_eq_true_eq] at h
   omega
  subst hEm
  subst her
  clear hcb hXr hM0 hfl0 hz0 hn1
  obtain ⟨r0, r1, r2, r3, r4, r5, y0, y1, y2, y3, y4, y5, -⟩ := HR.out.below HB3.out
  rw [hv3] at r0 r1 r2 r3 r4 r5 y0 y1 y2 y3 y4 y5
  go_wp2
  rw [← hv3]
  obtain ⟨q0, q1, q2, q3, q4, q5, -⟩ := (HR.out.below HB3.out).set (.slice none 0 0) (.slice none 0 0) (.slice none 0 0) (.int .i64 0) (.int .i64 0) (.int .i64 0)
  refine bodyPost_ret (v := .tuple #[stk0.v, .int .i64 4]) ?_ rfl ?_
  ·simp [results, Tryz.results22, go_sem, q0, q1, q2, q3, q4, q5, stk0]
  ·exact ⟨stk0, rfl, stk0_in _ _, by first | rfl | (rw [if_neg (by decide)]; rfl), below_set6 (Below.call HB0.out HB3.out) (by have := HG.out; omega) _ _ _ _ _ _, stk0_far _⟩
 have hEm : F = 0 := by
  rw [HFL.out, if_pos her, if_pos]
  unfold flowB
  rw [Bool.and_eq_true, decide_eq_true_eq, decide_eq_true_eq]
  omega
 subst hEm
 subst her
 obtain ⟨f, hf⟩ : ∃ f, s.out + n = f := ⟨_, rfl⟩
 have HFF := Lib.hid (show fits f ∧ Go.RowKit.wrap64 (s.out + n) = f from ⟨by unfold fits; omega, by rw [← hf]; exact wrap64_fits _ (by unfold fits; omega)⟩)
 have HNF := Lib.hid (show fits (cb - X.b) from by show fits ((⟨ca, cb, cc⟩ : Cel.Ce).b - X.b); rw [hcb]; unfold fits at hn ⊢; omega)
 rw [hf] at HAA
 clear hcb hXr hM0 hfl0 hz0 hn1 HFL hf HCH
 have HCP := Lib.hid (rcopy_any s v3 (HS0.out.then HB3.out) (by have := HLL.out; omega) (by have := HLL.out; omega) (by have := HLL.out; omega) (fun q hq => by have := HLL.out.2.2.2.1 q hq; omega))
 go_wp2_with fail
 rw [← hv3]
 --CUT2
 clear hv3 t0 t1 t2 t3 t4 t5 hwz hov
 obtain ⟨Gc, hGc⟩ : ∃ Gc, Gc = w3.heap.size := ⟨_, rfl⟩
 rw [← hGc] at HC3
 try rw [← hGc]
 clear hGc
 refine HCP.out.mono ?_
 rintro e w4 ⟨t, rfl, hta, htr, hb4, hta2⟩
 obtain ⟨v4, hv4⟩ : ∃ v4, v4 = w4.alloc (.cells #[.slice t.cA t.cl.length t.cc, .slice t.lA t.ll.length t.lc, .slice t.tA t.tl.length t.tc, .int .i64 t.st, .int .i64 t.inn, .int .i64 t.out] 31) := ⟨_, rfl⟩
 have hba := Below.al (Below.refl w4.heap.size w4) (.cells #[.slice t.cA t.cl.length t.cc, .slice t.lA t.ll.length t.lc, .slice t.tA t.tl.length t.tc, .int .i64 t.st, .int .i64 t.inn, .int .i64 t.out] 31)
 rw [← hv4] at hba
 have HTA := Lib.hid hta
 have HTR := Lib.hid (htr.below hba)
 have HRO := Lib.hid (htr.out (D := w4.heap.size) (Nat.le_refl _))
 have HTX := Lib.hid hta2
 have HSZ := Lib.hid (show v3.heap.size ≤ w4.heap.size ∧ w4.heap.size < v4.heap.size from ⟨hb4.size, by rw [hv4]; simp⟩)
 have HB4 := Lib.hid (show Below w0.heap.size w0 v4 from HB3.out.trans ((Below.call hb4 hba).mono HB3.out.size))
 have HC4 := Lib.hid (HC3.out.below (Below.call hb4 hba))
 have HT4 := Lib.hid (show SkAt v4 w4.heap.size t by rw [hv4]; exact Cells6.new w4 _ _ _ _ _ _ _)
 clear hta htr hb4 hta2 hba HC3 HCP
 obtain ⟨u0, u1, u2, u3, u4, u5, -⟩ := HT4.out
 obtain ⟨c0, c1, c2, -⟩ := HC4.out
 rw [hv4] at u0 u1 u2 u3 u4 u5 c0 c1 c2
 go_wp2_with fail
 rw [← hv4]
 --CUT3
 clear hv4 u0 u1 u2 u3 u4 u5 c0 c1 c2
 obtain ⟨Gt, hGt⟩ : ∃ Gt, Gt = w4.heap.size := ⟨_, rfl⟩
 rw [← hGt] at HT4 HRO HSZ HTX
 try rw [← hGt]
 clear hGt
 have htc : t.cl = s.cl := congrArg Ab.c HTA.out
 have htl : t.ll.length = s.ll.length := by
  have h := congrArg (fun a : Ab => a.l.length) HTA.out
  have e1 : t.ab.l.length = t.ll.length := by show (t.ll.map Lo.ab).length = _; rw [List.length_map]
  have e2 : s.ab.l.length = s.ll.length := by show (s.ll.map Lo.ab).length = _; rw [List.length_map]
  rw [← e1, ← e2]; exact h
 have HTC := Lib.hid htc
 have HTL := Lib.hid htl
 refine (rput_any t b' v4 v3.heap.size k ⟨ca, cb, cc⟩ HTR.out (by rw [htc]; exact HKK.out.1) (by rw [htl]; exact HKK.out.2) HCF.out (by rw [htc, HXX.out]; exact HNF.out) (by rw [htc]; have := HLL.out; omega) (by rw [htl]; have := HLL.out; omega)).mono ?_
 rintro e w5 ⟨q, rfl, hq, htr5, hb5, hkp, hqa, hfz⟩
 have HQ5 := Lib.hid hq
 have HTR5 := Lib.hid htr5
 have HQA := Lib.hid hqa
 have HB5 := Lib.hid (show Below w0.heap.size w0 w5 from HB4.out.trans (hb5.mono HB3.out.size))
 have HT5 := Lib.hid (show SkAt w5 Gt t from ⟨hkp _ _ HT4.out.1 (fun e => HRO.out.1 e.symm) (fun e => HRO.out.2.1 e.symm), hkp _ _ HT4.out.2.1 (fun e => HRO.out.1 e.symm) (fun e => HRO.out.2.1 e.symm), hkp _ _ HT4.out.2.2.1 (fun e => HRO.out.1 e.symm) (fun e => HRO.out.2.1 e.symm), hkp _ _ HT4.out.2.2.2.1 (fun e => HRO.out.1 e.symm) (fun e => HRO.out.2.1 e.symm), hkp _ _ HT4.out.2.2.2.2.1 (fun e => HRO.out.1 e.symm) (fun e => HRO.out.2.1 e.symm), hkp _ _ HT4.out.2.2.2.2.2.1 (fun e => HRO.out.1 e.symm) (fun e => HRO.out.2.1 e.symm), hfz _ (show Gt < _ from HSZ.out.2) (HT4.out.2.2.2.2.2.2.1), hfz _ (show Gt < _ from HSZ.out.2) (HT4.out.2.2.2.2.2.2.2.1), hfz _ (show Gt < _ from HSZ.out.2) (HT4.out.2.2.2.2.2.2.2.2.1), hfz _ (show Gt < _ from HSZ.out.2) (HT4.out.2.2.2.2.2.2.2.2.2.1), hfz _ (show Gt < _ from HSZ.out.2) (HT4.out.2.2.2.2.2.2.2.2.2.2.1), hfz _ (show Gt < _ from HSZ.out.2) (HT4.out.2.2.2.2.2.2.2.2.2.2.2.1), Nat.lt_of_lt_of_le HSZ.out.2 hb5.size⟩)
 have HGT := Lib.hid (show v3.heap.size ≤ Gt ∧ Gt < w5.heap.size from ⟨HSZ.out.1, Nat.lt_of_lt_of_le HSZ.out.2 hb5.size⟩)
 clear hq htr5 hb5 hkp hqa hfz htc htl HTR HT4 HC4 HB4
 obtain ⟨u0, u1, u2, u3, u4, u5, y0, y1, y2, y3, y4, y5, -⟩ := HT5.out
 have hwf : Go.RowKit.wrap64 (t.out + n) = f := by
  have e : t.out = s.out := congrArg Ab.out HTA.out
  rw [e]; exact HFF.out.2
 go_upto_region 14 with fail
 rw [hwf]
 --CUT4
 clear u0 u1 u2 u3 u4 u5 y0 y1 y2 y3 y4 y5 hwf
 have hrt : Gr ≠ Gt := by have := HG.out; have := HGT.out; have := HB3.out.size; omega
 have HT6 := Lib.hid (show Cells6 (w5.setCell ⟨Gt, 5, none⟩ (.int .i64 f)) Gt (.slice t.cA t.cl.length t.cc) (.slice t.lA t.ll.length t.lc) (.slice t.tA t.tl.length t.tc) (.int .i64 t.st) (.int .i64 t.inn) (.int .i64 f) from (HT5.out.s (.int .i64 f)).2.2.2.2.2)
 have HR6 := Lib.hid ((HR.out.below HB5.out).off (D := Gt) (o := 5) hrt.symm (.int .i64 f))
 have HB6 := Lib.hid (show Below w0.heap.size w0 (w5.setCell ⟨Gt, 5, none⟩ (.int .i64 f)) from HB5.out.setCell (by show w0.heap.size ≤ Gt; have := HGT.out; have := HB3.out.size; omega) _)
 have HYY := Lib.hid (show ∀ p ∈ t.ll.set k q, ∀ a, p.A = some a → a.block ≠ Gt from setOk (Q := fun p => ∀ a, p.A = some a → a.block ≠ Gt) (fun p hp a ha => by have := HTX.out p hp a ha; omega) k q (fun a ha => by have := HQA.out a ha; have := HSZ.out; omega))
 have HM6 := Lib.hid (show Rw (w5.setCell ⟨Gt, 5, none⟩ (.int .i64 f)) v3.heap.size _ from HTR5.out.far (D := Gt) (fun e => HRO.out.1 e) (fun e => HRO.out.2.1 e) (fun e => HRO.out.2.2 e) HYY.out (.int .i64 f))
 clear HT5 HB5 HTR5 hrt
 generalize w5.setCell ⟨Gt, 5, none⟩ (.int .i64 f) = w6 at *
 obtain ⟨u0, u1, u2, u3, u4, u5, -⟩ := HT6.out
 obtain ⟨r0, r1, r2, r3, r4, r5, y0, y1, y2, y3, y4, y5, -⟩ := HR6.out
 go_wp2
 --CUT5
 obtain ⟨q0, q1, q2, q3, q4, q5, -⟩ := HR6.out.set (.slice t.cA t.cl.length t.cc) (.slice t.lA t.ll.length t.lc) (.slice t.tA t.tl.length t.tc) (.int .i64 t.st) (.int .i64 t.inn) (.int .i64 f)
 have hfar : ({ t with ll := t.ll.set k q, cl := t.cl.set k ⟨ca, cb, cc⟩ } : Stk).Far v3.heap.size := HM6.out.farr
 have hlen1 : t.cl.length ≤ 100000 := by rw [HTC.out]; have := HLL.out; omega
 have hlen2 : t.ll.length ≤ 100000 := by rw [HTL.out]; have := HLL.out; omega
 have htt : t.tl = s.tl := congrArg Ab.t HTA.out
 have hlen3 : t.tl.length ≤ 100000 := by rw [htt]; have := HLL.out; omega
 have hin := (HM6.out.inn (by show (t.cl.set k _).length ≤ _; rw [List.length_set]; exact hlen1) (by show (t.ll.set k _).length ≤ _; rw [List.length_set]; exact hlen2) hlen3).set6 hfar (D := Gr) (by have := HG.out; have := HB3.out.size; omega) (.slice t.cA t.cl.length t.cc) (.slice t.lA t.ll.length t.lc) (.slice t.tA t.tl.length t.tc) (.int .i64 t.st) (.int .i64 t.inn) (.int .i64 f)
 have hlc : (t.cl.set k (⟨ca, cb, cc⟩ : Cel.Ce)).length = t.cl.length := List.length_set
 have hll : (t.ll.set k q).length = t.ll.length := List.length_set
 refine bodyPost_ret (v := .tuple #[.agg #[.slice t.cA t.cl.length t.cc, .slice t.lA t.ll.length t.lc, .slice t.tA t.tl.length t.tc, .int .i64 t.st, .int .i64 t.inn, .int .i64 f], .int .i64 0]) ?_ rfl ?_
 ·simp [results, Tryz.results22, go_sem, q0, q1, q2, q3, q4, q5]
 ·refine ⟨⟨t.cA, t.cc, t.cl.set k ⟨ca, cb, cc⟩, t.lA, t.lc, t.ll.set k q, t.tA, t.tc, t.tl, t.st, t.inn, f⟩, by show _ = Ending.returned (.tuple #[.agg #[.slice t.cA (t.cl.set k (⟨ca, cb, cc⟩ : Cel.Ce)).length t.cc, .slice t.lA (t.ll.set k q).length t.lc, _, _, _, _], _]); rw [hlc, hll], ?_, ?_, below_set6 (Below.call HB0.out HB6.out) (by have := HG.out; omega) _ _ _ _ _ _, by have h := hfar.less (B' := w.heap.size) (by have := HG.out; have := HB3.out.size; omega); exact h⟩
  ·have h := hin
   exact ⟨by simpa using h.c, by simpa using h.l, by simpa using h.t, fun p hp => by have := h.x p hp; simpa using this, h.f.1, h.f.2.1, HFF.out.1⟩
  ·have hq2 := HQ5.out
   rw [ptL_ab t k (by rw [HTL.out]; exact HKK.out.2), HTA.out] at hq2
   have e : t.ll.map Lo.ab = s.ab.l := congrArg Ab.l HTA.out
   have e4 : t.st = s.st := congrArg Ab.st HTA.out
   have e5 : t.inn = s.inn := congrArg Ab.inn HTA.out
   first
    | (rw [if_pos rfl, HAA.out]; simp only [Stk.ab, List.map_set, hq2, HTC.out, htt, e4, e5]; rw [e]; rfl)
    | (rw [HAA.out]; simp only [Stk.ab, List.map_set, hq2, HTC.out, htt, e4, e5]; rw [e]; rfl)
end Go.Proofs.YtacjonncakhhmaaGreat
