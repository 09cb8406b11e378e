/- Stocks: Drop, by the reference. -/
import Derived.Test.YtacjonncakhhmaaGreatPz48
import Derived.Test.YtacjonncakhhmaaGreatPz38
namespace Go.Proofs.YtacjonncakhhmaaGreat
open Go.RowKit
set_option maxRecDepth 100000 in
set_option maxHeartbeats 4000000 in
theorem rdropf_any (d : Dk) (s : Stk) (b' : Int) (w : World) (hd : d.In w w.heap.size) (hs : s.In w w.heap.size) :
  Calls Tryz.prog 25 #[d.v, s.v, .int .i64 b'] w fun e w' => ∃ t : Stk, e = .returned (.tuple #[t.v, .int .i64 (cgE d s.ab b' (drE s.ab b'))]) ∧ t.In w' w'.heap.size ∧ t.ab = (if cgE d s.ab b' (drE s.ab b') = 0 then drA s.ab b' else ab0) ∧ Below w.heap.size w w' ∧ t.Far w.heap.size := by
 obtain ⟨w0, hw0⟩ : ∃ w0, w0 = (((w.alloc (.cells #[.slice d.bA d.bn d.bc, .slice d.pA d.pn d.pc, .slice d.rA d.rn d.rc, .int .i64 d.arms] 26)).alloc (.cells #[.slice s.cA s.cl.length s.cc, .slice s.lA s.ll.length s.lc, .slice s.tA s.tl.length s.tc, .int .i64 s.st, .int .i64 s.inn, .int .i64 s.out] 31)).alloc (.cells #[.slice none 0 0, .slice none 0 0, .slice none 0 0, .int .i64 0, .int .i64 0, .int .i64 0] 31)) := ⟨_, rfl⟩
 have HB0 := Lib.hid (show Below w.heap.size w w0 by rw [hw0]; exact Below.al (Below.al (Below.al (Below.refl _ _) _) _) _)
 have HD0 := Lib.hid (hd.then HB0.out)
 have HS0 := Lib.hid (hs.then HB0.out)
 obtain ⟨Gd, hGd⟩ : ∃ Gd, Gd = w.heap.size := ⟨_, rfl⟩
 obtain ⟨Gs, hGs⟩ : ∃ Gs, Gs = w.heap.size + 1 := ⟨_, rfl⟩
 obtain ⟨Gr, hGr⟩ : ∃ Gr, Gr = w.heap.size + 1 + 1 := ⟨_, rfl⟩
 have HK := Lib.hid (show DkAt w0 Gd d by rw [hw0, hGd]; exact ((Cells4.new w _ _ _ _ _).below (Below.al (Below.refl _ _) _)).below (Below.al (Below.refl _ _) _))
 have HT := Lib.hid (show SkAt w0 Gs s by
  have e : (w.alloc (.cells #[.slice d.bA d.bn d.bc, .slice d.pA d.pn d.pc, .slice d.rA d.rn d.rc, .int .i64 d.arms] 26)).heap.size = w.heap.size + 1 := by simp
  rw [hw0, hGs, ← e]
  exact (Cells6.new (w.alloc (.cells #[.slice d.bA d.bn d.bc, .slice d.pA d.pn d.pc, .slice d.rA d.rn d.rc, .int .i64 d.arms] 26)) 31 _ _ _ _ _ _).below (Below.al (Below.refl _ _) _))
 have HR := Lib.hid (show Cells6 w0 Gr (.slice none 0 0) (.slice none 0 0) (.slice none 0 0) (.int .i64 0) (.int .i64 0) (.int .i64 0) by
  have e : ((w.alloc (.cells #[.slice d.bA d.bn d.bc, .slice d.pA d.pn d.pc, .slice d.rA d.rn d.rc, .int .i64 d.arms] 26)).alloc (.cells #[.slice s.cA s.cl.length s.cc, .slice s.lA s.ll.length s.lc, .slice s.tA s.tl.length s.tc, .int .i64 s.st, .int .i64 s.inn, .int .i64 s.out] 31)).heap.size = w.heap.size + 1 + 1 := by simp
  rw [hw0, hGr, ← e]
  exact Cells6.new ((w.alloc (.cells #[.slice d.bA d.bn d.bc, .slice d.pA d.pn d.pc, .slice d.rA d.rn d.rc, .int .i64 d.arms] 26)).alloc (.cells #[.slice s.cA s.cl.length s.cc, .slice s.lA s.ll.length s.lc, .slice s.tA s.tl.length s.tc, .int .i64 s.st, .int .i64 s.inn, .int .i64 s.out] 31)) 31 _ _ _ _ _ _)
 have HG := Lib.hid (show Gd = w.heap.size ∧ Gs = w.heap.size + 1 ∧ Gr = w.heap.size + 2 ∧ w0.heap.size = w.heap.size + 3 from ⟨hGd, hGs, by omega, by rw [hw0]; simp⟩)
 have HMY := Lib.hid (rmay_any d s b' w0 HD0.out HS0.out)
 have HNO := Lib.hid (fun h => @cgE_no d s.ab b' (drE s.ab b') h)
 have HYE := Lib.hid (fun h => @cgE_yes d s.ab b' h)
 have HQ := Lib.hid (fun (h : rgS d s.ab = true) => rg_ab d s.ab h)
 have HLN := Lib.hid (fun (h : rgS d s.ab = true) => rg_lens d s h)
 have HRD := Lib.hid (fun (h : rgS d s.ab = true) => show rhV s.tl b' = (if (hdF s.ab b').2 = true then (hdF s.ab b').1 else -1) from by
  have e := rh_hd h b'
  show (if (Tp.fstV (rhP s.ab.t b') s.ab.t.length).2 = true then (Tp.fstV (rhP s.ab.t b') s.ab.t.length).1 else -1) = _
  rw [e])
 have HHN := Lib.hid (fun w h => rhand0_any s b' w h)
 have HFL := Lib.hid (show drE s.ab b' = (if (hdF s.ab b').2 = true then Tp.dpE (s.tl.getD (hdF s.ab b').1.toNat (0, 0)).1 (s.tl.getD (hdF s.ab b').1.toNat (0, 0)).2 b' else 131) from rfl)
 have HA0 := Lib.hid (show drA s.ab b' = { s.ab with t := s.tl.set (hdF s.ab b').1.toNat (Tp.dpV (s.tl.getD (hdF s.ab b').1.toNat (0, 0)).1 (s.tl.getD (hdF s.ab b').1.toNat (0, 0)).2 b') } from rfl)
 have HYS := Lib.hid (fun h => @hd_yes s.ab b' h)
 generalize drE s.ab b' = F at *
 generalize drA s.ab b' = dA at *
 obtain ⟨E, hE⟩ : ∃ E, cgE d s.ab b' F = E := ⟨_, rfl⟩
 rw [hE] at HNO
 rw [hE]
 have HE := Lib.hid hE
 clear hE
 obtain ⟨mm, hm⟩ : ∃ mm, cgE d s.ab b' 0 = mm := ⟨_, rfl⟩
 have HM0 := Lib.hid (show mm = 0 → 1 ≤ b' ∧ b' ≤ d.arms from fun h => by
  have h2 := cg_ok (hm.trans h)
  exact ⟨h2.2.1, h2.2.2.1⟩)
 rw [hm] at HMY HNO HYE
 clear hm
 obtain ⟨d0, d1, d2, d3, -⟩ := HK.out
 obtain ⟨t0, t1, t2, t3, t4, t5, -⟩ := HT.out
 rw [hw0, hGd] at d0 d1 d2 d3
 rw [hw0, hGs] at t0 t1 t2 t3 t4 t5
 go_enter Tryz.func25, Tryz.ntmps25
 go_wp2_with fail
 rw [← hw0]
 try rw [← hGr]
 try rw [← hGs]
 try rw [← hGd]
 clear hw0 hGd hGs hGr d0 d1 d2 d3 t0 t1 t2 t3 t4 t5
 refine HMY.out.mono ?_
 rintro e w1 ⟨rfl, hb1⟩
 have HB1 := Lib.hid hb1
 clear hb1 HMY
 by_cases h0 : mm = 0
 case neg =>
  have h0b : (mm != 0) = true := by simpa using h0
  have hEm : E = mm := HNO.out h0
  subst hEm
  have HNZ := Lib.hid h0
  clear h0
  obtain ⟨r0, r1, r2, r3, r4, r5, y0, y1, y2, y3, y4, y5, -⟩ := HR.out.below HB1.out
  go_wp2
  obtain ⟨q0, q1, q2, q3, q4, q5, -⟩ := (HR.out.below HB1.out).set (.slice none 0 0) (.slice none 0 0) (.slice none 0 0) (.int .i64 0) (.int .i64 0) (.int .i64 0)
  refine bodyPost_ret (v := .tuple #[stk0.v, .int .i64 (E)]) ?_ rfl ?_
  ·simp [results, Tryz.results25, go_sem, q0, q1, q2, q3, q4, q5, stk0]
  ·exact ⟨stk0, rfl, stk0_in _ _, by first | rfl | (rw [if_neg HNZ.out]; rfl), below_set6 (Below.call HB0.out HB1.out) (by have := HG.out; omega) _ _ _ _ _ _, stk0_far _⟩
 have HM1 := Lib.hid (HM0.out h0)
 subst h0
 obtain ⟨hrg, hEF⟩ := HYE.out rfl
 have hEF : F = E := (hEF F).symm.trans HE.out
 subst hEF
 have HRGT := Lib.hid hrg
 have HQQ := Lib.hid (HQ.out hrg)
 have HLL := Lib.hid (HLN.out hrg)
 have HRV := Lib.hid (HRD.out hrg)
 clear hrg HQ HLN HNO HYE HE HRD HM0
 obtain ⟨t0, t1, t2, t3, t4, t5, -⟩ := HT.out.below HB1.out
 go_wp2_with fail
 clear t0 t1 t2 t3 t4 t5
 refine (HHN.out w1 (HS0.out.then HB1.out)).mono ?_
 rintro e w2 ⟨rfl, hb2⟩
 have HB2 := Lib.hid (show Below w0.heap.size w0 w2 from HB1.out.trans (hb2.mono HB1.out.size))
 clear hb2 HB1
 obtain ⟨⟨f1, f2⟩, hf⟩ : ∃ z, hdF s.ab b' = z := ⟨_, rfl⟩
 rw [hf] at HRV HFL HYS HA0
 dsimp only at HRV HFL HYS HA0
 generalize rhV s.tl b' = rv at *
 clear hf
 cases f2
 case false =>
  have hEm : F = 131 := by rw [HFL.out]; rfl
  have hrv : rv = -1 := by rw [HRV.out]; rfl
  subst hEm
  subst hrv
  obtain ⟨r0, r1, r2, r3, r4, r5, y0, y1, y2, y3, y4, y5, -⟩ := HR.out.below HB2.out
  go_wp2
  obtain ⟨q0, q1, q2, q3, q4, q5, -⟩ := (HR.out.below HB2.out).set (.slice none 0 0) (.slice none 0 0) (.slice none 0 0) (.int .i64 0) (.int .i64 0) (.int .i64 0)
  refine bodyPost_ret (v := .tuple #[stk0.v, .int .i64 (131)]) ?_ rfl ?_
  ·simp [results, Tryz.results25, go_sem, q0, q1, q2, q3, q4, q5, stk0]
  ·exact ⟨stk0, rfl, stk0_in _ _, by first | rfl | (rw [if_neg (by decide)]; rfl), below_set6 (Below.call HB0.out HB2.out) (by have := HG.out; omega) _ _ _ _ _ _, stk0_far _⟩
 obtain ⟨k, rfl, hk, hk1, hk2⟩ := HYS.out rfl
 have hrv : rv = (k : Int) := by rw [HRV.out]; rfl
 subst hrv
 have ekk : (k : Int).toNat = k := by omega
 rw [ekk] at HFL HA0
 have hdp : Tp.dpE (s.tl.getD k (0, 0)).1 (s.tl.getD k (0, 0)).2 b' = 0 := by
  have e1 : (s.tl.getD k (0, 0)).1 = 2 := hk1
  have e2 : (s.tl.getD k (0, 0)).2 = b' := hk2
  have h8 := HM1.out
  have ha : d.arms ≤ 8 := (dchk_ok d HQQ.out.2.2.2.1).arm.2
  have ho : Tp.ofV 2 b' = 2 := by have := (ofV_2 2 b').2 ⟨rfl, by omega, by omega⟩; simpa using this
  have hb : Tp.armB b' = true := by unfold Tp.armB; exact decide_eq_true (by omega)
  rw [e1, e2]
  unfold Tp.dpE
  rw [ho, hb, if_neg (by decide), if_neg (by simp), if_pos ⟨rfl, rfl⟩]
 have hEm : F = 0 := by rw [HFL.out, if_pos rfl, hdp]
 have HAA := Lib.hid (show dA = { s.ab with t := s.tl.set k (3, 0) } from by rw [HA0.out]; unfold Tp.dpV; rw [if_pos hdp])
 have HVF := Lib.hid (show fits ((3 : Int), (0 : Int)).1 ∧ fits ((3 : Int), (0 : Int)).2 from ⟨by decide, by decide⟩)
 have HKS := Lib.hid (show k < s.tl.length from hk)
 have HBS := Lib.hid HB2.out.size
 subst hEm
 clear hk hk1 hk2 ekk hdp HFL HA0 HYS HRV
 have hk0 : ¬ (k : Int) < 0 := by omega
 have HCP := Lib.hid (rcopy_any s w2 (HS0.out.then HB2.out) (by have := HLL.out; omega) (by have := HLL.out; omega) (by have := HLL.out; omega) (fun q hq => by have := HLL.out.2.2.2.1 q hq; omega))
 obtain ⟨t0, t1, t2, t3, t4, t5, -⟩ := HT.out.below HB2.out
 go_wp2_with fail
 clear t0 t1 t2 t3 t4 t5
 --CUTs
 refine HCP.out.mono ?_
 rintro e w4 ⟨t, rfl, hta, htr, hb4, hta2⟩
 obtain ⟨v4, hv4⟩ : ∃ v4, v4 = w4.alloc (.cells #[.slice t.cA t.cl.length t.cc, .slice t.lA t.ll.length t.lc, .slice t.tA t.tl.length t.tc, .int .i64 t.st, .int .i64 t.inn, .int .i64 t.out] 31) := ⟨_, rfl⟩
 have hba := Below.al (Below.refl w4.heap.size w4) (.cells #[.slice t.cA t.cl.length t.cc, .slice t.lA t.ll.length t.lc, .slice t.tA t.tl.length t.tc, .int .i64 t.st, .int .i64 t.inn, .int .i64 t.out] 31)
 rw [← hv4] at hba
 have HTA := Lib.hid hta
 have HTR := Lib.hid (htr.below hba)
 have HRO := Lib.hid (htr.out (D := w4.heap.size) (Nat.le_refl _))
 have HSZ := Lib.hid (show w2.heap.size ≤ w4.heap.size ∧ w4.heap.size < v4.heap.size from ⟨hb4.size, by rw [hv4]; simp⟩)
 have HB5 := Lib.hid (show Below w0.heap.size w0 v4 from HB2.out.trans ((Below.call hb4 hba).mono HB2.out.size))
 have HT4 := Lib.hid (show SkAt v4 w4.heap.size t by rw [hv4]; exact Cells6.new w4 _ _ _ _ _ _ _)
 have HTT := Lib.hid (show t.tl = s.tl from congrArg Ab.t HTA.out)
 have hkt : k < t.tl.length := by rw [HTT.out]; exact HKS.out
 obtain ⟨gt, et, gt1, gt2, gt3⟩ := HTR.out.tAt (by omega)
 have hot := HTR.out.t
 rw [et] at hot
 obtain ⟨p0, p1, y0, y1⟩ := KT.Own.at2 hot rfl k hkt
 have HET := Lib.hid et
 have HGT := Lib.hid (show w2.heap.size ≤ gt ∧ gt < v4.heap.size ∧ gt ≠ w4.heap.size from ⟨gt1, gt2, fun e => HRO.out.2.2 (by rw [et, ← e]; rfl)⟩)
 obtain ⟨u0, u1, u2, u3, u4, u5, -⟩ := HT4.out
 rw [et] at u2
 have hkti : (k : Int) < t.tl.length := by omega
 rw [hv4] at u0 u1 u2 u3 u4 u5 p0 p1 y0 y1
 clear hta htr hb4 hta2 hba HCP hot et gt1 gt2 gt3
 go_upto_region 9 with fail
 rw [← hv4]
 --CUTt
 clear u0 u1 u2 u3 u4 u5 p0 p1 y0 y1
 have hkl : k < t.tl.length := hkt
 have M6 := Lib.hid (HTR.out.putT k hkl gt HET.out (3, 0) HVF.out)
 have HT6 := Lib.hid (show SkAt ((v4.setCell ⟨gt, k * 2, none⟩ (.int .i64 (3))).setCell ⟨gt, k * 2 + 1, none⟩ (.int .i64 (0))) w4.heap.size t from ((HT4.out.off (D := gt) (o := k * 2) HGT.out.2.2 _).off (D := gt) (o := k * 2 + 1) HGT.out.2.2 _))
 have HB6 := Lib.hid (show Below w0.heap.size w0 ((v4.setCell ⟨gt, k * 2, none⟩ (.int .i64 (3))).setCell ⟨gt, k * 2 + 1, none⟩ (.int .i64 (0))) from ((HB5.out.setCell (by show w0.heap.size ≤ gt; have := HGT.out; have := HBS.out; omega) _).setCell (by show w0.heap.size ≤ gt; have := HGT.out; have := HBS.out; omega) _))
 clear HTR HT4 HB5 hv4
 generalize (v4.setCell ⟨gt, k * 2, none⟩ (.int .i64 (3))).setCell ⟨gt, k * 2 + 1, none⟩ (.int .i64 (0)) = w6 at *
 have HR6 := Lib.hid (HR.out.below HB6.out)
 obtain ⟨u0, u1, u2, u3, u4, u5, -⟩ := HT6.out
 obtain ⟨r0, r1, r2, r3, r4, r5, y0, y1, y2, y3, y4, y5, -⟩ := HR6.out
 go_wp2
 --CUTu
 obtain ⟨q0, q1, q2, q3, q4, q5, -⟩ := HR6.out.set (.slice t.cA t.cl.length t.cc) (.slice t.lA t.ll.length t.lc) (.slice t.tA t.tl.length t.tc) (.int .i64 t.st) (.int .i64 t.inn) (.int .i64 t.out)
 have hfar := M6.out.farr
 have hlen1 : t.cl.length ≤ 100000 := by rw [show t.cl = s.cl from congrArg Ab.c HTA.out]; have := HLL.out; omega
 have htl : t.ll.length = s.ll.length := by
  have h := congrArg (fun a : Ab => a.l.length) HTA.out
  have e1 : t.ab.l.length = t.ll.length := by show (t.ll.map Lo.ab).length = _; rw [List.length_map]
  have e2 : s.ab.l.length = s.ll.length := by show (s.ll.map Lo.ab).length = _; rw [List.length_map]
  rw [← e1, ← e2]; exact h
 have hlen2 : t.ll.length ≤ 100000 := by rw [htl]; have := HLL.out; omega
 have hin := (M6.out.inn hlen1 hlen2 (by show (t.tl.set _ _).length ≤ _; rw [List.length_set, HTT.out]; have := HLL.out; omega)).set6 hfar (D := Gr) (by have := HG.out; have := HBS.out; omega) (.slice t.cA t.cl.length t.cc) (.slice t.lA t.ll.length t.lc) (.slice t.tA t.tl.length t.tc) (.int .i64 t.st) (.int .i64 t.inn) (.int .i64 t.out)
 have hlt2 : (t.tl.set k ((3 : Int), (0 : Int))).length = t.tl.length := List.length_set
 refine bodyPost_ret (v := .tuple #[.agg #[.slice t.cA t.cl.length t.cc, .slice t.lA t.ll.length t.lc, .slice t.tA t.tl.length t.tc, .int .i64 t.st, .int .i64 t.inn, .int .i64 t.out], .int .i64 0]) ?_ rfl ?_
 ·simp [results, Tryz.results25, go_sem, q0, q1, q2, q3, q4, q5]
 ·refine ⟨⟨t.cA, t.cc, t.cl, t.lA, t.lc, t.ll, t.tA, t.tc, t.tl.set k (3, 0), t.st, t.inn, t.out⟩, by show _ = Ending.returned (.tuple #[.agg #[_, _, .slice t.tA (t.tl.set k ((3 : Int), (0 : Int))).length t.tc, _, _, _], _]); rw [hlt2], ?_, ?_, below_set6 (Below.call HB0.out HB6.out) (by have := HG.out; omega) _ _ _ _ _ _, by have h := hfar.less (B' := w.heap.size) (by have := HG.out; have := HBS.out; omega); exact h⟩
  ·have h := hin
   exact ⟨by simpa using h.c, by simpa using h.l, by simpa using h.t, fun p hp => by have := h.x p hp; simpa using this, h.f⟩
  ·have e : (⟨t.cl, t.ll.map Lo.ab, t.tl.set k (3, 0), t.st, t.inn, t.out⟩ : Ab) = dA := by
    rw [HAA.out]
    have e0 := HTA.out
    show ({ t.ab with t := t.ab.t.set k (3, 0) } : Ab) = _
    rw [e0]
    rfl
   first
    | (rw [if_pos rfl]; exact e)
    | exact e
end Go.Proofs.YtacjonncakhhmaaGreat
