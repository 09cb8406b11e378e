/- Stocks: Move, by the reference. -/
import Derived.Test.YtacjonncakhhmaaGreatPz00
import Derived.Test.YtacjonncakhhmaaGreatPz48
import Derived.Test.YtacjonncakhhmaaGreatPz38
import Derived.Deep.Cut
namespace Go.Proofs.YtacjonncakhhmaaGreat
open Go.RowKit
set_option maxRecDepth 100000 in
set_option maxHeartbeats 4000000 in
theorem rmovef_any (d : Dk) (s : Stk) (b' x y n : Int) (w : World) (hd : d.In w w.heap.size) (hs : s.In w w.heap.size) (hn : fits n) :
  Calls Tryz.prog 23 #[d.v, s.v, .int .i64 b', .int .i64 x, .int .i64 y, .int .i64 n] w fun e w' => ∃ t : Stk, e = .returned (.tuple #[t.v, .int .i64 (cgE d s.ab b' (moE d s.ab x y n))]) ∧ t.In w' w'.heap.size ∧ t.ab = (if cgE d s.ab b' (moE d s.ab x y n) = 0 then moA s.ab b' x y n else ab0) ∧ Below w.heap.size w w' ∧ t.Far w.heap.size := by
 obtain ⟨w0, hw0⟩ : ∃ w0, w0 = (((w.alloc (.cells #[.slice d.bA d.bn d.bc, .slice d.pA d.pn d.pc, .slice d.rA d.rn d.rc, .int .i64 d.arms] 26)).alloc (.cells #[.slice s.cA s.cl.length s.cc, .slice s.lA s.ll.length s.lc, .slice s.tA s.tl.length s.tc, .int .i64 s.st, .int .i64 s.inn, .int .i64 s.out] 31)).alloc (.cells #[.slice none 0 0, .slice none 0 0, .slice none 0 0, .int .i64 0, .int .i64 0, .int .i64 0] 31)) := ⟨_, rfl⟩
 have HB0 := Lib.hid (show Below w.heap.size w w0 by rw [hw0]; exact Below.al (Below.al (Below.al (Below.refl _ _) _) _) _)
 have HD0 := Lib.hid (hd.then HB0.out)
 have HS0 := Lib.hid (hs.then HB0.out)
 obtain ⟨Gd, hGd⟩ : ∃ Gd, Gd = w.heap.size := ⟨_, rfl⟩
 obtain ⟨Gs, hGs⟩ : ∃ Gs, Gs = w.heap.size + 1 := ⟨_, rfl⟩
 obtain ⟨Gr, hGr⟩ : ∃ Gr, Gr = w.heap.size + 1 + 1 := ⟨_, rfl⟩
 have HK := Lib.hid (show DkAt w0 Gd d by rw [hw0, hGd]; exact ((Cells4.new w _ _ _ _ _).below (Below.al (Below.refl _ _) _)).below (Below.al (Below.refl _ _) _))
 have HT := Lib.hid (show SkAt w0 Gs s by
  have e : (w.alloc (.cells #[.slice d.bA d.bn d.bc, .slice d.pA d.pn d.pc, .slice d.rA d.rn d.rc, .int .i64 d.arms] 26)).heap.size = w.heap.size + 1 := by simp
  rw [hw0, hGs, ← e]
  exact (Cells6.new (w.alloc (.cells #[.slice d.bA d.bn d.bc, .slice d.pA d.pn d.pc, .slice d.rA d.rn d.rc, .int .i64 d.arms] 26)) 31 _ _ _ _ _ _).below (Below.al (Below.refl _ _) _))
 have HR := Lib.hid (show Cells6 w0 Gr (.slice none 0 0) (.slice none 0 0) (.slice none 0 0) (.int .i64 0) (.int .i64 0) (.int .i64 0) by
  have e : ((w.alloc (.cells #[.slice d.bA d.bn d.bc, .slice d.pA d.pn d.pc, .slice d.rA d.rn d.rc, .int .i64 d.arms] 26)).alloc (.cells #[.slice s.cA s.cl.length s.cc, .slice s.lA s.ll.length s.lc, .slice s.tA s.tl.length s.tc, .int .i64 s.st, .int .i64 s.inn, .int .i64 s.out] 31)).heap.size = w.heap.size + 1 + 1 := by simp
  rw [hw0, hGr, ← e]
  exact Cells6.new ((w.alloc (.cells #[.slice d.bA d.bn d.bc, .slice d.pA d.pn d.pc, .slice d.rA d.rn d.rc, .int .i64 d.arms] 26)).alloc (.cells #[.slice s.cA s.cl.length s.cc, .slice s.lA s.ll.length s.lc, .slice s.tA s.tl.length s.tc, .int .i64 s.st, .int .i64 s.inn, .int .i64 s.out] 31)) 31 _ _ _ _ _ _)
 have HG := Lib.hid (show Gd = w.heap.size ∧ Gs = w.heap.size + 1 ∧ Gr = w.heap.size + 2 ∧ w0.heap.size = w.heap.size + 3 from ⟨hGd, hGs, by omega, by rw [hw0]; simp⟩)
 have HMY := Lib.hid (rmay_any d s b' w0 HD0.out HS0.out)
 have HNO := Lib.hid (fun h => @cgE_no d s.ab b' (moE d s.ab x y n) h)
 have HYE := Lib.hid (fun h => @cgE_yes d s.ab b' h)
 have HP := Lib.hid (fun (h : rgS d s.ab = true) => And.intro (isP_eq d (rg_ab d s.ab h).2.2.2.1 x).1 (isP_eq d (rg_ab d s.ab h).2.2.2.1 y).1)
 have HQ := Lib.hid (fun (h : rgS d s.ab = true) => rg_ab d s.ab h)
 have HLN := Lib.hid (fun (h : rgS d s.ab = true) => rg_lens d s h)
 have HWX := Lib.hid (fun w => well_any s x w)
 have HWY := Lib.hid (fun w => well_any s y w)
 have HFL := Lib.hid (show moE d s.ab x y n = (if isP d 1 x = true ∧ isP d 1 y = true then (if x = y then 1 else Cel.mvE (s.cl.getD x.toNat ce0) (s.cl.getD y.toNat ce0) n) else 3) from rfl)
 have HAA := Lib.hid (show moA s.ab b' x y n = ptAb (ptAb s.ab b' x.toNat (Cel.mvX (s.cl.getD x.toNat ce0) (s.cl.getD y.toNat ce0) n)) b' y.toNat (Cel.mvY (s.cl.getD x.toNat ce0) (s.cl.getD y.toNat ce0) n) from rfl)
 generalize moE d s.ab x y n = F at *
 generalize moA s.ab b' x y n = dA at *
 obtain ⟨E, hE⟩ : ∃ E, cgE d s.ab b' F = E := ⟨_, rfl⟩
 rw [hE] at HNO
 rw [hE]
 have HE := Lib.hid hE
 clear hE
 obtain ⟨mm, hm⟩ : ∃ mm, cgE d s.ab b' 0 = mm := ⟨_, rfl⟩
 rw [hm] at HMY HNO HYE
 clear hm
 obtain ⟨d0, d1, d2, d3, -⟩ := HK.out
 obtain ⟨t0, t1, t2, t3, t4, t5, -⟩ := HT.out
 rw [hw0, hGd] at d0 d1 d2 d3
 rw [hw0, hGs] at t0 t1 t2 t3 t4 t5
 go_enter Tryz.func23, Tryz.ntmps23
 go_wp2_with fail
 rw [← hw0]
 try rw [← hGr]
 try rw [← hGs]
 try rw [← hGd]
 clear hw0 hGd hGs hGr d0 d1 d2 d3 t0 t1 t2 t3 t4 t5
 refine HMY.out.mono ?_
 rintro e w1 ⟨rfl, hb1⟩
 have HB1 := Lib.hid hb1
 clear hb1 HMY
 --CUTa
 by_cases h0 : mm = 0
 case neg =>
  have h0b : (mm != 0) = true := by simpa using h0
  have hEm : E = mm := HNO.out h0
  subst hEm
  have HNZ := Lib.hid h0
  clear h0
  obtain ⟨r0, r1, r2, r3, r4, r5, y0, y1, y2, y3, y4, y5, -⟩ := HR.out.below HB1.out
  go_wp2
  obtain ⟨q0, q1, q2, q3, q4, q5, -⟩ := (HR.out.below HB1.out).set (.slice none 0 0) (.slice none 0 0) (.slice none 0 0) (.int .i64 0) (.int .i64 0) (.int .i64 0)
  refine bodyPost_ret (v := .tuple #[stk0.v, .int .i64 (E)]) ?_ rfl ?_
  ·simp [results, Tryz.results23, go_sem, q0, q1, q2, q3, q4, q5, stk0]
  ·exact ⟨stk0, rfl, stk0_in _ _, by first | rfl | (rw [if_neg HNZ.out]; rfl), below_set6 (Below.call HB0.out HB1.out) (by have := HG.out; omega) _ _ _ _ _ _, stk0_far _⟩
 subst h0
 obtain ⟨hrg, hEF⟩ := HYE.out rfl
 have hEF : F = E := (hEF F).symm.trans HE.out
 subst hEF
 have HPP := Lib.hid (HP.out hrg)
 have HQQ := Lib.hid (HQ.out hrg)
 have HLL := Lib.hid (HLN.out hrg)
 clear hrg HP HQ HLN HNO HYE HE
 --CUTb
 obtain ⟨t0, t1, t2, t3, t4, t5, -⟩ := HT.out.below HB1.out
 go_wp2_with fail
 clear t0 t1 t2 t3 t4 t5
 --CUTc
 refine (HWX.out w1).mono ?_
 rintro e w2 ⟨rfl, hb2⟩
 have HB2 := Lib.hid (show Below w0.heap.size w0 w2 from HB1.out.trans (hb2.mono HB1.out.size))
 clear hb2 HB1
 by_cases hx : 0 ≤ x ∧ x < (s.cl.length : Int)
 case neg =>
  have hEm : F = 3 := by
   rw [HFL.out, if_neg]
   intro h
   have h1 := h.1
   rw [HPP.out.1, decide_eq_true_eq] at h1
   have hwn := HLL.out.2.2.2.2.1
   omega
  subst hEm
  rw [decide_eq_false hx]
  clear hx
  obtain ⟨r0, r1, r2, r3, r4, r5, y0, y1, y2, y3, y4, y5, -⟩ := HR.out.below HB2.out
  go_wp2
  obtain ⟨q0, q1, q2, q3, q4, q5, -⟩ := (HR.out.below HB2.out).set (.slice none 0 0) (.slice none 0 0) (.slice none 0 0) (.int .i64 0) (.int .i64 0) (.int .i64 0)
  refine bodyPost_ret (v := .tuple #[stk0.v, .int .i64 (3)]) ?_ rfl ?_
  ·simp [results, Tryz.results23, go_sem, q0, q1, q2, q3, q4, q5, stk0]
  ·exact ⟨stk0, rfl, stk0_in _ _, by first | rfl | (rw [if_neg (by decide)]; rfl), below_set6 (Below.call HB0.out HB2.out) (by have := HG.out; omega) _ _ _ _ _ _, stk0_far _⟩
 rw [decide_eq_true hx]
 obtain ⟨t0, t1, t2, t3, t4, t5, -⟩ := HT.out.below HB2.out
 go_wp2_with fail
 clear t0 t1 t2 t3 t4 t5
 --CUTd
 refine (HWY.out w2).mono ?_
 rintro e w3 ⟨rfl, hb3⟩
 have HB3 := Lib.hid (show Below w0.heap.size w0 w3 from HB2.out.trans (hb3.mono HB2.out.size))
 clear hb3 HB2
 --CUTj
 by_cases hy : 0 ≤ y ∧ y < (s.cl.length : Int)
 case neg =>
  have hEm : F = 3 := by
   rw [HFL.out, if_neg]
   intro h
   have h1 := h.2
   rw [HPP.out.2, decide_eq_true_eq] at h1
   have hwn := HLL.out.2.2.2.2.1
   omega
  subst hEm
  rw [decide_eq_false hy]
  clear hx hy
  obtain ⟨r0, r1, r2, r3, r4, r5, y0, y1, y2, y3, y4, y5, -⟩ := HR.out.below HB3.out
  go_wp2
  obtain ⟨q0, q1, q2, q3, q4, q5, -⟩ := (HR.out.below HB3.out).set (.slice none 0 0) (.slice none 0 0) (.slice none 0 0) (.int .i64 0) (.int .i64 0) (.int .i64 0)
  refine bodyPost_ret (v := .tuple #[stk0.v, .int .i64 (3)]) ?_ rfl ?_
  ·simp [results, Tryz.results23, go_sem, q0, q1, q2, q3, q4, q5, stk0]
  ·exact ⟨stk0, rfl, stk0_in _ _, by first | rfl | (rw [if_neg (by decide)]; rfl), below_set6 (Below.call HB0.out HB3.out) (by have := HG.out; omega) _ _ _ _ _ _, stk0_far _⟩
 --CUTk
 rw [decide_eq_true hy]
 have HFL := Lib.hid (show F = (if x = y then 1 else Cel.mvE (s.cl.getD x.toNat ce0) (s.cl.getD y.toNat ce0) n) from by rw [HFL.out, if_pos ⟨by rw [HPP.out.1, decide_eq_true_eq]; have hwn := HLL.out.2.2.2.2.1; omega, by rw [HPP.out.2, decide_eq_true_eq]; have hwn := HLL.out.2.2.2.2.1; omega⟩])
 --CUTl
 obtain ⟨kx, rfl⟩ := Int.eq_ofNat_of_zero_le hx.1
 obtain ⟨ky, rfl⟩ := Int.eq_ofNat_of_zero_le hy.1
 have ekx : (kx : Int).toNat = kx := by omega
 have eky : (ky : Int).toNat = ky := by omega
 rw [ekx, eky] at HFL HAA
 have hkx : kx < s.cl.length := by omega
 have hky : ky < s.cl.length := by omega
 have HKX := Lib.hid (show kx < s.cl.length ∧ kx < s.ll.length from ⟨hkx, by have h1 := HLL.out.2.2.2.2.1; have h2 := HLL.out.2.2.2.2.2.1; omega⟩)
 have HKY := Lib.hid (show ky < s.cl.length ∧ ky < s.ll.length from ⟨hky, by have h1 := HLL.out.2.2.2.2.1; have h2 := HLL.out.2.2.2.2.2.1; omega⟩)
 clear hx hy ekx eky HPP
 --CUTe
 by_cases hxy : kx = ky
 case pos =>
  subst hxy
  have hEm : F = 1 := by rw [HFL.out, if_pos rfl]
  subst hEm
  clear hkx hky
  obtain ⟨r0, r1, r2, r3, r4, r5, y0, y1, y2, y3, y4, y5, -⟩ := HR.out.below HB3.out
  go_wp2
  obtain ⟨q0, q1, q2, q3, q4, q5, -⟩ := (HR.out.below HB3.out).set (.slice none 0 0) (.slice none 0 0) (.slice none 0 0) (.int .i64 0) (.int .i64 0) (.int .i64 0)
  refine bodyPost_ret (v := .tuple #[stk0.v, .int .i64 (1)]) ?_ rfl ?_
  ·simp [results, Tryz.results23, go_sem, q0, q1, q2, q3, q4, q5, stk0]
  ·exact ⟨stk0, rfl, stk0_in _ _, by first | rfl | (rw [if_neg (by decide)]; rfl), below_set6 (Below.call HB0.out HB3.out) (by have := HG.out; omega) _ _ _ _ _ _, stk0_far _⟩
 --CUTg
 have hxi : ¬ (kx : Int) = (ky : Int) := by omega
 have hxb : ((kx : Int) == (ky : Int)) = false := by simpa using hxi
 have HFL := Lib.hid (HFL.out.trans (if_neg hxi))
 have HXY := Lib.hid hxy
 obtain ⟨gb, off, eA, -, hcc, hcell⟩ := ce_cells (HS0.out.then HB3.out).c (by omega)
 obtain ⟨c0, c1, c2⟩ := hcell kx hkx
 obtain ⟨e0, e1, e2⟩ := hcell ky hky
 obtain ⟨X, hX⟩ : ∃ X, s.cl.getD kx ce0 = X := ⟨_, rfl⟩
 obtain ⟨Y, hY⟩ : ∃ Y, s.cl.getD ky ce0 = Y := ⟨_, rfl⟩
 rw [hX] at c0 c1 c2 HFL HAA
 rw [hY] at e0 e1 e2 HFL HAA
 have HXX := Lib.hid hX
 have HYY := Lib.hid hY
 obtain ⟨t0, -⟩ := HT.out.below HB3.out
 rw [eA] at t0
 have HS8 := Lib.hid (show ∀ W, Below w3.heap.size w3 W → W.cell? ⟨Gs, 0, none⟩ = some (Value.slice (some ⟨gb, off, none⟩) s.cl.length s.cc) ∧ W.cell? ⟨gb, off + kx * 3, none⟩ = some (.int .i64 X.a) ∧ W.cell? ⟨gb, off + kx * 3 + 1, none⟩ = some (.int .i64 X.b) ∧ W.cell? ⟨gb, off + kx * 3 + 2, none⟩ = some (.int .i64 X.c) ∧ W.cell? ⟨gb, off + ky * 3, none⟩ = some (.int .i64 Y.a) ∧ W.cell? ⟨gb, off + ky * 3 + 1, none⟩ = some (.int .i64 Y.b) ∧ W.cell? ⟨gb, off + ky * 3 + 2, none⟩ = some (.int .i64 Y.c) from fun W h => ⟨keep_cell h t0, keep_cell h c0, keep_cell h c1, keep_cell h c2, keep_cell h e0, keep_cell h e1, keep_cell h e2⟩)
 have hkxi : (kx : Int) < s.cl.length := by omega
 have hkyi : (ky : Int) < s.cl.length := by omega
 have HMV := Lib.hid (fun w => Cel.rmove_any X Y n hn w)
 --CUTh
 have HMM := Lib.hid (show F = 0 → (Cel.mvX X Y n).b - X.b = -(max n 0) ∧ (Cel.mvY X Y n).b - Y.b = max n 0 from fun h => by
  rw [HFL.out] at h
  obtain ⟨m1, m2, m3, m4⟩ := mv_ok h
  rw [m3, m4]
  exact ⟨chV_b m1, chV_b m2⟩)
 have HFX := Lib.hid (show (Cel.mvX X Y n).Fit ∧ (Cel.mvY X Y n).Fit from ⟨by
  unfold Cel.mvX
  split
  ·exact chV_fit _ _
  ·exact ⟨by decide, by decide, by decide⟩, by
  unfold Cel.mvY
  split
  ·exact chV_fit _ _
  ·exact ⟨by decide, by decide, by decide⟩⟩)
 --CUTi
 rw [← HFL.out] at HMV
 generalize Cel.mvX X Y n = MX at *
 generalize Cel.mvY X Y n = MY at *
 clear hcell hX hY eA c0 c1 c2 e0 e1 e2 t0 hkx hky hxy HFL
 --CUTf
 go_upto_region 8 with fail
 --CUT1
 clear hxi hxb
 go_cut [15, 16, 17] from 18 (fun t15 t16 t17 wx => ∃ ga gb' : Nat, t15 = .pointer (some ⟨ga, 0, none⟩) ∧ t16 = .pointer (some ⟨gb', 0, none⟩) ∧ t17 = .int .i64 F ∧ Hid (Cells3 wx ga (.int .i64 MX.a) (.int .i64 MX.b) (.int .i64 MX.c)) ∧ Hid (Cells3 wx gb' (.int .i64 MY.a) (.int .i64 MY.b) (.int .i64 MY.c)) ∧ Hid (Below w3.heap.size w3 wx))
 case first =>
  clear HMM HFX HXX HYY HAA HXY HLL HQQ HWX HWY HKX HKY HT HK HR HG HD0 HS0
  refine wp_region_held_drew (S := fun w' => w'.cell? ⟨Gs, 0, none⟩ = some (Value.slice (some ⟨gb, off, none⟩) s.cl.length s.cc) ∧ w'.cell? ⟨gb, off + kx * 3, none⟩ = some (.int .i64 X.a) ∧ w'.cell? ⟨gb, off + kx * 3 + 1, none⟩ = some (.int .i64 X.b) ∧ w'.cell? ⟨gb, off + kx * 3 + 2, none⟩ = some (.int .i64 X.c) ∧ w'.cell? ⟨gb, off + ky * 3, none⟩ = some (.int .i64 Y.a) ∧ w'.cell? ⟨gb, off + ky * 3 + 1, none⟩ = some (.int .i64 Y.b) ∧ w'.cell? ⟨gb, off + ky * 3 + 2, none⟩ = some (.int .i64 Y.c)) (by kernel_rfl) ?_ (fun hHeld => ?_)
  ·exact HS8.out _ (Below.refl _ _).drew
  have BB0 := Lib.hid (show Below w3.heap.size w3 w3.drew from (Below.refl _ _).drew)
  generalize w3.drew = v0 at *
  refine tk 0 43 rfl ?_
  try simp only [sp]
  refine tk 1 44 rfl ?_
  try simp only [sp]
  refine tk 2 45 rfl ?_
  try simp only [sp]
  refine tk 3 46 rfl ?_
  try simp only [sp]
  refine tk 4 47 rfl ?_
  try simp only [sp]
  refine tk 5 48 rfl ?_
  try simp only [sp]
  refine tk 6 49 rfl ?_
  try simp only [sp]
  refine tk 7 50 rfl ?_
  try simp only [sp]
  refine tk 8 51 rfl ?_
  try simp only [sp]
  refine tk 9 52 rfl ?_
  try simp only [sp]
  refine tk 10 53 rfl ?_
  try simp only [sp]
  refine wpAnyH_ready (rs := [11, 16, 17]) (by kernel_rfl) (by simp) ?_
  refine AllReadyH.cons (o := ⟨some 54, _, _, _, _, _⟩) rfl (fun K hK => ?_) ?_
  ·go_simp
   refine (HMV.out _).mono ?_
   rintro e v1x ⟨rfl, hb⟩
   have BB1 := Lib.hid (BB0.out.trans (hb.mono BB0.out.size))
   clear hb hHeld BB0
   go_wp2_with fail
   refine hK.out _ _ (HS8.out _ BB1.out) (fun hHeld => ?_)
   clear hK K
   try simp only [sp]
   refine tk 12 42 rfl ?_
   try simp only [sp]
   refine tk 13 55 rfl ?_
   try simp only [sp]
   refine tk 14 56 rfl ?_
   try simp only [sp]
   refine tk 15 57 rfl ?_
   try simp only [sp]
   refine wpAnyH_ready (rs := [16, 17]) (by kernel_rfl) (by simp) ?_
   refine AllReadyH.cons (o := ⟨some 15, _, _, _, _, _⟩) rfl (fun K hK => ?_) ?_
   ·go_simp
    have hb := Below.al (Below.refl _ v1x) (.cells #[.int .i64 0, .int .i64 0, .int .i64 0] 58)
    have BB2 := Lib.hid (BB1.out.trans (hb.mono BB1.out.size))
    have A2 := Lib.hid (Cells3.new v1x 58 (.int .i64 0) (.int .i64 0) (.int .i64 0))
    have ga2 := Lib.hid BB1.out.size
    clear hb hHeld BB1
    generalize v1x.alloc (.cells #[.int .i64 0, .int .i64 0, .int .i64 0] 58) = v2x at *
    generalize v1x.heap.size = ga at *
    refine hK.out _ _ (HS8.out _ BB2.out) (fun hHeld => ?_)
    clear hK K
    try simp only [sp]
    refine wpAnyH_ready (rs := [17]) (by kernel_rfl) (by simp) ?_
    refine AllReadyH.cons (o := ⟨some 16, _, _, _, _, _⟩) rfl (fun K hK => ?_) AllReadyH.nil
    go_simp
    have hb := Below.al (Below.refl _ v2x) (.cells #[.int .i64 0, .int .i64 0, .int .i64 0] 58)
    have BB3 := Lib.hid (BB2.out.trans (hb.mono BB2.out.size))
    have B3 := Lib.hid (Cells3.new v2x 58 (.int .i64 0) (.int .i64 0) (.int .i64 0))
    have gb3 := Lib.hid BB2.out.size
    have ne3 := Lib.hid (show ga ≠ v2x.heap.size from by obtain ⟨_, _, _, _, _, _, sl⟩ := A2.out; omega)
    have A3 := Lib.hid (A2.out.below hb)
    clear hb hHeld BB2 A2
    generalize v2x.alloc (.cells #[.int .i64 0, .int .i64 0, .int .i64 0] 58) = v3x at *
    generalize v2x.heap.size = gb' at *
    refine hK.out _ _ (HS8.out _ BB3.out) (fun hHeld => ?_)
    clear hK K
    try simp only [sp]
    refine wpAnyH_ready (rs := [18]) (by kernel_rfl) (by simp) ?_
    refine AllReadyH.cons (o := ⟨none, _, _, _, _, _⟩) rfl (fun K hK => ?_) AllReadyH.nil
    obtain ⟨s0, s1, s2, y0, y1, y2, sl⟩ := A3.out
    go_simp
    clear s0 s1 s2 y0 y1 y2 sl
    have BB4 := Lib.hid (show Below w3.heap.size w3 (((v3x.setCell ⟨ga, 0, none⟩ (.int .i64 MX.a)).setCell ⟨ga, 1, none⟩ (.int .i64 MX.b)).setCell ⟨ga, 2, none⟩ (.int .i64 MX.c)) from below_set3 BB3.out ga2.out (.int .i64 MX.a) (.int .i64 MX.b) (.int .i64 MX.c))
    have A4 := Lib.hid (show Cells3 (((v3x.setCell ⟨ga, 0, none⟩ (.int .i64 MX.a)).setCell ⟨ga, 1, none⟩ (.int .i64 MX.b)).setCell ⟨ga, 2, none⟩ (.int .i64 MX.c)) ga (.int .i64 MX.a) (.int .i64 MX.b) (.int .i64 MX.c) from A3.out.set (.int .i64 MX.a) (.int .i64 MX.b) (.int .i64 MX.c))
    have B4 := Lib.hid (show Cells3 (((v3x.setCell ⟨ga, 0, none⟩ (.int .i64 MX.a)).setCell ⟨ga, 1, none⟩ (.int .i64 MX.b)).setCell ⟨ga, 2, none⟩ (.int .i64 MX.c)) gb' (.int .i64 0) (.int .i64 0) (.int .i64 0) from B3.out.apart (by have h := ne3.out; omega) (.int .i64 MX.a) (.int .i64 MX.b) (.int .i64 MX.c))
    clear hHeld BB3 A3 B3
    generalize ((v3x.setCell ⟨ga, 0, none⟩ (.int .i64 MX.a)).setCell ⟨ga, 1, none⟩ (.int .i64 MX.b)).setCell ⟨ga, 2, none⟩ (.int .i64 MX.c) = v4x at *
    refine hK.out _ _ (HS8.out _ BB4.out) (fun hHeld => ?_)
    clear hK K
    try simp only [sp]
    refine wpAnyH_ready (rs := [19]) (by kernel_rfl) (by simp) ?_
    refine AllReadyH.cons (o := ⟨none, _, _, _, _, _⟩) rfl (fun K hK => ?_) AllReadyH.nil
    obtain ⟨s0, s1, s2, y0, y1, y2, sl⟩ := B4.out
    go_simp
    clear s0 s1 s2 y0 y1 y2 sl
    have BB5 := Lib.hid (show Below w3.heap.size w3 (((v4x.setCell ⟨gb', 0, none⟩ (.int .i64 MY.a)).setCell ⟨gb', 1, none⟩ (.int .i64 MY.b)).setCell ⟨gb', 2, none⟩ (.int .i64 MY.c)) from below_set3 BB4.out gb3.out (.int .i64 MY.a) (.int .i64 MY.b) (.int .i64 MY.c))
    have B5 := Lib.hid (show Cells3 (((v4x.setCell ⟨gb', 0, none⟩ (.int .i64 MY.a)).setCell ⟨gb', 1, none⟩ (.int .i64 MY.b)).setCell ⟨gb', 2, none⟩ (.int .i64 MY.c)) gb' (.int .i64 MY.a) (.int .i64 MY.b) (.int .i64 MY.c) from B4.out.set (.int .i64 MY.a) (.int .i64 MY.b) (.int .i64 MY.c))
    have A5 := Lib.hid (show Cells3 (((v4x.setCell ⟨gb', 0, none⟩ (.int .i64 MY.a)).setCell ⟨gb', 1, none⟩ (.int .i64 MY.b)).setCell ⟨gb', 2, none⟩ (.int .i64 MY.c)) ga (.int .i64 MX.a) (.int .i64 MX.b) (.int .i64 MX.c) from A4.out.apart (by have h := ne3.out; omega) (.int .i64 MY.a) (.int .i64 MY.b) (.int .i64 MY.c))
    clear hHeld BB4 B4 A4
    generalize ((v4x.setCell ⟨gb', 0, none⟩ (.int .i64 MY.a)).setCell ⟨gb', 1, none⟩ (.int .i64 MY.b)).setCell ⟨gb', 2, none⟩ (.int .i64 MY.c) = v5x at *
    refine hK.out _ _ (HS8.out _ BB5.out) (fun hHeld => ?_)
    clear hK K
    try simp only [sp]
    refine tk 20 17 rfl ?_
    try simp only [sp]
    refine wpAnyH_done (by kernel_rfl) ?_ _
    go_wp2
    go_meet
    exact ⟨ga, gb', rfl, rfl, rfl, A5, B5, BB5⟩
   refine AllReadyH.cons (o := ⟨some 16, _, _, _, _, _⟩) rfl (fun K hK => ?_) AllReadyH.nil
   go_simp
   have hb := Below.al (Below.refl _ v1x) (.cells #[.int .i64 0, .int .i64 0, .int .i64 0] 58)
   have BB6 := Lib.hid (BB1.out.trans (hb.mono BB1.out.size))
   have B6 := Lib.hid (Cells3.new v1x 58 (.int .i64 0) (.int .i64 0) (.int .i64 0))
   have gb6 := Lib.hid BB1.out.size
   clear hb hHeld BB1
   generalize v1x.alloc (.cells #[.int .i64 0, .int .i64 0, .int .i64 0] 58) = v6x at *
   generalize v1x.heap.size = gb' at *
   refine hK.out _ _ (HS8.out _ BB6.out) (fun hHeld => ?_)
   clear hK K
   try simp only [sp]
   refine wpAnyH_ready (rs := [16]) (by kernel_rfl) (by simp) ?_
   refine AllReadyH.cons (o := ⟨some 15, _, _, _, _, _⟩) rfl (fun K hK => ?_) AllReadyH.nil
   go_simp
   have hb := Below.al (Below.refl _ v6x) (.cells #[.int .i64 0, .int .i64 0, .int .i64 0] 58)
   have BB7 := Lib.hid (BB6.out.trans (hb.mono BB6.out.size))
   have A7 := Lib.hid (Cells3.new v6x 58 (.int .i64 0) (.int .i64 0) (.int .i64 0))
   have ga7 := Lib.hid BB6.out.size
   have ne7 := Lib.hid (show gb' ≠ v6x.heap.size from by obtain ⟨_, _, _, _, _, _, sl⟩ := B6.out; omega)
   have B7 := Lib.hid (B6.out.below hb)
   clear hb hHeld BB6 B6
   generalize v6x.alloc (.cells #[.int .i64 0, .int .i64 0, .int .i64 0] 58) = v7x at *
   generalize v6x.heap.size = ga at *
   refine hK.out _ _ (HS8.out _ BB7.out) (fun hHeld => ?_)
   clear hK K
   try simp only [sp]
   refine wpAnyH_ready (rs := [18]) (by kernel_rfl) (by simp) ?_
   refine AllReadyH.cons (o := ⟨none, _, _, _, _, _⟩) rfl (fun K hK => ?_) AllReadyH.nil
   obtain ⟨s0, s1, s2, y0, y1, y2, sl⟩ := A7.out
   go_simp
   clear s0 s1 s2 y0 y1 y2 sl
   have BB8 := Lib.hid (show Below w3.heap.size w3 (((v7x.setCell ⟨ga, 0, none⟩ (.int .i64 MX.a)).setCell ⟨ga, 1, none⟩ (.int .i64 MX.b)).setCell ⟨ga, 2, none⟩ (.int .i64 MX.c)) from below_set3 BB7.out ga7.out (.int .i64 MX.a) (.int .i64 MX.b) (.int .i64 MX.c))
   have A8 := Lib.hid (show Cells3 (((v7x.setCell ⟨ga, 0, none⟩ (.int .i64 MX.a)).setCell ⟨ga, 1, none⟩ (.int .i64 MX.b)).setCell ⟨ga, 2, none⟩ (.int .i64 MX.c)) ga (.int .i64 MX.a) (.int .i64 MX.b) (.int .i64 MX.c) from A7.out.set (.int .i64 MX.a) (.int .i64 MX.b) (.int .i64 MX.c))
   have B8 := Lib.hid (show Cells3 (((v7x.setCell ⟨ga, 0, none⟩ (.int .i64 MX.a)).setCell ⟨ga, 1, none⟩ (.int .i64 MX.b)).setCell ⟨ga, 2, none⟩ (.int .i64 MX.c)) gb' (.int .i64 0) (.int .i64 0) (.int .i64 0) from B7.out.apart (by have h := ne7.out; omega) (.int .i64 MX.a) (.int .i64 MX.b) (.int .i64 MX.c))
   clear hHeld BB7 A7 B7
   generalize ((v7x.setCell ⟨ga, 0, none⟩ (.int .i64 MX.a)).setCell ⟨ga, 1, none⟩ (.int .i64 MX.b)).setCell ⟨ga, 2, none⟩ (.int .i64 MX.c) = v8x at *
   refine hK.out _ _ (HS8.out _ BB8.out) (fun hHeld => ?_)
   clear hK K
   try simp only [sp]
   refine wpAnyH_ready (rs := [19]) (by kernel_rfl) (by simp) ?_
   refine AllReadyH.cons (o := ⟨none, _, _, _, _, _⟩) rfl (fun K hK => ?_) AllReadyH.nil
   obtain ⟨s0, s1, s2, y0, y1, y2, sl⟩ := B8.out
   go_simp
   clear s0 s1 s2 y0 y1 y2 sl
   have BB9 := Lib.hid (show Below w3.heap.size w3 (((v8x.setCell ⟨gb', 0, none⟩ (.int .i64 MY.a)).setCell ⟨gb', 1, none⟩ (.int .i64 MY.b)).setCell ⟨gb', 2, none⟩ (.int .i64 MY.c)) from below_set3 BB8.out gb6.out (.int .i64 MY.a) (.int .i64 MY.b) (.int .i64 MY.c))
   have B9 := Lib.hid (show Cells3 (((v8x.setCell ⟨gb', 0, none⟩ (.int .i64 MY.a)).setCell ⟨gb', 1, none⟩ (.int .i64 MY.b)).setCell ⟨gb', 2, none⟩ (.int .i64 MY.c)) gb' (.int .i64 MY.a) (.int .i64 MY.b) (.int .i64 MY.c) from B8.out.set (.int .i64 MY.a) (.int .i64 MY.b) (.int .i64 MY.c))
   have A9 := Lib.hid (show Cells3 (((v8x.setCell ⟨gb', 0, none⟩ (.int .i64 MY.a)).setCell ⟨gb', 1, none⟩ (.int .i64 MY.b)).setCell ⟨gb', 2, none⟩ (.int .i64 MY.c)) ga (.int .i64 MX.a) (.int .i64 MX.b) (.int .i64 MX.c) from A8.out.apart (by have h := ne7.out; omega) (.int .i64 MY.a) (.int .i64 MY.b) (.int .i64 MY.c))
   clear hHeld BB8 B8 A8
   generalize ((v8x.setCell ⟨gb', 0, none⟩ (.int .i64 MY.a)).setCell ⟨gb', 1, none⟩ (.int .i64 MY.b)).setCell ⟨gb', 2, none⟩ (.int .i64 MY.c) = v9x at *
   refine hK.out _ _ (HS8.out _ BB9.out) (fun hHeld => ?_)
   clear hK K
   try simp only [sp]
   refine tk 20 17 rfl ?_
   try simp only [sp]
   refine wpAnyH_done (by kernel_rfl) ?_ _
   go_wp2
   go_meet
   exact ⟨ga, gb', rfl, rfl, rfl, A9, B9, BB9⟩
  refine AllReadyH.cons (o := ⟨some 15, _, _, _, _, _⟩) rfl (fun K hK => ?_) ?_
  ·go_simp
   have hb := Below.al (Below.refl _ v0) (.cells #[.int .i64 0, .int .i64 0, .int .i64 0] 58)
   have BB10 := Lib.hid (BB0.out.trans (hb.mono BB0.out.size))
   have A10 := Lib.hid (Cells3.new v0 58 (.int .i64 0) (.int .i64 0) (.int .i64 0))
   have ga10 := Lib.hid BB0.out.size
   clear hb hHeld BB0
   generalize v0.alloc (.cells #[.int .i64 0, .int .i64 0, .int .i64 0] 58) = v10x at *
   generalize v0.heap.size = ga at *
   refine hK.out _ _ (HS8.out _ BB10.out) (fun hHeld => ?_)
   clear hK K
   try simp only [sp]
   refine wpAnyH_ready (rs := [11, 17]) (by kernel_rfl) (by simp) ?_
   refine AllReadyH.cons (o := ⟨some 54, _, _, _, _, _⟩) rfl (fun K hK => ?_) ?_
   ·go_simp
    refine (HMV.out _).mono ?_
    rintro e v11x ⟨rfl, hb⟩
    have BB11 := Lib.hid (BB10.out.trans (hb.mono BB10.out.size))
    have A11 := Lib.hid (A10.out.below hb)
    clear hb hHeld BB10 A10
    go_wp2_with fail
    refine hK.out _ _ (HS8.out _ BB11.out) (fun hHeld => ?_)
    clear hK K
    try simp only [sp]
    refine tk 12 42 rfl ?_
    try simp only [sp]
    refine tk 13 55 rfl ?_
    try simp only [sp]
    refine tk 14 56 rfl ?_
    try simp only [sp]
    refine tk 15 57 rfl ?_
    try simp only [sp]
    refine wpAnyH_ready (rs := [17]) (by kernel_rfl) (by simp) ?_
    refine AllReadyH.cons (o := ⟨some 16, _, _, _, _, _⟩) rfl (fun K hK => ?_) AllReadyH.nil
    go_simp
    have hb := Below.al (Below.refl _ v11x) (.cells #[.int .i64 0, .int .i64 0, .int .i64 0] 58)
    have BB12 := Lib.hid (BB11.out.trans (hb.mono BB11.out.size))
    have B12 := Lib.hid (Cells3.new v11x 58 (.int .i64 0) (.int .i64 0) (.int .i64 0))
    have gb12 := Lib.hid BB11.out.size
    have ne12 := Lib.hid (show ga ≠ v11x.heap.size from by obtain ⟨_, _, _, _, _, _, sl⟩ := A11.out; omega)
    have A12 := Lib.hid (A11.out.below hb)
    clear hb hHeld BB11 A11
    generalize v11x.alloc (.cells #[.int .i64 0, .int .i64 0, .int .i64 0] 58) = v12x at *
    generalize v11x.heap.size = gb' at *
    refine hK.out _ _ (HS8.out _ BB12.out) (fun hHeld => ?_)
    clear hK K
    try simp only [sp]
    refine wpAnyH_ready (rs := [18]) (by kernel_rfl) (by simp) ?_
    refine AllReadyH.cons (o := ⟨none, _, _, _, _, _⟩) rfl (fun K hK => ?_) AllReadyH.nil
    obtain ⟨s0, s1, s2, y0, y1, y2, sl⟩ := A12.out
    go_simp
    clear s0 s1 s2 y0 y1 y2 sl
    have BB13 := Lib.hid (show Below w3.heap.size w3 (((v12x.setCell ⟨ga, 0, none⟩ (.int .i64 MX.a)).setCell ⟨ga, 1, none⟩ (.int .i64 MX.b)).setCell ⟨ga, 2, none⟩ (.int .i64 MX.c)) from below_set3 BB12.out ga10.out (.int .i64 MX.a) (.int .i64 MX.b) (.int .i64 MX.c))
    have A13 := Lib.hid (show Cells3 (((v12x.setCell ⟨ga, 0, none⟩ (.int .i64 MX.a)).setCell ⟨ga, 1, none⟩ (.int .i64 MX.b)).setCell ⟨ga, 2, none⟩ (.int .i64 MX.c)) ga (.int .i64 MX.a) (.int .i64 MX.b) (.int .i64 MX.c) from A12.out.set (.int .i64 MX.a) (.int .i64 MX.b) (.int .i64 MX.c))
    have B13 := Lib.hid (show Cells3 (((v12x.setCell ⟨ga, 0, none⟩ (.int .i64 MX.a)).setCell ⟨ga, 1, none⟩ (.int .i64 MX.b)).setCell ⟨ga, 2, none⟩ (.int .i64 MX.c)) gb' (.int .i64 0) (.int .i64 0) (.int .i64 0) from B12.out.apart (by have h := ne12.out; omega) (.int .i64 MX.a) (.int .i64 MX.b) (.int .i64 MX.c))
    clear hHeld BB12 A12 B12
    generalize ((v12x.setCell ⟨ga, 0, none⟩ (.int .i64 MX.a)).setCell ⟨ga, 1, none⟩ (.int .i64 MX.b)).setCell ⟨ga, 2, none⟩ (.int .i64 MX.c) = v13x at *
    refine hK.out _ _ (HS8.out _ BB13.out) (fun hHeld => ?_)
    clear hK K
    try simp only [sp]
    refine wpAnyH_ready (rs := [19]) (by kernel_rfl) (by simp) ?_
    refine AllReadyH.cons (o := ⟨none, _, _, _, _, _⟩) rfl (fun K hK => ?_) AllReadyH.nil
    obtain ⟨s0, s1, s2, y0, y1, y2, sl⟩ := B13.out
    go_simp
    clear s0 s1 s2 y0 y1 y2 sl
    have BB14 := Lib.hid (show Below w3.heap.size w3 (((v13x.setCell ⟨gb', 0, none⟩ (.int .i64 MY.a)).setCell ⟨gb', 1, none⟩ (.int .i64 MY.b)).setCell ⟨gb', 2, none⟩ (.int .i64 MY.c)) from below_set3 BB13.out gb12.out (.int .i64 MY.a) (.int .i64 MY.b) (.int .i64 MY.c))
    have B14 := Lib.hid (show Cells3 (((v13x.setCell ⟨gb', 0, none⟩ (.int .i64 MY.a)).setCell ⟨gb', 1, none⟩ (.int .i64 MY.b)).setCell ⟨gb', 2, none⟩ (.int .i64 MY.c)) gb' (.int .i64 MY.a) (.int .i64 MY.b) (.int .i64 MY.c) from B13.out.set (.int .i64 MY.a) (.int .i64 MY.b) (.int .i64 MY.c))
    have A14 := Lib.hid (show Cells3 (((v13x.setCell ⟨gb', 0, none⟩ (.int .i64 MY.a)).setCell ⟨gb', 1, none⟩ (.int .i64 MY.b)).setCell ⟨gb', 2, none⟩ (.int .i64 MY.c)) ga (.int .i64 MX.a) (.int .i64 MX.b) (.int .i64 MX.c) from A13.out.apart (by have h := ne12.out; omega) (.int .i64 MY.a) (.int .i64 MY.b) (.int .i64 MY.c))
    clear hHeld BB13 B13 A13
    generalize ((v13x.setCell ⟨gb', 0, none⟩ (.int .i64 MY.a)).setCell ⟨gb', 1, none⟩ (.int .i64 MY.b)).setCell ⟨gb', 2, none⟩ (.int .i64 MY.c) = v14x at *
    refine hK.out _ _ (HS8.out _ BB14.out) (fun hHeld => ?_)
    clear hK K
    try simp only [sp]
    refine tk 20 17 rfl ?_
    try simp only [sp]
    refine wpAnyH_done (by kernel_rfl) ?_ _
    go_wp2
    go_meet
    exact ⟨ga, gb', rfl, rfl, rfl, A14, B14, BB14⟩
   refine AllReadyH.cons (o := ⟨some 16, _, _, _, _, _⟩) rfl (fun K hK => ?_) AllReadyH.nil
   go_simp
   have hb := Below.al (Below.refl _ v10x) (.cells #[.int .i64 0, .int .i64 0, .int .i64 0] 58)
   have BB15 := Lib.hid (BB10.out.trans (hb.mono BB10.out.size))
   have B15 := Lib.hid (Cells3.new v10x 58 (.int .i64 0) (.int .i64 0) (.int .i64 0))
   have gb15 := Lib.hid BB10.out.size
   have ne15 := Lib.hid (show ga ≠ v10x.heap.size from by obtain ⟨_, _, _, _, _, _, sl⟩ := A10.out; omega)
   have A15 := Lib.hid (A10.out.below hb)
   clear hb hHeld BB10 A10
   generalize v10x.alloc (.cells #[.int .i64 0, .int .i64 0, .int .i64 0] 58) = v15x at *
   generalize v10x.heap.size = gb' at *
   refine hK.out _ _ (HS8.out _ BB15.out) (fun hHeld => ?_)
   clear hK K
   try simp only [sp]
   refine wpAnyH_ready (rs := [11]) (by kernel_rfl) (by simp) ?_
   refine AllReadyH.cons (o := ⟨some 54, _, _, _, _, _⟩) rfl (fun K hK => ?_) AllReadyH.nil
   go_simp
   refine (HMV.out _).mono ?_
   rintro e v16x ⟨rfl, hb⟩
   have BB16 := Lib.hid (BB15.out.trans (hb.mono BB15.out.size))
   have A16 := Lib.hid (A15.out.below hb)
   have B16 := Lib.hid (B15.out.below hb)
   clear hb hHeld BB15 A15 B15
   go_wp2_with fail
   refine hK.out _ _ (HS8.out _ BB16.out) (fun hHeld => ?_)
   clear hK K
   try simp only [sp]
   refine tk 12 42 rfl ?_
   try simp only [sp]
   refine tk 13 55 rfl ?_
   try simp only [sp]
   refine tk 14 56 rfl ?_
   try simp only [sp]
   refine tk 15 57 rfl ?_
   try simp only [sp]
   refine wpAnyH_ready (rs := [18]) (by kernel_rfl) (by simp) ?_
   refine AllReadyH.cons (o := ⟨none, _, _, _, _, _⟩) rfl (fun K hK => ?_) AllReadyH.nil
   obtain ⟨s0, s1, s2, y0, y1, y2, sl⟩ := A16.out
   go_simp
   clear s0 s1 s2 y0 y1 y2 sl
   have BB17 := Lib.hid (show Below w3.heap.size w3 (((v16x.setCell ⟨ga, 0, none⟩ (.int .i64 MX.a)).setCell ⟨ga, 1, none⟩ (.int .i64 MX.b)).setCell ⟨ga, 2, none⟩ (.int .i64 MX.c)) from below_set3 BB16.out ga10.out (.int .i64 MX.a) (.int .i64 MX.b) (.int .i64 MX.c))
   have A17 := Lib.hid (show Cells3 (((v16x.setCell ⟨ga, 0, none⟩ (.int .i64 MX.a)).setCell ⟨ga, 1, none⟩ (.int .i64 MX.b)).setCell ⟨ga, 2, none⟩ (.int .i64 MX.c)) ga (.int .i64 MX.a) (.int .i64 MX.b) (.int .i64 MX.c) from A16.out.set (.int .i64 MX.a) (.int .i64 MX.b) (.int .i64 MX.c))
   have B17 := Lib.hid (show Cells3 (((v16x.setCell ⟨ga, 0, none⟩ (.int .i64 MX.a)).setCell ⟨ga, 1, none⟩ (.int .i64 MX.b)).setCell ⟨ga, 2, none⟩ (.int .i64 MX.c)) gb' (.int .i64 0) (.int .i64 0) (.int .i64 0) from B16.out.apart (by have h := ne15.out; omega) (.int .i64 MX.a) (.int .i64 MX.b) (.int .i64 MX.c))
   clear hHeld BB16 A16 B16
   generalize ((v16x.setCell ⟨ga, 0, none⟩ (.int .i64 MX.a)).setCell ⟨ga, 1, none⟩ (.int .i64 MX.b)).setCell ⟨ga, 2, none⟩ (.int .i64 MX.c) = v17x at *
   refine hK.out _ _ (HS8.out _ BB17.out) (fun hHeld => ?_)
   clear hK K
   try simp only [sp]
   refine wpAnyH_ready (rs := [19]) (by kernel_rfl) (by simp) ?_
   refine AllReadyH.cons (o := ⟨none, _, _, _, _, _⟩) rfl (fun K hK => ?_) AllReadyH.nil
   obtain ⟨s0, s1, s2, y0, y1, y2, sl⟩ := B17.out
   go_simp
   clear s0 s1 s2 y0 y1 y2 sl
   have BB18 := Lib.hid (show Below w3.heap.size w3 (((v17x.setCell ⟨gb', 0, none⟩ (.int .i64 MY.a)).setCell ⟨gb', 1, none⟩ (.int .i64 MY.b)).setCell ⟨gb', 2, none⟩ (.int .i64 MY.c)) from below_set3 BB17.out gb15.out (.int .i64 MY.a) (.int .i64 MY.b) (.int .i64 MY.c))
   have B18 := Lib.hid (show Cells3 (((v17x.setCell ⟨gb', 0, none⟩ (.int .i64 MY.a)).setCell ⟨gb', 1, none⟩ (.int .i64 MY.b)).setCell ⟨gb', 2, none⟩ (.int .i64 MY.c)) gb' (.int .i64 MY.a) (.int .i64 MY.b) (.int .i64 MY.c) from B17.out.set (.int .i64 MY.a) (.int .i64 MY.b) (.int .i64 MY.c))
   have A18 := Lib.hid (show Cells3 (((v17x.setCell ⟨gb', 0, none⟩ (.int .i64 MY.a)).setCell ⟨gb', 1, none⟩ (.int .i64 MY.b)).setCell ⟨gb', 2, none⟩ (.int .i64 MY.c)) ga (.int .i64 MX.a) (.int .i64 MX.b) (.int .i64 MX.c) from A17.out.apart (by have h := ne15.out; omega) (.int .i64 MY.a) (.int .i64 MY.b) (.int .i64 MY.c))
   clear hHeld BB17 B17 A17
   generalize ((v17x.setCell ⟨gb', 0, none⟩ (.int .i64 MY.a)).setCell ⟨gb', 1, none⟩ (.int .i64 MY.b)).setCell ⟨gb', 2, none⟩ (.int .i64 MY.c) = v18x at *
   refine hK.out _ _ (HS8.out _ BB18.out) (fun hHeld => ?_)
   clear hK K
   try simp only [sp]
   refine tk 20 17 rfl ?_
   try simp only [sp]
   refine wpAnyH_done (by kernel_rfl) ?_ _
   go_wp2
   go_meet
   exact ⟨ga, gb', rfl, rfl, rfl, A18, B18, BB18⟩
  refine AllReadyH.cons (o := ⟨some 16, _, _, _, _, _⟩) rfl (fun K hK => ?_) AllReadyH.nil
  go_simp
  have hb := Below.al (Below.refl _ v0) (.cells #[.int .i64 0, .int .i64 0, .int .i64 0] 58)
  have BB19 := Lib.hid (BB0.out.trans (hb.mono BB0.out.size))
  have B19 := Lib.hid (Cells3.new v0 58 (.int .i64 0) (.int .i64 0) (.int .i64 0))
  have gb19 := Lib.hid BB0.out.size
  clear hb hHeld BB0
  generalize v0.alloc (.cells #[.int .i64 0, .int .i64 0, .int .i64 0] 58) = v19x at *
  generalize v0.heap.size = gb' at *
  refine hK.out _ _ (HS8.out _ BB19.out) (fun hHeld => ?_)
  clear hK K
  try simp only [sp]
  refine wpAnyH_ready (rs := [11, 16]) (by kernel_rfl) (by simp) ?_
  refine AllReadyH.cons (o := ⟨some 54, _, _, _, _, _⟩) rfl (fun K hK => ?_) ?_
  ·go_simp
   refine (HMV.out _).mono ?_
   rintro e v20x ⟨rfl, hb⟩
   have BB20 := Lib.hid (BB19.out.trans (hb.mono BB19.out.size))
   have B20 := Lib.hid (B19.out.below hb)
   clear hb hHeld BB19 B19
   go_wp2_with fail
   refine hK.out _ _ (HS8.out _ BB20.out) (fun hHeld => ?_)
   clear hK K
   try simp only [sp]
   refine tk 12 42 rfl ?_
   try simp only [sp]
   refine tk 13 55 rfl ?_
   try simp only [sp]
   refine tk 14 56 rfl ?_
   try simp only [sp]
   refine tk 15 57 rfl ?_
   try simp only [sp]
   refine wpAnyH_ready (rs := [16]) (by kernel_rfl) (by simp) ?_
   refine AllReadyH.cons (o := ⟨some 15, _, _, _, _, _⟩) rfl (fun K hK => ?_) AllReadyH.nil
   go_simp
   have hb := Below.al (Below.refl _ v20x) (.cells #[.int .i64 0, .int .i64 0, .int .i64 0] 58)
   have BB21 := Lib.hid (BB20.out.trans (hb.mono BB20.out.size))
   have A21 := Lib.hid (Cells3.new v20x 58 (.int .i64 0) (.int .i64 0) (.int .i64 0))
   have ga21 := Lib.hid BB20.out.size
   have ne21 := Lib.hid (show gb' ≠ v20x.heap.size from by obtain ⟨_, _, _, _, _, _, sl⟩ := B20.out; omega)
   have B21 := Lib.hid (B20.out.below hb)
   clear hb hHeld BB20 B20
   generalize v20x.alloc (.cells #[.int .i64 0, .int .i64 0, .int .i64 0] 58) = v21x at *
   generalize v20x.heap.size = ga at *
   refine hK.out _ _ (HS8.out _ BB21.out) (fun hHeld => ?_)
   clear hK K
   try simp only [sp]
   refine wpAnyH_ready (rs := [18]) (by kernel_rfl) (by simp) ?_
   refine AllReadyH.cons (o := ⟨none, _, _, _, _, _⟩) rfl (fun K hK => ?_) AllReadyH.nil
   obtain ⟨s0, s1, s2, y0, y1, y2, sl⟩ := A21.out
   go_simp
   clear s0 s1 s2 y0 y1 y2 sl
   have BB22 := Lib.hid (show Below w3.heap.size w3 (((v21x.setCell ⟨ga, 0, none⟩ (.int .i64 MX.a)).setCell ⟨ga, 1, none⟩ (.int .i64 MX.b)).setCell ⟨ga, 2, none⟩ (.int .i64 MX.c)) from below_set3 BB21.out ga21.out (.int .i64 MX.a) (.int .i64 MX.b) (.int .i64 MX.c))
   have A22 := Lib.hid (show Cells3 (((v21x.setCell ⟨ga, 0, none⟩ (.int .i64 MX.a)).setCell ⟨ga, 1, none⟩ (.int .i64 MX.b)).setCell ⟨ga, 2, none⟩ (.int .i64 MX.c)) ga (.int .i64 MX.a) (.int .i64 MX.b) (.int .i64 MX.c) from A21.out.set (.int .i64 MX.a) (.int .i64 MX.b) (.int .i64 MX.c))
   have B22 := Lib.hid (show Cells3 (((v21x.setCell ⟨ga, 0, none⟩ (.int .i64 MX.a)).setCell ⟨ga, 1, none⟩ (.int .i64 MX.b)).setCell ⟨ga, 2, none⟩ (.int .i64 MX.c)) gb' (.int .i64 0) (.int .i64 0) (.int .i64 0) from B21.out.apart (by have h := ne21.out; omega) (.int .i64 MX.a) (.int .i64 MX.b) (.int .i64 MX.c))
   clear hHeld BB21 A21 B21
   generalize ((v21x.setCell ⟨ga, 0, none⟩ (.int .i64 MX.a)).setCell ⟨ga, 1, none⟩ (.int .i64 MX.b)).setCell ⟨ga, 2, none⟩ (.int .i64 MX.c) = v22x at *
   refine hK.out _ _ (HS8.out _ BB22.out) (fun hHeld => ?_)
   clear hK K
   try simp only [sp]
   refine wpAnyH_ready (rs := [19]) (by kernel_rfl) (by simp) ?_
   refine AllReadyH.cons (o := ⟨none, _, _, _, _, _⟩) rfl (fun K hK => ?_) AllReadyH.nil
   obtain ⟨s0, s1, s2, y0, y1, y2, sl⟩ := B22.out
   go_simp
   clear s0 s1 s2 y0 y1 y2 sl
   have BB23 := Lib.hid (show Below w3.heap.size w3 (((v22x.setCell ⟨gb', 0, none⟩ (.int .i64 MY.a)).setCell ⟨gb', 1, none⟩ (.int .i64 MY.b)).setCell ⟨gb', 2, none⟩ (.int .i64 MY.c)) from below_set3 BB22.out gb19.out (.int .i64 MY.a) (.int .i64 MY.b) (.int .i64 MY.c))
   have B23 := Lib.hid (show Cells3 (((v22x.setCell ⟨gb', 0, none⟩ (.int .i64 MY.a)).setCell ⟨gb', 1, none⟩ (.int .i64 MY.b)).setCell ⟨gb', 2, none⟩ (.int .i64 MY.c)) gb' (.int .i64 MY.a) (.int .i64 MY.b) (.int .i64 MY.c) from B22.out.set (.int .i64 MY.a) (.int .i64 MY.b) (.int .i64 MY.c))
   have A23 := Lib.hid (show Cells3 (((v22x.setCell ⟨gb', 0, none⟩ (.int .i64 MY.a)).setCell ⟨gb', 1, none⟩ (.int .i64 MY.b)).setCell ⟨gb', 2, none⟩ (.int .i64 MY.c)) ga (.int .i64 MX.a) (.int .i64 MX.b) (.int .i64 MX.c) from A22.out.apart (by have h := ne21.out; omega) (.int .i64 MY.a) (.int .i64 MY.b) (.int .i64 MY.c))
   clear hHeld BB22 B22 A22
   generalize ((v22x.setCell ⟨gb', 0, none⟩ (.int .i64 MY.a)).setCell ⟨gb', 1, none⟩ (.int .i64 MY.b)).setCell ⟨gb', 2, none⟩ (.int .i64 MY.c) = v23x at *
   refine hK.out _ _ (HS8.out _ BB23.out) (fun hHeld => ?_)
   clear hK K
   try simp only [sp]
   refine tk 20 17 rfl ?_
   try simp only [sp]
   refine wpAnyH_done (by kernel_rfl) ?_ _
   go_wp2
   go_meet
   exact ⟨ga, gb', rfl, rfl, rfl, A23, B23, BB23⟩
  refine AllReadyH.cons (o := ⟨some 15, _, _, _, _, _⟩) rfl (fun K hK => ?_) AllReadyH.nil
  go_simp
  have hb := Below.al (Below.refl _ v19x) (.cells #[.int .i64 0, .int .i64 0, .int .i64 0] 58)
  have BB24 := Lib.hid (BB19.out.trans (hb.mono BB19.out.size))
  have A24 := Lib.hid (Cells3.new v19x 58 (.int .i64 0) (.int .i64 0) (.int .i64 0))
  have ga24 := Lib.hid BB19.out.size
  have ne24 := Lib.hid (show gb' ≠ v19x.heap.size from by obtain ⟨_, _, _, _, _, _, sl⟩ := B19.out; omega)
  have B24 := Lib.hid (B19.out.below hb)
  clear hb hHeld BB19 B19
  generalize v19x.alloc (.cells #[.int .i64 0, .int .i64 0, .int .i64 0] 58) = v24x at *
  generalize v19x.heap.size = ga at *
  refine hK.out _ _ (HS8.out _ BB24.out) (fun hHeld => ?_)
  clear hK K
  try simp only [sp]
  refine wpAnyH_ready (rs := [11]) (by kernel_rfl) (by simp) ?_
  refine AllReadyH.cons (o := ⟨some 54, _, _, _, _, _⟩) rfl (fun K hK => ?_) AllReadyH.nil
  go_simp
  refine (HMV.out _).mono ?_
  rintro e v25x ⟨rfl, hb⟩
  have BB25 := Lib.hid (BB24.out.trans (hb.mono BB24.out.size))
  have A25 := Lib.hid (A24.out.below hb)
  have B25 := Lib.hid (B24.out.below hb)
  clear hb hHeld BB24 A24 B24
  go_wp2_with fail
  refine hK.out _ _ (HS8.out _ BB25.out) (fun hHeld => ?_)
  clear hK K
  try simp only [sp]
  refine tk 12 42 rfl ?_
  try simp only [sp]
  refine tk 13 55 rfl ?_
  try simp only [sp]
  refine tk 14 56 rfl ?_
  try simp only [sp]
  refine tk 15 57 rfl ?_
  try simp only [sp]
  refine wpAnyH_ready (rs := [18]) (by kernel_rfl) (by simp) ?_
  refine AllReadyH.cons (o := ⟨none, _, _, _, _, _⟩) rfl (fun K hK => ?_) AllReadyH.nil
  obtain ⟨s0, s1, s2, y0, y1, y2, sl⟩ := A25.out
  go_simp
  clear s0 s1 s2 y0 y1 y2 sl
  have BB26 := Lib.hid (show Below w3.heap.size w3 (((v25x.setCell ⟨ga, 0, none⟩ (.int .i64 MX.a)).setCell ⟨ga, 1, none⟩ (.int .i64 MX.b)).setCell ⟨ga, 2, none⟩ (.int .i64 MX.c)) from below_set3 BB25.out ga24.out (.int .i64 MX.a) (.int .i64 MX.b) (.int .i64 MX.c))
  have A26 := Lib.hid (show Cells3 (((v25x.setCell ⟨ga, 0, none⟩ (.int .i64 MX.a)).setCell ⟨ga, 1, none⟩ (.int .i64 MX.b)).setCell ⟨ga, 2, none⟩ (.int .i64 MX.c)) ga (.int .i64 MX.a) (.int .i64 MX.b) (.int .i64 MX.c) from A25.out.set (.int .i64 MX.a) (.int .i64 MX.b) (.int .i64 MX.c))
  have B26 := Lib.hid (show Cells3 (((v25x.setCell ⟨ga, 0, none⟩ (.int .i64 MX.a)).setCell ⟨ga, 1, none⟩ (.int .i64 MX.b)).setCell ⟨ga, 2, none⟩ (.int .i64 MX.c)) gb' (.int .i64 0) (.int .i64 0) (.int .i64 0) from B25.out.apart (by have h := ne24.out; omega) (.int .i64 MX.a) (.int .i64 MX.b) (.int .i64 MX.c))
  clear hHeld BB25 A25 B25
  generalize ((v25x.setCell ⟨ga, 0, none⟩ (.int .i64 MX.a)).setCell ⟨ga, 1, none⟩ (.int .i64 MX.b)).setCell ⟨ga, 2, none⟩ (.int .i64 MX.c) = v26x at *
  refine hK.out _ _ (HS8.out _ BB26.out) (fun hHeld => ?_)
  clear hK K
  try simp only [sp]
  refine wpAnyH_ready (rs := [19]) (by kernel_rfl) (by simp) ?_
  refine AllReadyH.cons (o := ⟨none, _, _, _, _, _⟩) rfl (fun K hK => ?_) AllReadyH.nil
  obtain ⟨s0, s1, s2, y0, y1, y2, sl⟩ := B26.out
  go_simp
  clear s0 s1 s2 y0 y1 y2 sl
  have BB27 := Lib.hid (show Below w3.heap.size w3 (((v26x.setCell ⟨gb', 0, none⟩ (.int .i64 MY.a)).setCell ⟨gb', 1, none⟩ (.int .i64 MY.b)).setCell ⟨gb', 2, none⟩ (.int .i64 MY.c)) from below_set3 BB26.out gb19.out (.int .i64 MY.a) (.int .i64 MY.b) (.int .i64 MY.c))
  have B27 := Lib.hid (show Cells3 (((v26x.setCell ⟨gb', 0, none⟩ (.int .i64 MY.a)).setCell ⟨gb', 1, none⟩ (.int .i64 MY.b)).setCell ⟨gb', 2, none⟩ (.int .i64 MY.c)) gb' (.int .i64 MY.a) (.int .i64 MY.b) (.int .i64 MY.c) from B26.out.set (.int .i64 MY.a) (.int .i64 MY.b) (.int .i64 MY.c))
  have A27 := Lib.hid (show Cells3 (((v26x.setCell ⟨gb', 0, none⟩ (.int .i64 MY.a)).setCell ⟨gb', 1, none⟩ (.int .i64 MY.b)).setCell ⟨gb', 2, none⟩ (.int .i64 MY.c)) ga (.int .i64 MX.a) (.int .i64 MX.b) (.int .i64 MX.c) from A26.out.apart (by have h := ne24.out; omega) (.int .i64 MY.a) (.int .i64 MY.b) (.int .i64 MY.c))
  clear hHeld BB26 B26 A26
  generalize ((v26x.setCell ⟨gb', 0, none⟩ (.int .i64 MY.a)).setCell ⟨gb', 1, none⟩ (.int .i64 MY.b)).setCell ⟨gb', 2, none⟩ (.int .i64 MY.c) = v27x at *
  refine hK.out _ _ (HS8.out _ BB27.out) (fun hHeld => ?_)
  clear hK K
  try simp only [sp]
  refine tk 20 17 rfl ?_
  try simp only [sp]
  refine wpAnyH_done (by kernel_rfl) ?_ _
  go_wp2
  go_meet
  exact ⟨ga, gb', rfl, rfl, rfl, A27, B27, BB27⟩
 case rest =>
  obtain ⟨ga, gb', rfl, rfl, rfl, HA3, HB33, HBW⟩ := hcut
  have HB4 := Lib.hid (show Below w0.heap.size w0 wc from HB3.out.trans (HBW.out.mono HB3.out.size))
  --CUT2
  by_cases hF : F = 0
  case neg =>
   have hFb : (F != 0) = true := by simpa using hF
   have HNZ := Lib.hid hF
   clear hF
   obtain ⟨r0, r1, r2, r3, r4, r5, y0, y1, y2, y3, y4, y5, -⟩ := HR.out.below HB4.out
   go_wp2
   obtain ⟨q0, q1, q2, q3, q4, q5, -⟩ := (HR.out.below HB4.out).set (.slice none 0 0) (.slice none 0 0) (.slice none 0 0) (.int .i64 0) (.int .i64 0) (.int .i64 0)
   refine bodyPost_ret (v := .tuple #[stk0.v, .int .i64 (F)]) ?_ rfl ?_
   ·simp [results, Tryz.results23, go_sem, q0, q1, q2, q3, q4, q5, stk0]
   ·exact ⟨stk0, rfl, stk0_in _ _, by first | rfl | (rw [if_neg HNZ.out]; rfl), below_set6 (Below.call HB0.out HB4.out) (by have := HG.out; omega) _ _ _ _ _ _, stk0_far _⟩
  obtain ⟨m3, m4⟩ := HMM.out hF
  have HNX := Lib.hid (show fits (MX.b - X.b) ∧ fits (MY.b - Y.b) from by rw [m3, m4]; unfold fits at hn ⊢; omega)
  subst hF
  clear m3 m4 HMM
  have HCP := Lib.hid (rcopy_any s wc (HS0.out.then HB4.out) (by have := HLL.out; omega) (by have := HLL.out; omega) (by have := HLL.out; omega) (fun q hq => by have := HLL.out.2.2.2.1 q hq; omega))
  obtain ⟨t0, t1, t2, t3, t4, t5, -⟩ := HT.out.below HB4.out
  go_wp2_with fail
  clear t0 t1 t2 t3 t4 t5
  refine HCP.out.mono ?_
  rintro e w4 ⟨t, rfl, hta, htr, hb4, hta2⟩
  obtain ⟨v4, hv4⟩ : ∃ v4, v4 = w4.alloc (.cells #[.slice t.cA t.cl.length t.cc, .slice t.lA t.ll.length t.lc, .slice t.tA t.tl.length t.tc, .int .i64 t.st, .int .i64 t.inn, .int .i64 t.out] 31) := ⟨_, rfl⟩
  have hba := Below.al (Below.refl w4.heap.size w4) (.cells #[.slice t.cA t.cl.length t.cc, .slice t.lA t.ll.length t.lc, .slice t.tA t.tl.length t.tc, .int .i64 t.st, .int .i64 t.inn, .int .i64 t.out] 31)
  rw [← hv4] at hba
  have HTA := Lib.hid hta
  have HTR := Lib.hid (htr.below hba)
  have HRO := Lib.hid (htr.out (D := w4.heap.size) (Nat.le_refl _))
  have HSZ := Lib.hid (show wc.heap.size ≤ w4.heap.size ∧ w4.heap.size < v4.heap.size from ⟨hb4.size, by rw [hv4]; simp⟩)
  have HB5 := Lib.hid (show Below w0.heap.size w0 v4 from HB4.out.trans ((Below.call hb4 hba).mono HB4.out.size))
  have HA4 := Lib.hid (HA3.out.below (Below.call hb4 hba))
  have HB44 := Lib.hid (HB33.out.below (Below.call hb4 hba))
  have HGL := Lib.hid (show gb' < wc.heap.size from World.block_lt_of_cell? _ _ HB33.out.1)
  have HT4 := Lib.hid (show SkAt v4 w4.heap.size t by rw [hv4]; exact Cells6.new w4 _ _ _ _ _ _ _)
  clear hta htr hb4 hta2 hba HA3 HB33 HCP
  obtain ⟨u0, u1, u2, u3, u4, u5, -⟩ := HT4.out
  obtain ⟨c0, c1, c2, -⟩ := HA4.out
  rw [hv4] at u0 u1 u2 u3 u4 u5 c0 c1 c2
  go_wp2_with fail
  rw [← hv4]
  --CUT3
  clear hv4 u0 u1 u2 u3 u4 u5 c0 c1 c2
  obtain ⟨Gt, hGt⟩ : ∃ Gt, Gt = w4.heap.size := ⟨_, rfl⟩
  rw [← hGt] at HT4 HRO HSZ
  try rw [← hGt]
  clear hGt
  have htc : t.cl = s.cl := congrArg Ab.c HTA.out
  have htl : t.ll.length = s.ll.length := by
   have h := congrArg (fun a : Ab => a.l.length) HTA.out
   have e1 : t.ab.l.length = t.ll.length := by show (t.ll.map Lo.ab).length = _; rw [List.length_map]
   have e2 : s.ab.l.length = s.ll.length := by show (s.ll.map Lo.ab).length = _; rw [List.length_map]
   rw [← e1, ← e2]; exact h
  have HTC := Lib.hid htc
  have HTL := Lib.hid htl
  refine (rput_any t b' v4 wc.heap.size kx MX HTR.out (by rw [htc]; exact HKX.out.1) (by rw [htl]; exact HKX.out.2) HFX.out.1 (by rw [htc, HXX.out]; exact HNX.out.1) (by rw [htc]; have := HLL.out; omega) (by rw [htl]; have := HLL.out; omega)).mono ?_
  rintro e w5 ⟨q, rfl, hq, htr5, hb5, hkp, hqa, hfz⟩
  have HQ5 := Lib.hid hq
  have HTR5 := Lib.hid htr5
  have HB6 := Lib.hid (show Below w0.heap.size w0 w5 from HB5.out.trans (hb5.mono HB4.out.size))
  have HB55 := Lib.hid (show w5.cell? ⟨gb', 0, none⟩ = some (.int .i64 MY.a) ∧ w5.cell? ⟨gb', 1, none⟩ = some (.int .i64 MY.b) ∧ w5.cell? ⟨gb', 2, none⟩ = some (.int .i64 MY.c) from ⟨(hb5.cell (p := ⟨gb', 0, none⟩) HGL.out).trans HB44.out.1, (hb5.cell (p := ⟨gb', 1, none⟩) HGL.out).trans HB44.out.2.1, (hb5.cell (p := ⟨gb', 2, none⟩) HGL.out).trans HB44.out.2.2.1⟩)
  have HT5 := Lib.hid (show SkAt w5 Gt t from ⟨hkp _ _ HT4.out.1 (fun e => HRO.out.1 e.symm) (fun e => HRO.out.2.1 e.symm), hkp _ _ HT4.out.2.1 (fun e => HRO.out.1 e.symm) (fun e => HRO.out.2.1 e.symm), hkp _ _ HT4.out.2.2.1 (fun e => HRO.out.1 e.symm) (fun e => HRO.out.2.1 e.symm), hkp _ _ HT4.out.2.2.2.1 (fun e => HRO.out.1 e.symm) (fun e => HRO.out.2.1 e.symm), hkp _ _ HT4.out.2.2.2.2.1 (fun e => HRO.out.1 e.symm) (fun e => HRO.out.2.1 e.symm), hkp _ _ HT4.out.2.2.2.2.2.1 (fun e => HRO.out.1 e.symm) (fun e => HRO.out.2.1 e.symm), hfz _ (show Gt < _ from HSZ.out.2) (HT4.out.2.2.2.2.2.2.1), hfz _ (show Gt < _ from HSZ.out.2) (HT4.out.2.2.2.2.2.2.2.1), hfz _ (show Gt < _ from HSZ.out.2) (HT4.out.2.2.2.2.2.2.2.2.1), hfz _ (show Gt < _ from HSZ.out.2) (HT4.out.2.2.2.2.2.2.2.2.2.1), hfz _ (show Gt < _ from HSZ.out.2) (HT4.out.2.2.2.2.2.2.2.2.2.2.1), hfz _ (show Gt < _ from HSZ.out.2) (HT4.out.2.2.2.2.2.2.2.2.2.2.2.1), Nat.lt_of_lt_of_le HSZ.out.2 hb5.size⟩)
  have HGT := Lib.hid (show Gt < w5.heap.size from Nat.lt_of_lt_of_le HSZ.out.2 hb5.size)
  have hg2 : (t.cl.set kx MX).getD ky ce0 = Y := by rw [gset_ne _ _ _ _ _ HXY.out, htc]; exact HYY.out
  have P2 := rput_any { t with ll := t.ll.set kx q, cl := t.cl.set kx MX } b' w5 wc.heap.size ky MY HTR5.out (by show ky < (t.cl.set kx MX).length; rw [List.length_set, htc]; exact HKY.out.1) (by show ky < (t.ll.set kx q).length; rw [List.length_set, htl]; exact HKY.out.2) HFX.out.2 (by show fits (MY.b - ((t.cl.set kx MX).getD ky ce0).b); rw [hg2]; exact HNX.out.2) (by show (t.cl.set kx MX).length ≤ _; rw [List.length_set, htc]; have := HLL.out; omega) (by show (t.ll.set kx q).length ≤ _; rw [List.length_set, htl]; have := HLL.out; omega)
  have P2 := Lib.hid (show Calls Tryz.prog 54 #[.agg #[.slice t.cA t.cl.length t.cc, .slice t.lA t.ll.length t.lc, .slice t.tA t.tl.length t.tc, .int .i64 t.st, .int .i64 t.inn, .int .i64 t.out], .int .i64 b', .int .i64 ky, MY.v] w5 _ from by
   have e1 : (t.cl.set kx MX).length = t.cl.length := List.length_set
   have e2 : (t.ll.set kx q).length = t.ll.length := List.length_set
   rw [← e1, ← e2]
   exact P2)
  clear hq htr5 hb5 hkp hqa hfz htc htl HTR HT4 HA4 HB44 HB5 hg2
  obtain ⟨u0, u1, u2, u3, u4, u5, -⟩ := HT5.out
  obtain ⟨c0, c1, c2⟩ := HB55.out
  go_wp2_with fail
  --CUT4
  clear u0 u1 u2 u3 u4 u5 c0 c1 c2
  refine P2.out.mono ?_
  rintro e w6 ⟨q2, rfl, hq2, htr6, hb6, hkp, hqa, hfz⟩
  have HQ6 := Lib.hid hq2
  have HTR6 := Lib.hid htr6
  have HB7 := Lib.hid (show Below w0.heap.size w0 w6 from HB6.out.trans (hb6.mono HB4.out.size))
  have HT6 := Lib.hid (show SkAt w6 Gt t from ⟨hkp _ _ HT5.out.1 (fun e => HRO.out.1 e.symm) (fun e => HRO.out.2.1 e.symm), hkp _ _ HT5.out.2.1 (fun e => HRO.out.1 e.symm) (fun e => HRO.out.2.1 e.symm), hkp _ _ HT5.out.2.2.1 (fun e => HRO.out.1 e.symm) (fun e => HRO.out.2.1 e.symm), hkp _ _ HT5.out.2.2.2.1 (fun e => HRO.out.1 e.symm) (fun e => HRO.out.2.1 e.symm), hkp _ _ HT5.out.2.2.2.2.1 (fun e => HRO.out.1 e.symm) (fun e => HRO.out.2.1 e.symm), hkp _ _ HT5.out.2.2.2.2.2.1 (fun e => HRO.out.1 e.symm) (fun e => HRO.out.2.1 e.symm), hfz _ (show Gt < _ from HGT.out) (HT5.out.2.2.2.2.2.2.1), hfz _ (show Gt < _ from HGT.out) (HT5.out.2.2.2.2.2.2.2.1), hfz _ (show Gt < _ from HGT.out) (HT5.out.2.2.2.2.2.2.2.2.1), hfz _ (show Gt < _ from HGT.out) (HT5.out.2.2.2.2.2.2.2.2.2.1), hfz _ (show Gt < _ from HGT.out) (HT5.out.2.2.2.2.2.2.2.2.2.2.1), hfz _ (show Gt < _ from HGT.out) (HT5.out.2.2.2.2.2.2.2.2.2.2.2.1), Nat.lt_of_lt_of_le HGT.out hb6.size⟩)
  clear hq2 htr6 hb6 hkp hqa hfz HTR5 HT5 HB6 P2
  obtain ⟨u0, u1, u2, u3, u4, u5, -⟩ := HT6.out
  have HR6 := Lib.hid (HR.out.below HB7.out)
  obtain ⟨r0, r1, r2, r3, r4, r5, y0, y1, y2, y3, y4, y5, -⟩ := HR6.out
  go_wp2
  --CUT5
  obtain ⟨q0, q1, q2', q3, q4, q5, -⟩ := HR6.out.set (.slice t.cA t.cl.length t.cc) (.slice t.lA t.ll.length t.lc) (.slice t.tA t.tl.length t.tc) (.int .i64 t.st) (.int .i64 t.inn) (.int .i64 t.out)
  have hfar := HTR6.out.farr
  have hlen1 : t.cl.length ≤ 100000 := by rw [HTC.out]; have := HLL.out; omega
  have hlen2 : t.ll.length ≤ 100000 := by rw [HTL.out]; have := HLL.out; omega
  have htt : t.tl = s.tl := congrArg Ab.t HTA.out
  have hlen3 : t.tl.length ≤ 100000 := by rw [htt]; have := HLL.out; omega
  have hin := (HTR6.out.inn (by show ((t.cl.set kx MX).set ky _).length ≤ _; rw [List.length_set, List.length_set]; exact hlen1) (by show ((t.ll.set kx q).set ky _).length ≤ _; rw [List.length_set, List.length_set]; exact hlen2) hlen3).set6 hfar (D := Gr) (by have := HG.out; have := HB4.out.size; omega) (.slice t.cA t.cl.length t.cc) (.slice t.lA t.ll.length t.lc) (.slice t.tA t.tl.length t.tc) (.int .i64 t.st) (.int .i64 t.inn) (.int .i64 t.out)
  have hlc : ((t.cl.set kx MX).set ky MY).length = t.cl.length := by rw [List.length_set, List.length_set]
  have hll : ((t.ll.set kx q).set ky q2).length = t.ll.length := by rw [List.length_set, List.length_set]
  refine bodyPost_ret (v := .tuple #[.agg #[.slice t.cA t.cl.length t.cc, .slice t.lA t.ll.length t.lc, .slice t.tA t.tl.length t.tc, .int .i64 t.st, .int .i64 t.inn, .int .i64 t.out], .int .i64 0]) ?_ rfl ?_
  ·simp [results, Tryz.results23, go_sem, q0, q1, q2', q3, q4, q5]
  ·refine ⟨⟨t.cA, t.cc, (t.cl.set kx MX).set ky MY, t.lA, t.lc, (t.ll.set kx q).set ky q2, t.tA, t.tc, t.tl, t.st, t.inn, t.out⟩, by show _ = Ending.returned (.tuple #[.agg #[.slice t.cA ((t.cl.set kx MX).set ky MY).length t.cc, .slice t.lA ((t.ll.set kx q).set ky q2).length t.lc, _, _, _, _], _]); rw [hlc, hll], ?_, ?_, below_set6 (Below.call HB0.out HB7.out) (by have := HG.out; omega) _ _ _ _ _ _, by have h := hfar.less (B' := w.heap.size) (by have := HG.out; have := HB4.out.size; omega); exact h⟩
   ·have h := hin
    exact ⟨by simpa using h.c, by simpa using h.l, by simpa using h.t, fun p hp => by have := h.x p hp; simpa using this, h.f⟩
   ·have a1 := HQ5.out
    rw [ptL_ab t kx (by rw [HTL.out]; exact HKX.out.2), HTA.out] at a1
    have a2 := HQ6.out
    rw [ptL_ab _ ky (by show ky < (t.ll.set kx q).length; rw [List.length_set, HTL.out]; exact HKY.out.2)] at a2
    have e : t.ll.map Lo.ab = s.ab.l := congrArg Ab.l HTA.out
    have e4 : t.st = s.st := congrArg Ab.st HTA.out
    have e5 : t.inn = s.inn := congrArg Ab.inn HTA.out
    have e6 : t.out = s.out := congrArg Ab.out HTA.out
    have eab : ({ t with ll := t.ll.set kx q, cl := t.cl.set kx MX } : Stk).ab = ptAb s.ab b' kx MX := by
     simp only [Stk.ab, List.map_set, a1, HTC.out, htt, e4, e5, e6]
     rw [e]
     rfl
    rw [eab] at a2
    have efin : ({ { t with ll := t.ll.set kx q, cl := t.cl.set kx MX } with ll := (t.ll.set kx q).set ky q2, cl := (t.cl.set kx MX).set ky MY } : Stk).ab = ptAb (ptAb s.ab b' kx MX) b' ky MY := by
     have h1 : ({ { t with ll := t.ll.set kx q, cl := t.cl.set kx MX } with ll := (t.ll.set kx q).set ky q2, cl := (t.cl.set kx MX).set ky MY } : Stk).ab = { ({ t with ll := t.ll.set kx q, cl := t.cl.set kx MX } : Stk).ab with c := (t.cl.set kx MX).set ky MY, l := ((t.ll.set kx q).map Lo.ab).set ky q2.ab } := by
      simp only [Stk.ab, List.map_set]
     rw [h1, a2, eab]
     have h2 : (t.ll.set kx q).map Lo.ab = (ptAb s.ab b' kx MX).l := congrArg Ab.l eab
     have h3 : t.cl.set kx MX = (ptAb s.ab b' kx MX).c := congrArg Ab.c eab
     rw [h2, h3]
     rfl
    first
     | (rw [if_pos rfl, HAA.out]; exact efin)
     | (rw [HAA.out]; exact efin)
end Go.Proofs.YtacjonncakhhmaaGreat
