/- Stocks: a move in a turn. -/
import Derived.Test.YtacjonncakhhmaaGreatPz00
import Derived.Test.YtacjonncakhhmaaGreatPz37
import Derived.Test.YtacjonncakhhmaaGreatPz38
namespace Go.Proofs.YtacjonncakhhmaaGreat
open Go.RowKit
set_option maxRecDepth 100000 in
set_option maxHeartbeats 4000000 in
theorem move1_any (d : Dk) (t : Stk) (b' : Int) (V : World) (B D pd pa pb pn : Nat) (x y n : Int) (hrg : rgS d t.ab = true) (hM : Mine V B D t) (hT : Tl V D d b') (hd : d.In V D) (hx : fits x) (hy : fits y) (hn : fits n) (hpd : DkAt V pd d) (hpa : V.cell? ⟨pa, 0, none⟩ = some (.int .i64 x)) (hpb : V.cell? ⟨pb, 0, none⟩ = some (.int .i64 y)) (hpn : V.cell? ⟨pn, 0, none⟩ = some (.int .i64 n)) (hla : pa < D) (hlb : pb < D) :
  Calls Tryz.prog 35 #[.pointer (some ⟨D, 0, none⟩), .pointer (some ⟨pd, 0, none⟩), .pointer (some ⟨pa, 0, none⟩), .pointer (some ⟨pb, 0, none⟩), .pointer (some ⟨pn, 0, none⟩)] V fun e V' => e = .returned (.int .i64 (moE d t.ab x y n)) ∧
   (moE d t.ab x y n = 0 → ∃ t' : Stk, Mine V' B D t' ∧ t'.ab = moA t.ab b' x y n ∧ t'.cl.length ≤ 100000 ∧ t'.ll.length ≤ 100000 ∧ t'.tl.length ≤ 100000) ∧ Below D V V' := by
 have hab := rg_ab d t.ab hrg
 have hlens := rg_lens d t hrg
 have HDL := Lib.hid (show D < V.heap.size from hT.2.2.2.2.2)
 have HL := Lib.hid (And.intro hlens.1 (And.intro hlens.2.1 hlens.2.2.1))
 have HM := Lib.hid hM
 have HT := Lib.hid hT
 have HIX := Lib.hid (fun W (hb : Below D V W) => isPart_any d 1 x hx W ((hd.below hb).more (Nat.le_trans (Nat.le_of_lt HDL.out) hb.size)))
 have HIY := Lib.hid (fun W (hb : Below D V W) => isPart_any d 1 y hy W ((hd.below hb).more (Nat.le_trans (Nat.le_of_lt HDL.out) hb.size)))
 have HPX := Lib.hid (isP_eq d hab.2.2.2.1 x).1
 have HPY := Lib.hid (isP_eq d hab.2.2.2.1 y).1
 have HRT := Lib.hid hab.2.2.1
 have HWN := Lib.hid (show t.cl.length = wellN d ∧ t.ll.length = wellN d from ⟨hlens.2.2.2.2.1, hlens.2.2.2.2.2.1⟩)
 have HBX := Lib.hid (show ∀ W, Below V.heap.size V W → DkAt W pd d ∧ W.cell? ⟨pa, 0, none⟩ = some (.int .i64 x) ∧ W.cell? ⟨pb, 0, none⟩ = some (.int .i64 y) ∧ W.cell? ⟨pn, 0, none⟩ = some (.int .i64 n) from fun W hb => ⟨hpd.below hb, keep_cell hb hpa, keep_cell hb hpb, keep_cell hb hpn⟩)
 have HE := Lib.hid (show moE d t.ab x y n = (if isP d 1 x = true ∧ isP d 1 y = true then (if x = y then 1 else Cel.mvE (t.cl.getD x.toNat ce0) (t.cl.getD y.toNat ce0) n) else 3) from rfl)
 have HLA := Lib.hid (And.intro hla hlb)
 have HNF := Lib.hid hn
 generalize moE d t.ab x y n = E at *
 obtain ⟨⟨d0, d1, d2, d3, d4⟩, h1, h2, h3⟩ := HBX.out V (Below.refl _ _)
 clear hrg hM hT hd hx hy hn hab hlens hpd hpa hpb hpn hla hlb d4
 by_cases hX : isP d 1 x = true
 case neg =>
  have hEE : E = 3 := by rw [HE.out, if_neg (fun h => hX h.1)]
  subst hEE
  have hX : isP d 1 x = false := by simpa using hX
  rw [hX] at HIX
  go_enter Tryz.func35, Tryz.ntmps35
  go_wp2_with fail
  refine (HIX.out _ (Below.refl _ _)).mono ?_
  rintro e w1 ⟨rfl, hb1⟩
  have HB1 := Lib.hid (hb1.mono (Nat.le_of_lt HDL.out))
  clear hb1
  go_wp2
  refine bodyPost_ret (v := .int .i64 3) ?_ rfl ⟨rfl, fun h => absurd h (by decide), HB1.out⟩
  simp [results, Tryz.results35, go_sem]
 by_cases hY : isP d 1 y = true
 case neg =>
  have hEE : E = 3 := by rw [HE.out, if_neg (fun h => hY h.2)]
  subst hEE
  have hY : isP d 1 y = false := by simpa using hY
  rw [hX] at HIX
  rw [hY] at HIY
  go_enter Tryz.func35, Tryz.ntmps35
  go_wp2_with fail
  refine (HIX.out _ (Below.refl _ _)).mono ?_
  rintro e w1 ⟨rfl, hb1⟩
  have HBV := Lib.hid hb1
  have HB1 := Lib.hid (hb1.mono (Nat.le_of_lt HDL.out))
  clear hb1 d0 d1 d2 d3 h1 h2 h3
  obtain ⟨⟨d0, d1, d2, d3, d4⟩, h1, h2, h3⟩ := HBX.out _ HBV.out
  go_wp2_with fail
  refine (HIY.out _ HB1.out).mono ?_
  rintro e w2 ⟨rfl, hb2⟩
  have HB2 := Lib.hid (HB1.out.trans (hb2.mono (Nat.le_trans (Nat.le_of_lt HDL.out) HB1.out.size)))
  clear hb2
  go_wp2
  refine bodyPost_ret (v := .int .i64 3) ?_ rfl ⟨rfl, fun h => absurd h (by decide), HB2.out⟩
  simp [results, Tryz.results35, go_sem]
 have HE := Lib.hid (HE.out.trans (if_pos ⟨hX, hY⟩))
 have hpx : 0 ≤ x ∧ x < wellN d := by
  have h := HPX.out
  rw [hX] at h
  exact of_decide_eq_true h.symm
 have hpy : 0 ≤ y ∧ y < wellN d := by
  have h := HPY.out
  rw [hY] at h
  exact of_decide_eq_true h.symm
 rw [hX] at HIX
 rw [hY] at HIY
 obtain ⟨kx, rfl⟩ := Int.eq_ofNat_of_zero_le hpx.1
 obtain ⟨ky, rfl⟩ := Int.eq_ofNat_of_zero_le hpy.1
 rw [show (kx : Int).toNat = kx by omega, show (ky : Int).toNat = ky by omega] at HE
 have HKX := Lib.hid (show kx < t.cl.length ∧ kx < t.ll.length from by have := HWN.out; omega)
 have HKY := Lib.hid (show ky < t.cl.length ∧ ky < t.ll.length from by have := HWN.out; omega)
 clear hpx hpy hX hY HPX HPY
 --CUTX
 go_enter Tryz.func35, Tryz.ntmps35
 go_wp2_with fail
 refine (HIX.out _ (Below.refl _ _)).mono ?_
 rintro e w1 ⟨rfl, hb1⟩
 have HBV1 := Lib.hid hb1
 have HB1 := Lib.hid (hb1.mono (Nat.le_of_lt HDL.out))
 clear hb1 d0 d1 d2 d3 h1 h2 h3
 obtain ⟨⟨d0, d1, d2, d3, d4⟩, h1, h2, h3⟩ := HBX.out _ HBV1.out
 clear d4
 go_wp2_with fail
 refine (HIY.out _ HB1.out).mono ?_
 rintro e w2 ⟨rfl, hb2⟩
 have HBV2 := Lib.hid (HBV1.out.trans (hb2.mono HBV1.out.size))
 have HB2 := Lib.hid (HB1.out.trans (hb2.mono (Nat.le_trans (Nat.le_of_lt HDL.out) HB1.out.size)))
 clear hb2 d0 d1 d2 d3 h1 h2 h3
 obtain ⟨-, h1, h2, -⟩ := HBX.out _ HBV2.out
 --CUT1
 by_cases hxy : kx = ky
 case pos =>
  subst hxy
  have hEE : E = 1 := by rw [HE.out, if_pos rfl]
  subst hEE
  go_wp2
  refine bodyPost_ret (v := .int .i64 1) ?_ rfl ⟨rfl, fun h => absurd h (by decide), HB2.out⟩
  simp [results, Tryz.results35, go_sem]
 have hxi : ¬ (kx : Int) = (ky : Int) := by omega
 have HE := Lib.hid (HE.out.trans (if_neg hxi))
 have hxb : ((kx : Int) == (ky : Int)) = false := by simpa using hxi
 have HXY := Lib.hid hxy
 clear hxy
 go_upto_region 5 with fail
 clear h1 h2 hxi hxb
 --CUT7
 have HRX := Lib.hid (right_fit7 (HRT.out kx HKX.out.1))
 have HRY := Lib.hid (right_fit7 (HRT.out ky HKY.out.1))
 have HXX := Lib.hid (show t.ab.c = t.cl from rfl)
 have MA := Lib.hid (HM.out.below HBV2.out)
 have TA := Lib.hid (HT.out.below HBV2.out)
 obtain ⟨gc, ec, gc1, gc2, gc3⟩ := MA.out.cAt (by have := HKX.out.1; omega)
 have HEC := Lib.hid ec
 obtain ⟨X, hX⟩ : ∃ X, t.cl.getD kx ce0 = X := ⟨_, rfl⟩
 obtain ⟨Y, hY⟩ : ∃ Y, t.cl.getD ky ce0 = Y := ⟨_, rfl⟩
 have HS := Lib.hid (show ∀ W, Below w2.heap.size w2 W → W.cell? ⟨D, 0, none⟩ = some (Value.slice (some ⟨gc, 0, none⟩) t.cl.length t.cc) ∧ W.cell? ⟨pa, 0, none⟩ = some (.int .i64 (kx : Int)) ∧ W.cell? ⟨pb, 0, none⟩ = some (.int .i64 (ky : Int)) ∧ W.cell? ⟨pn, 0, none⟩ = some (.int .i64 n) ∧ W.cell? ⟨gc, kx * 3, none⟩ = some (.int .i64 X.a) ∧ W.cell? ⟨gc, kx * 3 + 1, none⟩ = some (.int .i64 X.b) ∧ W.cell? ⟨gc, kx * 3 + 2, none⟩ = some (.int .i64 X.c) ∧ W.cell? ⟨gc, ky * 3, none⟩ = some (.int .i64 Y.a) ∧ W.cell? ⟨gc, ky * 3 + 1, none⟩ = some (.int .i64 Y.b) ∧ W.cell? ⟨gc, ky * 3 + 2, none⟩ = some (.int .i64 Y.c) from fun W hb => by
  have hm := MA.out.below hb
  have hoc := hm.c
  rw [ec] at hoc
  obtain ⟨p0, p1, p2, -⟩ := KE.Own.at3 hoc rfl kx HKX.out.1
  obtain ⟨q0, q1, q2, -⟩ := KE.Own.at3 hoc rfl ky HKY.out.1
  obtain ⟨-, h1, h2, h3⟩ := HBX.out W (HBV2.out.trans (hb.mono HBV2.out.size))
  have h0 := hm.at'.1
  rw [ec] at h0
  rw [hX] at p0 p1 p2
  rw [hY] at q0 q1 q2
  exact ⟨h0, h1, h2, h3, p0, p1, p2, q0, q1, q2⟩)
 rw [HXX.out, hX] at HRX
 rw [HXX.out, hY] at HRY
 rw [hX, hY] at HE
 have HMV := Lib.hid (fun W => Cel.move_any X Y n HRX.out HRY.out HNF.out W)
 have HMV2 := Lib.hid (show E = 0 → Cel.mvX X Y n = Cel.chV X (-(max n 0)) ∧ Cel.mvY X Y n = Cel.chV Y (max n 0) ∧ (Cel.mvX X Y n).b - X.b = -(max n 0) ∧ (Cel.mvY X Y n).b - Y.b = max n 0 from fun h => by
  rw [HE.out] at h
  obtain ⟨m1, m2, m3, m4⟩ := mv_ok h
  rw [m3, m4]
  exact ⟨rfl, rfl, chV_b m1, chV_b m2⟩)
 have HFX := Lib.hid (show (Cel.mvX X Y n).Fit ∧ (Cel.mvY X Y n).Fit from ⟨by
  unfold Cel.mvX
  split
  ·exact chV_fit _ _
  ·exact ⟨by decide, by decide, by decide⟩, by
  unfold Cel.mvY
  split
  ·exact chV_fit _ _
  ·exact ⟨by decide, by decide, by decide⟩⟩)
 have HMO := Lib.hid (show moA t.ab b' kx ky n = ptAb (ptAb t.ab b' kx (Cel.mvX X Y n)) b' ky (Cel.mvY X Y n) from by
  unfold moA
  rw [HXX.out, show (kx : Int).toNat = kx by omega, show (ky : Int).toNat = ky by omega, hX, hY])
 have HG := Lib.hid (show gc < w2.heap.size ∧ t.cl.length ≤ t.cc from ⟨gc2, gc3⟩)
 rw [← HE.out] at HMV
 generalize Cel.mvX X Y n = MX at *
 generalize Cel.mvY X Y n = MY at *
 have HHX := Lib.hid hX
 have HHY := Lib.hid hY
 have hkx : (kx : Int) < t.cl.length := by have := HKX.out.1; omega
 have hky : (ky : Int) < t.cl.length := by have := HKY.out.1; omega
 clear gc1 gc2 gc3 ec hX hY HIX HIY
 --CUT3
 go_cut [7, 8, 9] from 25 (fun t7 t8 t9 wx => ∃ ga gb : Nat, t7 = .pointer (some ⟨ga, 0, none⟩) ∧ t8 = .pointer (some ⟨gb, 0, none⟩) ∧ t9 = .int .i64 E ∧ Hid (Cells3 wx ga (.int .i64 MX.a) (.int .i64 MX.b) (.int .i64 MX.c)) ∧ Hid (Cells3 wx gb (.int .i64 MY.a) (.int .i64 MY.b) (.int .i64 MY.c)) ∧ Hid (Below w2.heap.size w2 wx) ∧ Hid (w2.heap.size ≤ ga ∧ w2.heap.size ≤ gb ∧ ga ≠ gb))
 case first =>
  clear HXY HE HMV2 HFX HMO HHX HHY HEC HWN HRT HRX HRY HXX HBX HM HT MA TA HB1 HB2 HBV1 HBV2 HLA HL HNF
  refine wp_region_held_drew (S := fun w' => w'.cell? ⟨D, 0, none⟩ = some (Value.slice (some ⟨gc, 0, none⟩) t.cl.length t.cc) ∧ w'.cell? ⟨pa, 0, none⟩ = some (.int .i64 (kx : Int)) ∧ w'.cell? ⟨pb, 0, none⟩ = some (.int .i64 (ky : Int)) ∧ w'.cell? ⟨pn, 0, none⟩ = some (.int .i64 n) ∧ w'.cell? ⟨gc, kx * 3, none⟩ = some (.int .i64 X.a) ∧ w'.cell? ⟨gc, kx * 3 + 1, none⟩ = some (.int .i64 X.b) ∧ w'.cell? ⟨gc, kx * 3 + 2, none⟩ = some (.int .i64 X.c) ∧ w'.cell? ⟨gc, ky * 3, none⟩ = some (.int .i64 Y.a) ∧ w'.cell? ⟨gc, ky * 3 + 1, none⟩ = some (.int .i64 Y.b) ∧ w'.cell? ⟨gc, ky * 3 + 2, none⟩ = some (.int .i64 Y.c)) (by kernel_rfl) ?_ (fun hHeld => ?_)
  ·exact HS.out _ (Below.refl _ _).drew
  have BB0 := Lib.hid (show Below w2.heap.size w2 w2.drew from (Below.refl _ _).drew)
  generalize w2.drew = v0 at *
  refine tk 0 26 rfl ?_
  try simp only [sp]
  refine tk 1 27 rfl ?_
  try simp only [sp]
  refine tk 2 28 rfl ?_
  try simp only [sp]
  refine tk 3 29 rfl ?_
  try simp only [sp]
  refine tk 4 30 rfl ?_
  try simp only [sp]
  refine tk 5 31 rfl ?_
  try simp only [sp]
  refine tk 6 32 rfl ?_
  try simp only [sp]
  refine tk 7 33 rfl ?_
  try simp only [sp]
  refine tk 8 34 rfl ?_
  try simp only [sp]
  refine tk 9 35 rfl ?_
  try simp only [sp]
  refine tk 10 36 rfl ?_
  try simp only [sp]
  refine tk 11 37 rfl ?_
  try simp only [sp]
  refine tk 12 38 rfl ?_
  try simp only [sp]
  refine tk 13 39 rfl ?_
  try simp only [sp]
  refine tk 14 40 rfl ?_
  try simp only [sp]
  refine tk 15 41 rfl ?_
  try simp only [sp]
  refine tk 16 42 rfl ?_
  try simp only [sp]
  refine tk 17 43 rfl ?_
  try simp only [sp]
  refine tk 18 44 rfl ?_
  try simp only [sp]
  --CUT2
  refine wpAnyH_ready (rs := [19, 24, 25]) (by kernel_rfl) (by simp) ?_
  refine AllReadyH.cons (o := ⟨some 45, _, _, _, _, _⟩) rfl (fun K hK => ?_) ?_
  ·go_simp
   refine (HMV.out _).mono ?_
   rintro e v1 ⟨rfl, hb⟩
   have BB1 := Lib.hid (BB0.out.trans (hb.mono BB0.out.size))
   clear hb hHeld BB0
   go_wp2_with fail
   refine hK.out _ _ (HS.out _ BB1.out) (fun hHeld => ?_)
   clear hK K
   try simp only [sp]
   refine tk 20 25 rfl ?_
   try simp only [sp]
   refine tk 21 46 rfl ?_
   try simp only [sp]
   refine tk 22 47 rfl ?_
   try simp only [sp]
   refine tk 23 48 rfl ?_
   try simp only [sp]
   refine wpAnyH_ready (rs := [24, 25]) (by kernel_rfl) (by simp) ?_
   refine AllReadyH.cons (o := ⟨some 7, _, _, _, _, _⟩) rfl (fun K hK => ?_) ?_
   ·go_simp
    have hb := Below.al (Below.refl _ v1) (.cells #[.int .i64 0, .int .i64 0, .int .i64 0] 58)
    have BB2 := Lib.hid (BB1.out.trans (hb.mono BB1.out.size))
    have A2 := Lib.hid (Cells3.new v1 58 (.int .i64 0) (.int .i64 0) (.int .i64 0))
    have ga2 := Lib.hid BB1.out.size
    clear hb hHeld BB1
    generalize v1.alloc (.cells #[.int .i64 0, .int .i64 0, .int .i64 0] 58) = v2 at *
    generalize v1.heap.size = ga at *
    refine hK.out _ _ (HS.out _ BB2.out) (fun hHeld => ?_)
    clear hK K
    try simp only [sp]
    refine wpAnyH_ready (rs := [25]) (by kernel_rfl) (by simp) ?_
    refine AllReadyH.cons (o := ⟨some 8, _, _, _, _, _⟩) rfl (fun K hK => ?_) AllReadyH.nil
    go_simp
    have hb := Below.al (Below.refl _ v2) (.cells #[.int .i64 0, .int .i64 0, .int .i64 0] 58)
    have BB3 := Lib.hid (BB2.out.trans (hb.mono BB2.out.size))
    have B3 := Lib.hid (Cells3.new v2 58 (.int .i64 0) (.int .i64 0) (.int .i64 0))
    have gb3 := Lib.hid BB2.out.size
    have ne3 := Lib.hid (show ga ≠ v2.heap.size from by obtain ⟨_, _, _, _, _, _, sl⟩ := A2.out; omega)
    have A3 := Lib.hid (A2.out.below hb)
    clear hb hHeld BB2 A2
    generalize v2.alloc (.cells #[.int .i64 0, .int .i64 0, .int .i64 0] 58) = v3 at *
    generalize v2.heap.size = gb at *
    refine hK.out _ _ (HS.out _ BB3.out) (fun hHeld => ?_)
    clear hK K
    try simp only [sp]
    refine wpAnyH_ready (rs := [26]) (by kernel_rfl) (by simp) ?_
    refine AllReadyH.cons (o := ⟨none, _, _, _, _, _⟩) rfl (fun K hK => ?_) AllReadyH.nil
    obtain ⟨s0, s1, s2, y0, y1, y2, sl⟩ := A3.out
    go_simp
    clear s0 s1 s2 y0 y1 y2 sl
    have BB4 := Lib.hid (show Below w2.heap.size w2 (((v3.setCell ⟨ga, 0, none⟩ (.int .i64 MX.a)).setCell ⟨ga, 1, none⟩ (.int .i64 MX.b)).setCell ⟨ga, 2, none⟩ (.int .i64 MX.c)) from below_set3 BB3.out ga2.out (.int .i64 MX.a) (.int .i64 MX.b) (.int .i64 MX.c))
    have A4 := Lib.hid (show Cells3 (((v3.setCell ⟨ga, 0, none⟩ (.int .i64 MX.a)).setCell ⟨ga, 1, none⟩ (.int .i64 MX.b)).setCell ⟨ga, 2, none⟩ (.int .i64 MX.c)) ga (.int .i64 MX.a) (.int .i64 MX.b) (.int .i64 MX.c) from A3.out.set (.int .i64 MX.a) (.int .i64 MX.b) (.int .i64 MX.c))
    have B4 := Lib.hid (show Cells3 (((v3.setCell ⟨ga, 0, none⟩ (.int .i64 MX.a)).setCell ⟨ga, 1, none⟩ (.int .i64 MX.b)).setCell ⟨ga, 2, none⟩ (.int .i64 MX.c)) gb (.int .i64 0) (.int .i64 0) (.int .i64 0) from B3.out.apart ne3.out (.int .i64 MX.a) (.int .i64 MX.b) (.int .i64 MX.c))
    clear hHeld BB3 A3 B3
    generalize ((v3.setCell ⟨ga, 0, none⟩ (.int .i64 MX.a)).setCell ⟨ga, 1, none⟩ (.int .i64 MX.b)).setCell ⟨ga, 2, none⟩ (.int .i64 MX.c) = v4 at *
    refine hK.out _ _ (HS.out _ BB4.out) (fun hHeld => ?_)
    clear hK K
    try simp only [sp]
    refine wpAnyH_ready (rs := [27]) (by kernel_rfl) (by simp) ?_
    refine AllReadyH.cons (o := ⟨none, _, _, _, _, _⟩) rfl (fun K hK => ?_) AllReadyH.nil
    obtain ⟨s0, s1, s2, y0, y1, y2, sl⟩ := B4.out
    go_simp
    clear s0 s1 s2 y0 y1 y2 sl
    have BB5 := Lib.hid (show Below w2.heap.size w2 (((v4.setCell ⟨gb, 0, none⟩ (.int .i64 MY.a)).setCell ⟨gb, 1, none⟩ (.int .i64 MY.b)).setCell ⟨gb, 2, none⟩ (.int .i64 MY.c)) from below_set3 BB4.out gb3.out (.int .i64 MY.a) (.int .i64 MY.b) (.int .i64 MY.c))
    have B5 := Lib.hid (show Cells3 (((v4.setCell ⟨gb, 0, none⟩ (.int .i64 MY.a)).setCell ⟨gb, 1, none⟩ (.int .i64 MY.b)).setCell ⟨gb, 2, none⟩ (.int .i64 MY.c)) gb (.int .i64 MY.a) (.int .i64 MY.b) (.int .i64 MY.c) from B4.out.set (.int .i64 MY.a) (.int .i64 MY.b) (.int .i64 MY.c))
    have A5 := Lib.hid (show Cells3 (((v4.setCell ⟨gb, 0, none⟩ (.int .i64 MY.a)).setCell ⟨gb, 1, none⟩ (.int .i64 MY.b)).setCell ⟨gb, 2, none⟩ (.int .i64 MY.c)) ga (.int .i64 MX.a) (.int .i64 MX.b) (.int .i64 MX.c) from A4.out.apart ne3.out.symm (.int .i64 MY.a) (.int .i64 MY.b) (.int .i64 MY.c))
    clear hHeld BB4 B4 A4
    generalize ((v4.setCell ⟨gb, 0, none⟩ (.int .i64 MY.a)).setCell ⟨gb, 1, none⟩ (.int .i64 MY.b)).setCell ⟨gb, 2, none⟩ (.int .i64 MY.c) = v5 at *
    refine hK.out _ _ (HS.out _ BB5.out) (fun hHeld => ?_)
    clear hK K
    try simp only [sp]
    refine tk 28 9 rfl ?_
    try simp only [sp]
    refine wpAnyH_done (by kernel_rfl) ?_ _
    go_wp2
    go_meet
    exact ⟨ga, gb, rfl, rfl, rfl, A5, B5, BB5, Lib.hid ⟨ga2.out, gb3.out, ne3.out⟩⟩
   refine AllReadyH.cons (o := ⟨some 8, _, _, _, _, _⟩) rfl (fun K hK => ?_) AllReadyH.nil
   go_simp
   have hb := Below.al (Below.refl _ v1) (.cells #[.int .i64 0, .int .i64 0, .int .i64 0] 58)
   have BB6 := Lib.hid (BB1.out.trans (hb.mono BB1.out.size))
   have B6 := Lib.hid (Cells3.new v1 58 (.int .i64 0) (.int .i64 0) (.int .i64 0))
   have gb6 := Lib.hid BB1.out.size
   clear hb hHeld BB1
   generalize v1.alloc (.cells #[.int .i64 0, .int .i64 0, .int .i64 0] 58) = v6 at *
   generalize v1.heap.size = gb at *
   refine hK.out _ _ (HS.out _ BB6.out) (fun hHeld => ?_)
   clear hK K
   try simp only [sp]
   refine wpAnyH_ready (rs := [24]) (by kernel_rfl) (by simp) ?_
   refine AllReadyH.cons (o := ⟨some 7, _, _, _, _, _⟩) rfl (fun K hK => ?_) AllReadyH.nil
   go_simp
   have hb := Below.al (Below.refl _ v6) (.cells #[.int .i64 0, .int .i64 0, .int .i64 0] 58)
   have BB7 := Lib.hid (BB6.out.trans (hb.mono BB6.out.size))
   have A7 := Lib.hid (Cells3.new v6 58 (.int .i64 0) (.int .i64 0) (.int .i64 0))
   have ga7 := Lib.hid BB6.out.size
   have ne7 := Lib.hid (show gb ≠ v6.heap.size from by obtain ⟨_, _, _, _, _, _, sl⟩ := B6.out; omega)
   have B7 := Lib.hid (B6.out.below hb)
   have nf7 := Lib.hid ne7.out.symm
   clear hb hHeld BB6 B6 ne7
   generalize v6.alloc (.cells #[.int .i64 0, .int .i64 0, .int .i64 0] 58) = v7 at *
   generalize v6.heap.size = ga at *
   refine hK.out _ _ (HS.out _ BB7.out) (fun hHeld => ?_)
   clear hK K
   try simp only [sp]
   refine wpAnyH_ready (rs := [26]) (by kernel_rfl) (by simp) ?_
   refine AllReadyH.cons (o := ⟨none, _, _, _, _, _⟩) rfl (fun K hK => ?_) AllReadyH.nil
   obtain ⟨s0, s1, s2, y0, y1, y2, sl⟩ := A7.out
   go_simp
   clear s0 s1 s2 y0 y1 y2 sl
   have BB8 := Lib.hid (show Below w2.heap.size w2 (((v7.setCell ⟨ga, 0, none⟩ (.int .i64 MX.a)).setCell ⟨ga, 1, none⟩ (.int .i64 MX.b)).setCell ⟨ga, 2, none⟩ (.int .i64 MX.c)) from below_set3 BB7.out ga7.out (.int .i64 MX.a) (.int .i64 MX.b) (.int .i64 MX.c))
   have A8 := Lib.hid (show Cells3 (((v7.setCell ⟨ga, 0, none⟩ (.int .i64 MX.a)).setCell ⟨ga, 1, none⟩ (.int .i64 MX.b)).setCell ⟨ga, 2, none⟩ (.int .i64 MX.c)) ga (.int .i64 MX.a) (.int .i64 MX.b) (.int .i64 MX.c) from A7.out.set (.int .i64 MX.a) (.int .i64 MX.b) (.int .i64 MX.c))
   have B8 := Lib.hid (show Cells3 (((v7.setCell ⟨ga, 0, none⟩ (.int .i64 MX.a)).setCell ⟨ga, 1, none⟩ (.int .i64 MX.b)).setCell ⟨ga, 2, none⟩ (.int .i64 MX.c)) gb (.int .i64 0) (.int .i64 0) (.int .i64 0) from B7.out.apart nf7.out (.int .i64 MX.a) (.int .i64 MX.b) (.int .i64 MX.c))
   clear hHeld BB7 A7 B7
   generalize ((v7.setCell ⟨ga, 0, none⟩ (.int .i64 MX.a)).setCell ⟨ga, 1, none⟩ (.int .i64 MX.b)).setCell ⟨ga, 2, none⟩ (.int .i64 MX.c) = v8 at *
   refine hK.out _ _ (HS.out _ BB8.out) (fun hHeld => ?_)
   clear hK K
   try simp only [sp]
   refine wpAnyH_ready (rs := [27]) (by kernel_rfl) (by simp) ?_
   refine AllReadyH.cons (o := ⟨none, _, _, _, _, _⟩) rfl (fun K hK => ?_) AllReadyH.nil
   obtain ⟨s0, s1, s2, y0, y1, y2, sl⟩ := B8.out
   go_simp
   clear s0 s1 s2 y0 y1 y2 sl
   have BB9 := Lib.hid (show Below w2.heap.size w2 (((v8.setCell ⟨gb, 0, none⟩ (.int .i64 MY.a)).setCell ⟨gb, 1, none⟩ (.int .i64 MY.b)).setCell ⟨gb, 2, none⟩ (.int .i64 MY.c)) from below_set3 BB8.out gb6.out (.int .i64 MY.a) (.int .i64 MY.b) (.int .i64 MY.c))
   have B9 := Lib.hid (show Cells3 (((v8.setCell ⟨gb, 0, none⟩ (.int .i64 MY.a)).setCell ⟨gb, 1, none⟩ (.int .i64 MY.b)).setCell ⟨gb, 2, none⟩ (.int .i64 MY.c)) gb (.int .i64 MY.a) (.int .i64 MY.b) (.int .i64 MY.c) from B8.out.set (.int .i64 MY.a) (.int .i64 MY.b) (.int .i64 MY.c))
   have A9 := Lib.hid (show Cells3 (((v8.setCell ⟨gb, 0, none⟩ (.int .i64 MY.a)).setCell ⟨gb, 1, none⟩ (.int .i64 MY.b)).setCell ⟨gb, 2, none⟩ (.int .i64 MY.c)) ga (.int .i64 MX.a) (.int .i64 MX.b) (.int .i64 MX.c) from A8.out.apart nf7.out.symm (.int .i64 MY.a) (.int .i64 MY.b) (.int .i64 MY.c))
   clear hHeld BB8 B8 A8
   generalize ((v8.setCell ⟨gb, 0, none⟩ (.int .i64 MY.a)).setCell ⟨gb, 1, none⟩ (.int .i64 MY.b)).setCell ⟨gb, 2, none⟩ (.int .i64 MY.c) = v9 at *
   refine hK.out _ _ (HS.out _ BB9.out) (fun hHeld => ?_)
   clear hK K
   try simp only [sp]
   refine tk 28 9 rfl ?_
   try simp only [sp]
   refine wpAnyH_done (by kernel_rfl) ?_ _
   go_wp2
   go_meet
   exact ⟨ga, gb, rfl, rfl, rfl, A9, B9, BB9, Lib.hid ⟨ga7.out, gb6.out, nf7.out⟩⟩
  refine AllReadyH.cons (o := ⟨some 7, _, _, _, _, _⟩) rfl (fun K hK => ?_) ?_
  ·go_simp
   have hb := Below.al (Below.refl _ v0) (.cells #[.int .i64 0, .int .i64 0, .int .i64 0] 58)
   have BB10 := Lib.hid (BB0.out.trans (hb.mono BB0.out.size))
   have A10 := Lib.hid (Cells3.new v0 58 (.int .i64 0) (.int .i64 0) (.int .i64 0))
   have ga10 := Lib.hid BB0.out.size
   clear hb hHeld BB0
   generalize v0.alloc (.cells #[.int .i64 0, .int .i64 0, .int .i64 0] 58) = v10 at *
   generalize v0.heap.size = ga at *
   refine hK.out _ _ (HS.out _ BB10.out) (fun hHeld => ?_)
   clear hK K
   try simp only [sp]
   refine wpAnyH_ready (rs := [19, 25]) (by kernel_rfl) (by simp) ?_
   refine AllReadyH.cons (o := ⟨some 45, _, _, _, _, _⟩) rfl (fun K hK => ?_) ?_
   ·go_simp
    refine (HMV.out _).mono ?_
    rintro e v11 ⟨rfl, hb⟩
    have BB11 := Lib.hid (BB10.out.trans (hb.mono BB10.out.size))
    have A11 := Lib.hid (A10.out.below hb)
    clear hb hHeld BB10 A10
    go_wp2_with fail
    refine hK.out _ _ (HS.out _ BB11.out) (fun hHeld => ?_)
    clear hK K
    try simp only [sp]
    refine tk 20 25 rfl ?_
    try simp only [sp]
    refine tk 21 46 rfl ?_
    try simp only [sp]
    refine tk 22 47 rfl ?_
    try simp only [sp]
    refine tk 23 48 rfl ?_
    try simp only [sp]
    refine wpAnyH_ready (rs := [25]) (by kernel_rfl) (by simp) ?_
    refine AllReadyH.cons (o := ⟨some 8, _, _, _, _, _⟩) rfl (fun K hK => ?_) AllReadyH.nil
    go_simp
    have hb := Below.al (Below.refl _ v11) (.cells #[.int .i64 0, .int .i64 0, .int .i64 0] 58)
    have BB12 := Lib.hid (BB11.out.trans (hb.mono BB11.out.size))
    have B12 := Lib.hid (Cells3.new v11 58 (.int .i64 0) (.int .i64 0) (.int .i64 0))
    have gb12 := Lib.hid BB11.out.size
    have ne12 := Lib.hid (show ga ≠ v11.heap.size from by obtain ⟨_, _, _, _, _, _, sl⟩ := A11.out; omega)
    have A12 := Lib.hid (A11.out.below hb)
    clear hb hHeld BB11 A11
    generalize v11.alloc (.cells #[.int .i64 0, .int .i64 0, .int .i64 0] 58) = v12 at *
    generalize v11.heap.size = gb at *
    refine hK.out _ _ (HS.out _ BB12.out) (fun hHeld => ?_)
    clear hK K
    try simp only [sp]
    refine wpAnyH_ready (rs := [26]) (by kernel_rfl) (by simp) ?_
    refine AllReadyH.cons (o := ⟨none, _, _, _, _, _⟩) rfl (fun K hK => ?_) AllReadyH.nil
    obtain ⟨s0, s1, s2, y0, y1, y2, sl⟩ := A12.out
    go_simp
    clear s0 s1 s2 y0 y1 y2 sl
    have BB13 := Lib.hid (show Below w2.heap.size w2 (((v12.setCell ⟨ga, 0, none⟩ (.int .i64 MX.a)).setCell ⟨ga, 1, none⟩ (.int .i64 MX.b)).setCell ⟨ga, 2, none⟩ (.int .i64 MX.c)) from below_set3 BB12.out ga10.out (.int .i64 MX.a) (.int .i64 MX.b) (.int .i64 MX.c))
    have A13 := Lib.hid (show Cells3 (((v12.setCell ⟨ga, 0, none⟩ (.int .i64 MX.a)).setCell ⟨ga, 1, none⟩ (.int .i64 MX.b)).setCell ⟨ga, 2, none⟩ (.int .i64 MX.c)) ga (.int .i64 MX.a) (.int .i64 MX.b) (.int .i64 MX.c) from A12.out.set (.int .i64 MX.a) (.int .i64 MX.b) (.int .i64 MX.c))
    have B13 := Lib.hid (show Cells3 (((v12.setCell ⟨ga, 0, none⟩ (.int .i64 MX.a)).setCell ⟨ga, 1, none⟩ (.int .i64 MX.b)).setCell ⟨ga, 2, none⟩ (.int .i64 MX.c)) gb (.int .i64 0) (.int .i64 0) (.int .i64 0) from B12.out.apart ne12.out (.int .i64 MX.a) (.int .i64 MX.b) (.int .i64 MX.c))
    clear hHeld BB12 A12 B12
    generalize ((v12.setCell ⟨ga, 0, none⟩ (.int .i64 MX.a)).setCell ⟨ga, 1, none⟩ (.int .i64 MX.b)).setCell ⟨ga, 2, none⟩ (.int .i64 MX.c) = v13 at *
    refine hK.out _ _ (HS.out _ BB13.out) (fun hHeld => ?_)
    clear hK K
    try simp only [sp]
    refine wpAnyH_ready (rs := [27]) (by kernel_rfl) (by simp) ?_
    refine AllReadyH.cons (o := ⟨none, _, _, _, _, _⟩) rfl (fun K hK => ?_) AllReadyH.nil
    obtain ⟨s0, s1, s2, y0, y1, y2, sl⟩ := B13.out
    go_simp
    clear s0 s1 s2 y0 y1 y2 sl
    have BB14 := Lib.hid (show Below w2.heap.size w2 (((v13.setCell ⟨gb, 0, none⟩ (.int .i64 MY.a)).setCell ⟨gb, 1, none⟩ (.int .i64 MY.b)).setCell ⟨gb, 2, none⟩ (.int .i64 MY.c)) from below_set3 BB13.out gb12.out (.int .i64 MY.a) (.int .i64 MY.b) (.int .i64 MY.c))
    have B14 := Lib.hid (show Cells3 (((v13.setCell ⟨gb, 0, none⟩ (.int .i64 MY.a)).setCell ⟨gb, 1, none⟩ (.int .i64 MY.b)).setCell ⟨gb, 2, none⟩ (.int .i64 MY.c)) gb (.int .i64 MY.a) (.int .i64 MY.b) (.int .i64 MY.c) from B13.out.set (.int .i64 MY.a) (.int .i64 MY.b) (.int .i64 MY.c))
    have A14 := Lib.hid (show Cells3 (((v13.setCell ⟨gb, 0, none⟩ (.int .i64 MY.a)).setCell ⟨gb, 1, none⟩ (.int .i64 MY.b)).setCell ⟨gb, 2, none⟩ (.int .i64 MY.c)) ga (.int .i64 MX.a) (.int .i64 MX.b) (.int .i64 MX.c) from A13.out.apart ne12.out.symm (.int .i64 MY.a) (.int .i64 MY.b) (.int .i64 MY.c))
    clear hHeld BB13 B13 A13
    generalize ((v13.setCell ⟨gb, 0, none⟩ (.int .i64 MY.a)).setCell ⟨gb, 1, none⟩ (.int .i64 MY.b)).setCell ⟨gb, 2, none⟩ (.int .i64 MY.c) = v14 at *
    refine hK.out _ _ (HS.out _ BB14.out) (fun hHeld => ?_)
    clear hK K
    try simp only [sp]
    refine tk 28 9 rfl ?_
    try simp only [sp]
    refine wpAnyH_done (by kernel_rfl) ?_ _
    go_wp2
    go_meet
    exact ⟨ga, gb, rfl, rfl, rfl, A14, B14, BB14, Lib.hid ⟨ga10.out, gb12.out, ne12.out⟩⟩
   refine AllReadyH.cons (o := ⟨some 8, _, _, _, _, _⟩) rfl (fun K hK => ?_) AllReadyH.nil
   go_simp
   have hb := Below.al (Below.refl _ v10) (.cells #[.int .i64 0, .int .i64 0, .int .i64 0] 58)
   have BB15 := Lib.hid (BB10.out.trans (hb.mono BB10.out.size))
   have B15 := Lib.hid (Cells3.new v10 58 (.int .i64 0) (.int .i64 0) (.int .i64 0))
   have gb15 := Lib.hid BB10.out.size
   have ne15 := Lib.hid (show ga ≠ v10.heap.size from by obtain ⟨_, _, _, _, _, _, sl⟩ := A10.out; omega)
   have A15 := Lib.hid (A10.out.below hb)
   clear hb hHeld BB10 A10
   generalize v10.alloc (.cells #[.int .i64 0, .int .i64 0, .int .i64 0] 58) = v15 at *
   generalize v10.heap.size = gb at *
   refine hK.out _ _ (HS.out _ BB15.out) (fun hHeld => ?_)
   clear hK K
   try simp only [sp]
   refine wpAnyH_ready (rs := [19]) (by kernel_rfl) (by simp) ?_
   refine AllReadyH.cons (o := ⟨some 45, _, _, _, _, _⟩) rfl (fun K hK => ?_) AllReadyH.nil
   go_simp
   refine (HMV.out _).mono ?_
   rintro e v16 ⟨rfl, hb⟩
   have BB16 := Lib.hid (BB15.out.trans (hb.mono BB15.out.size))
   have A16 := Lib.hid (A15.out.below hb)
   have B16 := Lib.hid (B15.out.below hb)
   clear hb hHeld BB15 A15 B15
   go_wp2_with fail
   refine hK.out _ _ (HS.out _ BB16.out) (fun hHeld => ?_)
   clear hK K
   try simp only [sp]
   refine tk 20 25 rfl ?_
   try simp only [sp]
   refine tk 21 46 rfl ?_
   try simp only [sp]
   refine tk 22 47 rfl ?_
   try simp only [sp]
   refine tk 23 48 rfl ?_
   try simp only [sp]
   refine wpAnyH_ready (rs := [26]) (by kernel_rfl) (by simp) ?_
   refine AllReadyH.cons (o := ⟨none, _, _, _, _, _⟩) rfl (fun K hK => ?_) AllReadyH.nil
   obtain ⟨s0, s1, s2, y0, y1, y2, sl⟩ := A16.out
   go_simp
   clear s0 s1 s2 y0 y1 y2 sl
   have BB17 := Lib.hid (show Below w2.heap.size w2 (((v16.setCell ⟨ga, 0, none⟩ (.int .i64 MX.a)).setCell ⟨ga, 1, none⟩ (.int .i64 MX.b)).setCell ⟨ga, 2, none⟩ (.int .i64 MX.c)) from below_set3 BB16.out ga10.out (.int .i64 MX.a) (.int .i64 MX.b) (.int .i64 MX.c))
   have A17 := Lib.hid (show Cells3 (((v16.setCell ⟨ga, 0, none⟩ (.int .i64 MX.a)).setCell ⟨ga, 1, none⟩ (.int .i64 MX.b)).setCell ⟨ga, 2, none⟩ (.int .i64 MX.c)) ga (.int .i64 MX.a) (.int .i64 MX.b) (.int .i64 MX.c) from A16.out.set (.int .i64 MX.a) (.int .i64 MX.b) (.int .i64 MX.c))
   have B17 := Lib.hid (show Cells3 (((v16.setCell ⟨ga, 0, none⟩ (.int .i64 MX.a)).setCell ⟨ga, 1, none⟩ (.int .i64 MX.b)).setCell ⟨ga, 2, none⟩ (.int .i64 MX.c)) gb (.int .i64 0) (.int .i64 0) (.int .i64 0) from B16.out.apart ne15.out (.int .i64 MX.a) (.int .i64 MX.b) (.int .i64 MX.c))
   clear hHeld BB16 A16 B16
   generalize ((v16.setCell ⟨ga, 0, none⟩ (.int .i64 MX.a)).setCell ⟨ga, 1, none⟩ (.int .i64 MX.b)).setCell ⟨ga, 2, none⟩ (.int .i64 MX.c) = v17 at *
   refine hK.out _ _ (HS.out _ BB17.out) (fun hHeld => ?_)
   clear hK K
   try simp only [sp]
   refine wpAnyH_ready (rs := [27]) (by kernel_rfl) (by simp) ?_
   refine AllReadyH.cons (o := ⟨none, _, _, _, _, _⟩) rfl (fun K hK => ?_) AllReadyH.nil
   obtain ⟨s0, s1, s2, y0, y1, y2, sl⟩ := B17.out
   go_simp
   clear s0 s1 s2 y0 y1 y2 sl
   have BB18 := Lib.hid (show Below w2.heap.size w2 (((v17.setCell ⟨gb, 0, none⟩ (.int .i64 MY.a)).setCell ⟨gb, 1, none⟩ (.int .i64 MY.b)).setCell ⟨gb, 2, none⟩ (.int .i64 MY.c)) from below_set3 BB17.out gb15.out (.int .i64 MY.a) (.int .i64 MY.b) (.int .i64 MY.c))
   have B18 := Lib.hid (show Cells3 (((v17.setCell ⟨gb, 0, none⟩ (.int .i64 MY.a)).setCell ⟨gb, 1, none⟩ (.int .i64 MY.b)).setCell ⟨gb, 2, none⟩ (.int .i64 MY.c)) gb (.int .i64 MY.a) (.int .i64 MY.b) (.int .i64 MY.c) from B17.out.set (.int .i64 MY.a) (.int .i64 MY.b) (.int .i64 MY.c))
   have A18 := Lib.hid (show Cells3 (((v17.setCell ⟨gb, 0, none⟩ (.int .i64 MY.a)).setCell ⟨gb, 1, none⟩ (.int .i64 MY.b)).setCell ⟨gb, 2, none⟩ (.int .i64 MY.c)) ga (.int .i64 MX.a) (.int .i64 MX.b) (.int .i64 MX.c) from A17.out.apart ne15.out.symm (.int .i64 MY.a) (.int .i64 MY.b) (.int .i64 MY.c))
   clear hHeld BB17 B17 A17
   generalize ((v17.setCell ⟨gb, 0, none⟩ (.int .i64 MY.a)).setCell ⟨gb, 1, none⟩ (.int .i64 MY.b)).setCell ⟨gb, 2, none⟩ (.int .i64 MY.c) = v18 at *
   refine hK.out _ _ (HS.out _ BB18.out) (fun hHeld => ?_)
   clear hK K
   try simp only [sp]
   refine tk 28 9 rfl ?_
   try simp only [sp]
   refine wpAnyH_done (by kernel_rfl) ?_ _
   go_wp2
   go_meet
   exact ⟨ga, gb, rfl, rfl, rfl, A18, B18, BB18, Lib.hid ⟨ga10.out, gb15.out, ne15.out⟩⟩
  refine AllReadyH.cons (o := ⟨some 8, _, _, _, _, _⟩) rfl (fun K hK => ?_) AllReadyH.nil
  go_simp
  have hb := Below.al (Below.refl _ v0) (.cells #[.int .i64 0, .int .i64 0, .int .i64 0] 58)
  have BB19 := Lib.hid (BB0.out.trans (hb.mono BB0.out.size))
  have B19 := Lib.hid (Cells3.new v0 58 (.int .i64 0) (.int .i64 0) (.int .i64 0))
  have gb19 := Lib.hid BB0.out.size
  clear hb hHeld BB0
  generalize v0.alloc (.cells #[.int .i64 0, .int .i64 0, .int .i64 0] 58) = v19 at *
  generalize v0.heap.size = gb at *
  refine hK.out _ _ (HS.out _ BB19.out) (fun hHeld => ?_)
  clear hK K
  try simp only [sp]
  refine wpAnyH_ready (rs := [19, 24]) (by kernel_rfl) (by simp) ?_
  refine AllReadyH.cons (o := ⟨some 45, _, _, _, _, _⟩) rfl (fun K hK => ?_) ?_
  ·go_simp
   refine (HMV.out _).mono ?_
   rintro e v20 ⟨rfl, hb⟩
   have BB20 := Lib.hid (BB19.out.trans (hb.mono BB19.out.size))
   have B20 := Lib.hid (B19.out.below hb)
   clear hb hHeld BB19 B19
   go_wp2_with fail
   refine hK.out _ _ (HS.out _ BB20.out) (fun hHeld => ?_)
   clear hK K
   try simp only [sp]
   refine tk 20 25 rfl ?_
   try simp only [sp]
   refine tk 21 46 rfl ?_
   try simp only [sp]
   refine tk 22 47 rfl ?_
   try simp only [sp]
   refine tk 23 48 rfl ?_
   try simp only [sp]
   refine wpAnyH_ready (rs := [24]) (by kernel_rfl) (by simp) ?_
   refine AllReadyH.cons (o := ⟨some 7, _, _, _, _, _⟩) rfl (fun K hK => ?_) AllReadyH.nil
   go_simp
   have hb := Below.al (Below.refl _ v20) (.cells #[.int .i64 0, .int .i64 0, .int .i64 0] 58)
   have BB21 := Lib.hid (BB20.out.trans (hb.mono BB20.out.size))
   have A21 := Lib.hid (Cells3.new v20 58 (.int .i64 0) (.int .i64 0) (.int .i64 0))
   have ga21 := Lib.hid BB20.out.size
   have ne21 := Lib.hid (show gb ≠ v20.heap.size from by obtain ⟨_, _, _, _, _, _, sl⟩ := B20.out; omega)
   have B21 := Lib.hid (B20.out.below hb)
   have nf21 := Lib.hid ne21.out.symm
   clear hb hHeld BB20 B20 ne21
   generalize v20.alloc (.cells #[.int .i64 0, .int .i64 0, .int .i64 0] 58) = v21 at *
   generalize v20.heap.size = ga at *
   refine hK.out _ _ (HS.out _ BB21.out) (fun hHeld => ?_)
   clear hK K
   try simp only [sp]
   refine wpAnyH_ready (rs := [26]) (by kernel_rfl) (by simp) ?_
   refine AllReadyH.cons (o := ⟨none, _, _, _, _, _⟩) rfl (fun K hK => ?_) AllReadyH.nil
   obtain ⟨s0, s1, s2, y0, y1, y2, sl⟩ := A21.out
   go_simp
   clear s0 s1 s2 y0 y1 y2 sl
   have BB22 := Lib.hid (show Below w2.heap.size w2 (((v21.setCell ⟨ga, 0, none⟩ (.int .i64 MX.a)).setCell ⟨ga, 1, none⟩ (.int .i64 MX.b)).setCell ⟨ga, 2, none⟩ (.int .i64 MX.c)) from below_set3 BB21.out ga21.out (.int .i64 MX.a) (.int .i64 MX.b) (.int .i64 MX.c))
   have A22 := Lib.hid (show Cells3 (((v21.setCell ⟨ga, 0, none⟩ (.int .i64 MX.a)).setCell ⟨ga, 1, none⟩ (.int .i64 MX.b)).setCell ⟨ga, 2, none⟩ (.int .i64 MX.c)) ga (.int .i64 MX.a) (.int .i64 MX.b) (.int .i64 MX.c) from A21.out.set (.int .i64 MX.a) (.int .i64 MX.b) (.int .i64 MX.c))
   have B22 := Lib.hid (show Cells3 (((v21.setCell ⟨ga, 0, none⟩ (.int .i64 MX.a)).setCell ⟨ga, 1, none⟩ (.int .i64 MX.b)).setCell ⟨ga, 2, none⟩ (.int .i64 MX.c)) gb (.int .i64 0) (.int .i64 0) (.int .i64 0) from B21.out.apart nf21.out (.int .i64 MX.a) (.int .i64 MX.b) (.int .i64 MX.c))
   clear hHeld BB21 A21 B21
   generalize ((v21.setCell ⟨ga, 0, none⟩ (.int .i64 MX.a)).setCell ⟨ga, 1, none⟩ (.int .i64 MX.b)).setCell ⟨ga, 2, none⟩ (.int .i64 MX.c) = v22 at *
   refine hK.out _ _ (HS.out _ BB22.out) (fun hHeld => ?_)
   clear hK K
   try simp only [sp]
   refine wpAnyH_ready (rs := [27]) (by kernel_rfl) (by simp) ?_
   refine AllReadyH.cons (o := ⟨none, _, _, _, _, _⟩) rfl (fun K hK => ?_) AllReadyH.nil
   obtain ⟨s0, s1, s2, y0, y1, y2, sl⟩ := B22.out
   go_simp
   clear s0 s1 s2 y0 y1 y2 sl
   have BB23 := Lib.hid (show Below w2.heap.size w2 (((v22.setCell ⟨gb, 0, none⟩ (.int .i64 MY.a)).setCell ⟨gb, 1, none⟩ (.int .i64 MY.b)).setCell ⟨gb, 2, none⟩ (.int .i64 MY.c)) from below_set3 BB22.out gb19.out (.int .i64 MY.a) (.int .i64 MY.b) (.int .i64 MY.c))
   have B23 := Lib.hid (show Cells3 (((v22.setCell ⟨gb, 0, none⟩ (.int .i64 MY.a)).setCell ⟨gb, 1, none⟩ (.int .i64 MY.b)).setCell ⟨gb, 2, none⟩ (.int .i64 MY.c)) gb (.int .i64 MY.a) (.int .i64 MY.b) (.int .i64 MY.c) from B22.out.set (.int .i64 MY.a) (.int .i64 MY.b) (.int .i64 MY.c))
   have A23 := Lib.hid (show Cells3 (((v22.setCell ⟨gb, 0, none⟩ (.int .i64 MY.a)).setCell ⟨gb, 1, none⟩ (.int .i64 MY.b)).setCell ⟨gb, 2, none⟩ (.int .i64 MY.c)) ga (.int .i64 MX.a) (.int .i64 MX.b) (.int .i64 MX.c) from A22.out.apart nf21.out.symm (.int .i64 MY.a) (.int .i64 MY.b) (.int .i64 MY.c))
   clear hHeld BB22 B22 A22
   generalize ((v22.setCell ⟨gb, 0, none⟩ (.int .i64 MY.a)).setCell ⟨gb, 1, none⟩ (.int .i64 MY.b)).setCell ⟨gb, 2, none⟩ (.int .i64 MY.c) = v23 at *
   refine hK.out _ _ (HS.out _ BB23.out) (fun hHeld => ?_)
   clear hK K
   try simp only [sp]
   refine tk 28 9 rfl ?_
   try simp only [sp]
   refine wpAnyH_done (by kernel_rfl) ?_ _
   go_wp2
   go_meet
   exact ⟨ga, gb, rfl, rfl, rfl, A23, B23, BB23, Lib.hid ⟨ga21.out, gb19.out, nf21.out⟩⟩
  refine AllReadyH.cons (o := ⟨some 7, _, _, _, _, _⟩) rfl (fun K hK => ?_) AllReadyH.nil
  go_simp
  have hb := Below.al (Below.refl _ v19) (.cells #[.int .i64 0, .int .i64 0, .int .i64 0] 58)
  have BB24 := Lib.hid (BB19.out.trans (hb.mono BB19.out.size))
  have A24 := Lib.hid (Cells3.new v19 58 (.int .i64 0) (.int .i64 0) (.int .i64 0))
  have ga24 := Lib.hid BB19.out.size
  have ne24 := Lib.hid (show gb ≠ v19.heap.size from by obtain ⟨_, _, _, _, _, _, sl⟩ := B19.out; omega)
  have B24 := Lib.hid (B19.out.below hb)
  have nf24 := Lib.hid ne24.out.symm
  clear hb hHeld BB19 B19 ne24
  generalize v19.alloc (.cells #[.int .i64 0, .int .i64 0, .int .i64 0] 58) = v24 at *
  generalize v19.heap.size = ga at *
  refine hK.out _ _ (HS.out _ BB24.out) (fun hHeld => ?_)
  clear hK K
  try simp only [sp]
  refine wpAnyH_ready (rs := [19]) (by kernel_rfl) (by simp) ?_
  refine AllReadyH.cons (o := ⟨some 45, _, _, _, _, _⟩) rfl (fun K hK => ?_) AllReadyH.nil
  go_simp
  refine (HMV.out _).mono ?_
  rintro e v25 ⟨rfl, hb⟩
  have BB25 := Lib.hid (BB24.out.trans (hb.mono BB24.out.size))
  have A25 := Lib.hid (A24.out.below hb)
  have B25 := Lib.hid (B24.out.below hb)
  clear hb hHeld BB24 A24 B24
  go_wp2_with fail
  refine hK.out _ _ (HS.out _ BB25.out) (fun hHeld => ?_)
  clear hK K
  try simp only [sp]
  refine tk 20 25 rfl ?_
  try simp only [sp]
  refine tk 21 46 rfl ?_
  try simp only [sp]
  refine tk 22 47 rfl ?_
  try simp only [sp]
  refine tk 23 48 rfl ?_
  try simp only [sp]
  refine wpAnyH_ready (rs := [26]) (by kernel_rfl) (by simp) ?_
  refine AllReadyH.cons (o := ⟨none, _, _, _, _, _⟩) rfl (fun K hK => ?_) AllReadyH.nil
  obtain ⟨s0, s1, s2, y0, y1, y2, sl⟩ := A25.out
  go_simp
  clear s0 s1 s2 y0 y1 y2 sl
  have BB26 := Lib.hid (show Below w2.heap.size w2 (((v25.setCell ⟨ga, 0, none⟩ (.int .i64 MX.a)).setCell ⟨ga, 1, none⟩ (.int .i64 MX.b)).setCell ⟨ga, 2, none⟩ (.int .i64 MX.c)) from below_set3 BB25.out ga24.out (.int .i64 MX.a) (.int .i64 MX.b) (.int .i64 MX.c))
  have A26 := Lib.hid (show Cells3 (((v25.setCell ⟨ga, 0, none⟩ (.int .i64 MX.a)).setCell ⟨ga, 1, none⟩ (.int .i64 MX.b)).setCell ⟨ga, 2, none⟩ (.int .i64 MX.c)) ga (.int .i64 MX.a) (.int .i64 MX.b) (.int .i64 MX.c) from A25.out.set (.int .i64 MX.a) (.int .i64 MX.b) (.int .i64 MX.c))
  have B26 := Lib.hid (show Cells3 (((v25.setCell ⟨ga, 0, none⟩ (.int .i64 MX.a)).setCell ⟨ga, 1, none⟩ (.int .i64 MX.b)).setCell ⟨ga, 2, none⟩ (.int .i64 MX.c)) gb (.int .i64 0) (.int .i64 0) (.int .i64 0) from B25.out.apart nf24.out (.int .i64 MX.a) (.int .i64 MX.b) (.int .i64 MX.c))
  clear hHeld BB25 A25 B25
  generalize ((v25.setCell ⟨ga, 0, none⟩ (.int .i64 MX.a)).setCell ⟨ga, 1, none⟩ (.int .i64 MX.b)).setCell ⟨ga, 2, none⟩ (.int .i64 MX.c) = v26 at *
  refine hK.out _ _ (HS.out _ BB26.out) (fun hHeld => ?_)
  clear hK K
  try simp only [sp]
  refine wpAnyH_ready (rs := [27]) (by kernel_rfl) (by simp) ?_
  refine AllReadyH.cons (o := ⟨none, _, _, _, _, _⟩) rfl (fun K hK => ?_) AllReadyH.nil
  obtain ⟨s0, s1, s2, y0, y1, y2, sl⟩ := B26.out
  go_simp
  clear s0 s1 s2 y0 y1 y2 sl
  have BB27 := Lib.hid (show Below w2.heap.size w2 (((v26.setCell ⟨gb, 0, none⟩ (.int .i64 MY.a)).setCell ⟨gb, 1, none⟩ (.int .i64 MY.b)).setCell ⟨gb, 2, none⟩ (.int .i64 MY.c)) from below_set3 BB26.out gb19.out (.int .i64 MY.a) (.int .i64 MY.b) (.int .i64 MY.c))
  have B27 := Lib.hid (show Cells3 (((v26.setCell ⟨gb, 0, none⟩ (.int .i64 MY.a)).setCell ⟨gb, 1, none⟩ (.int .i64 MY.b)).setCell ⟨gb, 2, none⟩ (.int .i64 MY.c)) gb (.int .i64 MY.a) (.int .i64 MY.b) (.int .i64 MY.c) from B26.out.set (.int .i64 MY.a) (.int .i64 MY.b) (.int .i64 MY.c))
  have A27 := Lib.hid (show Cells3 (((v26.setCell ⟨gb, 0, none⟩ (.int .i64 MY.a)).setCell ⟨gb, 1, none⟩ (.int .i64 MY.b)).setCell ⟨gb, 2, none⟩ (.int .i64 MY.c)) ga (.int .i64 MX.a) (.int .i64 MX.b) (.int .i64 MX.c) from A26.out.apart nf24.out.symm (.int .i64 MY.a) (.int .i64 MY.b) (.int .i64 MY.c))
  clear hHeld BB26 B26 A26
  generalize ((v26.setCell ⟨gb, 0, none⟩ (.int .i64 MY.a)).setCell ⟨gb, 1, none⟩ (.int .i64 MY.b)).setCell ⟨gb, 2, none⟩ (.int .i64 MY.c) = v27 at *
  refine hK.out _ _ (HS.out _ BB27.out) (fun hHeld => ?_)
  clear hK K
  try simp only [sp]
  refine tk 28 9 rfl ?_
  try simp only [sp]
  refine wpAnyH_done (by kernel_rfl) ?_ _
  go_wp2
  go_meet
  exact ⟨ga, gb, rfl, rfl, rfl, A27, B27, BB27, Lib.hid ⟨ga24.out, gb19.out, nf24.out⟩⟩
 case rest =>
  obtain ⟨ga, gb, rfl, rfl, rfl, HA, HBx, HBW, HGG⟩ := hcut
  have HBD := Lib.hid (HB2.out.trans (HBW.out.mono (Nat.le_trans (Nat.le_of_lt HDL.out) HBV2.out.size)))
  --CUT4
  by_cases hE : E = 0
  case neg =>
   have hEb : (E != 0) = true := by simpa using hE
   go_wp2
   refine bodyPost_ret (v := .int .i64 E) ?_ rfl ⟨rfl, fun h => absurd h hE, HBD.out⟩
   simp [results, Tryz.results35, go_sem]
  obtain ⟨-, -, m3, m4⟩ := HMV2.out hE
  have HM3 := Lib.hid m3
  have HM4 := Lib.hid m4
  clear m3 m4
  subst hE
  have M1 := Lib.hid (MA.out.below HBW.out)
  have T1 := Lib.hid (TA.out.below HBW.out)
  obtain ⟨-, h1, h2, -⟩ := HBX.out wc (HBV2.out.trans (HBW.out.mono HBV2.out.size))
  have H2 := Lib.hid h2
  obtain ⟨a0, a1, a2, -⟩ := HA.out
  have P1 := Lib.hid (put_all t d b' wc B D kx MX M1.out T1.out HKX.out.1 HKX.out.2 HFX.out.1 (by rw [HHX.out, HM3.out]; have := HNF.out; unfold fits at *; omega) (by have := HL.out; omega) (by have := HL.out; omega))
  have HMX := Lib.hid (show MX.v = .agg #[.int .i64 MX.a, .int .i64 MX.b, .int .i64 MX.c] from rfl)
  go_wp2_with fail
  --CUT5
  refine P1.out.mono ?_
  rintro e w4 ⟨q, rfl, hq, hM4, hT4, hb4, hkeep⟩
  have HQ := Lib.hid hq
  have M4 := Lib.hid hM4
  have T4 := Lib.hid hT4
  have HB4 := Lib.hid (HBD.out.trans hb4)
  have hlk := MA.out
  have fa : ∀ g, w2.heap.size ≤ g → some g ≠ bk t.cA ∧ some g ≠ bk t.lA := fun g hg => ⟨fun e => by have := (hlk.c.lt g (bk_own e.symm)).2; omega, fun e => by have := (hlk.l.lt g (bk_own e.symm)).2; omega⟩
  obtain ⟨n1, n2⟩ := fa gb HGG.out.2.1
  obtain ⟨b0, b1, b2, -⟩ := HBx.out
  have c0 := hkeep _ _ b0 n1 n2
  have c1 := hkeep _ _ b1 n1 n2
  have c2 := hkeep _ _ b2 n1 n2
  have h2' := (hb4.cell (p := ⟨pb, 0, none⟩) HLA.out.2).trans H2.out
  have hg2 : (t.cl.set kx MX).getD ky ce0 = Y := by rw [gset_ne _ _ _ _ _ HXY.out]; exact HHY.out
  have P2 := Lib.hid (put_any { t with ll := t.ll.set kx q, cl := t.cl.set kx MX } d b' w4 B D ky MY M4.out T4.out (by show ky < (t.cl.set kx MX).length; rw [List.length_set]; exact HKY.out.1) (by show ky < (t.ll.set kx q).length; rw [List.length_set]; exact HKY.out.2) HFX.out.2 (by show fits (MY.b - ((t.cl.set kx MX).getD ky ce0).b); rw [hg2, HM4.out]; have := HNF.out; unfold fits at *; omega) (by show (t.cl.set kx MX).length ≤ _; rw [List.length_set]; have := HL.out; omega) (by show (t.ll.set kx q).length ≤ _; rw [List.length_set]; have := HL.out; omega))
  clear hq hM4 hT4 hb4 hkeep hlk fa n1 n2 b0 b1 b2 a0 a1 a2 h1 h2 hg2
  go_wp2_with fail
  --CUT6
  refine P2.out.mono ?_
  rintro e w5 ⟨q2, rfl, hq2, hM5, hT5, hb5⟩
  have HB5 := Lib.hid (HB4.out.trans hb5)
  have M5 := Lib.hid hM5
  have HQ2 := Lib.hid hq2
  clear hq2 hM5 hT5 hb5 c0 c1 c2 h2'
  go_wp2
  refine bodyPost_ret (v := .int .i64 0) ?_ rfl ?_
  ·simp [results, Tryz.results35, go_sem]
  have hmo : ({ { t with ll := t.ll.set kx q, cl := t.cl.set kx MX } with ll := (t.ll.set kx q).set ky q2, cl := (t.cl.set kx MX).set ky MY } : Stk).ab = moA t.ab b' kx ky n := by
   rw [HMO.out]
   have e2 := HQ2.out
   rw [ptL_ab _ ky (by show ky < (t.ll.set kx q).length; rw [List.length_set]; exact HKY.out.2)] at e2
   have e1 := HQ.out
   rw [ptL_ab _ kx HKX.out.2] at e1
   simp only [Stk.ab, ptAb, List.map_set, e1] at e2 ⊢
   rw [e2]
  have hc1 : ((t.cl.set kx MX).set ky MY).length ≤ 100000 := by rw [List.length_set, List.length_set]; have := HL.out; omega
  have hc2 : ((t.ll.set kx q).set ky q2).length ≤ 100000 := by rw [List.length_set, List.length_set]; have := HL.out; omega
  have hc3 : t.tl.length ≤ 100000 := by have := HL.out; omega
  first
   | exact ⟨rfl, ⟨_, M5.out, hmo, hc1, hc2, hc3⟩, HB5.out⟩
   | exact ⟨rfl, fun _ => ⟨_, M5.out, hmo, hc1, hc2, hc3⟩, HB5.out⟩
end Go.Proofs.YtacjonncakhhmaaGreat
