/- Stocks: Move, by the reference. -/
import Derived.Test.YtacjonncakhhmaaGreatPv00
import Derived.Test.YtacjonncakhhmaaGreatPv32
import Derived.Test.YtacjonncakhhmaaGreatPv25
import Derived.Deep.Cut
set_option maxRecDepth 100000
set_option maxHeartbeats 8000000
namespace Go.Proofs.YtacjonncakhhmaaGreat
open Go.RowKit
theorem rmovef_any (d:Dk) (s:Stk) (b' x y n:Int) (w:World) (hd:d.In w w.heap.size) (hs:s.In w w.heap.size) (hn:fits n):
  Calls Tryz.prog 23 #[d.v,s.v,.int .i64 b',.int .i64 x,.int .i64 y,.int .i64 n] w fun e w'=>∃t:Stk,e=.returned (.tuple #[t.v,.int .i64 (cgE d s.ab b' (moE d s.ab x y n))])∧t.In w' w'.heap.size∧t.ab=(if cgE d s.ab b' (moE d s.ab x y n)=0 then moA s.ab b' x y n else ab0)∧Below w.heap.size w w'∧t.Far w.heap.size:=by
 obtain⟨w0,hw0⟩:∃w0,w0=(((w.alloc d.ob).alloc s.ob).alloc zo):=⟨_,rfl⟩;have HB0:=aH (show Below w.heap.size w w0 by rw[hw0];exact bL (bL (bL (bR _ _) _) _) _);have HD0:=aH (hd.then HB0.out);have HS0:=aH (hs.then HB0.out);obtain⟨Gd,hGd⟩:∃Gd,Gd=w.heap.size:=⟨_,rfl⟩;obtain⟨Gs,hGs⟩:∃Gs,Gs=w.heap.size+1:=⟨_,rfl⟩;obtain⟨Gr,hGr⟩:∃Gr,Gr=w.heap.size+1+1:=⟨_,rfl⟩;have HK:=aH (show DkAt w0 Gd d by rw[hw0,hGd];exact((Cells4.new w _ _ _ _ _).below (bL (bR _ _) _)).below (bL (bR _ _) _));have HT:=aH (show SkAt w0 Gs s by
  have e:(w.alloc d.ob).heap.size=w.heap.size+1:=by simp
  rw[hw0,hGs,←e];exact(Cells6.new (w.alloc d.ob) 31 _ _ _ _ _ _).below (bL (bR _ _) _))
 have HR:=aH (show Cells6 w0 Gr (.slice none 0 0) (.slice none 0 0) (.slice none 0 0) (.int .i64 0) (.int .i64 0) (.int .i64 0)by
  have e:((w.alloc d.ob).alloc s.ob).heap.size=w.heap.size+1+1:=by simp
  rw[hw0,hGr,←e];exact Cells6.new ((w.alloc d.ob).alloc s.ob) 31 _ _ _ _ _ _)
 have HG:=aH (show Gd=w.heap.size∧Gs=w.heap.size+1∧Gr=w.heap.size+2∧w0.heap.size=w.heap.size+3 from⟨hGd,hGs,by omega,by rw[hw0];simp⟩);have HMY:=aH (rmay_any d s b' w0 HD0.out HS0.out);have HNO:=aH (fun h=>@cgE_no d s.ab b' (moE d s.ab x y n) h);have HYE:=aH (fun h=>@cgE_yes d s.ab b' h);have HP:=aH (fun(h:rgS d s.ab=true)=>aI (isP_eq d (rg_ab d s.ab h).2.2.2.1 x).1 (isP_eq d (rg_ab d s.ab h).2.2.2.1 y).1);have HQ:=aH (fun(h:rgS d s.ab=true)=>rg_ab d s.ab h);have HLN:=aH (fun(h:rgS d s.ab=true)=>rg_lens d s h);have HWX:=aH (fun w=>well_any s x w);have HWY:=aH (fun w=>well_any s y w);have HFL:=aH (show moE d s.ab x y n=(if isP d 1 x=true∧isP d 1 y=true then(if x=y then 1 else Cel.mvE (s.cl.getD x.toNat ce0) (s.cl.getD y.toNat ce0) n)else 3)from rfl);have HAA:=aH (show moA s.ab b' x y n=ptAb (ptAb s.ab b' x.toNat (Cel.mvX (s.cl.getD x.toNat ce0) (s.cl.getD y.toNat ce0) n)) b' y.toNat (Cel.mvY (s.cl.getD x.toNat ce0) (s.cl.getD y.toNat ce0) n)from rfl);generalize moE d s.ab x y n=F at *;generalize moA s.ab b' x y n=dA at *;obtain⟨E,hE⟩:∃E,cgE d s.ab b' F=E:=⟨_,rfl⟩;rw[hE]at HNO;rw[hE];have HE:=aH hE;clear hE;obtain⟨mm,hm⟩:∃mm,cgE d s.ab b' 0=mm:=⟨_,rfl⟩;rw[hm]at HMY HNO HYE;clear hm;obtain⟨d0,d1,d2,d3,-⟩:=HK.out;obtain⟨t0,t1,t2,t3,t4,t5,-⟩:=HT.out;rw[hw0,hGd]at d0 d1 d2 d3;rw[hw0,hGs]at t0 t1 t2 t3 t4 t5;go_enter Tryz.func23,Tryz.ntmps23;go_wp2_with fail;rw[←hw0];try rw[←hGr]
 try rw[←hGs]
 try rw[←hGd]
 clear hw0 hGd hGs hGr d0 d1 d2 d3 t0 t1 t2 t3 t4 t5;refine HMY.out.mono ?_;rintro e w1 ⟨rfl,hb1⟩;have HB1:=aH hb1;clear hb1 HMY;by_cases h0:mm=0
 case neg=>
  have h0b:(mm != 0)=true:=by simpa using h0
  have hEm:E=mm:=HNO.out h0;subst hEm;have HNZ:=aH h0;clear h0;obtain⟨r0,r1,r2,r3,r4,r5,y0,y1,y2,y3,y4,y5,-⟩:=HR.out.below HB1.out;go_wp2;obtain⟨q0,q1,q2,q3,q4,q5,-⟩:=(HR.out.below HB1.out).set (.slice none 0 0) (.slice none 0 0) (.slice none 0 0) (.int .i64 0) (.int .i64 0) (.int .i64 0);refine bP (v:=.tuple #[stk0.v,.int .i64 (E)]) ?_ rfl ?_
  ·simp[results,Tryz.results23,go_sem,q0,q1,q2,q3,q4,q5,stk0]
  ·exact⟨stk0,rfl,stk0_in _ _,by first|rfl|(rw[if_neg HNZ.out];rfl),below_set6 (bC HB0.out HB1.out) (by have:=HG.out;omega) _ _ _ _ _ _,stk0_far _⟩
 subst h0;obtain⟨hrg,hEF⟩:=HYE.out rfl;have hEF:F=E:=(hEF F).symm.trans HE.out;subst hEF;have HPP:=aH (HP.out hrg);have HQQ:=aH (HQ.out hrg);have HLL:=aH (HLN.out hrg);clear hrg HP HQ HLN HNO HYE HE;obtain⟨t0,t1,t2,t3,t4,t5,-⟩:=HT.out.below HB1.out;go_wp2_with fail;clear t0 t1 t2 t3 t4 t5;refine(HWX.out w1).mono ?_;rintro e w2 ⟨rfl,hb2⟩;have HB2:=aH (show Below w0.heap.size w0 w2 from bC HB1.out hb2);clear hb2 HB1;by_cases hx:0≤x∧x<(s.cl.length:Int)
 case neg=>
  have hEm:F=3:=by
   rw[HFL.out,if_neg];intro h;have h1:=h.1;rw[HPP.out.1,decide_eq_true_eq]at h1;have hwn:=HLL.out.2.2.2.2.1;omega
  subst hEm;rw[dF hx];clear hx;obtain⟨r0,r1,r2,r3,r4,r5,y0,y1,y2,y3,y4,y5,-⟩:=HR.out.below HB2.out;go_wp2;obtain⟨q0,q1,q2,q3,q4,q5,-⟩:=(HR.out.below HB2.out).set (.slice none 0 0) (.slice none 0 0) (.slice none 0 0) (.int .i64 0) (.int .i64 0) (.int .i64 0);refine bP (v:=.tuple #[stk0.v,.int .i64 (3)]) ?_ rfl ?_
  ·simp[results,Tryz.results23,go_sem,q0,q1,q2,q3,q4,q5,stk0]
  ·exact⟨stk0,rfl,stk0_in _ _,by first|rfl|(rw[if_neg (by decide)];rfl),below_set6 (bC HB0.out HB2.out) (by have:=HG.out;omega) _ _ _ _ _ _,stk0_far _⟩
 rw[dT hx];obtain⟨t0,t1,t2,t3,t4,t5,-⟩:=HT.out.below HB2.out;go_wp2_with fail;clear t0 t1 t2 t3 t4 t5;refine(HWY.out w2).mono ?_;rintro e w3 ⟨rfl,hb3⟩;have HB3:=aH (show Below w0.heap.size w0 w3 from bC HB2.out hb3);clear hb3 HB2;by_cases hy:0≤y∧y<(s.cl.length:Int)
 case neg=>
  have hEm:F=3:=by
   rw[HFL.out,if_neg];intro h;have h1:=h.2;rw[HPP.out.2,decide_eq_true_eq]at h1;have hwn:=HLL.out.2.2.2.2.1;omega
  subst hEm;rw[dF hy];clear hx hy;obtain⟨r0,r1,r2,r3,r4,r5,y0,y1,y2,y3,y4,y5,-⟩:=HR.out.below HB3.out;go_wp2;obtain⟨q0,q1,q2,q3,q4,q5,-⟩:=(HR.out.below HB3.out).set (.slice none 0 0) (.slice none 0 0) (.slice none 0 0) (.int .i64 0) (.int .i64 0) (.int .i64 0);refine bP (v:=.tuple #[stk0.v,.int .i64 (3)]) ?_ rfl ?_
  ·simp[results,Tryz.results23,go_sem,q0,q1,q2,q3,q4,q5,stk0]
  ·exact⟨stk0,rfl,stk0_in _ _,by first|rfl|(rw[if_neg (by decide)];rfl),below_set6 (bC HB0.out HB3.out) (by have:=HG.out;omega) _ _ _ _ _ _,stk0_far _⟩
 rw[dT hy];have HFL:=aH (show F=(if x=y then 1 else Cel.mvE (s.cl.getD x.toNat ce0) (s.cl.getD y.toNat ce0) n)from by rw[HFL.out,if_pos ⟨by rw[HPP.out.1,decide_eq_true_eq];have hwn:=HLL.out.2.2.2.2.1;omega,by rw[HPP.out.2,decide_eq_true_eq];have hwn:=HLL.out.2.2.2.2.1;omega⟩]);obtain⟨kx,rfl⟩:=Int.eq_ofNat_of_zero_le hx.1;obtain⟨ky,rfl⟩:=Int.eq_ofNat_of_zero_le hy.1;have ekx:(kx:Int).toNat=kx:=by omega
 have eky:(ky:Int).toNat=ky:=by omega
 rw[ekx,eky]at HFL HAA;have hkx:kx<s.cl.length:=by omega
 have hky:ky<s.cl.length:=by omega
 have HKX:=aH (show kx<s.cl.length∧kx<s.ll.length from⟨hkx,by have h1:=HLL.out.2.2.2.2.1;have h2:=HLL.out.2.2.2.2.2.1;omega⟩);have HKY:=aH (show ky<s.cl.length∧ky<s.ll.length from⟨hky,by have h1:=HLL.out.2.2.2.2.1;have h2:=HLL.out.2.2.2.2.2.1;omega⟩);clear hx hy ekx eky HPP;by_cases hxy:kx=ky
 case pos=>
  subst hxy;have hEm:F=1:=by rw[HFL.out,if_pos rfl]
  subst hEm;clear hkx hky;obtain⟨r0,r1,r2,r3,r4,r5,y0,y1,y2,y3,y4,y5,-⟩:=HR.out.below HB3.out;go_wp2;obtain⟨q0,q1,q2,q3,q4,q5,-⟩:=(HR.out.below HB3.out).set (.slice none 0 0) (.slice none 0 0) (.slice none 0 0) (.int .i64 0) (.int .i64 0) (.int .i64 0);refine bP (v:=.tuple #[stk0.v,.int .i64 (1)]) ?_ rfl ?_
  ·simp[results,Tryz.results23,go_sem,q0,q1,q2,q3,q4,q5,stk0]
  ·exact⟨stk0,rfl,stk0_in _ _,by first|rfl|(rw[if_neg (by decide)];rfl),below_set6 (bC HB0.out HB3.out) (by have:=HG.out;omega) _ _ _ _ _ _,stk0_far _⟩
 have hxi:¬(kx:Int)=(ky:Int):=by omega
 have hxb:((kx:Int)==(ky:Int))=false:=by simpa using hxi
 have HFL:=aH (HFL.out.trans (if_neg hxi));have HXY:=aH hxy;obtain⟨gb,off,eA,-,hcc,hcell⟩:=ce_cells (HS0.out.then HB3.out).c (by omega);obtain⟨c0,c1,c2⟩:=hcell kx hkx;obtain⟨e0,e1,e2⟩:=hcell ky hky;obtain⟨X,hX⟩:∃X,s.cl.getD kx ce0=X:=⟨_,rfl⟩;obtain⟨Y,hY⟩:∃Y,s.cl.getD ky ce0=Y:=⟨_,rfl⟩;rw[hX]at c0 c1 c2 HFL HAA;rw[hY]at e0 e1 e2 HFL HAA;have HXX:=aH hX;have HYY:=aH hY;obtain⟨t0,-⟩:=HT.out.below HB3.out;rw[eA]at t0;have HS8:=aH (show ∀W,Below w3.heap.size w3 W→W.cell? ⟨Gs,0,none⟩=some (Value.slice (some ⟨gb,off,none⟩) s.cl.length s.cc)∧W.cell? ⟨gb,off+kx*3,none⟩=some (.int .i64 X.a)∧W.cell? ⟨gb,off+kx*3+1,none⟩=some (.int .i64 X.b)∧W.cell? ⟨gb,off+kx*3+2,none⟩=some (.int .i64 X.c)∧W.cell? ⟨gb,off+ky*3,none⟩=some (.int .i64 Y.a)∧W.cell? ⟨gb,off+ky*3+1,none⟩=some (.int .i64 Y.b)∧W.cell? ⟨gb,off+ky*3+2,none⟩=some (.int .i64 Y.c)from fun W h=>⟨kK h t0,kK h c0,kK h c1,kK h c2,kK h e0,kK h e1,kK h e2⟩);have hkxi:(kx:Int)<s.cl.length:=by omega
 have hkyi:(ky:Int)<s.cl.length:=by omega
 have HMV:=aH (fun w=>Cel.rmove_any X Y n hn w);have HMM:=aH (show F=0→(Cel.mvX X Y n).b-X.b= -(max n 0)∧(Cel.mvY X Y n).b-Y.b=max n 0 from fun h=>by
  rw[HFL.out]at h;obtain⟨m1,m2,m3,m4⟩:=mv_ok h;rw[m3,m4];exact⟨chV_b m1,chV_b m2⟩)
 have HFX:=aH (show(Cel.mvX X Y n).Fit∧(Cel.mvY X Y n).Fit from⟨by
  unfold Cel.mvX
  split
  ·exact chV_fit _ _
  ·exact⟨by decide,by decide,by decide⟩,by
  unfold Cel.mvY
  split
  ·exact chV_fit _ _
  ·exact⟨by decide,by decide,by decide⟩⟩)
 rw[←HFL.out]at HMV;generalize Cel.mvX X Y n=MX at *;generalize Cel.mvY X Y n=MY at *;clear hcell hX hY eA c0 c1 c2 e0 e1 e2 t0 hkx hky hxy HFL
 go_upto_region 8 with fail
 clear hxi hxb;go_cut [15,16,17]from 18 (fun t15 t16 t17 wx=>∃ga gb':Nat,t15=.pointer (some ⟨ga,0,none⟩)∧t16=.pointer (some ⟨gb',0,none⟩)∧t17=.int .i64 F∧Hid (Cells3 wx ga (.int .i64 MX.a) (.int .i64 MX.b) (.int .i64 MX.c))∧Hid (Cells3 wx gb' (.int .i64 MY.a) (.int .i64 MY.b) (.int .i64 MY.c))∧Hid (Below w3.heap.size w3 wx))
 case first=>
  clear HMM HFX HXX HYY HAA HXY HLL HQQ HWX HWY HKX HKY HT HK HR HG HD0 HS0;refine rG HS8.out (by kernel_rfl) (fun hHeld=>?_);have YY:=aH (show Below w3.heap.size w3 w3.drew from(bR _ _).drew);generalize w3.drew=v at *;refine wk [.k 0 43,.k 1 44,.k 2 45,.k 3 46,.k 4 47,.k 5 48,.k 6 49,.k 7 50,.k 8 51,.k 9 52,.k 10 53] (fun _ _ _ _ _ h=>h) hHeld ?_ (by kernel_rfl);repeat (refine .k (v:=?_) rfl (by kernel_rfl) ?_ ?_;rotate_left 1;((intro w hSw;(try dsimp only at hSw);go_simp)<;>(try with_reducible rfl));(try simp only[sp]))
  refine .nil ?_;have mr:=trivial
  repeat' (first
   |(
    clear mr;replace YC:=YC;replace YA:=YA;replace YB:=YB;refine wQ 18 none rfl (fun K hK=>?_) (by kernel_rfl))
   |(clear mr;replace YA:=YA;replace YB:=YB;refine wR 11 [] (by kernel_rfl) (rK (some 54) rfl (fun K hK=>have mc:=trivial;?_) rN))
   |(clear mr;replace YC:=YC;replace YB:=YB;refine wR 16 [] (by kernel_rfl) (rK (some 15) rfl (fun K hK=>have ma:=trivial;?_) rN))
   |(clear mr;replace YC:=YC;replace YA:=YA;refine wR 17 [] (by kernel_rfl) (rK (some 16) rfl (fun K hK=>have mb:=trivial;?_) rN))
   |(clear mr;replace YB:=YB;refine wR 11 [16] (by kernel_rfl) (rK (some 54) rfl (fun K hK=>have mc:=trivial;?_) (rK (some 15) rfl (fun K hK=>have ma:=trivial;?_) rN)))
   |(clear mr;replace YA:=YA;refine wR 11 [17] (by kernel_rfl) (rK (some 54) rfl (fun K hK=>have mc:=trivial;?_) (rK (some 16) rfl (fun K hK=>have mb:=trivial;?_) rN)))
   |(clear mr;replace YC:=YC;refine wR 16 [17] (by kernel_rfl) (rK (some 15) rfl (fun K hK=>have ma:=trivial;?_) (rK (some 16) rfl (fun K hK=>have mb:=trivial;?_) rN)))
   |(clear mr;refine wR 11 [16,17] (by kernel_rfl) (rK (some 54) rfl (fun K hK=>have mc:=trivial;?_) (rK (some 15) rfl (fun K hK=>have ma:=trivial;?_) (rK (some 16) rfl (fun K hK=>have mb:=trivial;?_) rN))))
   |(
    clear mc;go_simp;refine(HMV.out _).mono ?_;rintro e u ⟨rfl,hb⟩;replace YY:=aH (bC YY.out hb);(try replace YA:=aH (YA.out.below hb));(try replace YB:=aH (YB.out.below hb));clear hb hHeld;go_wp2_with fail;refine hK.out _ _ (HS8.out _ YY.out) (fun hHeld=>?_);clear hK K;(try simp only[sp]);clear v;rename World=>v
    refine wk [.k 12 42,.k 13 55,.k 14 56,.k 15 57] (fun _ _ _ _ _ h=>h) hHeld ?_ (by kernel_rfl);repeat (refine .k (v:=?_) rfl (by kernel_rfl) ?_ ?_;rotate_left 1;((intro w hSw;(try dsimp only at hSw);go_simp)<;>(try with_reducible rfl));(try simp only[sp]))
    refine .nil ?_;have YC:=trivial;have mr:=trivial)
   |(
    clear ma;go_simp;have hb:=bL (bR _ v) zc;have ZA:=aH YY.out.size;replace YY:=aH (bC YY.out hb);have YA:=aH (Cells3.new v 58 (.int .i64 0) (.int .i64 0) (.int .i64 0));(try (have ZN:=aH (show v.heap.size≠gb' from by obtain⟨_,_,_,_,_,_,sl⟩:=YB.out;omega);replace YB:=aH (YB.out.below hb)));clear hb hHeld;generalize v.alloc zc=u at *;generalize v.heap.size=ga at *;refine hK.out _ _ (HS8.out _ YY.out) (fun hHeld=>?_);clear hK K;(try simp only[sp]);clear v;rename World=>v
    have mr:=trivial)
   |(
    clear mb;go_simp;have hb:=bL (bR _ v) zc;have ZB:=aH YY.out.size;replace YY:=aH (bC YY.out hb);have YB:=aH (Cells3.new v 58 (.int .i64 0) (.int .i64 0) (.int .i64 0));(try (have ZN:=aH (show ga≠v.heap.size from by obtain⟨_,_,_,_,_,_,sl⟩:=YA.out;omega);replace YA:=aH (YA.out.below hb)));clear hb hHeld;generalize v.alloc zc=u at *;generalize v.heap.size=gb' at *;refine hK.out _ _ (HS8.out _ YY.out) (fun hHeld=>?_);clear hK K;(try simp only[sp]);clear v;rename World=>v
    have mr:=trivial))
  all_goals
   obtain⟨s0,s1,s2,y0,y1,y2,sl⟩:=YA.out;go_simp;clear s0 s1 s2 y0 y1 y2 sl;replace YY:=aH (below_set3 YY.out ZA.out (.int .i64 MX.a) (.int .i64 MX.b) (.int .i64 MX.c));replace YA:=aH (YA.out.set (.int .i64 MX.a) (.int .i64 MX.b) (.int .i64 MX.c));replace YB:=aH (YB.out.apart ZN.out (.int .i64 MX.a) (.int .i64 MX.b) (.int .i64 MX.c));clear hHeld;simp only[setC3]at YY YA YB;generalize ((v.setCell ⟨ga,0,none⟩ (.int .i64 MX.a)).setCell ⟨ga,1,none⟩ (.int .i64 MX.b)).setCell ⟨ga,2,none⟩ (.int .i64 MX.c)=x1 at *;refine hK.out _ _ (HS8.out _ YY.out) (fun hHeld=>?_);clear hK K;(try simp only[sp]);refine wQ 19 none rfl (fun K hK=>?_) (by kernel_rfl);obtain⟨s0,s1,s2,y0,y1,y2,sl⟩:=YB.out;go_simp;clear s0 s1 s2 y0 y1 y2 sl;replace YY:=aH (below_set3 YY.out ZB.out (.int .i64 MY.a) (.int .i64 MY.b) (.int .i64 MY.c));replace YB:=aH (YB.out.set (.int .i64 MY.a) (.int .i64 MY.b) (.int .i64 MY.c));replace YA:=aH (YA.out.apart ZN.out.symm (.int .i64 MY.a) (.int .i64 MY.b) (.int .i64 MY.c));clear hHeld;simp only[setC3]at YY YA YB;generalize ((x1.setCell ⟨gb',0,none⟩ (.int .i64 MY.a)).setCell ⟨gb',1,none⟩ (.int .i64 MY.b)).setCell ⟨gb',2,none⟩ (.int .i64 MY.c)=x2 at *;refine hK.out _ _ (HS8.out _ YY.out) (fun hHeld=>?_);clear hK K;(try simp only[sp]);refine wk [.k 20 17] (fun _ _ _ _ _ h=>h) hHeld ?_ (by kernel_rfl);repeat (refine .k (v:=?_) rfl (by kernel_rfl) ?_ ?_;rotate_left 1;((intro w hSw;(try dsimp only at hSw);go_simp)<;>(try with_reducible rfl));(try simp only[sp]))
   refine .nil ?_;refine wD (by kernel_rfl) ?_;go_wp2;go_meet;exact⟨ga,gb',rfl,rfl,rfl,YA,YB,YY⟩
 case rest=>
  obtain⟨ga,gb',rfl,rfl,rfl,HA3,HB33,HBW⟩:=hcut;have HB4:=aH (show Below w0.heap.size w0 wc from HB3.out.trans (HBW.out.mono HB3.out.size));by_cases hF:F=0
  case neg=>
   have hFb:(F != 0)=true:=(by simpa using hF);have HNZ:=aH hF;clear hF;obtain⟨r0,r1,r2,r3,r4,r5,y0,y1,y2,y3,y4,y5,-⟩:=HR.out.below HB4.out;go_wp2;obtain⟨q0,q1,q2,q3,q4,q5,-⟩:=(HR.out.below HB4.out).set (.slice none 0 0) (.slice none 0 0) (.slice none 0 0) (.int .i64 0) (.int .i64 0) (.int .i64 0);refine bP (v:=.tuple #[stk0.v,.int .i64 (F)]) ?_ rfl ?_
   ·simp[results,Tryz.results23,go_sem,q0,q1,q2,q3,q4,q5,stk0]
   ·exact⟨stk0,rfl,stk0_in _ _,by first|rfl|(rw[if_neg HNZ.out];rfl),below_set6 (bC HB0.out HB4.out) (by have:=HG.out;omega) _ _ _ _ _ _,stk0_far _⟩
  obtain⟨m3,m4⟩:=HMM.out hF;have HNX:=aH (show fits (MX.b-X.b)∧fits (MY.b-Y.b)from by rw[m3,m4];unfold fits at hn⊢;omega);subst hF;clear m3 m4 HMM;have HCP:=aH (rcopy_any s wc (HS0.out.then HB4.out) (by have:=HLL.out;omega) (by have:=HLL.out;omega) (by have:=HLL.out;omega) (fun q hq=>by have:=HLL.out.2.2.2.1 q hq;omega));obtain⟨t0,t1,t2,t3,t4,t5,-⟩:=HT.out.below HB4.out;go_wp2_with fail;clear t0 t1 t2 t3 t4 t5;refine HCP.out.mono ?_;rintro e w4 ⟨t,rfl,hta,htr,hb4,hta2⟩;obtain⟨v4,hv4⟩:∃v4,v4=w4.alloc t.ob:=⟨_,rfl⟩;have hba:=bL (bR w4.heap.size w4) t.ob;rw[←hv4]at hba;have HTA:=aH hta;have HTR:=aH (htr.below hba);have HRO:=aH (htr.out (D:=w4.heap.size) (nR _));have HSZ:=aH (show wc.heap.size≤w4.heap.size∧w4.heap.size<v4.heap.size from⟨hb4.size,by rw[hv4];simp⟩);have HB5:=aH (show Below w0.heap.size w0 v4 from HB4.out.trans ((bC hb4 hba).mono HB4.out.size));have HA4:=aH (HA3.out.below (bC hb4 hba));have HB44:=aH (HB33.out.below (bC hb4 hba));have HGL:=aH (show gb'<wc.heap.size from wB _ _ HB33.out.1);have HT4:=aH (show SkAt v4 w4.heap.size t by rw[hv4];exact Cells6.new w4 _ _ _ _ _ _ _);clear hta htr hb4 hta2 hba HA3 HB33 HCP;obtain⟨u0,u1,u2,u3,u4,u5,-⟩:=HT4.out;obtain⟨c0,c1,c2,-⟩:=HA4.out;rw[hv4]at u0 u1 u2 u3 u4 u5 c0 c1 c2;go_wp2_with fail;rw[←hv4];clear hv4 u0 u1 u2 u3 u4 u5 c0 c1 c2;obtain⟨Gt,hGt⟩:∃Gt,Gt=w4.heap.size:=⟨_,rfl⟩;rw[←hGt]at HT4 HRO HSZ;try rw[←hGt]
  clear hGt;have htc:t.cl=s.cl:=congrArg Ab.c HTA.out;have htl:t.ll.length=s.ll.length:=by
   have h:=congrArg (fun a:Ab=>a.l.length) HTA.out;have e1:t.ab.l.length=t.ll.length:=(by show(t.ll.map Lo.ab).length=_;rw[List.length_map]);have e2:s.ab.l.length=s.ll.length:=(by show(s.ll.map Lo.ab).length=_;rw[List.length_map]);rw[←e1,←e2];exact h
  have HTC:=aH htc;have HTL:=aH htl;refine(rput_any t b' v4 wc.heap.size kx MX HTR.out (by rw[htc];exact HKX.out.1) (by rw[htl];exact HKX.out.2) HFX.out.1 (by rw[htc,HXX.out];exact HNX.out.1) (by rw[htc];have:=HLL.out;omega) (by rw[htl];have:=HLL.out;omega)).mono ?_;rintro e w5 ⟨q,rfl,hq,htr5,hb5,hkp,hqa,hfz⟩;have HQ5:=aH hq;have HTR5:=aH htr5;have HB6:=aH (show Below w0.heap.size w0 w5 from HB5.out.trans (hb5.mono HB4.out.size));have HB55:=aH (show w5.cell? ⟨gb',0,none⟩=some (.int .i64 MY.a)∧w5.cell? ⟨gb',1,none⟩=some (.int .i64 MY.b)∧w5.cell? ⟨gb',2,none⟩=some (.int .i64 MY.c)from⟨(hb5.cell (p:=⟨gb',0,none⟩) HGL.out).trans HB44.out.1,(hb5.cell (p:=⟨gb',1,none⟩) HGL.out).trans HB44.out.2.1,(hb5.cell (p:=⟨gb',2,none⟩) HGL.out).trans HB44.out.2.2.1⟩);have HT5:=aH (show SkAt w5 Gt t from⟨hkp _ _ HT4.out.1 (fun e=>HRO.out.1 e.symm) (fun e=>HRO.out.2.1 e.symm),hkp _ _ HT4.out.2.1 (fun e=>HRO.out.1 e.symm) (fun e=>HRO.out.2.1 e.symm),hkp _ _ HT4.out.2.2.1 (fun e=>HRO.out.1 e.symm) (fun e=>HRO.out.2.1 e.symm),hkp _ _ HT4.out.2.2.2.1 (fun e=>HRO.out.1 e.symm) (fun e=>HRO.out.2.1 e.symm),hkp _ _ HT4.out.2.2.2.2.1 (fun e=>HRO.out.1 e.symm) (fun e=>HRO.out.2.1 e.symm),hkp _ _ HT4.out.2.2.2.2.2.1 (fun e=>HRO.out.1 e.symm) (fun e=>HRO.out.2.1 e.symm),hfz _ (show Gt<_ from HSZ.out.2) (HT4.out.2.2.2.2.2.2.1),hfz _ (show Gt<_ from HSZ.out.2) (HT4.out.2.2.2.2.2.2.2.1),hfz _ (show Gt<_ from HSZ.out.2) (HT4.out.2.2.2.2.2.2.2.2.1),hfz _ (show Gt<_ from HSZ.out.2) (HT4.out.2.2.2.2.2.2.2.2.2.1),hfz _ (show Gt<_ from HSZ.out.2) (HT4.out.2.2.2.2.2.2.2.2.2.2.1),hfz _ (show Gt<_ from HSZ.out.2) (HT4.out.2.2.2.2.2.2.2.2.2.2.2.1),nL HSZ.out.2 hb5.size⟩);have HGT:=aH (show Gt<w5.heap.size from nL HSZ.out.2 hb5.size)
  have hg2:(t.cl.set kx MX).getD ky ce0=Y:=by rw[gset_ne _ _ _ _ _ HXY.out,htc];exact HYY.out
  have P2:=rput_any {t with ll:=t.ll.set kx q,cl:=t.cl.set kx MX} b' w5 wc.heap.size ky MY HTR5.out (by show ky<(t.cl.set kx MX).length;rw[List.length_set,htc];exact HKY.out.1) (by show ky<(t.ll.set kx q).length;rw[List.length_set,htl];exact HKY.out.2) HFX.out.2 (by show fits (MY.b-((t.cl.set kx MX).getD ky ce0).b);rw[hg2];exact HNX.out.2) (by show(t.cl.set kx MX).length≤_;rw[List.length_set,htc];have:=HLL.out;omega) (by show(t.ll.set kx q).length≤_;rw[List.length_set,htl];have:=HLL.out;omega);have P2:=aH (show Calls Tryz.prog 54 #[.agg #[.slice t.cA t.cl.length t.cc,.slice t.lA t.ll.length t.lc,.slice t.tA t.tl.length t.tc,.int .i64 t.st,.int .i64 t.inn,.int .i64 t.out],.int .i64 b',.int .i64 ky,MY.v] w5 _ from by
   have e1:(t.cl.set kx MX).length=t.cl.length:=List.length_set;have e2:(t.ll.set kx q).length=t.ll.length:=List.length_set;rw[←e1,←e2];exact P2)
  clear hq htr5 hb5 hkp hqa hfz htc htl HTR HT4 HA4 HB44 HB5 hg2;obtain⟨u0,u1,u2,u3,u4,u5,-⟩:=HT5.out;obtain⟨c0,c1,c2⟩:=HB55.out;go_wp2_with fail;clear u0 u1 u2 u3 u4 u5 c0 c1 c2;refine P2.out.mono ?_;rintro e w6 ⟨q2,rfl,hq2,htr6,hb6,hkp,hqa,hfz⟩;have HQ6:=aH hq2;have HTR6:=aH htr6;have HB7:=aH (show Below w0.heap.size w0 w6 from HB6.out.trans (hb6.mono HB4.out.size));have HT6:=aH (show SkAt w6 Gt t from⟨hkp _ _ HT5.out.1 (fun e=>HRO.out.1 e.symm) (fun e=>HRO.out.2.1 e.symm),hkp _ _ HT5.out.2.1 (fun e=>HRO.out.1 e.symm) (fun e=>HRO.out.2.1 e.symm),hkp _ _ HT5.out.2.2.1 (fun e=>HRO.out.1 e.symm) (fun e=>HRO.out.2.1 e.symm),hkp _ _ HT5.out.2.2.2.1 (fun e=>HRO.out.1 e.symm) (fun e=>HRO.out.2.1 e.symm),hkp _ _ HT5.out.2.2.2.2.1 (fun e=>HRO.out.1 e.symm) (fun e=>HRO.out.2.1 e.symm),hkp _ _ HT5.out.2.2.2.2.2.1 (fun e=>HRO.out.1 e.symm) (fun e=>HRO.out.2.1 e.symm),hfz _ (show Gt<_ from HGT.out) (HT5.out.2.2.2.2.2.2.1),hfz _ (show Gt<_ from HGT.out) (HT5.out.2.2.2.2.2.2.2.1),hfz _ (show Gt<_ from HGT.out) (HT5.out.2.2.2.2.2.2.2.2.1),hfz _ (show Gt<_ from HGT.out) (HT5.out.2.2.2.2.2.2.2.2.2.1),hfz _ (show Gt<_ from HGT.out) (HT5.out.2.2.2.2.2.2.2.2.2.2.1),hfz _ (show Gt<_ from HGT.out) (HT5.out.2.2.2.2.2.2.2.2.2.2.2.1),nL HGT.out hb6.size⟩);clear hq2 htr6 hb6 hkp hqa hfz HTR5 HT5 HB6 P2;obtain⟨u0,u1,u2,u3,u4,u5,-⟩:=HT6.out;have HR6:=aH (HR.out.below HB7.out);obtain⟨r0,r1,r2,r3,r4,r5,y0,y1,y2,y3,y4,y5,-⟩:=HR6.out;go_wp2;obtain⟨q0,q1,q2',q3,q4,q5,-⟩:=HR6.out.setS t;have hfar:=HTR6.out.farr;have hlen1:t.cl.length≤100000:=by rw[HTC.out];have:=HLL.out;omega
  have hlen2:t.ll.length≤100000:=by rw[HTL.out];have:=HLL.out;omega
  have htt:t.tl=s.tl:=congrArg Ab.t HTA.out;have hlen3:t.tl.length≤100000:=by rw[htt];have:=HLL.out;omega
  have hin:=(HTR6.out.inn (by show((t.cl.set kx MX).set ky _).length≤_;rw[List.length_set,List.length_set];exact hlen1) (by show((t.ll.set kx q).set ky _).length≤_;rw[List.length_set,List.length_set];exact hlen2) hlen3).set6 hfar (D:=Gr) (by have:=HG.out;have:=HB4.out.size;omega) (.slice t.cA t.cl.length t.cc) (.slice t.lA t.ll.length t.lc) (.slice t.tA t.tl.length t.tc) (.int .i64 t.st) (.int .i64 t.inn) (.int .i64 t.out);have hlc:((t.cl.set kx MX).set ky MY).length=t.cl.length:=by rw[List.length_set,List.length_set]
  have hll:((t.ll.set kx q).set ky q2).length=t.ll.length:=by rw[List.length_set,List.length_set]
  refine bP (v:=.tuple #[.agg #[.slice t.cA t.cl.length t.cc,.slice t.lA t.ll.length t.lc,.slice t.tA t.tl.length t.tc,.int .i64 t.st,.int .i64 t.inn,.int .i64 t.out],.int .i64 0]) ?_ rfl ?_
  ·simp[results,Tryz.results23,go_sem,q0,q1,q2',q3,q4,q5]
  ·refine⟨⟨t.cA,t.cc,(t.cl.set kx MX).set ky MY,t.lA,t.lc,(t.ll.set kx q).set ky q2,t.tA,t.tc,t.tl,t.st,t.inn,t.out⟩,by show _=Ending.returned (.tuple #[.agg #[.slice t.cA ((t.cl.set kx MX).set ky MY).length t.cc,.slice t.lA ((t.ll.set kx q).set ky q2).length t.lc,_,_,_,_],_]);rw[hlc,hll],?_,?_,below_set6 (bC HB0.out HB7.out) (by have:=HG.out;omega) _ _ _ _ _ _,by have h:=hfar.less (B':=w.heap.size) (by have:=HG.out;have:=HB4.out.size;omega);exact h⟩
   ·have h:=hin;exact⟨by simpa using h.c,by simpa using h.l,by simpa using h.t,fun p hp=>by have:=h.x p hp;simpa using this,h.f⟩
   ·have a1:=HQ5.out;rw[ptL_ab t kx (by rw[HTL.out];exact HKX.out.2),HTA.out]at a1;have a2:=HQ6.out;rw[ptL_ab _ ky (by show ky<(t.ll.set kx q).length;rw[List.length_set,HTL.out];exact HKY.out.2)]at a2;have e:t.ll.map Lo.ab=s.ab.l:=congrArg Ab.l HTA.out;have e4:t.st=s.st:=congrArg Ab.st HTA.out;have e5:t.inn=s.inn:=congrArg Ab.inn HTA.out;have e6:t.out=s.out:=congrArg Ab.out HTA.out;have eab:({t with ll:=t.ll.set kx q,cl:=t.cl.set kx MX}:Stk).ab=ptAb s.ab b' kx MX:=by
     simp only[Stk.ab,List.map_set,a1,HTC.out,htt,e4,e5,e6];rw[e];rfl
    rw[eab]at a2;have efin:({{t with ll:=t.ll.set kx q,cl:=t.cl.set kx MX}with ll:=(t.ll.set kx q).set ky q2,cl:=(t.cl.set kx MX).set ky MY}:Stk).ab=ptAb (ptAb s.ab b' kx MX) b' ky MY:=by
     have h1:({{t with ll:=t.ll.set kx q,cl:=t.cl.set kx MX}with ll:=(t.ll.set kx q).set ky q2,cl:=(t.cl.set kx MX).set ky MY}:Stk).ab={({t with ll:=t.ll.set kx q,cl:=t.cl.set kx MX}:Stk).ab with c:=(t.cl.set kx MX).set ky MY,l:=((t.ll.set kx q).map Lo.ab).set ky q2.ab}:=by
      simp only[Stk.ab,List.map_set]
     rw[h1,a2,eab];have h2:(t.ll.set kx q).map Lo.ab=(ptAb s.ab b' kx MX).l:=congrArg Ab.l eab;have h3:t.cl.set kx MX=(ptAb s.ab b' kx MX).c:=congrArg Ab.c eab;rw[h2,h3];rfl
    first
     |(rw[if_pos rfl,HAA.out];exact efin)
     |(rw[HAA.out];exact efin)
end Go.Proofs.YtacjonncakhhmaaGreat
