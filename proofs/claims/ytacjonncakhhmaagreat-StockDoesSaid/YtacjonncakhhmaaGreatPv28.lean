/- Stocks: Look. -/
import Derived.Test.YtacjonncakhhmaaGreatPv00
import Derived.Test.YtacjonncakhhmaaGreatPv25
set_option maxRecDepth 100000
set_option maxHeartbeats 8000000
namespace Go.Proofs.YtacjonncakhhmaaGreat
open Go.RowKit
theorem move1_any (d:Dk) (t:Stk) (b':Int) (V:World) (B D pd pa pb pn:Nat) (x y n:Int) (hrg:rgS d t.ab=true) (hM:Mine V B D t) (hT:Tl V D d b') (hd:d.In V D) (hx:fits x) (hy:fits y) (hn:fits n) (hpd:DkAt V pd d) (hpa:V.cell? ⟨pa,0,none⟩=some (.int .i64 x)) (hpb:V.cell? ⟨pb,0,none⟩=some (.int .i64 y)) (hpn:V.cell? ⟨pn,0,none⟩=some (.int .i64 n)) (hla:pa<D) (hlb:pb<D):
  Calls Tryz.prog 35 #[.pointer (some ⟨D,0,none⟩),.pointer (some ⟨pd,0,none⟩),.pointer (some ⟨pa,0,none⟩),.pointer (some ⟨pb,0,none⟩),.pointer (some ⟨pn,0,none⟩)] V fun e V'=>e=.returned (.int .i64 (moE d t.ab x y n))∧
   (moE d t.ab x y n=0→∃t':Stk,Mine V' B D t'∧t'.ab=moA t.ab b' x y n∧t'.cl.length≤100000∧t'.ll.length≤100000∧t'.tl.length≤100000)∧Below D V V':=by
 have hab:=rg_ab d t.ab hrg;have hlens:=rg_lens d t hrg;have HDL:=aH (show D<V.heap.size from hT.2.2.2.2.2);have HL:=aH (aI hlens.1 (aI hlens.2.1 hlens.2.2.1));have HM:=aH hM;have HT:=aH hT;have HIX:=aH (fun W (hb:Below D V W)=>isPart_any d 1 x hx W ((hd.below hb).more (Nat.le_trans (Nat.le_of_lt HDL.out) hb.size)));have HIY:=aH (fun W (hb:Below D V W)=>isPart_any d 1 y hy W ((hd.below hb).more (Nat.le_trans (Nat.le_of_lt HDL.out) hb.size)));have HPX:=aH (isP_eq d hab.2.2.2.1 x).1;have HPY:=aH (isP_eq d hab.2.2.2.1 y).1;have HRT:=aH hab.2.2.1;have HWN:=aH (show t.cl.length=wellN d∧t.ll.length=wellN d from⟨hlens.2.2.2.2.1,hlens.2.2.2.2.2.1⟩);have HBX:=aH (show ∀W,Below V.heap.size V W→DkAt W pd d∧W.cell? ⟨pa,0,none⟩=some (.int .i64 x)∧W.cell? ⟨pb,0,none⟩=some (.int .i64 y)∧W.cell? ⟨pn,0,none⟩=some (.int .i64 n)from fun W hb=>⟨hpd.below hb,kK hb hpa,kK hb hpb,kK hb hpn⟩);have HE:=aH (show moE d t.ab x y n=(if isP d 1 x=true∧isP d 1 y=true then(if x=y then 1 else Cel.mvE (t.cl.getD x.toNat ce0) (t.cl.getD y.toNat ce0) n)else 3)from rfl);have HLA:=aH (aI hla hlb);have HNF:=aH hn;generalize moE d t.ab x y n=E at *;obtain⟨⟨d0,d1,d2,d3,d4⟩,h1,h2,h3⟩:=HBX.out V (bR _ _);clear hrg hM hT hd hx hy hn hab hlens hpd hpa hpb hpn hla hlb d4;by_cases hX:isP d 1 x=true
 case neg=>
  have hEE:E=3:=by rw[HE.out,if_neg (fun h=>hX h.1)]
  subst hEE;have hX:isP d 1 x=false:=by simpa using hX
  rw[hX]at HIX;go_enter Tryz.func35,Tryz.ntmps35;go_wp2_with fail;refine(HIX.out _ (bR _ _)).mono ?_;rintro e w1 ⟨rfl,hb1⟩;have HB1:=aH (hb1.mono (Nat.le_of_lt HDL.out));clear hb1;go_wp2;refine bP (v:=.int .i64 3) ?_ rfl ⟨rfl,fun h=>absurd h (by decide),HB1.out⟩;simp[results,Tryz.results35,go_sem]
 by_cases hY:isP d 1 y=true
 case neg=>
  have hEE:E=3:=by rw[HE.out,if_neg (fun h=>hY h.2)]
  subst hEE;have hY:isP d 1 y=false:=by simpa using hY
  rw[hX]at HIX;rw[hY]at HIY;go_enter Tryz.func35,Tryz.ntmps35;go_wp2_with fail;refine(HIX.out _ (bR _ _)).mono ?_;rintro e w1 ⟨rfl,hb1⟩;have HBV:=aH hb1;have HB1:=aH (hb1.mono (Nat.le_of_lt HDL.out));clear hb1 d0 d1 d2 d3 h1 h2 h3;obtain⟨⟨d0,d1,d2,d3,d4⟩,h1,h2,h3⟩:=HBX.out _ HBV.out;go_wp2_with fail;refine(HIY.out _ HB1.out).mono ?_;rintro e w2 ⟨rfl,hb2⟩;have HB2:=aH (HB1.out.trans (hb2.mono (Nat.le_trans (Nat.le_of_lt HDL.out) HB1.out.size)));clear hb2;go_wp2;refine bP (v:=.int .i64 3) ?_ rfl ⟨rfl,fun h=>absurd h (by decide),HB2.out⟩;simp[results,Tryz.results35,go_sem]
 have HE:=aH (HE.out.trans (if_pos ⟨hX,hY⟩));have hpx:0≤x∧x<wellN d:=by
  have h:=HPX.out;rw[hX]at h;exact of_decide_eq_true h.symm
 have hpy:0≤y∧y<wellN d:=by
  have h:=HPY.out;rw[hY]at h;exact of_decide_eq_true h.symm
 rw[hX]at HIX;rw[hY]at HIY;obtain⟨kx,rfl⟩:=Int.eq_ofNat_of_zero_le hpx.1;obtain⟨ky,rfl⟩:=Int.eq_ofNat_of_zero_le hpy.1;rw[show(kx:Int).toNat=kx by omega,show(ky:Int).toNat=ky by omega]at HE;have HKX:=aH (show kx<t.cl.length∧kx<t.ll.length from by have:=HWN.out;omega);have HKY:=aH (show ky<t.cl.length∧ky<t.ll.length from by have:=HWN.out;omega);clear hpx hpy hX hY HPX HPY;go_enter Tryz.func35,Tryz.ntmps35;go_wp2_with fail;refine(HIX.out _ (bR _ _)).mono ?_;rintro e w1 ⟨rfl,hb1⟩;have HBV1:=aH hb1;have HB1:=aH (hb1.mono (Nat.le_of_lt HDL.out));clear hb1 d0 d1 d2 d3 h1 h2 h3;obtain⟨⟨d0,d1,d2,d3,d4⟩,h1,h2,h3⟩:=HBX.out _ HBV1.out;clear d4;go_wp2_with fail;refine(HIY.out _ HB1.out).mono ?_;rintro e w2 ⟨rfl,hb2⟩;have HBV2:=aH (bC HBV1.out hb2);have HB2:=aH (HB1.out.trans (hb2.mono (Nat.le_trans (Nat.le_of_lt HDL.out) HB1.out.size)));clear hb2 d0 d1 d2 d3 h1 h2 h3;obtain⟨-,h1,h2,-⟩:=HBX.out _ HBV2.out;by_cases hxy:kx=ky
 case pos=>
  subst hxy;have hEE:E=1:=by rw[HE.out,if_pos rfl]
  subst hEE;go_wp2;refine bP (v:=.int .i64 1) ?_ rfl ⟨rfl,fun h=>absurd h (by decide),HB2.out⟩;simp[results,Tryz.results35,go_sem]
 have hxi:¬(kx:Int)=(ky:Int):=by omega
 have HE:=aH (HE.out.trans (if_neg hxi));have hxb:((kx:Int)==(ky:Int))=false:=by simpa using hxi
 have HXY:=aH hxy;clear hxy
 go_upto_region 5 with fail
 clear h1 h2 hxi hxb;have HRX:=aH (right_fit7 (HRT.out kx HKX.out.1));have HRY:=aH (right_fit7 (HRT.out ky HKY.out.1));have HXX:=aH (show t.ab.c=t.cl from rfl);have MA:=aH (HM.out.below HBV2.out);have TA:=aH (HT.out.below HBV2.out);obtain⟨gc,ec,gc1,gc2,gc3⟩:=MA.out.cAt (by have:=HKX.out.1;omega);have HEC:=aH ec;obtain⟨X,hX⟩:∃X,t.cl.getD kx ce0=X:=⟨_,rfl⟩;obtain⟨Y,hY⟩:∃Y,t.cl.getD ky ce0=Y:=⟨_,rfl⟩;have HS:=aH (show ∀W,Below w2.heap.size w2 W→W.cell? ⟨D,0,none⟩=some (Value.slice (some ⟨gc,0,none⟩) t.cl.length t.cc)∧W.cell? ⟨pa,0,none⟩=some (.int .i64 (kx:Int))∧W.cell? ⟨pb,0,none⟩=some (.int .i64 (ky:Int))∧W.cell? ⟨pn,0,none⟩=some (.int .i64 n)∧W.cell? ⟨gc,kx*3,none⟩=some (.int .i64 X.a)∧W.cell? ⟨gc,kx*3+1,none⟩=some (.int .i64 X.b)∧W.cell? ⟨gc,kx*3+2,none⟩=some (.int .i64 X.c)∧W.cell? ⟨gc,ky*3,none⟩=some (.int .i64 Y.a)∧W.cell? ⟨gc,ky*3+1,none⟩=some (.int .i64 Y.b)∧W.cell? ⟨gc,ky*3+2,none⟩=some (.int .i64 Y.c)from fun W hb=>by
  have hm:=MA.out.below hb;have hoc:=hm.c;rw[ec]at hoc;obtain⟨p0,p1,p2,-⟩:=KE.Own.at3 hoc rfl kx HKX.out.1;obtain⟨q0,q1,q2,-⟩:=KE.Own.at3 hoc rfl ky HKY.out.1;obtain⟨-,h1,h2,h3⟩:=HBX.out W (bC HBV2.out hb);have h0:=hm.at'.1;rw[ec]at h0;rw[hX]at p0 p1 p2;rw[hY]at q0 q1 q2;exact⟨h0,h1,h2,h3,p0,p1,p2,q0,q1,q2⟩)
 rw[HXX.out,hX]at HRX;rw[HXX.out,hY]at HRY;rw[hX,hY]at HE;have HMV:=aH (fun W=>Cel.move_any X Y n HRX.out HRY.out HNF.out W);have HMV2:=aH (show E=0→Cel.mvX X Y n=Cel.chV X (-(max n 0))∧Cel.mvY X Y n=Cel.chV Y (max n 0)∧(Cel.mvX X Y n).b-X.b= -(max n 0)∧(Cel.mvY X Y n).b-Y.b=max n 0 from fun h=>by
  rw[HE.out]at h;obtain⟨m1,m2,m3,m4⟩:=mv_ok h;rw[m3,m4];exact⟨rfl,rfl,chV_b m1,chV_b m2⟩)
 have HFX:=aH (show(Cel.mvX X Y n).Fit∧(Cel.mvY X Y n).Fit from⟨by
  unfold Cel.mvX
  split
  ·exact chV_fit _ _
  ·exact⟨by decide,by decide,by decide⟩,by
  unfold Cel.mvY
  split
  ·exact chV_fit _ _
  ·exact⟨by decide,by decide,by decide⟩⟩)
 have HMO:=aH (show moA t.ab b' kx ky n=ptAb (ptAb t.ab b' kx (Cel.mvX X Y n)) b' ky (Cel.mvY X Y n)from by
  unfold moA;rw[HXX.out,show(kx:Int).toNat=kx by omega,show(ky:Int).toNat=ky by omega,hX,hY])
 have HG:=aH (show gc<w2.heap.size∧t.cl.length≤t.cc from⟨gc2,gc3⟩);rw[←HE.out]at HMV;generalize Cel.mvX X Y n=MX at *;generalize Cel.mvY X Y n=MY at *;have HHX:=aH hX;have HHY:=aH hY;have hkx:(kx:Int)<t.cl.length:=by have:=HKX.out.1;omega
 have hky:(ky:Int)<t.cl.length:=by have:=HKY.out.1;omega
 clear gc1 gc2 gc3 ec hX hY HIX HIY;go_cut [7,8,9]from 25 (fun t7 t8 t9 wx=>∃ga gb:Nat,t7=.pointer (some ⟨ga,0,none⟩)∧t8=.pointer (some ⟨gb,0,none⟩)∧t9=.int .i64 E∧Hid (Cells3 wx ga (.int .i64 MX.a) (.int .i64 MX.b) (.int .i64 MX.c))∧Hid (Cells3 wx gb (.int .i64 MY.a) (.int .i64 MY.b) (.int .i64 MY.c))∧Hid (Below w2.heap.size w2 wx)∧Hid (w2.heap.size≤ga∧w2.heap.size≤gb∧ga≠gb))
 case first=>
  clear HXY HE HMV2 HFX HMO HHX HHY HEC HWN HRT HRX HRY HXX HBX HM HT MA TA HB1 HB2 HBV1 HBV2 HLA HL HNF;refine rG HS.out (by kernel_rfl) (fun hHeld=>?_);have YY:=aH (show Below w2.heap.size w2 w2.drew from(bR _ _).drew);generalize w2.drew=v at *;refine wk [.k 0 26,.k 1 27,.k 2 28,.k 3 29,.k 4 30,.k 5 31,.k 6 32,.k 7 33,.k 8 34,.k 9 35,.k 10 36,.k 11 37,.k 12 38,.k 13 39,.k 14 40,.k 15 41,.k 16 42,.k 17 43,.k 18 44] (fun _ _ _ _ _ h=>h) hHeld ?_ (by kernel_rfl);repeat (refine .k (v:=?_) rfl (by kernel_rfl) ?_ ?_;rotate_left 1;((intro w hSw;(try dsimp only at hSw);go_simp)<;>(try with_reducible rfl));(try simp only[sp]))
  refine .nil ?_;have mr:=trivial
  repeat' (first
   |(
    clear mr;replace YC:=YC;replace YA:=YA;replace YB:=YB;refine wQ 26 none rfl (fun K hK=>?_) (by kernel_rfl))
   |(clear mr;replace YA:=YA;replace YB:=YB;refine wR 19 [] (by kernel_rfl) (rK (some 45) rfl (fun K hK=>have mc:=trivial;?_) rN))
   |(clear mr;replace YC:=YC;replace YB:=YB;refine wR 24 [] (by kernel_rfl) (rK (some 7) rfl (fun K hK=>have ma:=trivial;?_) rN))
   |(clear mr;replace YC:=YC;replace YA:=YA;refine wR 25 [] (by kernel_rfl) (rK (some 8) rfl (fun K hK=>have mb:=trivial;?_) rN))
   |(clear mr;replace YB:=YB;refine wR 19 [24] (by kernel_rfl) (rK (some 45) rfl (fun K hK=>have mc:=trivial;?_) (rK (some 7) rfl (fun K hK=>have ma:=trivial;?_) rN)))
   |(clear mr;replace YA:=YA;refine wR 19 [25] (by kernel_rfl) (rK (some 45) rfl (fun K hK=>have mc:=trivial;?_) (rK (some 8) rfl (fun K hK=>have mb:=trivial;?_) rN)))
   |(clear mr;replace YC:=YC;refine wR 24 [25] (by kernel_rfl) (rK (some 7) rfl (fun K hK=>have ma:=trivial;?_) (rK (some 8) rfl (fun K hK=>have mb:=trivial;?_) rN)))
   |(clear mr;refine wR 19 [24,25] (by kernel_rfl) (rK (some 45) rfl (fun K hK=>have mc:=trivial;?_) (rK (some 7) rfl (fun K hK=>have ma:=trivial;?_) (rK (some 8) rfl (fun K hK=>have mb:=trivial;?_) rN))))
   |(
    clear mc;go_simp;refine(HMV.out _).mono ?_;rintro e u ⟨rfl,hb⟩;replace YY:=aH (bC YY.out hb);(try replace YA:=aH (YA.out.below hb));(try replace YB:=aH (YB.out.below hb));clear hb hHeld;go_wp2_with fail;refine hK.out _ _ (HS.out _ YY.out) (fun hHeld=>?_);clear hK K;(try simp only[sp]);clear v;rename World=>v
    refine wk [.k 20 25,.k 21 46,.k 22 47,.k 23 48] (fun _ _ _ _ _ h=>h) hHeld ?_ (by kernel_rfl);repeat (refine .k (v:=?_) rfl (by kernel_rfl) ?_ ?_;rotate_left 1;((intro w hSw;(try dsimp only at hSw);go_simp)<;>(try with_reducible rfl));(try simp only[sp]))
    refine .nil ?_;have YC:=trivial;have mr:=trivial)
   |(
    clear ma;go_simp;have hb:=bL (bR _ v) zc;have ZA:=aH YY.out.size;replace YY:=aH (bC YY.out hb);have YA:=aH (Cells3.new v 58 (.int .i64 0) (.int .i64 0) (.int .i64 0));(try (have ZN:=aH (show v.heap.size≠gb from by obtain⟨_,_,_,_,_,_,sl⟩:=YB.out;omega);replace YB:=aH (YB.out.below hb)));clear hb hHeld;generalize v.alloc zc=u at *;generalize v.heap.size=ga at *;refine hK.out _ _ (HS.out _ YY.out) (fun hHeld=>?_);clear hK K;(try simp only[sp]);clear v;rename World=>v
    have mr:=trivial)
   |(
    clear mb;go_simp;have hb:=bL (bR _ v) zc;have ZB:=aH YY.out.size;replace YY:=aH (bC YY.out hb);have YB:=aH (Cells3.new v 58 (.int .i64 0) (.int .i64 0) (.int .i64 0));(try (have ZN:=aH (show ga≠v.heap.size from by obtain⟨_,_,_,_,_,_,sl⟩:=YA.out;omega);replace YA:=aH (YA.out.below hb)));clear hb hHeld;generalize v.alloc zc=u at *;generalize v.heap.size=gb at *;refine hK.out _ _ (HS.out _ YY.out) (fun hHeld=>?_);clear hK K;(try simp only[sp]);clear v;rename World=>v
    have mr:=trivial))
  all_goals
   obtain⟨s0,s1,s2,y0,y1,y2,sl⟩:=YA.out;go_simp;clear s0 s1 s2 y0 y1 y2 sl;replace YY:=aH (below_set3 YY.out ZA.out (.int .i64 MX.a) (.int .i64 MX.b) (.int .i64 MX.c));replace YA:=aH (YA.out.set (.int .i64 MX.a) (.int .i64 MX.b) (.int .i64 MX.c));replace YB:=aH (YB.out.apart ZN.out (.int .i64 MX.a) (.int .i64 MX.b) (.int .i64 MX.c));clear hHeld;simp only[setC3]at YY YA YB;generalize ((v.setCell ⟨ga,0,none⟩ (.int .i64 MX.a)).setCell ⟨ga,1,none⟩ (.int .i64 MX.b)).setCell ⟨ga,2,none⟩ (.int .i64 MX.c)=x1 at *;refine hK.out _ _ (HS.out _ YY.out) (fun hHeld=>?_);clear hK K;(try simp only[sp]);refine wQ 27 none rfl (fun K hK=>?_) (by kernel_rfl);obtain⟨s0,s1,s2,y0,y1,y2,sl⟩:=YB.out;go_simp;clear s0 s1 s2 y0 y1 y2 sl;replace YY:=aH (below_set3 YY.out ZB.out (.int .i64 MY.a) (.int .i64 MY.b) (.int .i64 MY.c));replace YB:=aH (YB.out.set (.int .i64 MY.a) (.int .i64 MY.b) (.int .i64 MY.c));replace YA:=aH (YA.out.apart ZN.out.symm (.int .i64 MY.a) (.int .i64 MY.b) (.int .i64 MY.c));clear hHeld;simp only[setC3]at YY YA YB;generalize ((x1.setCell ⟨gb,0,none⟩ (.int .i64 MY.a)).setCell ⟨gb,1,none⟩ (.int .i64 MY.b)).setCell ⟨gb,2,none⟩ (.int .i64 MY.c)=x2 at *;refine hK.out _ _ (HS.out _ YY.out) (fun hHeld=>?_);clear hK K;(try simp only[sp]);refine wk [.k 28 9] (fun _ _ _ _ _ h=>h) hHeld ?_ (by kernel_rfl);repeat (refine .k (v:=?_) rfl (by kernel_rfl) ?_ ?_;rotate_left 1;((intro w hSw;(try dsimp only at hSw);go_simp)<;>(try with_reducible rfl));(try simp only[sp]))
   refine .nil ?_;refine wD (by kernel_rfl) ?_;go_wp2;go_meet;exact⟨ga,gb,rfl,rfl,rfl,YA,YB,YY,aH ⟨ZA.out,ZB.out,ZN.out⟩⟩
 case rest=>
  obtain⟨ga,gb,rfl,rfl,rfl,HA,HBx,HBW,HGG⟩:=hcut;have HBD:=aH (HB2.out.trans (HBW.out.mono (Nat.le_trans (Nat.le_of_lt HDL.out) HBV2.out.size)));by_cases hE:E=0
  case neg=>
   have hEb:(E != 0)=true:=(by simpa using hE);go_wp2;refine bP (v:=.int .i64 E) ?_ rfl ⟨rfl,fun h=>absurd h hE,HBD.out⟩;simp[results,Tryz.results35,go_sem]
  obtain⟨-,-,m3,m4⟩:=HMV2.out hE;have HM3:=aH m3;have HM4:=aH m4;clear m3 m4;subst hE;have M1:=aH (MA.out.below HBW.out);have T1:=aH (TA.out.below HBW.out);obtain⟨-,h1,h2,-⟩:=HBX.out wc (HBV2.out.trans (HBW.out.mono HBV2.out.size));have H2:=aH h2;obtain⟨a0,a1,a2,-⟩:=HA.out;have P1:=aH (put_all t d b' wc B D kx MX M1.out T1.out HKX.out.1 HKX.out.2 HFX.out.1 (by rw[HHX.out,HM3.out];have:=HNF.out;unfold fits at *;omega) (by have:=HL.out;omega) (by have:=HL.out;omega));have HMX:=aH (show MX.v=.agg #[.int .i64 MX.a,.int .i64 MX.b,.int .i64 MX.c]from rfl);go_wp2_with fail;refine P1.out.mono ?_;rintro e w4 ⟨q,rfl,hq,hM4,hT4,hb4,hkeep⟩;have HQ:=aH hq;have M4:=aH hM4;have T4:=aH hT4;have HB4:=aH (HBD.out.trans hb4);have hlk:=MA.out;have fa:∀g,w2.heap.size≤g→some g≠bk t.cA∧some g≠bk t.lA:=fun g hg=>⟨fun e=>by have:=(hlk.c.lt g (bk_own e.symm)).2;omega,fun e=>by have:=(hlk.l.lt g (bk_own e.symm)).2;omega⟩;obtain⟨n1,n2⟩:=fa gb HGG.out.2.1;obtain⟨b0,b1,b2,-⟩:=HBx.out;have c0:=hkeep _ _ b0 n1 n2;have c1:=hkeep _ _ b1 n1 n2;have c2:=hkeep _ _ b2 n1 n2;have h2':=(hb4.cell (p:=⟨pb,0,none⟩) HLA.out.2).trans H2.out;have hg2:(t.cl.set kx MX).getD ky ce0=Y:=by rw[gset_ne _ _ _ _ _ HXY.out];exact HHY.out
  have P2:=aH (put_any {t with ll:=t.ll.set kx q,cl:=t.cl.set kx MX} d b' w4 B D ky MY M4.out T4.out (by show ky<(t.cl.set kx MX).length;rw[List.length_set];exact HKY.out.1) (by show ky<(t.ll.set kx q).length;rw[List.length_set];exact HKY.out.2) HFX.out.2 (by show fits (MY.b-((t.cl.set kx MX).getD ky ce0).b);rw[hg2,HM4.out];have:=HNF.out;unfold fits at *;omega) (by show(t.cl.set kx MX).length≤_;rw[List.length_set];have:=HL.out;omega) (by show(t.ll.set kx q).length≤_;rw[List.length_set];have:=HL.out;omega));clear hq hM4 hT4 hb4 hkeep hlk fa n1 n2 b0 b1 b2 a0 a1 a2 h1 h2 hg2;go_wp2_with fail;refine P2.out.mono ?_;rintro e w5 ⟨q2,rfl,hq2,hM5,hT5,hb5⟩;have HB5:=aH (HB4.out.trans hb5);have M5:=aH hM5;have HQ2:=aH hq2;clear hq2 hM5 hT5 hb5 c0 c1 c2 h2';go_wp2;refine bP (v:=.int .i64 0) ?_ rfl ?_
  ·simp[results,Tryz.results35,go_sem]
  have hmo:({{t with ll:=t.ll.set kx q,cl:=t.cl.set kx MX}with ll:=(t.ll.set kx q).set ky q2,cl:=(t.cl.set kx MX).set ky MY}:Stk).ab=moA t.ab b' kx ky n:=by
   rw[HMO.out];have e2:=HQ2.out;rw[ptL_ab _ ky (by show ky<(t.ll.set kx q).length;rw[List.length_set];exact HKY.out.2)]at e2;have e1:=HQ.out;rw[ptL_ab _ kx HKX.out.2]at e1;simp only[Stk.ab,ptAb,List.map_set,e1]at e2⊢;rw[e2]
  have hc1:((t.cl.set kx MX).set ky MY).length≤100000:=by rw[List.length_set,List.length_set];have:=HL.out;omega
  have hc2:((t.ll.set kx q).set ky q2).length≤100000:=by rw[List.length_set,List.length_set];have:=HL.out;omega
  have hc3:t.tl.length≤100000:=by have:=HL.out;omega
  first
   |exact⟨rfl,⟨_,M5.out,hmo,hc1,hc2,hc3⟩,HB5.out⟩
   |exact⟨rfl,fun _=>⟨_,M5.out,hmo,hc1,hc2,hc3⟩,HB5.out⟩
theorem move_any (d:Dk) (s:Stk) (b' x y n:Int) (w:World) (hd:d.In w w.heap.size) (hs:s.In w w.heap.size) (hx:fits x) (hy:fits y) (hn:fits n):
  Calls Tryz.prog 13 #[d.v,s.v,.int .i64 b',.int .i64 x,.int .i64 y,.int .i64 n] w fun e w'=>∃t:Stk,e=.returned (.tuple #[t.v,.int .i64 (cgE d s.ab b' (moE d s.ab x y n))])∧t.In w' w'.heap.size∧t.ab=(if cgE d s.ab b' (moE d s.ab x y n)=0 then moA s.ab b' x y n else ab0)∧Below w.heap.size w w':=by
 obtain⟨w0,hw0⟩:∃w0,w0=((((((w.alloc d.ob).alloc s.ob).alloc (.cells #[.int .i64 x] 3)).alloc (.cells #[.int .i64 y] 3)).alloc (.cells #[.int .i64 n] 3)).alloc zo):=⟨_,rfl⟩;have HB0:=aH (show Below w.heap.size w w0 by rw[hw0];exact bL (bL (bL (bL (bL (bL (bR _ _) _) _) _) _) _) _);have HD0:=aH (hd.then HB0.out);have HS0:=aH (hs.then HB0.out);have HK0:=aH (show DkAt w0 w.heap.size d by rw[hw0];exact(((((Cells4.new w _ _ _ _ _).below (bL (bR _ _) _)).below (bL (bR _ _) _)).below (bL (bR _ _) _)).below (bL (bR _ _) _)).below (bL (bR _ _) _));have HT0:=aH (show SkAt w0 (w.heap.size+1) s by
  have e:(w.alloc d.ob).heap.size=w.heap.size+1:=by simp
  rw[hw0,←e];exact((((Cells6.new (w.alloc d.ob) 31 _ _ _ _ _ _).below (bL (bR _ _) _)).below (bL (bR _ _) _)).below (bL (bR _ _) _)).below (bL (bR _ _) _))
 have HI0:=aH (show w0.cell? ⟨w.heap.size+2,0,none⟩=some (.int .i64 x)∧w0.cell? ⟨w.heap.size+3,0,none⟩=some (.int .i64 y)∧w0.cell? ⟨w.heap.size+4,0,none⟩=some (.int .i64 n)∧w0.heap.size=w.heap.size+6 by
  rw[hw0];refine⟨?_,?_,?_,by simp⟩
  ·have h:((w.alloc d.ob).alloc s.ob).heap.size=w.heap.size+2:=(by simp);refine kK (bL (bR _ _) _) (kK (bL (bR _ _) _) (kK (bL (bR _ _) _) (?_)));rw[←h,alloc_at];rfl
  ·have h:(((w.alloc d.ob).alloc s.ob).alloc (.cells #[.int .i64 x] 3)).heap.size=w.heap.size+3:=(by simp);refine kK (bL (bR _ _) _) (kK (bL (bR _ _) _) (?_));rw[←h,alloc_at];rfl
  ·have h:((((w.alloc d.ob).alloc s.ob).alloc (.cells #[.int .i64 x] 3)).alloc (.cells #[.int .i64 y] 3)).heap.size=w.heap.size+4:=(by simp);refine kK (bL (bR _ _) _) (?_);rw[←h,alloc_at];rfl)
 have HR0:=aH (show Cells6 w0 (w.heap.size+5) (.slice none 0 0) (.slice none 0 0) (.slice none 0 0) (.int .i64 0) (.int .i64 0) (.int .i64 0)by
  have h:=Cells6.new (((((w.alloc d.ob).alloc s.ob).alloc (.cells #[.int .i64 x] 3)).alloc (.cells #[.int .i64 y] 3)).alloc (.cells #[.int .i64 n] 3)) 31 (.slice none 0 0) (.slice none 0 0) (.slice none 0 0) (.int .i64 0) (.int .i64 0) (.int .i64 0);rw[←hw0,show(((((w.alloc d.ob).alloc s.ob).alloc (.cells #[.int .i64 x] 3)).alloc (.cells #[.int .i64 y] 3)).alloc (.cells #[.int .i64 n] 3)).heap.size=w.heap.size+5 by simp]at h;exact h)
 have HC:=aH (change_any d s b' 35 #[.pointer (some ⟨w.heap.size,0,none⟩),.pointer (some ⟨w.heap.size+2,0,none⟩),.pointer (some ⟨w.heap.size+3,0,none⟩),.pointer (some ⟨w.heap.size+4,0,none⟩)] (moE d s.ab x y n) (moA s.ab b' x y n) w0 HD0.out HS0.out (enters_of Tryz.func35 (by kernel_rfl) rfl) (fun hrg hb1' hb2' V B D t hM hab hT hD hb hle=>by
  have hI:=HI0.out;have hsz:w0.heap.size=w.heap.size+6:=hI.2.2.2;have hfb:fits b':=by have h:=hd.a;unfold fits at h⊢;omega
  have e1:s.ab=t.ab:=hab.symm;rw[e1];rw[e1]at hrg;exact move1_any d t b' V B D _ _ _ _ x y n hrg hM hT hD hx hy hn (HK0.out.below hb) (kK hb HI0.out.1) (kK hb HI0.out.2.1) (kK hb HI0.out.2.2.1) (by omega) (by omega)))
 generalize moE d s.ab x y n=dE at *;generalize moA s.ab b' x y n=dA at *;generalize cgE d s.ab b' dE=E at *;generalize (if E=0 then dA else ab0)=dR at *;have hmf:∀(fn:Fn) (first cap:Array Value) (w:World),(Instr.makeFunc fn first cap).run Tryz.prog w=.ok (.func fn first cap) w:=fun _ _ _ _=>rfl;obtain⟨t0,t1,t2,t3,t4,t5,_⟩:=HT0.out;obtain⟨d0,d1,d2,d3,_⟩:=HK0.out;obtain⟨i0,i1,i2,_⟩:=HI0.out;clear hd hs;go_enter Tryz.func13,Tryz.ntmps13;go_wp2_with fail;rw[←hw0];clear hw0;refine HC.out.mono ?_;rintro e w1 ⟨t,rfl,ht,hab,hfar,hb1⟩;have hR1:=HR0.out.below hb1;obtain⟨r0,r1,r2,r3,r4,r5,y0,y1,y2,y3,y4,y5,_⟩:=hR1;have HR1:=aH (HR0.out.below hb1);have HB1:=aH (bC HB0.out hb1);have HTT:=aH (aI ht (aI hab hfar));clear ht hab hfar hb1 t0 t1 t2 t3 t4 t5 d0 d1 d2 d3 hmf i0 i1 i2;go_wp2;have hset:=HR1.out.setS t;obtain⟨q0,q1,q2,q3,q4,q5,_⟩:=hset;have hsz:w0.heap.size=w.heap.size+6:=HI0.out.2.2.2;refine bP (v:=.tuple #[t.v,.int .i64 E]) ?_ rfl ?_
 ·simp[results,Tryz.results13,go_sem,q0,q1,q2,q3,q4,q5]
 ·refine⟨t,rfl,?_,HTT.out.2.1,below_set6 HB1.out (by omega) _ _ _ _ _ _⟩;have:=HTT.out.1.set6 HTT.out.2.2 (D:=w.heap.size+5) (by omega) (.slice t.cA t.cl.length t.cc) (.slice t.lA t.ll.length t.lc) (.slice t.tA t.tl.length t.tc) (.int .i64 t.st) (.int .i64 t.inn) (.int .i64 t.out);simpa using this
def lsB:List Nat:=[0,4621256167635550208]
def lsP (S:Option Addr):Pl:=⟨1,2,4607182418800017408,0,0,100,S,1,1,[40]⟩
def lsR:Rk:=⟨1,1,4611686018427387904,0,0⟩
def lsD (A P R S:Option Addr):Dk:=⟨A,2,2,lsB,P,1,1,[lsP S],R,1,1,[lsR],2⟩
theorem ls_b:chkE lsB=0:=by decide+kernel
theorem ls_row1:rowV lsB ⟨1,2,4607182418800017408,0,0⟩=[(0,0,0),(0,0,0)]:=by decide+kernel
theorem ls_row2:rowV lsB ⟨1,1,4611686018427387904,0,0⟩=[(0,0,0)]:=by decide+kernel
theorem ls_chk (A P R S:Option Addr):dchk (lsD A P R S)=0:=by
 unfold dchk;rw[show(lsD A P R S).bl=lsB from rfl,if_neg (by rw[ls_b];simp)];kernel_rfl
theorem ls_racks (A P R S:Option Addr):racksL (lsD A P R S)=[⟨1,2,4607182418800017408,0,0⟩,⟨1,1,4611686018427387904,0,0⟩]:=rfl
theorem ls_z (A P R S:Option Addr):zchk (lsD A P R S)=0:=by
 unfold zchk zE;rw[if_pos (ls_chk A P R S),ls_racks,List.flatMap_cons,List.flatMap_cons,List.flatMap_nil,List.append_nil];show fstE (rowV lsB _++rowV lsB _)=0;rw[ls_row1,ls_row2];rfl
def lsA:Ab:=⟨[⟨100,40,0⟩,⟨100,0,0⟩],[(8,0,[]),(8,0,[])],[(1,0)],40,0,0⟩
def lsM:Ab:=⟨[⟨100,25,1⟩,⟨100,15,1⟩],[(8,1,[⟨1,2,-15⟩]),(8,1,[⟨1,2,15⟩])],[(1,0)],40,0,0⟩
def lsT:Ab:=⟨[⟨100,25,1⟩,⟨100,15,1⟩],[(8,1,[⟨1,2,-15⟩]),(8,1,[⟨1,2,15⟩])],[(2,1)],40,0,0⟩
theorem ls_well (A P R S:Option Addr):wellN (lsD A P R S)=2:=by kernel_rfl
theorem ls_tip (A P R S:Option Addr):tipN (lsD A P R S)=1:=by kernel_rfl
theorem ls_new (A P R S:Option Addr):newA (lsD A P R S)=lsA:=by kernel_rfl
theorem ls_mE (A P R S:Option Addr):moE (lsD A P R S) lsA 0 1 15=0:=by
 unfold moE;rw[(isP_eq _ (ls_chk A P R S) 0).1,(isP_eq _ (ls_chk A P R S) 1).1,ls_well,if_pos ⟨by decide,by decide⟩,if_neg (by decide)];decide
theorem ls_mA:moA lsA 2 0 1 15=lsM:=by kernel_rfl
theorem ls_hd0:hdF lsM 1=(0,false):=by decide
theorem ls_hd1:hdF lsT 1=(0,true):=by decide
theorem ls_tE (A P R S:Option Addr):taE (lsD A P R S) lsM 1 2=0:=by
 unfold taE;rw[(isP_eq _ (ls_chk A P R S) 2).2,ls_well,ls_tip,if_pos (by decide),ls_hd0,if_neg (by decide)];decide
theorem ls_tA:taA lsM 1 2=lsT:=by kernel_rfl
theorem ls_r0 (A P R S:Option Addr):rgS (lsD A P R S) lsA=true:=by rw[←ls_new A P R S];exact rg_new _ (ls_z A P R S)
theorem ls_r1 (A P R S:Option Addr):rgS (lsD A P R S) lsM=true:=by rw[←ls_mA];exact rg_move (ls_r0 A P R S) (by decide) (by show(2:Int)≤2;decide) (ls_mE A P R S)
theorem ls_r2 (A P R S:Option Addr):rgS (lsD A P R S) lsT=true:=by rw[←ls_tA];exact rg_take (ls_r1 A P R S) (by decide) (by show(1:Int)≤2;decide) (ls_tE A P R S)
noncomputable def haV (d:Dk) (a:Ab) (b':Int):Int×Bool:=if rgS d a=true then(if (hdF a b').2=true then((a.c.length:Int)+(hdF a b').1,true)else(-1,false))else(-1,false)
theorem hand_any (d:Dk) (s:Stk) (b':Int) (w:World) (hd:d.In w w.heap.size) (hs:s.In w w.heap.size):Calls Tryz.prog 17 #[d.v,s.v,.int .i64 b'] w fun e w'=>e=.returned (.tuple #[.int .i64 (haV d s.ab b').1,.bool (haV d s.ab b').2])∧Below w.heap.size w w':=by
 obtain⟨w0,hw0⟩:∃w0,w0=(w.alloc d.ob).alloc s.ob:=⟨_,rfl⟩;have HB0:=aH (show Below w.heap.size w w0 by rw[hw0];exact bL (bL (bR _ _) _) _);have HD0:=aH (hd.then HB0.out);have HS0:=aH (hs.then HB0.out);have HK0:=aH (show DkAt w0 w.heap.size d by rw[hw0];exact(Cells4.new w _ _ _ _ _).below (bL (bR _ _) _));have HT0:=aH (show SkAt w0 (w.heap.size+1) s by
  have e:(w.alloc d.ob).heap.size=w.heap.size+1:=by simp
  rw[hw0,←e];exact Cells6.new (w.alloc d.ob) 31 _ _ _ _ _ _)
 have HRG:=aH (fun w h1 h2=>right_s d s w h1 h2);have HHD:=aH (fun w h=>Tp.held_any (.slice s.tA s.tl.length s.tc) s.tl b' w h);have HHF:=aH (show Tp.fstV (Tp.hdP s.tl b' 0) s.tl.length=hdF s.ab b' from rfl);have HL:=aH (rg_lens d s);have HV:=aH (show haV d s.ab b'=(if rgS d s.ab=true then(if (hdF s.ab b').2=true then((s.cl.length:Int)+(hdF s.ab b').1,true)else(-1,false))else(-1,false))from rfl);have HAT:=aH (hdF_at s.ab b');obtain⟨⟨f1,f2⟩,hf⟩:∃x,hdF s.ab b'=x:=⟨_,rfl⟩;rw[hf]at HV HAT HHF;dsimp only at HV HAT;obtain⟨⟨v1,v2⟩,hv⟩:∃x,haV d s.ab b'=x:=⟨_,rfl⟩;rw[hv];rw[hv]at HV;dsimp only;obtain⟨r,hr⟩:∃r,rgS d s.ab=r:=⟨_,rfl⟩;rw[hr]at HV HRG HL;obtain⟨t0,t1,t2,t3,t4,t5,_⟩:=HT0.out;obtain⟨d0,d1,d2,d3,_⟩:=HK0.out;clear hd hs hf hv hr
 cases r
 case false=>
  have hVV:v1= -1∧v2=false:=by have h:=HV.out;exact⟨congrArg Prod.fst h,congrArg Prod.snd h⟩
  obtain⟨rfl,rfl⟩:=hVV;go_enter Tryz.func17,Tryz.ntmps17;go_wp2_with fail;rw[←hw0];clear hw0;refine(HRG.out _ HD0.out HS0.out).mono ?_;rintro e w1 ⟨rfl,hb1⟩;have HB1:=aH (bC HB0.out hb1);clear hb1 t0 t1 t2 t3 t4 t5 d0 d1 d2 d3;go_wp2;refine bP (v:=.tuple #[.int .i64 (-1),.bool false]) ?_ rfl ⟨rfl,HB1.out⟩;simp[results,Tryz.results17,go_sem]
 go_enter Tryz.func17,Tryz.ntmps17;go_wp2_with fail;rw[←hw0];clear hw0;refine(HRG.out _ HD0.out HS0.out).mono ?_;rintro e w1 ⟨rfl,hb1⟩;have HB1:=aH (bC HB0.out hb1);have HS1:=aH (HS0.out.then hb1);have HT1:=aH (HT0.out.below hb1);clear hb1 t0 t1 t2 t3 t4 t5 d0 d1 d2 d3;obtain⟨t0,t1,t2,t3,t4,t5,_⟩:=HT1.out;go_wp2_with fail;refine(HHD.out _ HS1.out.t).mono ?_;rintro e w2 ⟨rfl,hb2⟩;rw[HHF.out];have HB2:=aH (bC HB1.out hb2);have HT2:=aH (HT1.out.below hb2);clear hb2 t0 t1 t2 t3 t4 t5;obtain⟨t0,t1,t2,t3,t4,t5,_⟩:=HT2.out
 cases f2
 case false=>
  have hVV:v1= -1∧v2=false:=by have h:=HV.out;exact⟨congrArg Prod.fst h,congrArg Prod.snd h⟩
  obtain⟨rfl,rfl⟩:=hVV;go_wp2;refine bP (v:=.tuple #[.int .i64 (-1),.bool false]) ?_ rfl ⟨rfl,HB2.out⟩;simp[results,Tryz.results17,go_sem]
 have hVV:v1=(s.cl.length:Int)+f1∧v2=true:=by have h:=HV.out;exact⟨congrArg Prod.fst h,congrArg Prod.snd h⟩
 obtain⟨rfl,rfl⟩:=hVV;obtain⟨k,rfl,hk⟩:=HAT.out rfl;have hwr:Go.RowKit.wrap64 ((s.cl.length:Int)+(k:Int))=(s.cl.length:Int)+k:=by
  have h1:=(HL.out (by simp)).1;have h2:=(HL.out (by simp)).2.2.1;have h3:k<s.tl.length:=hk;exact wrap64_fits _ (by unfold fits;omega)
 clear hk;go_wp2;refine bP (v:=.tuple #[.int .i64 ((s.cl.length:Int)+k),.bool true]) ?_ rfl ⟨rfl,HB2.out⟩;simp[results,Tryz.results17,go_sem];exact hwr
noncomputable def lkV (d:Dk) (a:Ab) (id:Int):Cel.Ce×Int:=if rgS d a=true then(if isP d 1 id=true then(a.c.getD id.toNat ce0,0)else(ce0,3))else(ce0,130)
theorem look_any (d:Dk) (s:Stk) (id:Int) (w:World) (hd:d.In w w.heap.size) (hs:s.In w w.heap.size) (hid:fits id):Calls Tryz.prog 15 #[d.v,s.v,.int .i64 id] w fun e w'=>e=.returned (Cel.ceE (lkV d s.ab id).1 (lkV d s.ab id).2)∧Below w.heap.size w w':=by
 obtain⟨w0,hw0⟩:∃w0,w0=((w.alloc d.ob).alloc s.ob).alloc zc:=⟨_,rfl⟩;have HB0:=aH (show Below w.heap.size w w0 by rw[hw0];exact bL (bL (bL (bR _ _) _) _) _);have HD0:=aH (hd.then HB0.out);have HS0:=aH (hs.then HB0.out);have HK0:=aH (show DkAt w0 w.heap.size d by rw[hw0];exact((Cells4.new w _ _ _ _ _).below (bL (bR _ _) _)).below (bL (bR _ _) _));have HT0:=aH (show SkAt w0 (w.heap.size+1) s by
  have e:(w.alloc d.ob).heap.size=w.heap.size+1:=by simp
  rw[hw0,←e];exact(Cells6.new (w.alloc d.ob) 31 _ _ _ _ _ _).below (bL (bR _ _) _))
 have HR0:=aH (show Cells3 w0 (w.heap.size+2) (.int .i64 0) (.int .i64 0) (.int .i64 0)by
  have e:((w.alloc d.ob).alloc s.ob).heap.size=w.heap.size+2:=by simp
  rw[hw0,←e];exact Cells3.new ((w.alloc d.ob).alloc s.ob) 58 _ _ _)
 have HRG:=aH (fun w h1 h2=>right_s d s w h1 h2);have HIP:=aH (fun w h=>isPart_any d 1 id hid w h);have HAB:=aH (rg_ab d s.ab);have HPE:=aH (fun h=>(isP_eq d h id).1);have HV:=aH (show lkV d s.ab id=(if rgS d s.ab=true then(if isP d 1 id=true then(s.cl.getD id.toNat ce0,0)else(ce0,3))else(ce0,130))from rfl);obtain⟨⟨v1,v2⟩,hv⟩:∃x,lkV d s.ab id=x:=⟨_,rfl⟩;rw[hv];rw[hv]at HV;dsimp only;obtain⟨r,hr⟩:∃r,rgS d s.ab=r:=⟨_,rfl⟩;obtain⟨p,hp⟩:∃p,isP d 1 id=p:=⟨_,rfl⟩;rw[hr]at HV HRG HAB;rw[hp]at HV HIP HPE;obtain⟨t0,t1,t2,t3,t4,t5,_⟩:=HT0.out;obtain⟨d0,d1,d2,d3,_⟩:=HK0.out;clear hd hs hv hr hp hid
 cases r
 case false=>
  have hVV:v1=ce0∧v2=130:=by have h:=HV.out;exact⟨congrArg Prod.fst h,congrArg Prod.snd h⟩
  obtain⟨rfl,rfl⟩:=hVV;go_enter Tryz.func15,Tryz.ntmps15;go_wp2_with fail;rw[←hw0];clear hw0;refine(HRG.out _ HD0.out HS0.out).mono ?_;rintro e w1 ⟨rfl,hb1⟩;have HB1:=aH (bC HB0.out hb1);have HR1:=aH (HR0.out.below hb1);obtain⟨r0,r1,r2,y0,y1,y2,_⟩:=HR1.out;clear hb1 t0 t1 t2 t3 t4 t5 d0 d1 d2 d3;go_wp2;obtain⟨q0,q1,q2,_⟩:=HR1.out.set (.int .i64 0) (.int .i64 0) (.int .i64 0);refine bP (v:=Cel.ceE ce0 130) ?_ rfl ⟨rfl,below_set3 HB1.out (by omega) _ _ _⟩;simp[results,Tryz.results15,go_sem,q0,q1,q2,ce0]
 go_enter Tryz.func15,Tryz.ntmps15;go_wp2_with fail;rw[←hw0];clear hw0;refine(HRG.out _ HD0.out HS0.out).mono ?_;rintro e w1 ⟨rfl,hb1⟩;have HB1:=aH (bC HB0.out hb1);have HD1:=aH (HD0.out.then hb1);have HS1:=aH (HS0.out.then hb1);have HT1:=aH (HT0.out.below hb1);have HR1:=aH (HR0.out.below hb1);have HK1:=aH (HK0.out.below hb1);clear hb1 t0 t1 t2 t3 t4 t5 d0 d1 d2 d3;obtain⟨d0,d1,d2,d3,_⟩:=HK1.out;go_wp2_with fail;refine(HIP.out _ HD1.out).mono ?_;rintro e w2 ⟨rfl,hb2⟩;have HB2:=aH (bC HB1.out hb2);have HT2:=aH (HT1.out.below hb2);have HR2:=aH (HR1.out.below hb2);have HS2:=aH (HS1.out.then hb2);clear hb2 d0 d1 d2 d3;obtain⟨r0,r1,r2,y0,y1,y2,_⟩:=HR2.out
 cases p
 case false=>
  have hVV:v1=ce0∧v2=3:=by have h:=HV.out;exact⟨congrArg Prod.fst h,congrArg Prod.snd h⟩
  obtain⟨rfl,rfl⟩:=hVV;go_wp2;obtain⟨q0,q1,q2,_⟩:=HR2.out.set (.int .i64 0) (.int .i64 0) (.int .i64 0);refine bP (v:=Cel.ceE ce0 3) ?_ rfl ⟨rfl,below_set3 HB2.out (by omega) _ _ _⟩;simp[results,Tryz.results15,go_sem,q0,q1,q2,ce0]
 have hVV:v1=s.cl.getD id.toNat ce0∧v2=0:=by have h:=HV.out;exact⟨congrArg Prod.fst h,congrArg Prod.snd h⟩
 obtain⟨hv1,rfl⟩:=hVV;have hin:0≤id∧id<(wellN d:Int):=of_decide_eq_true (HPE.out (HAB.out (by simp)).2.2.2.1).symm;have hlen:s.cl.length=wellN d:=(HAB.out (by simp)).2.2.2.2.1;obtain⟨k,rfl⟩:∃k:Nat,id=k:=⟨id.toNat,by omega⟩;have hk:k<s.cl.length:=by omega
 obtain⟨gb,off,eA,_,hc,hcell⟩:=ce_cells HS2.out.c (by omega);obtain⟨c0,c1,c2⟩:=hcell k hk;have e2:(k:Int).toNat=k:=by omega
 rw[e2]at hv1;rw[←hv1]at c0 c1 c2;obtain⟨va,vb,vc⟩:=v1;obtain⟨t0,_⟩:=HT2.out;rw[eA]at t0;have HH:=aH (show(k:Int)<s.cl.length by omega);have hkk:=HH.out;clear hcell hin hlen hv1 e2 hk eA;go_wp2;obtain⟨q0,q1,q2,_⟩:=HR2.out.set (.int .i64 va) (.int .i64 vb) (.int .i64 vc);refine bP (v:=Cel.ceE ⟨va,vb,vc⟩ 0) ?_ rfl ⟨rfl,below_set3 HB2.out (by omega) _ _ _⟩;simp[results,Tryz.results15,go_sem,q0,q1,q2]
end Go.Proofs.YtacjonncakhhmaaGreat
