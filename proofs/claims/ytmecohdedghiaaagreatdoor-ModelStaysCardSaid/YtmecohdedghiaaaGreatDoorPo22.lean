/- Stocks: what a call hands out lies apart. -/
import Derived.Test.YtmecohdedghiaaaGreatDoorPo21
set_option maxRecDepth 100000
set_option maxHeartbeats 8000000
open Go.Proofs.Tryz
namespace Go.Proofs.YtmecohdedghiaaaGreatDoor
open Go.RowKit
theorem qz (d:Dk) (t:Stk) (b':Int) (V:World) (B D pd pa pb pn:Nat) (x y n:Int) (hrg:cE d t.ab=true) (hM:Mine V B D t) (hT:Tl V D d b') (hd:d.In V D) (hx:ae x) (hy:ae y) (hn:ae n) (hpd:dv V pd d) (Mz:V.cell? ⟨pa,0,none⟩=some (.int .i64 x)) (hpb:V.cell? ⟨pb,0,none⟩=some (.int .i64 y)) (Ev:V.cell? ⟨pn,0,none⟩=some (.int .i64 n)) (hla:pa<D) (hlb:pb<D):
  Calls prog 253 #[.pointer (some ⟨D,0,none⟩),.pointer (some ⟨pd,0,none⟩),.pointer (some ⟨pa,0,none⟩),.pointer (some ⟨pb,0,none⟩),.pointer (some ⟨pn,0,none⟩)] V fun e V'=>e=.returned (.int .i64 (gA d t.ab x y n))∧
   (gA d t.ab x y n=0→∃t':Stk,Mine V' B D t'∧t'.ab=jp t.ab b' x y n∧t'.cl.length≤100000∧t'.ll.length≤100000∧t'.tl.length≤100000)∧Below D V V':=by
 have Dg:=sr d t.ab hrg;have Ds:=eu d t hrg;have EL:=aH (show D<V.heap.size from hT.2.2.2.2.2);have HL:=aH (aI Ds.1 (aI Ds.2.1 Ds.2.2.1));have HM:=aH hM;have HT:=aH hT;have IV:=aH (fun W (hb:Below D V W)=>dK d 1 x hx W ((hd.below hb).more (Nat.le_trans (Nat.le_of_lt EL.out) hb.size)));have JO:=aH (fun W (hb:Below D V W)=>dK d 1 y hy W ((hd.below hb).more (Nat.le_trans (Nat.le_of_lt EL.out) hb.size)));have Kj:=aH (d6 d Dg.2.2.2.1 x).1;have Kh:=aH (d6 d Dg.2.2.2.1 y).1;have G4:=aH Dg.2.2.1;have Hd:=aH (show t.cl.length=au d∧t.ll.length=au d from⟨Ds.2.2.2.2.1,Ds.2.2.2.2.2.1⟩);have Dm:=aH (show ∀W,Below V.heap.size V W→dv W pd d∧W.cell? ⟨pa,0,none⟩=some (.int .i64 x)∧W.cell? ⟨pb,0,none⟩=some (.int .i64 y)∧W.cell? ⟨pn,0,none⟩=some (.int .i64 n)from fun W hb=>⟨hpd.below hb,kK hb Mz,kK hb hpb,kK hb Ev⟩);have HE:=aH (show gA d t.ab x y n=(if dJ d 1 x=true∧dJ d 1 y=true then(if x=y then 1 else Cel.mvE (t.cl.getD x.toNat aM) (t.cl.getD y.toNat aM) n)else 3)from rfl);have Ej:=aH (aI hla hlb);have JI:=aH hn;generalize gA d t.ab x y n=E at *;obtain⟨⟨d0,d1,d2,d3,d4⟩,h1,h2,h3⟩:=Dm.out V (bR _ _);clear hrg hM hT hd hx hy hn Dg Ds hpd Mz hpb Ev hla hlb d4;by_cases hX:dJ d 1 x=true
 case neg=>
  have Ex:E=3:=by rw[HE.out,if_neg (fun h=>hX h.1)]
  subst Ex;have hX:dJ d 1 x=false:=by simpa using hX
  rw[hX]at IV;go_enter func253,ntmps253;go_wp2_with fail;refine(IV.out _ (bR _ _)).mono ?_;rintro e w1 ⟨rfl,CE⟩;have CH:=aH (CE.mono (Nat.le_of_lt EL.out));clear CE;go_wp2;refine bP (v:=.int .i64 3) ?_ rfl ⟨rfl,fun h=>absurd h (by decide),CH.out⟩;simp[results,results253,go_sem]
 by_cases hY:dJ d 1 y=true
 case neg=>
  have Ex:E=3:=by rw[HE.out,if_neg (fun h=>hY h.2)]
  subst Ex;have hY:dJ d 1 y=false:=by simpa using hY
  rw[hX]at IV;rw[hY]at JO;go_enter func253,ntmps253;go_wp2_with fail;refine(IV.out _ (bR _ _)).mono ?_;rintro e w1 ⟨rfl,CE⟩;have Fo:=aH CE;have CH:=aH (CE.mono (Nat.le_of_lt EL.out));clear CE d0 d1 d2 d3 h1 h2 h3;obtain⟨⟨d0,d1,d2,d3,d4⟩,h1,h2,h3⟩:=Dm.out _ Fo.out;go_wp2_with fail;refine(JO.out _ CH.out).mono ?_;rintro e w2 ⟨rfl,CM⟩;have CL:=aH (CH.out.trans (CM.mono (Nat.le_trans (Nat.le_of_lt EL.out) CH.out.size)));clear CM;go_wp2;refine bP (v:=.int .i64 3) ?_ rfl ⟨rfl,fun h=>absurd h (by decide),CL.out⟩;simp[results,results253,go_sem]
 have HE:=aH (HE.out.trans (if_pos ⟨hX,hY⟩));have QL:0≤x∧x<au d:=by
  have h:=Kj.out;rw[hX]at h;exact of_decide_eq_true h.symm
 have Rm:0≤y∧y<au d:=by
  have h:=Kh.out;rw[hY]at h;exact of_decide_eq_true h.symm
 rw[hX]at IV;rw[hY]at JO;obtain⟨kx,rfl⟩:=Int.eq_ofNat_of_zero_le QL.1;obtain⟨ky,rfl⟩:=Int.eq_ofNat_of_zero_le Rm.1;rw[show(kx:Int).toNat=kx by omega,show(ky:Int).toNat=ky by omega]at HE;have JM:=aH (show kx<t.cl.length∧kx<t.ll.length from by have:=Hd.out;omega);have LS:=aH (show ky<t.cl.length∧ky<t.ll.length from by have:=Hd.out;omega);clear QL Rm hX hY Kj Kh;go_enter func253,ntmps253;go_wp2_with fail;refine(IV.out _ (bR _ _)).mono ?_;rintro e w1 ⟨rfl,CE⟩;have K9:=aH CE;have CH:=aH (CE.mono (Nat.le_of_lt EL.out));clear CE d0 d1 d2 d3 h1 h2 h3;obtain⟨⟨d0,d1,d2,d3,d4⟩,h1,h2,h3⟩:=Dm.out _ K9.out;clear d4;go_wp2_with fail;refine(JO.out _ CH.out).mono ?_;rintro e w2 ⟨rfl,CM⟩;have EI:=aH (bC K9.out CM);have CL:=aH (CH.out.trans (CM.mono (Nat.le_trans (Nat.le_of_lt EL.out) CH.out.size)));clear CM d0 d1 d2 d3 h1 h2 h3;obtain⟨-,h1,h2,-⟩:=Dm.out _ EI.out;by_cases Gv:kx=ky
 case pos=>
  subst Gv;have Ex:E=1:=by rw[HE.out,if_pos rfl]
  subst Ex;go_wp2;refine bP (v:=.int .i64 1) ?_ rfl ⟨rfl,fun h=>absurd h (by decide),CL.out⟩;simp[results,results253,go_sem]
 have PG:¬(kx:Int)=(ky:Int):=by omega
 have HE:=aH (HE.out.trans (if_neg PG));have Ty:((kx:Int)==(ky:Int))=false:=by simpa using PG
 have NL:=aH Gv;clear Gv
 go_upto_region 5 with fail
 clear h1 h2 PG Ty;have Mx:=aH (eV (G4.out kx JM.out.1));have JW:=aH (eV (G4.out ky LS.out.1));have Jo:=aH (show t.ab.c=t.cl from rfl);have MA:=aH (HM.out.below EI.out);have TA:=aH (HT.out.below EI.out);obtain⟨gc,ec,gc1,gc2,gc3⟩:=MA.out.cAt (by have:=JM.out.1;omega);have Ig:=aH ec;obtain⟨X,hX⟩:∃X,t.cl.getD kx aM=X:=⟨_,rfl⟩;obtain⟨Y,hY⟩:∃Y,t.cl.getD ky aM=Y:=⟨_,rfl⟩;have HS:=aH (show ∀W,Below w2.heap.size w2 W→W.cell? ⟨D,0,none⟩=some (Value.slice (some ⟨gc,0,none⟩) t.cl.length t.cc)∧W.cell? ⟨pa,0,none⟩=some (.int .i64 (kx:Int))∧W.cell? ⟨pb,0,none⟩=some (.int .i64 (ky:Int))∧W.cell? ⟨pn,0,none⟩=some (.int .i64 n)∧W.cell? ⟨gc,kx*3,none⟩=some (.int .i64 X.a)∧W.cell? ⟨gc,kx*3+1,none⟩=some (.int .i64 X.b)∧W.cell? ⟨gc,kx*3+2,none⟩=some (.int .i64 X.c)∧W.cell? ⟨gc,ky*3,none⟩=some (.int .i64 Y.a)∧W.cell? ⟨gc,ky*3+1,none⟩=some (.int .i64 Y.b)∧W.cell? ⟨gc,ky*3+2,none⟩=some (.int .i64 Y.c)from fun W hb=>by
  have hm:=MA.out.below hb;have Hy:=hm.c;rw[ec]at Hy;obtain⟨p0,p1,p2,-⟩:=KE.Own.at3 Hy rfl kx JM.out.1;obtain⟨q0,q1,q2,-⟩:=KE.Own.at3 Hy rfl ky LS.out.1;obtain⟨-,h1,h2,h3⟩:=Dm.out W (bC EI.out hb);have h0:=hm.at'.1;rw[ec]at h0;rw[hX]at p0 p1 p2;rw[hY]at q0 q1 q2;exact⟨h0,h1,h2,h3,p0,p1,p2,q0,q1,q2⟩)
 rw[Jo.out,hX]at Mx;rw[Jo.out,hY]at JW;rw[hX,hY]at HE;have L0:=aH (fun W=>Cel.move_any X Y n Mx.out JW.out JI.out W);have ME:=aH (show E=0→Cel.mvX X Y n=Cel.chV X (-(max n 0))∧Cel.mvY X Y n=Cel.chV Y (max n 0)∧(Cel.mvX X Y n).b-X.b= -(max n 0)∧(Cel.mvY X Y n).b-Y.b=max n 0 from fun h=>by
  rw[HE.out]at h;obtain⟨m1,m2,m3,m4⟩:=AD h;rw[m3,m4];exact⟨rfl,rfl,tY m1,tY m2⟩)
 have I4:=aH (show(Cel.mvX X Y n).Fit∧(Cel.mvY X Y n).Fit from⟨by
  unfold Cel.mvX
  split
  ·exact la _ _
  ·exact⟨by decide,by decide,by decide⟩,by
  unfold Cel.mvY
  split
  ·exact la _ _
  ·exact⟨by decide,by decide,by decide⟩⟩)
 have Kp:=aH (show jp t.ab b' kx ky n=qY (qY t.ab b' kx (Cel.mvX X Y n)) b' ky (Cel.mvY X Y n)from by
  unfold jp;rw[Jo.out,show(kx:Int).toNat=kx by omega,show(ky:Int).toNat=ky by omega,hX,hY])
 have HG:=aH (show gc<w2.heap.size∧t.cl.length≤t.cc from⟨gc2,gc3⟩);rw[←HE.out]at L0;generalize Cel.mvX X Y n=MX at *;generalize Cel.mvY X Y n=MY at *;have Mp:=aH hX;have QC:=aH hY;have TX:(kx:Int)<t.cl.length:=by have:=JM.out.1;omega
 have TZ:(ky:Int)<t.cl.length:=by have:=LS.out.1;omega
 clear gc1 gc2 gc3 ec hX hY IV JO;go_cut [7,8,9]from 25 (fun t7 t8 t9 wx=>∃ga gb:Nat,t7=.pointer (some ⟨ga,0,none⟩)∧t8=.pointer (some ⟨gb,0,none⟩)∧t9=.int .i64 E∧Hid (Cells3 wx ga (.int .i64 MX.a) (.int .i64 MX.b) (.int .i64 MX.c))∧Hid (Cells3 wx gb (.int .i64 MY.a) (.int .i64 MY.b) (.int .i64 MY.c))∧Hid (Below w2.heap.size w2 wx)∧Hid (w2.heap.size≤ga∧w2.heap.size≤gb∧ga≠gb))
 case first=>
  clear NL HE ME I4 Kp Mp QC Ig Hd G4 Mx JW Jo Dm HM HT MA TA CH CL K9 EI Ej HL JI;refine rG HS.out (by kernel_rfl) (fun CC=>?_);have YY:=aH (show Below w2.heap.size w2 w2.drew from(bR _ _).drew);generalize w2.drew=v at *;refine wk [.k 0 26,.k 1 27,.k 2 28,.k 3 29,.k 4 30,.k 5 31,.k 6 32,.k 7 33,.k 8 34,.k 9 35,.k 10 36,.k 11 37,.k 12 38,.k 13 39,.k 14 40,.k 15 41,.k 16 42,.k 17 43,.k 18 44] (fun _ _ _ _ _ h=>h) CC ?_ (by kernel_rfl);repeat (refine .k (v:=?_) rfl (by kernel_rfl) ?_ ?_;rotate_left 1;((intro w CY;(try dsimp only at CY);go_simp)<;>(try with_reducible rfl));(try simp only[sp]))
  refine .nil ?_;have mr:=trivial
  repeat' (first
   |(
    clear mr;replace YC:=YC;replace YA:=YA;replace YB:=YB;refine wQ 26 none rfl (fun K hK=>?_) (by kernel_rfl))
   |(clear mr;replace YA:=YA;replace YB:=YB;refine wR 19 [] (by kernel_rfl) (rK (some 45) rfl (fun K hK=>have mc:=trivial;?_) rN))
   |(clear mr;replace YC:=YC;replace YB:=YB;refine wR 24 [] (by kernel_rfl) (rK (some 7) rfl (fun K hK=>have ma:=trivial;?_) rN))
   |(clear mr;replace YC:=YC;replace YA:=YA;refine wR 25 [] (by kernel_rfl) (rK (some 8) rfl (fun K hK=>have mb:=trivial;?_) rN))
   |(clear mr;replace YB:=YB;refine wR 19 [24] (by kernel_rfl) (rK (some 45) rfl (fun K hK=>have mc:=trivial;?_) (rK (some 7) rfl (fun K hK=>have ma:=trivial;?_) rN)))
   |(clear mr;replace YA:=YA;refine wR 19 [25] (by kernel_rfl) (rK (some 45) rfl (fun K hK=>have mc:=trivial;?_) (rK (some 8) rfl (fun K hK=>have mb:=trivial;?_) rN)))
   |(clear mr;replace YC:=YC;refine wR 24 [25] (by kernel_rfl) (rK (some 7) rfl (fun K hK=>have ma:=trivial;?_) (rK (some 8) rfl (fun K hK=>have mb:=trivial;?_) rN)))
   |(clear mr;refine wR 19 [24,25] (by kernel_rfl) (rK (some 45) rfl (fun K hK=>have mc:=trivial;?_) (rK (some 7) rfl (fun K hK=>have ma:=trivial;?_) (rK (some 8) rfl (fun K hK=>have mb:=trivial;?_) rN))))
   |(
    clear mc;go_simp;refine(L0.out _).mono ?_;rintro e u ⟨rfl,hb⟩;replace YY:=aH (bC YY.out hb);(try replace YA:=aH (YA.out.below hb));(try replace YB:=aH (YB.out.below hb));clear hb CC;go_wp2_with fail;refine hK.out _ _ (HS.out _ YY.out) (fun CC=>?_);clear hK K;(try simp only[sp]);clear v;rename World=>v
    refine wk [.k 20 25,.k 21 46,.k 22 47,.k 23 48] (fun _ _ _ _ _ h=>h) CC ?_ (by kernel_rfl);repeat (refine .k (v:=?_) rfl (by kernel_rfl) ?_ ?_;rotate_left 1;((intro w CY;(try dsimp only at CY);go_simp)<;>(try with_reducible rfl));(try simp only[sp]))
    refine .nil ?_;have YC:=trivial;have mr:=trivial)
   |(
    clear ma;go_simp;have hb:=bL (bR _ v) zc;have ZA:=aH YY.out.size;replace YY:=aH (bC YY.out hb);have YA:=aH (Cells3.new v 70 (.int .i64 0) (.int .i64 0) (.int .i64 0));(try (have ZN:=aH (show v.heap.size≠gb from by obtain⟨_,_,_,_,_,_,sl⟩:=YB.out;omega);replace YB:=aH (YB.out.below hb)));clear hb CC;generalize v.alloc zc=u at *;generalize v.heap.size=ga at *;refine hK.out _ _ (HS.out _ YY.out) (fun CC=>?_);clear hK K;(try simp only[sp]);clear v;rename World=>v
    have mr:=trivial)
   |(
    clear mb;go_simp;have hb:=bL (bR _ v) zc;have ZB:=aH YY.out.size;replace YY:=aH (bC YY.out hb);have YB:=aH (Cells3.new v 70 (.int .i64 0) (.int .i64 0) (.int .i64 0));(try (have ZN:=aH (show ga≠v.heap.size from by obtain⟨_,_,_,_,_,_,sl⟩:=YA.out;omega);replace YA:=aH (YA.out.below hb)));clear hb CC;generalize v.alloc zc=u at *;generalize v.heap.size=gb at *;refine hK.out _ _ (HS.out _ YY.out) (fun CC=>?_);clear hK K;(try simp only[sp]);clear v;rename World=>v
    have mr:=trivial))
  all_goals
   obtain⟨s0,s1,s2,y0,y1,y2,sl⟩:=YA.out;go_simp;clear s0 s1 s2 y0 y1 y2 sl;replace YY:=aH (bz YY.out ZA.out (.int .i64 MX.a) (.int .i64 MX.b) (.int .i64 MX.c));replace YA:=aH (YA.out.set (.int .i64 MX.a) (.int .i64 MX.b) (.int .i64 MX.c));replace YB:=aH (YB.out.apart ZN.out (.int .i64 MX.a) (.int .i64 MX.b) (.int .i64 MX.c));clear CC;simp only[lG]at YY YA YB;generalize ((v.setCell ⟨ga,0,none⟩ (.int .i64 MX.a)).setCell ⟨ga,1,none⟩ (.int .i64 MX.b)).setCell ⟨ga,2,none⟩ (.int .i64 MX.c)=x1 at *;refine hK.out _ _ (HS.out _ YY.out) (fun CC=>?_);clear hK K;(try simp only[sp]);refine wQ 27 none rfl (fun K hK=>?_) (by kernel_rfl);obtain⟨s0,s1,s2,y0,y1,y2,sl⟩:=YB.out;go_simp;clear s0 s1 s2 y0 y1 y2 sl;replace YY:=aH (bz YY.out ZB.out (.int .i64 MY.a) (.int .i64 MY.b) (.int .i64 MY.c));replace YB:=aH (YB.out.set (.int .i64 MY.a) (.int .i64 MY.b) (.int .i64 MY.c));replace YA:=aH (YA.out.apart ZN.out.symm (.int .i64 MY.a) (.int .i64 MY.b) (.int .i64 MY.c));clear CC;simp only[lG]at YY YA YB;generalize ((x1.setCell ⟨gb,0,none⟩ (.int .i64 MY.a)).setCell ⟨gb,1,none⟩ (.int .i64 MY.b)).setCell ⟨gb,2,none⟩ (.int .i64 MY.c)=x2 at *;refine hK.out _ _ (HS.out _ YY.out) (fun CC=>?_);clear hK K;(try simp only[sp]);refine wk [.k 28 9] (fun _ _ _ _ _ h=>h) CC ?_ (by kernel_rfl);repeat (refine .k (v:=?_) rfl (by kernel_rfl) ?_ ?_;rotate_left 1;((intro w CY;(try dsimp only at CY);go_simp)<;>(try with_reducible rfl));(try simp only[sp]))
   refine .nil ?_;refine wD (by kernel_rfl) ?_;go_wp2;go_meet;exact⟨ga,gb,rfl,rfl,rfl,YA,YB,YY,aH ⟨ZA.out,ZB.out,ZN.out⟩⟩
 case rest=>
  obtain⟨ga,gb,rfl,rfl,rfl,HA,HBx,Dt,Jw⟩:=hcut;have FG:=aH (CL.out.trans (Dt.out.mono (Nat.le_trans (Nat.le_of_lt EL.out) EI.out.size)));by_cases hE:E=0
  case neg=>
   have Ud:(E != 0)=true:=(by simpa using hE);go_wp2;refine bP (v:=.int .i64 E) ?_ rfl ⟨rfl,fun h=>absurd h hE,FG.out⟩;simp[results,results253,go_sem]
  obtain⟨-,-,m3,m4⟩:=ME.out hE;have TH:=aH m3;have SK:=aH m4;clear m3 m4;subst hE;have M1:=aH (MA.out.below Dt.out);have T1:=aH (TA.out.below Dt.out);obtain⟨-,h1,h2,-⟩:=Dm.out wc (EI.out.trans (Dt.out.mono EI.out.size));have H2:=aH h2;obtain⟨a0,a1,a2,-⟩:=HA.out;have P1:=aH (pU t d b' wc B D kx MX M1.out T1.out JM.out.1 JM.out.2 I4.out.1 (by rw[Mp.out,TH.out];have:=JI.out;unfold ae at *;omega) (by have:=HL.out;omega) (by have:=HL.out;omega));have Q2:=aH (show MX.v=.agg #[.int .i64 MX.a,.int .i64 MX.b,.int .i64 MX.c]from rfl);go_wp2_with fail;refine P1.out.mono ?_;rintro e w4 ⟨q,rfl,hq,hM4,hT4,Do,hkeep⟩;have HQ:=aH hq;have M4:=aH hM4;have T4:=aH hT4;have CW:=aH (FG.out.trans Do);have PP:=MA.out;have fa:∀g,w2.heap.size≤g→some g≠bk t.cA∧some g≠bk t.lA:=fun g hg=>⟨fun e=>by have:=(PP.c.lt g (ax e.symm)).2;omega,fun e=>by have:=(PP.l.lt g (ax e.symm)).2;omega⟩;obtain⟨n1,n2⟩:=fa gb Jw.out.2.1;obtain⟨b0,b1,b2,-⟩:=HBx.out;have c0:=hkeep _ _ b0 n1 n2;have c1:=hkeep _ _ b1 n1 n2;have c2:=hkeep _ _ b2 n1 n2;have Lt:=(Do.cell (p:=⟨pb,0,none⟩) Ej.out.2).trans H2.out;have DT:(t.cl.set kx MX).getD ky aM=Y:=by rw[hZ _ _ _ _ _ NL.out];exact QC.out
  have P2:=aH (kb {t with ll:=t.ll.set kx q,cl:=t.cl.set kx MX} d b' w4 B D ky MY M4.out T4.out (by show ky<(t.cl.set kx MX).length;rw[List.length_set];exact LS.out.1) (by show ky<(t.ll.set kx q).length;rw[List.length_set];exact LS.out.2) I4.out.2 (by show ae (MY.b-((t.cl.set kx MX).getD ky aM).b);rw[DT,SK.out];have:=JI.out;unfold ae at *;omega) (by show(t.cl.set kx MX).length≤_;rw[List.length_set];have:=HL.out;omega) (by show(t.ll.set kx q).length≤_;rw[List.length_set];have:=HL.out;omega));clear hq hM4 hT4 Do hkeep PP fa n1 n2 b0 b1 b2 a0 a1 a2 h1 h2 DT;go_wp2_with fail;refine P2.out.mono ?_;rintro e w5 ⟨q2,rfl,KB,hM5,hT5,EN⟩;have DH:=aH (CW.out.trans EN);have M5:=aH hM5;have Ox:=aH KB;clear KB hM5 hT5 EN c0 c1 c2 Lt;go_wp2;refine bP (v:=.int .i64 0) ?_ rfl ?_
  ·simp[results,results253,go_sem]
  have MJ:({{t with ll:=t.ll.set kx q,cl:=t.cl.set kx MX}with ll:=(t.ll.set kx q).set ky q2,cl:=(t.cl.set kx MX).set ky MY}:Stk).ab=jp t.ab b' kx ky n:=by
   rw[Kp.out];have e2:=Ox.out;rw[nj _ ky (by show ky<(t.ll.set kx q).length;rw[List.length_set];exact LS.out.2)]at e2;have e1:=HQ.out;rw[nj _ kx JM.out.2]at e1;simp only[Stk.ab,qY,List.map_set,e1]at e2⊢;rw[e2]
  have Dn:((t.cl.set kx MX).set ky MY).length≤100000:=by rw[List.length_set,List.length_set];have:=HL.out;omega
  have EA:((t.ll.set kx q).set ky q2).length≤100000:=by rw[List.length_set,List.length_set];have:=HL.out;omega
  have FW:t.tl.length≤100000:=by have:=HL.out;omega
  first
   |exact⟨rfl,⟨_,M5.out,MJ,Dn,EA,FW⟩,DH.out⟩
   |exact⟨rfl,fun _=>⟨_,M5.out,MJ,Dn,EA,FW⟩,DH.out⟩
theorem Stk.Far.less {s:Stk} {B B':Nat} (h:s.Far B) (hB:B'≤B):s.Far B':=
 ⟨fun a ha=>Nat.le_trans hB (h.1 a ha),fun a ha=>Nat.le_trans hB (h.2.1 a ha),fun a ha=>Nat.le_trans hB (h.2.2.1 a ha),fun q hq a ha=>Nat.le_trans hB (h.2.2.2 q hq a ha)⟩
theorem zF (d:Dk) (s:Stk) (b' id n:Int) (w:World) (hd:d.In w w.heap.size) (hs:s.In w w.heap.size) (DU:ae id) (hn:ae n):
  Calls prog 233 #[d.v,s.v,.int .i64 b',.int .i64 id,.int .i64 n] w fun e w'=>∃t:Stk,e=.returned (.tuple #[t.v,.int .i64 (br d s.ab b' (cL d s.ab id (max n 0) (s.ab.inn+n)))])∧t.In w' w'.heap.size∧t.ab=(if br d s.ab b' (cL d s.ab id (max n 0) (s.ab.inn+n))=0 then dV s.ab b' id.toNat (max n 0) 4 (s.ab.inn+n)else fP)∧Below w.heap.size w w'∧t.Far w.heap.size:=by
 obtain⟨w0,hw0⟩:∃w0,w0=(((((w.alloc d.ob).alloc s.ob).alloc (.cells #[.int .i64 id] 3)).alloc (.cells #[.int .i64 n] 3)).alloc zo):=⟨_,rfl⟩;have CG:=aH (BB hw0);have CR:=aH (hd.then CG.out);have Dq:=aH (hs.then CG.out);have DO:=aH (show dv w0 w.heap.size d by rw[hw0];exact((((Cells4.new w _ _ _ _ _).below (bL (bR _ _) _)).below (bL (bR _ _) _)).below (bL (bR _ _) _)).below (bL (bR _ _) _));have CN:=aH (show cn w0 (w.heap.size+1) s by
  have e:(w.alloc d.ob).heap.size=w.heap.size+1:=by simp
  rw[hw0,←e];exact(((Cells6.new (w.alloc d.ob) 41 _ _ _ _ _ _).below (bL (bR _ _) _)).below (bL (bR _ _) _)).below (bL (bR _ _) _))
 have Ef:=aH (show w0.cell? ⟨w.heap.size+2,0,none⟩=some (.int .i64 id)∧w0.cell? ⟨w.heap.size+3,0,none⟩=some (.int .i64 n)∧w0.heap.size=w.heap.size+5 by
  rw[hw0];refine⟨?_,?_,by simp⟩
  ·have h:((w.alloc d.ob).alloc s.ob).heap.size=w.heap.size+2:=(by simp);refine kK (bL (bR _ _) _) (kK (bL (bR _ _) _) (?_));rw[←h,ah];rfl
  ·have h:(((w.alloc d.ob).alloc s.ob).alloc (.cells #[.int .i64 id] 3)).heap.size=w.heap.size+3:=(by simp);refine kK (bL (bR _ _) _) (?_);rw[←h,ah];rfl)
 have DD:=aH (show Cells6 w0 (w.heap.size+4) (.slice none 0 0) (.slice none 0 0) (.slice none 0 0) (.int .i64 0) (.int .i64 0) (.int .i64 0)by
  have h:=Cells6.new ((((w.alloc d.ob).alloc s.ob).alloc (.cells #[.int .i64 id] 3)).alloc (.cells #[.int .i64 n] 3)) 41 (.slice none 0 0) (.slice none 0 0) (.slice none 0 0) (.int .i64 0) (.int .i64 0) (.int .i64 0);rw[←hw0,show((((w.alloc d.ob).alloc s.ob).alloc (.cells #[.int .i64 id] 3)).alloc (.cells #[.int .i64 n] 3)).heap.size=w.heap.size+4 by simp]at h;exact h)
 have HC:=aH (aT d s b' 256 #[.pointer (some ⟨w.heap.size+2,0,none⟩),.pointer (some ⟨w.heap.size+3,0,none⟩)] (cL d s.ab id (max n 0) (s.ab.inn+n)) (dV s.ab b' id.toNat (max n 0) 4 (s.ab.inn+n)) w0 CR.out Dq.out (enters_of func256 (by kernel_rfl) rfl) (fun hrg hb1' Gu V B D t hM Dg hT hD hb FO=>by
  have hI:=Ef.out;have D8:w0.heap.size=w.heap.size+5:=hI.2.2;have J3:ae b':=by have h:=hd.a;unfold ae at h⊢;omega
  have e1:s.ab=t.ab:=Dg.symm;rw[e1];rw[e1]at hrg;exact qL d t b' V B D _ _ id n hrg hM hT hD DU hn (kK hb Ef.out.1) (kK hb Ef.out.2.1) (by omega) (by omega)))
 generalize cL d s.ab id (max n 0) (s.ab.inn+n)=dE at *;generalize dV s.ab b' id.toNat (max n 0) 4 (s.ab.inn+n)=dA at *;generalize br d s.ab b' dE=E at *;generalize (if E=0 then dA else fP)=dR at *;have FE:∀(fn:Fn) (first cap:Array Value) (w:World),(Instr.makeFunc fn first cap).run prog w=.ok (.func fn first cap) w:=fun _ _ _ _=>rfl;obtain⟨t0,t1,t2,t3,t4,t5,_⟩:=CN.out;obtain⟨d0,d1,d2,d3,_⟩:=DO.out;obtain⟨i0,i1,_⟩:=Ef.out;clear hd hs;go_enter func233,ntmps233;go_wp2_with fail;rw[←hw0];clear hw0;refine HC.out.mono ?_;rintro e w1 ⟨t,rfl,ht,Dg,hfar,CE⟩;have Ht:=DD.out.below CE;obtain⟨r0,r1,r2,r3,r4,r5,y0,y1,y2,y3,y4,y5,_⟩:=Ht;have CU:=aH (DD.out.below CE);have CH:=aH (bC CG.out CE);have Ea:=aH (aI ht (aI Dg hfar));clear ht Dg hfar CE t0 t1 t2 t3 t4 t5 d0 d1 d2 d3 FE i0 i1;go_wp2;have DA:=CU.out.setS t;obtain⟨q0,q1,q2,q3,q4,q5,_⟩:=DA;have D8:w0.heap.size=w.heap.size+5:=Ef.out.2.2;refine bP (v:=.tuple #[t.v,.int .i64 E]) ?_ rfl ?_
 ·simp[results,results233,go_sem,q0,q1,q2,q3,q4,q5]
 ·refine⟨t,rfl,?_,Ea.out.2.1,aF CH.out (by omega) _ _ _ _ _ _,Ea.out.2.2.less (by omega)⟩;have:=Ea.out.1.set6 Ea.out.2.2 (D:=w.heap.size+4) (by omega) (.slice t.cA t.cl.length t.cc) (.slice t.lA t.ll.length t.lc) (.slice t.tA t.tl.length t.tc) (.int .i64 t.st) (.int .i64 t.inn) (.int .i64 t.out);simpa using this
theorem xf (d:Dk) (s:Stk) (b' id n:Int) (w:World) (hd:d.In w w.heap.size) (hs:s.In w w.heap.size) (DU:ae id) (hn:ae n):
  Calls prog 234 #[d.v,s.v,.int .i64 b',.int .i64 id,.int .i64 n] w fun e w'=>∃t:Stk,e=.returned (.tuple #[t.v,.int .i64 (br d s.ab b' (cL d s.ab id (-(max n 0)) (s.ab.out+n)))])∧t.In w' w'.heap.size∧t.ab=(if br d s.ab b' (cL d s.ab id (-(max n 0)) (s.ab.out+n))=0 then dV s.ab b' id.toNat (-(max n 0)) 5 (s.ab.out+n)else fP)∧Below w.heap.size w w'∧t.Far w.heap.size:=by
 obtain⟨w0,hw0⟩:∃w0,w0=(((((w.alloc d.ob).alloc s.ob).alloc (.cells #[.int .i64 id] 3)).alloc (.cells #[.int .i64 n] 3)).alloc zo):=⟨_,rfl⟩;have CG:=aH (BB hw0);have CR:=aH (hd.then CG.out);have Dq:=aH (hs.then CG.out);have DO:=aH (show dv w0 w.heap.size d by rw[hw0];exact((((Cells4.new w _ _ _ _ _).below (bL (bR _ _) _)).below (bL (bR _ _) _)).below (bL (bR _ _) _)).below (bL (bR _ _) _));have CN:=aH (show cn w0 (w.heap.size+1) s by
  have e:(w.alloc d.ob).heap.size=w.heap.size+1:=by simp
  rw[hw0,←e];exact(((Cells6.new (w.alloc d.ob) 41 _ _ _ _ _ _).below (bL (bR _ _) _)).below (bL (bR _ _) _)).below (bL (bR _ _) _))
 have Ef:=aH (show w0.cell? ⟨w.heap.size+2,0,none⟩=some (.int .i64 id)∧w0.cell? ⟨w.heap.size+3,0,none⟩=some (.int .i64 n)∧w0.heap.size=w.heap.size+5 by
  rw[hw0];refine⟨?_,?_,by simp⟩
  ·have h:((w.alloc d.ob).alloc s.ob).heap.size=w.heap.size+2:=(by simp);refine kK (bL (bR _ _) _) (kK (bL (bR _ _) _) (?_));rw[←h,ah];rfl
  ·have h:(((w.alloc d.ob).alloc s.ob).alloc (.cells #[.int .i64 id] 3)).heap.size=w.heap.size+3:=(by simp);refine kK (bL (bR _ _) _) (?_);rw[←h,ah];rfl)
 have DD:=aH (show Cells6 w0 (w.heap.size+4) (.slice none 0 0) (.slice none 0 0) (.slice none 0 0) (.int .i64 0) (.int .i64 0) (.int .i64 0)by
  have h:=Cells6.new ((((w.alloc d.ob).alloc s.ob).alloc (.cells #[.int .i64 id] 3)).alloc (.cells #[.int .i64 n] 3)) 41 (.slice none 0 0) (.slice none 0 0) (.slice none 0 0) (.int .i64 0) (.int .i64 0) (.int .i64 0);rw[←hw0,show((((w.alloc d.ob).alloc s.ob).alloc (.cells #[.int .i64 id] 3)).alloc (.cells #[.int .i64 n] 3)).heap.size=w.heap.size+4 by simp]at h;exact h)
 have HC:=aH (aT d s b' 259 #[.pointer (some ⟨w.heap.size+2,0,none⟩),.pointer (some ⟨w.heap.size+3,0,none⟩)] (cL d s.ab id (-(max n 0)) (s.ab.out+n)) (dV s.ab b' id.toNat (-(max n 0)) 5 (s.ab.out+n)) w0 CR.out Dq.out (enters_of func259 (by kernel_rfl) rfl) (fun hrg hb1' Gu V B D t hM Dg hT hD hb FO=>by
  have hI:=Ef.out;have D8:w0.heap.size=w.heap.size+5:=hI.2.2;have J3:ae b':=by have h:=hd.a;unfold ae at h⊢;omega
  have e1:s.ab=t.ab:=Dg.symm;rw[e1];rw[e1]at hrg;exact oq d t b' V B D _ _ id n hrg hM hT hD DU hn (kK hb Ef.out.1) (kK hb Ef.out.2.1) (by omega) (by omega)))
 generalize cL d s.ab id (-(max n 0)) (s.ab.out+n)=dE at *;generalize dV s.ab b' id.toNat (-(max n 0)) 5 (s.ab.out+n)=dA at *;generalize br d s.ab b' dE=E at *;generalize (if E=0 then dA else fP)=dR at *;have FE:∀(fn:Fn) (first cap:Array Value) (w:World),(Instr.makeFunc fn first cap).run prog w=.ok (.func fn first cap) w:=fun _ _ _ _=>rfl;obtain⟨t0,t1,t2,t3,t4,t5,_⟩:=CN.out;obtain⟨d0,d1,d2,d3,_⟩:=DO.out;obtain⟨i0,i1,_⟩:=Ef.out;clear hd hs;go_enter func234,ntmps234;go_wp2_with fail;rw[←hw0];clear hw0;refine HC.out.mono ?_;rintro e w1 ⟨t,rfl,ht,Dg,hfar,CE⟩;have Ht:=DD.out.below CE;obtain⟨r0,r1,r2,r3,r4,r5,y0,y1,y2,y3,y4,y5,_⟩:=Ht;have CU:=aH (DD.out.below CE);have CH:=aH (bC CG.out CE);have Ea:=aH (aI ht (aI Dg hfar));clear ht Dg hfar CE t0 t1 t2 t3 t4 t5 d0 d1 d2 d3 FE i0 i1;go_wp2;have DA:=CU.out.setS t;obtain⟨q0,q1,q2,q3,q4,q5,_⟩:=DA;have D8:w0.heap.size=w.heap.size+5:=Ef.out.2.2;refine bP (v:=.tuple #[t.v,.int .i64 E]) ?_ rfl ?_
 ·simp[results,results234,go_sem,q0,q1,q2,q3,q4,q5]
 ·refine⟨t,rfl,?_,Ea.out.2.1,aF CH.out (by omega) _ _ _ _ _ _,Ea.out.2.2.less (by omega)⟩;have:=Ea.out.1.set6 Ea.out.2.2 (D:=w.heap.size+4) (by omega) (.slice t.cA t.cl.length t.cc) (.slice t.lA t.ll.length t.lc) (.slice t.tA t.tl.length t.tc) (.int .i64 t.st) (.int .i64 t.inn) (.int .i64 t.out);simpa using this
theorem zR (d:Dk) (s:Stk) (b' x y n:Int) (w:World) (hd:d.In w w.heap.size) (hs:s.In w w.heap.size) (hx:ae x) (hy:ae y) (hn:ae n):
  Calls prog 232 #[d.v,s.v,.int .i64 b',.int .i64 x,.int .i64 y,.int .i64 n] w fun e w'=>∃t:Stk,e=.returned (.tuple #[t.v,.int .i64 (br d s.ab b' (gA d s.ab x y n))])∧t.In w' w'.heap.size∧t.ab=(if br d s.ab b' (gA d s.ab x y n)=0 then jp s.ab b' x y n else fP)∧Below w.heap.size w w'∧t.Far w.heap.size:=by
 obtain⟨w0,hw0⟩:∃w0,w0=((((((w.alloc d.ob).alloc s.ob).alloc (.cells #[.int .i64 x] 3)).alloc (.cells #[.int .i64 y] 3)).alloc (.cells #[.int .i64 n] 3)).alloc zo):=⟨_,rfl⟩;have CG:=aH (CB hw0);have CR:=aH (hd.then CG.out);have Dq:=aH (hs.then CG.out);have DO:=aH (show dv w0 w.heap.size d by rw[hw0];exact(((((Cells4.new w _ _ _ _ _).below (bL (bR _ _) _)).below (bL (bR _ _) _)).below (bL (bR _ _) _)).below (bL (bR _ _) _)).below (bL (bR _ _) _));have CN:=aH (show cn w0 (w.heap.size+1) s by
  have e:(w.alloc d.ob).heap.size=w.heap.size+1:=by simp
  rw[hw0,←e];exact((((Cells6.new (w.alloc d.ob) 41 _ _ _ _ _ _).below (bL (bR _ _) _)).below (bL (bR _ _) _)).below (bL (bR _ _) _)).below (bL (bR _ _) _))
 have Ef:=aH (show w0.cell? ⟨w.heap.size+2,0,none⟩=some (.int .i64 x)∧w0.cell? ⟨w.heap.size+3,0,none⟩=some (.int .i64 y)∧w0.cell? ⟨w.heap.size+4,0,none⟩=some (.int .i64 n)∧w0.heap.size=w.heap.size+6 by
  rw[hw0];refine⟨?_,?_,?_,by simp⟩
  ·have h:((w.alloc d.ob).alloc s.ob).heap.size=w.heap.size+2:=(by simp);refine kK (bL (bR _ _) _) (kK (bL (bR _ _) _) (kK (bL (bR _ _) _) (?_)));rw[←h,ah];rfl
  ·have h:(((w.alloc d.ob).alloc s.ob).alloc (.cells #[.int .i64 x] 3)).heap.size=w.heap.size+3:=(by simp);refine kK (bL (bR _ _) _) (kK (bL (bR _ _) _) (?_));rw[←h,ah];rfl
  ·have h:((((w.alloc d.ob).alloc s.ob).alloc (.cells #[.int .i64 x] 3)).alloc (.cells #[.int .i64 y] 3)).heap.size=w.heap.size+4:=(by simp);refine kK (bL (bR _ _) _) (?_);rw[←h,ah];rfl)
 have DD:=aH (show Cells6 w0 (w.heap.size+5) (.slice none 0 0) (.slice none 0 0) (.slice none 0 0) (.int .i64 0) (.int .i64 0) (.int .i64 0)by
  have h:=Cells6.new (((((w.alloc d.ob).alloc s.ob).alloc (.cells #[.int .i64 x] 3)).alloc (.cells #[.int .i64 y] 3)).alloc (.cells #[.int .i64 n] 3)) 41 (.slice none 0 0) (.slice none 0 0) (.slice none 0 0) (.int .i64 0) (.int .i64 0) (.int .i64 0);rw[←hw0,show(((((w.alloc d.ob).alloc s.ob).alloc (.cells #[.int .i64 x] 3)).alloc (.cells #[.int .i64 y] 3)).alloc (.cells #[.int .i64 n] 3)).heap.size=w.heap.size+5 by simp]at h;exact h)
 have HC:=aH (aT d s b' 253 #[.pointer (some ⟨w.heap.size,0,none⟩),.pointer (some ⟨w.heap.size+2,0,none⟩),.pointer (some ⟨w.heap.size+3,0,none⟩),.pointer (some ⟨w.heap.size+4,0,none⟩)] (gA d s.ab x y n) (jp s.ab b' x y n) w0 CR.out Dq.out (enters_of func253 (by kernel_rfl) rfl) (fun hrg hb1' Gu V B D t hM Dg hT hD hb FO=>by
  have hI:=Ef.out;have D8:w0.heap.size=w.heap.size+6:=hI.2.2.2;have J3:ae b':=by have h:=hd.a;unfold ae at h⊢;omega
  have e1:s.ab=t.ab:=Dg.symm;rw[e1];rw[e1]at hrg;exact qz d t b' V B D _ _ _ _ x y n hrg hM hT hD hx hy hn (DO.out.below hb) (kK hb Ef.out.1) (kK hb Ef.out.2.1) (kK hb Ef.out.2.2.1) (by omega) (by omega)))
 generalize gA d s.ab x y n=dE at *;generalize jp s.ab b' x y n=dA at *;generalize br d s.ab b' dE=E at *;generalize (if E=0 then dA else fP)=dR at *;have FE:∀(fn:Fn) (first cap:Array Value) (w:World),(Instr.makeFunc fn first cap).run prog w=.ok (.func fn first cap) w:=fun _ _ _ _=>rfl;obtain⟨t0,t1,t2,t3,t4,t5,_⟩:=CN.out;obtain⟨d0,d1,d2,d3,_⟩:=DO.out;obtain⟨i0,i1,i2,_⟩:=Ef.out;clear hd hs;go_enter func232,ntmps232;go_wp2_with fail;rw[←hw0];clear hw0;refine HC.out.mono ?_;rintro e w1 ⟨t,rfl,ht,Dg,hfar,CE⟩;have Ht:=DD.out.below CE;obtain⟨r0,r1,r2,r3,r4,r5,y0,y1,y2,y3,y4,y5,_⟩:=Ht;have CU:=aH (DD.out.below CE);have CH:=aH (bC CG.out CE);have Ea:=aH (aI ht (aI Dg hfar));clear ht Dg hfar CE t0 t1 t2 t3 t4 t5 d0 d1 d2 d3 FE i0 i1 i2;go_wp2;have DA:=CU.out.setS t;obtain⟨q0,q1,q2,q3,q4,q5,_⟩:=DA;have D8:w0.heap.size=w.heap.size+6:=Ef.out.2.2.2;refine bP (v:=.tuple #[t.v,.int .i64 E]) ?_ rfl ?_
 ·simp[results,results232,go_sem,q0,q1,q2,q3,q4,q5]
 ·refine⟨t,rfl,?_,Ea.out.2.1,aF CH.out (by omega) _ _ _ _ _ _,Ea.out.2.2.less (by omega)⟩;have:=Ea.out.1.set6 Ea.out.2.2 (D:=w.heap.size+5) (by omega) (.slice t.cA t.cl.length t.cc) (.slice t.lA t.ll.length t.lc) (.slice t.tA t.tl.length t.tc) (.int .i64 t.st) (.int .i64 t.inn) (.int .i64 t.out);simpa using this
theorem zj (d:Dk) (s:Stk) (b':Int) (w:World) (hd:d.In w w.heap.size) (hs:s.In w w.heap.size):
  Calls prog 128 #[d.v,s.v,.int .i64 b'] w fun e w'=>∃t:Stk,e=.returned (.tuple #[t.v,.int .i64 (br d s.ab b' (jr s.ab b'))])∧t.In w' w'.heap.size∧t.ab=(if br d s.ab b' (jr s.ab b')=0 then rC s.ab b' else fP)∧Below w.heap.size w w'∧t.Far w.heap.size:=by
 obtain⟨w0,hw0⟩:∃w0,w0=((((w.alloc d.ob).alloc s.ob).alloc (.cells #[.int .i64 b'] 3)).alloc zo):=⟨_,rfl⟩;have CG:=aH (BZ hw0);have CR:=aH (hd.then CG.out);have Dq:=aH (hs.then CG.out);have DO:=aH (show dv w0 w.heap.size d by rw[hw0];exact(((Cells4.new w _ _ _ _ _).below (bL (bR _ _) _)).below (bL (bR _ _) _)).below (bL (bR _ _) _));have CN:=aH (show cn w0 (w.heap.size+1) s by
  have e:(w.alloc d.ob).heap.size=w.heap.size+1:=by simp
  rw[hw0,←e];exact((Cells6.new (w.alloc d.ob) 41 _ _ _ _ _ _).below (bL (bR _ _) _)).below (bL (bR _ _) _))
 have Ef:=aH (show w0.cell? ⟨w.heap.size+2,0,none⟩=some (.int .i64 b')∧w0.heap.size=w.heap.size+4 by
  rw[hw0];refine⟨?_,by simp⟩
  ·have h:((w.alloc d.ob).alloc s.ob).heap.size=w.heap.size+2:=(by simp);refine kK (bL (bR _ _) _) (?_);rw[←h,ah];rfl)
 have DD:=aH (show Cells6 w0 (w.heap.size+3) (.slice none 0 0) (.slice none 0 0) (.slice none 0 0) (.int .i64 0) (.int .i64 0) (.int .i64 0)by
  have h:=Cells6.new (((w.alloc d.ob).alloc s.ob).alloc (.cells #[.int .i64 b'] 3)) 41 (.slice none 0 0) (.slice none 0 0) (.slice none 0 0) (.int .i64 0) (.int .i64 0) (.int .i64 0);rw[←hw0,show(((w.alloc d.ob).alloc s.ob).alloc (.cells #[.int .i64 b'] 3)).heap.size=w.heap.size+3 by simp]at h;exact h)
 have HC:=aH (aT d s b' 190 #[.pointer (some ⟨w.heap.size+2,0,none⟩)] (jr s.ab b') (rC s.ab b') w0 CR.out Dq.out (enters_of func190 (by kernel_rfl) rfl) (fun hrg hb1' Gu V B D t hM Dg hT hD hb FO=>by
  have hI:=Ef.out;have D8:w0.heap.size=w.heap.size+4:=hI.2;have J3:ae b':=by have h:=hd.a;unfold ae at h⊢;omega
  have e1:s.ab=t.ab:=Dg.symm;rw[e1];rw[e1]at hrg;exact jv d t b' V B D _ hrg hM hT (kK hb hI.1)))
 generalize jr s.ab b'=dE at *;generalize rC s.ab b'=dA at *;generalize br d s.ab b' dE=E at *;generalize (if E=0 then dA else fP)=dR at *;have FE:∀(fn:Fn) (first cap:Array Value) (w:World),(Instr.makeFunc fn first cap).run prog w=.ok (.func fn first cap) w:=fun _ _ _ _=>rfl;obtain⟨t0,t1,t2,t3,t4,t5,_⟩:=CN.out;obtain⟨d0,d1,d2,d3,_⟩:=DO.out;obtain⟨i0,_⟩:=Ef.out;clear hd hs;go_enter func128,ntmps128;go_wp2_with fail;rw[←hw0];clear hw0;refine HC.out.mono ?_;rintro e w1 ⟨t,rfl,ht,Dg,hfar,CE⟩;have Ht:=DD.out.below CE;obtain⟨r0,r1,r2,r3,r4,r5,y0,y1,y2,y3,y4,y5,_⟩:=Ht;have CU:=aH (DD.out.below CE);have CH:=aH (bC CG.out CE);have Ea:=aH (aI ht (aI Dg hfar));clear ht Dg hfar CE t0 t1 t2 t3 t4 t5 d0 d1 d2 d3 FE i0;go_wp2;have DA:=CU.out.setS t;obtain⟨q0,q1,q2,q3,q4,q5,_⟩:=DA;have D8:w0.heap.size=w.heap.size+4:=Ef.out.2;refine bP (v:=.tuple #[t.v,.int .i64 E]) ?_ rfl ?_
 ·simp[results,results128,go_sem,q0,q1,q2,q3,q4,q5]
 ·refine⟨t,rfl,?_,Ea.out.2.1,aF CH.out (by omega) _ _ _ _ _ _,Ea.out.2.2.less (by omega)⟩;have:=Ea.out.1.set6 Ea.out.2.2 (D:=w.heap.size+3) (by omega) (.slice t.cA t.cl.length t.cc) (.slice t.lA t.ll.length t.lc) (.slice t.tA t.tl.length t.tc) (.int .i64 t.st) (.int .i64 t.inn) (.int .i64 t.out);simpa using this
theorem zp (d:Dk) (s:Stk) (b' id:Int) (w:World) (hd:d.In w w.heap.size) (hs:s.In w w.heap.size) (DU:ae id):
  Calls prog 126 #[d.v,s.v,.int .i64 b',.int .i64 id] w fun e w'=>∃t:Stk,e=.returned (.tuple #[t.v,.int .i64 (br d s.ab b' (eL d s.ab b' id))])∧t.In w' w'.heap.size∧t.ab=(if br d s.ab b' (eL d s.ab b' id)=0 then fY s.ab b' id else fP)∧Below w.heap.size w w'∧t.Far w.heap.size:=by
 obtain⟨w0,hw0⟩:∃w0,w0=(((((w.alloc d.ob).alloc s.ob).alloc (.cells #[.int .i64 b'] 3)).alloc (.cells #[.int .i64 id] 3)).alloc zo):=⟨_,rfl⟩;have CG:=aH (BB hw0);have CR:=aH (hd.then CG.out);have Dq:=aH (hs.then CG.out);have DO:=aH (show dv w0 w.heap.size d by rw[hw0];exact((((Cells4.new w _ _ _ _ _).below (bL (bR _ _) _)).below (bL (bR _ _) _)).below (bL (bR _ _) _)).below (bL (bR _ _) _));have CN:=aH (show cn w0 (w.heap.size+1) s by
  have e:(w.alloc d.ob).heap.size=w.heap.size+1:=by simp
  rw[hw0,←e];exact(((Cells6.new (w.alloc d.ob) 41 _ _ _ _ _ _).below (bL (bR _ _) _)).below (bL (bR _ _) _)).below (bL (bR _ _) _))
 have Ef:=aH (show w0.cell? ⟨w.heap.size+2,0,none⟩=some (.int .i64 b')∧w0.cell? ⟨w.heap.size+3,0,none⟩=some (.int .i64 id)∧w0.heap.size=w.heap.size+5 by
  rw[hw0];refine⟨?_,?_,by simp⟩
  ·have h:((w.alloc d.ob).alloc s.ob).heap.size=w.heap.size+2:=(by simp);refine kK (bL (bR _ _) _) (kK (bL (bR _ _) _) (?_));rw[←h,ah];rfl
  ·have h:(((w.alloc d.ob).alloc s.ob).alloc (.cells #[.int .i64 b'] 3)).heap.size=w.heap.size+3:=(by simp);refine kK (bL (bR _ _) _) (?_);rw[←h,ah];rfl)
 have DD:=aH (show Cells6 w0 (w.heap.size+4) (.slice none 0 0) (.slice none 0 0) (.slice none 0 0) (.int .i64 0) (.int .i64 0) (.int .i64 0)by
  have h:=Cells6.new ((((w.alloc d.ob).alloc s.ob).alloc (.cells #[.int .i64 b'] 3)).alloc (.cells #[.int .i64 id] 3)) 41 (.slice none 0 0) (.slice none 0 0) (.slice none 0 0) (.int .i64 0) (.int .i64 0) (.int .i64 0);rw[←hw0,show((((w.alloc d.ob).alloc s.ob).alloc (.cells #[.int .i64 b'] 3)).alloc (.cells #[.int .i64 id] 3)).heap.size=w.heap.size+4 by simp]at h;exact h)
 have HC:=aH (aT d s b' 186 #[.pointer (some ⟨w.heap.size,0,none⟩),.pointer (some ⟨w.heap.size+3,0,none⟩),.pointer (some ⟨w.heap.size+2,0,none⟩)] (eL d s.ab b' id) (fY s.ab b' id) w0 CR.out Dq.out (enters_of func186 (by kernel_rfl) rfl) (fun hrg hb1' Gu V B D t hM Dg hT hD hb FO=>by
  have hI:=Ef.out;have D8:w0.heap.size=w.heap.size+5:=hI.2.2;have J3:ae b':=by have h:=hd.a;unfold ae at h⊢;omega
  have e1:s.ab=t.ab:=Dg.symm;rw[e1];rw[e1]at hrg;exact jF d t b' V B D _ _ _ id hrg hM hT hD DU J3 (DO.out.below hb) (kK hb hI.2.1) (kK hb hI.1) (by omega)))
 generalize eL d s.ab b' id=dE at *;generalize fY s.ab b' id=dA at *;generalize br d s.ab b' dE=E at *;generalize (if E=0 then dA else fP)=dR at *;have FE:∀(fn:Fn) (first cap:Array Value) (w:World),(Instr.makeFunc fn first cap).run prog w=.ok (.func fn first cap) w:=fun _ _ _ _=>rfl;obtain⟨t0,t1,t2,t3,t4,t5,_⟩:=CN.out;obtain⟨d0,d1,d2,d3,_⟩:=DO.out;obtain⟨i0,i1,_⟩:=Ef.out;clear hd hs;go_enter func126,ntmps126;go_wp2_with fail;rw[←hw0];clear hw0;refine HC.out.mono ?_;rintro e w1 ⟨t,rfl,ht,Dg,hfar,CE⟩;have Ht:=DD.out.below CE;obtain⟨r0,r1,r2,r3,r4,r5,y0,y1,y2,y3,y4,y5,_⟩:=Ht;have CU:=aH (DD.out.below CE);have CH:=aH (bC CG.out CE);have Ea:=aH (aI ht (aI Dg hfar));clear ht Dg hfar CE t0 t1 t2 t3 t4 t5 d0 d1 d2 d3 FE i0 i1;go_wp2;have DA:=CU.out.setS t;obtain⟨q0,q1,q2,q3,q4,q5,_⟩:=DA;have D8:w0.heap.size=w.heap.size+5:=Ef.out.2.2;refine bP (v:=.tuple #[t.v,.int .i64 E]) ?_ rfl ?_
 ·simp[results,results126,go_sem,q0,q1,q2,q3,q4,q5]
 ·refine⟨t,rfl,?_,Ea.out.2.1,aF CH.out (by omega) _ _ _ _ _ _,Ea.out.2.2.less (by omega)⟩;have:=Ea.out.1.set6 Ea.out.2.2 (D:=w.heap.size+4) (by omega) (.slice t.cA t.cl.length t.cc) (.slice t.lA t.ll.length t.lc) (.slice t.tA t.tl.length t.tc) (.int .i64 t.st) (.int .i64 t.inn) (.int .i64 t.out);simpa using this
end Go.Proofs.YtmecohdedghiaaaGreatDoor
