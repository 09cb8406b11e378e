/- Stocks: Take, by the reference. -/
import Derived.Test.YtacjonncakhhmaaGreatPv00
import Derived.Test.YtacjonncakhhmaaGreatPv32
import Derived.Test.YtacjonncakhhmaaGreatPv25
import Derived.Test.YtacjonncakhhmaaGreatPv31
set_option maxRecDepth 100000
set_option maxHeartbeats 8000000
namespace Go.Proofs.YtacjonncakhhmaaGreat
open Go.RowKit
theorem rdropf_any (d:Dk) (s:Stk) (b':Int) (w:World) (hd:d.In w w.heap.size) (hs:s.In w w.heap.size):
  Calls Tryz.prog 25 #[d.v,s.v,.int .i64 b'] w fun e w'=>∃t:Stk,e=.returned (.tuple #[t.v,.int .i64 (cgE d s.ab b' (drE s.ab b'))])∧t.In w' w'.heap.size∧t.ab=(if cgE d s.ab b' (drE s.ab b')=0 then drA s.ab b' else ab0)∧Below w.heap.size w w'∧t.Far w.heap.size:=by
 obtain⟨w0,hw0⟩:∃w0,w0=(((w.alloc d.ob).alloc s.ob).alloc zo):=⟨_,rfl⟩;have HB0:=aH (show Below w.heap.size w w0 by rw[hw0];exact bL (bL (bL (bR _ _) _) _) _);have HD0:=aH (hd.then HB0.out);have HS0:=aH (hs.then HB0.out);obtain⟨Gd,hGd⟩:∃Gd,Gd=w.heap.size:=⟨_,rfl⟩;obtain⟨Gs,hGs⟩:∃Gs,Gs=w.heap.size+1:=⟨_,rfl⟩;obtain⟨Gr,hGr⟩:∃Gr,Gr=w.heap.size+1+1:=⟨_,rfl⟩;have HK:=aH (show DkAt w0 Gd d by rw[hw0,hGd];exact((Cells4.new w _ _ _ _ _).below (bL (bR _ _) _)).below (bL (bR _ _) _));have HT:=aH (show SkAt w0 Gs s by
  have e:(w.alloc d.ob).heap.size=w.heap.size+1:=by simp
  rw[hw0,hGs,←e];exact(Cells6.new (w.alloc d.ob) 31 _ _ _ _ _ _).below (bL (bR _ _) _))
 have HR:=aH (show Cells6 w0 Gr (.slice none 0 0) (.slice none 0 0) (.slice none 0 0) (.int .i64 0) (.int .i64 0) (.int .i64 0)by
  have e:((w.alloc d.ob).alloc s.ob).heap.size=w.heap.size+1+1:=by simp
  rw[hw0,hGr,←e];exact Cells6.new ((w.alloc d.ob).alloc s.ob) 31 _ _ _ _ _ _)
 have HG:=aH (show Gd=w.heap.size∧Gs=w.heap.size+1∧Gr=w.heap.size+2∧w0.heap.size=w.heap.size+3 from⟨hGd,hGs,by omega,by rw[hw0];simp⟩);have HMY:=aH (rmay_any d s b' w0 HD0.out HS0.out);have HNO:=aH (fun h=>@cgE_no d s.ab b' (drE s.ab b') h);have HYE:=aH (fun h=>@cgE_yes d s.ab b' h);have HQ:=aH (fun(h:rgS d s.ab=true)=>rg_ab d s.ab h);have HLN:=aH (fun(h:rgS d s.ab=true)=>rg_lens d s h);have HRD:=aH (fun(h:rgS d s.ab=true)=>show rhV s.tl b'=(if (hdF s.ab b').2=true then(hdF s.ab b').1 else -1)from by
  have e:=rh_hd h b';show(if (Tp.fstV (rhP s.ab.t b') s.ab.t.length).2=true then(Tp.fstV (rhP s.ab.t b') s.ab.t.length).1 else -1)=_;rw[e])
 have HHN:=aH (fun w h=>rhand0_any s b' w h);have HFL:=aH (show drE s.ab b'=(if (hdF s.ab b').2=true then Tp.dpE (s.tl.getD (hdF s.ab b').1.toNat (0,0)).1 (s.tl.getD (hdF s.ab b').1.toNat (0,0)).2 b' else 131)from rfl);have HA0:=aH (show drA s.ab b'={s.ab with t:=s.tl.set (hdF s.ab b').1.toNat (Tp.dpV (s.tl.getD (hdF s.ab b').1.toNat (0,0)).1 (s.tl.getD (hdF s.ab b').1.toNat (0,0)).2 b')}from rfl);have HYS:=aH (fun h=>@hd_yes s.ab b' h);generalize drE s.ab b'=F at *;generalize drA s.ab b'=dA at *;obtain⟨E,hE⟩:∃E,cgE d s.ab b' F=E:=⟨_,rfl⟩;rw[hE]at HNO;rw[hE];have HE:=aH hE;clear hE;obtain⟨mm,hm⟩:∃mm,cgE d s.ab b' 0=mm:=⟨_,rfl⟩;have HM0:=aH (show mm=0→1≤b'∧b'≤d.arms from fun h=>by
  have h2:=cg_ok (hm.trans h);exact⟨h2.2.1,h2.2.2.1⟩)
 rw[hm]at HMY HNO HYE;clear hm;obtain⟨d0,d1,d2,d3,-⟩:=HK.out;obtain⟨t0,t1,t2,t3,t4,t5,-⟩:=HT.out;rw[hw0,hGd]at d0 d1 d2 d3;rw[hw0,hGs]at t0 t1 t2 t3 t4 t5;go_enter Tryz.func25,Tryz.ntmps25;go_wp2_with fail;rw[←hw0];try rw[←hGr]
 try rw[←hGs]
 try rw[←hGd]
 clear hw0 hGd hGs hGr d0 d1 d2 d3 t0 t1 t2 t3 t4 t5;refine HMY.out.mono ?_;rintro e w1 ⟨rfl,hb1⟩;have HB1:=aH hb1;clear hb1 HMY;by_cases h0:mm=0
 case neg=>
  have h0b:(mm != 0)=true:=by simpa using h0
  have hEm:E=mm:=HNO.out h0;subst hEm;have HNZ:=aH h0;clear h0;obtain⟨r0,r1,r2,r3,r4,r5,y0,y1,y2,y3,y4,y5,-⟩:=HR.out.below HB1.out;go_wp2;obtain⟨q0,q1,q2,q3,q4,q5,-⟩:=(HR.out.below HB1.out).set (.slice none 0 0) (.slice none 0 0) (.slice none 0 0) (.int .i64 0) (.int .i64 0) (.int .i64 0);refine bP (v:=.tuple #[stk0.v,.int .i64 (E)]) ?_ rfl ?_
  ·simp[results,Tryz.results25,go_sem,q0,q1,q2,q3,q4,q5,stk0]
  ·exact⟨stk0,rfl,stk0_in _ _,by first|rfl|(rw[if_neg HNZ.out];rfl),below_set6 (bC HB0.out HB1.out) (by have:=HG.out;omega) _ _ _ _ _ _,stk0_far _⟩
 have HM1:=aH (HM0.out h0);subst h0;obtain⟨hrg,hEF⟩:=HYE.out rfl;have hEF:F=E:=(hEF F).symm.trans HE.out;subst hEF;have HRGT:=aH hrg;have HQQ:=aH (HQ.out hrg);have HLL:=aH (HLN.out hrg);have HRV:=aH (HRD.out hrg);clear hrg HQ HLN HNO HYE HE HRD HM0;obtain⟨t0,t1,t2,t3,t4,t5,-⟩:=HT.out.below HB1.out;go_wp2_with fail;clear t0 t1 t2 t3 t4 t5;refine(HHN.out w1 (HS0.out.then HB1.out)).mono ?_;rintro e w2 ⟨rfl,hb2⟩;have HB2:=aH (show Below w0.heap.size w0 w2 from bC HB1.out hb2);clear hb2 HB1;obtain⟨⟨f1,f2⟩,hf⟩:∃z,hdF s.ab b'=z:=⟨_,rfl⟩;rw[hf]at HRV HFL HYS HA0;dsimp only at HRV HFL HYS HA0;generalize rhV s.tl b'=rv at *;clear hf
 cases f2
 case false=>
  have hEm:F=131:=by rw[HFL.out];rfl
  have hrv:rv= -1:=by rw[HRV.out];rfl
  subst hEm;subst hrv;obtain⟨r0,r1,r2,r3,r4,r5,y0,y1,y2,y3,y4,y5,-⟩:=HR.out.below HB2.out;go_wp2;obtain⟨q0,q1,q2,q3,q4,q5,-⟩:=(HR.out.below HB2.out).set (.slice none 0 0) (.slice none 0 0) (.slice none 0 0) (.int .i64 0) (.int .i64 0) (.int .i64 0);refine bP (v:=.tuple #[stk0.v,.int .i64 (131)]) ?_ rfl ?_
  ·simp[results,Tryz.results25,go_sem,q0,q1,q2,q3,q4,q5,stk0]
  ·exact⟨stk0,rfl,stk0_in _ _,by first|rfl|(rw[if_neg (by decide)];rfl),below_set6 (bC HB0.out HB2.out) (by have:=HG.out;omega) _ _ _ _ _ _,stk0_far _⟩
 obtain⟨k,rfl,hk,hk1,hk2⟩:=HYS.out rfl;have hrv:rv=(k:Int):=by rw[HRV.out];rfl
 subst hrv;have ekk:(k:Int).toNat=k:=by omega
 rw[ekk]at HFL HA0;have hdp:Tp.dpE (s.tl.getD k (0,0)).1 (s.tl.getD k (0,0)).2 b'=0:=by
  have e1:(s.tl.getD k (0,0)).1=2:=hk1;have e2:(s.tl.getD k (0,0)).2=b':=hk2;have h8:=HM1.out;have ha:d.arms≤8:=(dchk_ok d HQQ.out.2.2.2.1).arm.2;have ho:Tp.ofV 2 b'=2:=by have:=(ofV_2 2 b').2 ⟨rfl,by omega,by omega⟩;simpa using this
  have hb:Tp.armB b'=true:=by unfold Tp.armB;exact dT (by omega)
  rw[e1,e2];unfold Tp.dpE;rw[ho,hb,if_neg (by decide),if_neg (by simp),if_pos ⟨rfl,rfl⟩]
 have hEm:F=0:=by rw[HFL.out,if_pos rfl,hdp]
 have HAA:=aH (show dA={s.ab with t:=s.tl.set k (3,0)}from by rw[HA0.out];unfold Tp.dpV;rw[if_pos hdp]);have HVF:=aH (show fits ((3:Int),(0:Int)).1∧fits ((3:Int),(0:Int)).2 from⟨by decide,by decide⟩);have HKS:=aH (show k<s.tl.length from hk);have HBS:=aH HB2.out.size;subst hEm;clear hk hk1 hk2 ekk hdp HFL HA0 HYS HRV;have hk0:¬(k:Int)<0:=by omega
 have HCP:=aH (rcopy_any s w2 (HS0.out.then HB2.out) (by have:=HLL.out;omega) (by have:=HLL.out;omega) (by have:=HLL.out;omega) (fun q hq=>by have:=HLL.out.2.2.2.1 q hq;omega));obtain⟨t0,t1,t2,t3,t4,t5,-⟩:=HT.out.below HB2.out;go_wp2_with fail;clear t0 t1 t2 t3 t4 t5;refine HCP.out.mono ?_;rintro e w4 ⟨t,rfl,hta,htr,hb4,hta2⟩;obtain⟨v4,hv4⟩:∃v4,v4=w4.alloc t.ob:=⟨_,rfl⟩;have hba:=bL (bR w4.heap.size w4) t.ob;rw[←hv4]at hba;have HTA:=aH hta;have HTR:=aH (htr.below hba);have HRO:=aH (htr.out (D:=w4.heap.size) (nR _));have HSZ:=aH (show w2.heap.size≤w4.heap.size∧w4.heap.size<v4.heap.size from⟨hb4.size,by rw[hv4];simp⟩);have HB5:=aH (show Below w0.heap.size w0 v4 from HB2.out.trans ((bC hb4 hba).mono HB2.out.size));have HT4:=aH (show SkAt v4 w4.heap.size t by rw[hv4];exact Cells6.new w4 _ _ _ _ _ _ _);have HTT:=aH (show t.tl=s.tl from congrArg Ab.t HTA.out);have hkt:k<t.tl.length:=by rw[HTT.out];exact HKS.out
 obtain⟨gt,et,gt1,gt2,gt3⟩:=HTR.out.tAt (by omega);have hot:=HTR.out.t;rw[et]at hot;obtain⟨p0,p1,y0,y1⟩:=KT.Own.at2 hot rfl k hkt;have HET:=aH et;have HGT:=aH (show w2.heap.size≤gt∧gt<v4.heap.size∧gt≠w4.heap.size from⟨gt1,gt2,fun e=>HRO.out.2.2 (by rw[et,←e];rfl)⟩);obtain⟨u0,u1,u2,u3,u4,u5,-⟩:=HT4.out;rw[et]at u2;have hkti:(k:Int)<t.tl.length:=by omega
 rw[hv4]at u0 u1 u2 u3 u4 u5 p0 p1 y0 y1;clear hta htr hb4 hta2 hba HCP hot et gt1 gt2 gt3
 go_upto_region 9 with fail
 rw[←hv4];clear u0 u1 u2 u3 u4 u5 p0 p1 y0 y1;have hkl:k<t.tl.length:=hkt;have M6:=aH (HTR.out.putT k hkl gt HET.out (3,0) HVF.out);have HT6:=aH (show SkAt ((v4.setCell ⟨gt,k*2,none⟩ (.int .i64 (3))).setCell ⟨gt,k*2+1,none⟩ (.int .i64 (0))) w4.heap.size t from((HT4.out.off (D:=gt) (o:=k*2) HGT.out.2.2 _).off (D:=gt) (o:=k*2+1) HGT.out.2.2 _));have HB6:=aH (show Below w0.heap.size w0 ((v4.setCell ⟨gt,k*2,none⟩ (.int .i64 (3))).setCell ⟨gt,k*2+1,none⟩ (.int .i64 (0)))from((HB5.out.setCell (by show w0.heap.size≤gt;have:=HGT.out;have:=HBS.out;omega) _).setCell (by show w0.heap.size≤gt;have:=HGT.out;have:=HBS.out;omega) _));clear HTR HT4 HB5 hv4;generalize (v4.setCell ⟨gt,k*2,none⟩ (.int .i64 (3))).setCell ⟨gt,k*2+1,none⟩ (.int .i64 (0))=w6 at *;have HR6:=aH (HR.out.below HB6.out);obtain⟨u0,u1,u2,u3,u4,u5,-⟩:=HT6.out;obtain⟨r0,r1,r2,r3,r4,r5,y0,y1,y2,y3,y4,y5,-⟩:=HR6.out;go_wp2;obtain⟨q0,q1,q2,q3,q4,q5,-⟩:=HR6.out.setS t;have hfar:=M6.out.farr;have hlen1:t.cl.length≤100000:=by rw[show t.cl=s.cl from congrArg Ab.c HTA.out];have:=HLL.out;omega
 have htl:t.ll.length=s.ll.length:=by
  have h:=congrArg (fun a:Ab=>a.l.length) HTA.out;have e1:t.ab.l.length=t.ll.length:=by show(t.ll.map Lo.ab).length=_;rw[List.length_map]
  have e2:s.ab.l.length=s.ll.length:=by show(s.ll.map Lo.ab).length=_;rw[List.length_map]
  rw[←e1,←e2];exact h
 have hlen2:t.ll.length≤100000:=by rw[htl];have:=HLL.out;omega
 have hin:=(M6.out.inn hlen1 hlen2 (by show(t.tl.set _ _).length≤_;rw[List.length_set,HTT.out];have:=HLL.out;omega)).set6 hfar (D:=Gr) (by have:=HG.out;have:=HBS.out;omega) (.slice t.cA t.cl.length t.cc) (.slice t.lA t.ll.length t.lc) (.slice t.tA t.tl.length t.tc) (.int .i64 t.st) (.int .i64 t.inn) (.int .i64 t.out);have hlt2:(t.tl.set k ((3:Int),(0:Int))).length=t.tl.length:=List.length_set;refine bP (v:=.tuple #[.agg #[.slice t.cA t.cl.length t.cc,.slice t.lA t.ll.length t.lc,.slice t.tA t.tl.length t.tc,.int .i64 t.st,.int .i64 t.inn,.int .i64 t.out],.int .i64 0]) ?_ rfl ?_
 ·simp[results,Tryz.results25,go_sem,q0,q1,q2,q3,q4,q5]
 ·refine⟨⟨t.cA,t.cc,t.cl,t.lA,t.lc,t.ll,t.tA,t.tc,t.tl.set k (3,0),t.st,t.inn,t.out⟩,by show _=Ending.returned (.tuple #[.agg #[_,_,.slice t.tA (t.tl.set k ((3:Int),(0:Int))).length t.tc,_,_,_],_]);rw[hlt2],?_,?_,below_set6 (bC HB0.out HB6.out) (by have:=HG.out;omega) _ _ _ _ _ _,by have h:=hfar.less (B':=w.heap.size) (by have:=HG.out;have:=HBS.out;omega);exact h⟩
  ·have h:=hin;exact⟨by simpa using h.c,by simpa using h.l,by simpa using h.t,fun p hp=>by have:=h.x p hp;simpa using this,h.f⟩
  ·have e:(⟨t.cl,t.ll.map Lo.ab,t.tl.set k (3,0),t.st,t.inn,t.out⟩:Ab)=dA:=by
    rw[HAA.out];have e0:=HTA.out;show({t.ab with t:=t.ab.t.set k (3,0)}:Ab)=_;rw[e0];rfl
   first
    |(rw[if_pos rfl];exact e)
    |exact e
theorem rtakef_any (d:Dk) (s:Stk) (b' id:Int) (w:World) (hd:d.In w w.heap.size) (hs:s.In w w.heap.size) (hfb:fits b'):
  Calls Tryz.prog 24 #[d.v,s.v,.int .i64 b',.int .i64 id] w fun e w'=>∃t:Stk,e=.returned (.tuple #[t.v,.int .i64 (cgE d s.ab b' (taE d s.ab b' id))])∧t.In w' w'.heap.size∧t.ab=(if cgE d s.ab b' (taE d s.ab b' id)=0 then taA s.ab b' id else ab0)∧Below w.heap.size w w'∧t.Far w.heap.size:=by
 obtain⟨w0,hw0⟩:∃w0,w0=(((w.alloc d.ob).alloc s.ob).alloc zo):=⟨_,rfl⟩;have HB0:=aH (show Below w.heap.size w w0 by rw[hw0];exact bL (bL (bL (bR _ _) _) _) _);have HD0:=aH (hd.then HB0.out);have HS0:=aH (hs.then HB0.out);obtain⟨Gd,hGd⟩:∃Gd,Gd=w.heap.size:=⟨_,rfl⟩;obtain⟨Gs,hGs⟩:∃Gs,Gs=w.heap.size+1:=⟨_,rfl⟩;obtain⟨Gr,hGr⟩:∃Gr,Gr=w.heap.size+1+1:=⟨_,rfl⟩;have HK:=aH (show DkAt w0 Gd d by rw[hw0,hGd];exact((Cells4.new w _ _ _ _ _).below (bL (bR _ _) _)).below (bL (bR _ _) _));have HT:=aH (show SkAt w0 Gs s by
  have e:(w.alloc d.ob).heap.size=w.heap.size+1:=by simp
  rw[hw0,hGs,←e];exact(Cells6.new (w.alloc d.ob) 31 _ _ _ _ _ _).below (bL (bR _ _) _))
 have HR:=aH (show Cells6 w0 Gr (.slice none 0 0) (.slice none 0 0) (.slice none 0 0) (.int .i64 0) (.int .i64 0) (.int .i64 0)by
  have e:((w.alloc d.ob).alloc s.ob).heap.size=w.heap.size+1+1:=by simp
  rw[hw0,hGr,←e];exact Cells6.new ((w.alloc d.ob).alloc s.ob) 31 _ _ _ _ _ _)
 have HG:=aH (show Gd=w.heap.size∧Gs=w.heap.size+1∧Gr=w.heap.size+2∧w0.heap.size=w.heap.size+3 from⟨hGd,hGs,by omega,by rw[hw0];simp⟩);have HMY:=aH (rmay_any d s b' w0 HD0.out HS0.out);have HNO:=aH (fun h=>@cgE_no d s.ab b' (taE d s.ab b' id) h);have HYE:=aH (fun h=>@cgE_yes d s.ab b' h);have HQ:=aH (fun(h:rgS d s.ab=true)=>rg_ab d s.ab h);have HLN:=aH (fun(h:rgS d s.ab=true)=>rg_lens d s h);have HRD:=aH (fun(h:rgS d s.ab=true)=>show rhV s.tl b'=(if (hdF s.ab b').2=true then(hdF s.ab b').1 else -1)from by
  have e:=rh_hd h b';show(if (Tp.fstV (rhP s.ab.t b') s.ab.t.length).2=true then(Tp.fstV (rhP s.ab.t b') s.ab.t.length).1 else -1)=_;rw[e])
 have HHN:=aH (fun w h=>rhand0_any s b' w h);have HFL:=aH (show taE d s.ab b' id=(if isP d 2 id=true then(if (hdF s.ab b').2=true then 131 else Tp.tkE (s.tl.getD (tiK s.ab id) (0,0)).1 (s.tl.getD (tiK s.ab id) (0,0)).2 b')else 3)from rfl);have HA0:=aH (show taA s.ab b' id={s.ab with t:=s.tl.set (tiK s.ab id) (Tp.tkV (s.tl.getD (tiK s.ab id) (0,0)).1 (s.tl.getD (tiK s.ab id) (0,0)).2 b')}from rfl);have HYS:=aH (fun h=>@hd_yes s.ab b' h);have HPE:=aH (fun(h:rgS d s.ab=true)=>(isP_eq d (rg_ab d s.ab h).2.2.2.1 id).2);generalize taE d s.ab b' id=F at *;generalize taA s.ab b' id=dA at *;obtain⟨E,hE⟩:∃E,cgE d s.ab b' F=E:=⟨_,rfl⟩;rw[hE]at HNO;rw[hE];have HE:=aH hE;clear hE;obtain⟨mm,hm⟩:∃mm,cgE d s.ab b' 0=mm:=⟨_,rfl⟩;have HM0:=aH (show mm=0→1≤b'∧b'≤d.arms from fun h=>by
  have h2:=cg_ok (hm.trans h);exact⟨h2.2.1,h2.2.2.1⟩)
 rw[hm]at HMY HNO HYE;clear hm;obtain⟨d0,d1,d2,d3,-⟩:=HK.out;obtain⟨t0,t1,t2,t3,t4,t5,-⟩:=HT.out;rw[hw0,hGd]at d0 d1 d2 d3;rw[hw0,hGs]at t0 t1 t2 t3 t4 t5;go_enter Tryz.func24,Tryz.ntmps24;go_wp2_with fail;rw[←hw0];try rw[←hGr]
 try rw[←hGs]
 try rw[←hGd]
 clear hw0 hGd hGs hGr d0 d1 d2 d3 t0 t1 t2 t3 t4 t5;refine HMY.out.mono ?_;rintro e w1 ⟨rfl,hb1⟩;have HB1:=aH hb1;clear hb1 HMY;by_cases h0:mm=0
 case neg=>
  have h0b:(mm != 0)=true:=by simpa using h0
  have hEm:E=mm:=HNO.out h0;subst hEm;have HNZ:=aH h0;clear h0;obtain⟨r0,r1,r2,r3,r4,r5,y0,y1,y2,y3,y4,y5,-⟩:=HR.out.below HB1.out;go_wp2;obtain⟨q0,q1,q2,q3,q4,q5,-⟩:=(HR.out.below HB1.out).set (.slice none 0 0) (.slice none 0 0) (.slice none 0 0) (.int .i64 0) (.int .i64 0) (.int .i64 0);refine bP (v:=.tuple #[stk0.v,.int .i64 (E)]) ?_ rfl ?_
  ·simp[results,Tryz.results24,go_sem,q0,q1,q2,q3,q4,q5,stk0]
  ·exact⟨stk0,rfl,stk0_in _ _,by first|rfl|(rw[if_neg HNZ.out];rfl),below_set6 (bC HB0.out HB1.out) (by have:=HG.out;omega) _ _ _ _ _ _,stk0_far _⟩
 have HM1:=aH (HM0.out h0);subst h0;obtain⟨hrg,hEF⟩:=HYE.out rfl;have hEF:F=E:=(hEF F).symm.trans HE.out;subst hEF;have HRGT:=aH hrg;have HQQ:=aH (HQ.out hrg);have HLL:=aH (HLN.out hrg);have HRV:=aH (HRD.out hrg);clear hrg HQ HLN HNO HYE HE HRD HM0;have HPI:=aH (show isP d 2 id=decide ((s.cl.length:Int)≤id∧id<s.cl.length+s.tl.length)from by
  rw[HPE.out HRGT.out];have h1:=HLL.out.2.2.2.2.1;have h2:=HLL.out.2.2.2.2.2.2.1;rw[h1,h2])
 clear HPE;have hl1:=HLL.out.1;have hl3:=HLL.out.2.2.1;have hws:Go.RowKit.wrap64 ((s.cl.length:Int)+(s.tl.length:Int))=(s.cl.length:Int)+s.tl.length:=wrap64_fits _ (by unfold fits;omega);by_cases hge:(s.cl.length:Int)≤id
 case neg=>
  have hEm:F=3:=by rw[HFL.out,HPI.out,dF (by omega),if_neg (by simp)]
  subst hEm;obtain⟨t0,t1,t2,t3,t4,t5,-⟩:=HT.out.below HB1.out;obtain⟨r0,r1,r2,r3,r4,r5,y0,y1,y2,y3,y4,y5,-⟩:=HR.out.below HB1.out;go_wp2;obtain⟨q0,q1,q2,q3,q4,q5,-⟩:=(HR.out.below HB1.out).set (.slice none 0 0) (.slice none 0 0) (.slice none 0 0) (.int .i64 0) (.int .i64 0) (.int .i64 0);refine bP (v:=.tuple #[stk0.v,.int .i64 (3)]) ?_ rfl ?_
  ·simp[results,Tryz.results24,go_sem,q0,q1,q2,q3,q4,q5,stk0]
  ·exact⟨stk0,rfl,stk0_in _ _,by first|rfl|(rw[if_neg (by decide)];rfl),below_set6 (bC HB0.out HB1.out) (by have:=HG.out;omega) _ _ _ _ _ _,stk0_far _⟩
 by_cases hlt:id<(s.cl.length:Int)+s.tl.length
 case neg=>
  have hEm:F=3:=by rw[HFL.out,HPI.out,dF (by omega),if_neg (by simp)]
  subst hEm;obtain⟨t0,t1,t2,t3,t4,t5,-⟩:=HT.out.below HB1.out;obtain⟨r0,r1,r2,r3,r4,r5,y0,y1,y2,y3,y4,y5,-⟩:=HR.out.below HB1.out;go_wp2;obtain⟨q0,q1,q2,q3,q4,q5,-⟩:=(HR.out.below HB1.out).set (.slice none 0 0) (.slice none 0 0) (.slice none 0 0) (.int .i64 0) (.int .i64 0) (.int .i64 0);refine bP (v:=.tuple #[stk0.v,.int .i64 (3)]) ?_ rfl ?_
  ·simp[results,Tryz.results24,go_sem,q0,q1,q2,q3,q4,q5,stk0]
  ·exact⟨stk0,rfl,stk0_in _ _,by first|rfl|(rw[if_neg (by decide)];rfl),below_set6 (bC HB0.out HB1.out) (by have:=HG.out;omega) _ _ _ _ _ _,stk0_far _⟩
 have HFL:=aH (show F=(if (hdF s.ab b').2=true then 131 else Tp.tkE (s.tl.getD (tiK s.ab id) (0,0)).1 (s.tl.getD (tiK s.ab id) (0,0)).2 b')from by rw[HFL.out,HPI.out,dT (by omega),if_pos rfl]);obtain⟨k,hk⟩:∃k,tiK s.ab id=k:=⟨_,rfl⟩;rw[hk]at HFL HA0;have hkk:id-(s.cl.length:Int)=k:=by
  have e:tiK s.ab id=(id-(s.cl.length:Int)).toNat:=rfl;omega
 have HKS:=aH (show k<s.tl.length from by omega);have hwk:Go.RowKit.wrap64 (id-(s.cl.length:Int))=(k:Int):=by rw[hkk];exact wrap64_fits _ (by unfold fits;omega)
 have hk0:¬(k:Int)<0:=by omega
 obtain⟨t0,t1,t2,t3,t4,t5,-⟩:=HT.out.below HB1.out;have HKE:=aH hkk;have hk1:¬id-(s.cl.length:Int)<0:=by omega
 clear hk hkk HPI hwk hk0;go_wp2_with fail;try rw[HKE.out]
 clear hk1;clear t0 t1 t2 t3 t4 t5 hws hge hlt;refine(HHN.out w1 (HS0.out.then HB1.out)).mono ?_;rintro e w2 ⟨rfl,hb2⟩;have HB2:=aH (show Below w0.heap.size w0 w2 from bC HB1.out hb2);clear hb2 HB1;obtain⟨⟨f1,f2⟩,hf⟩:∃z,hdF s.ab b'=z:=⟨_,rfl⟩;rw[hf]at HRV HFL HYS;dsimp only at HRV HFL HYS;generalize rhV s.tl b'=rv at *;clear hf
 cases f2
 case true=>
  obtain⟨j,rfl,-,-,-⟩:=HYS.out rfl;have hEm:F=131:=by rw[HFL.out];rfl
  have hrv:rv=(j:Int):=by rw[HRV.out];rfl
  subst hEm;subst hrv;have hj0:(0:Int)≤(j:Int):=by omega
  obtain⟨r0,r1,r2,r3,r4,r5,y0,y1,y2,y3,y4,y5,-⟩:=HR.out.below HB2.out;go_wp2;obtain⟨q0,q1,q2,q3,q4,q5,-⟩:=(HR.out.below HB2.out).set (.slice none 0 0) (.slice none 0 0) (.slice none 0 0) (.int .i64 0) (.int .i64 0) (.int .i64 0);refine bP (v:=.tuple #[stk0.v,.int .i64 (131)]) ?_ rfl ?_
  ·simp[results,Tryz.results24,go_sem,q0,q1,q2,q3,q4,q5,stk0]
  ·exact⟨stk0,rfl,stk0_in _ _,by first|rfl|(rw[if_neg (by decide)];rfl),below_set6 (bC HB0.out HB2.out) (by have:=HG.out;omega) _ _ _ _ _ _,stk0_far _⟩
 have hrv:rv= -1:=by rw[HRV.out];rfl
 subst hrv;have HFL:=aH (show F=Tp.tkE (s.tl.getD k (0,0)).1 (s.tl.getD k (0,0)).2 b' from by rw[HFL.out];rfl);obtain⟨gs,off,eA,-,hcc,hcell⟩:=tip_cells (HS0.out.then HB2.out).t (by have:=HKS.out;omega);obtain⟨p0,p1⟩:=hcell k HKS.out;have HVF0:=aH (tkV_fit (s.tl.getD k (0,0)).1 (s.tl.getD k (0,0)).2 b' hfb);generalize s.tl.getD k (0,0)=tp at *;obtain⟨t1v,t2v⟩:=tp;dsimp only at p0 p1 HFL HVF0 HA0;have HTK:=aH (fun w=>Tp.rtake_any t1v t2v b' w);rw[←HFL.out]at HTK;obtain⟨⟨ta,tb⟩,hv⟩:∃v,Tp.tkV t1v t2v b'=v:=⟨_,rfl⟩;rw[hv]at HTK HVF0 HA0;have HVF:=aH (show fits (ta,tb).1∧fits (ta,tb).2 from HVF0.out);have HAA:=aH (show dA={s.ab with t:=s.tl.set k (ta,tb)}from HA0.out);obtain⟨t0,t1,t2,t3,t4,t5,-⟩:=HT.out.below HB2.out;rw[eA]at t2;have hki:(k:Int)<s.tl.length:=by have:=HKS.out;omega
 clear hcell eA hv HFL HRV HYS HVF0 HA0;go_wp2_with fail;clear t0 t1 t2 t3 t4 t5 p0 p1 hki;refine(HTK.out w2).mono ?_;rintro e w3 ⟨rfl,hb3⟩;obtain⟨v3,hv3⟩:∃v3,v3=w3.alloc (.cells #[.int .i64 ta,.int .i64 tb] 68):=⟨_,rfl⟩;have hba:=bL hb3 (.cells #[.int .i64 ta,.int .i64 tb] 68);rw[←hv3]at hba;have HB3:=aH (show Below w0.heap.size w0 v3 from bC HB2.out hba);have HCB:=aH (show v3.cell? ⟨w3.heap.size,0,none⟩=some (.int .i64 ta)∧v3.cell? ⟨w3.heap.size,1,none⟩=some (.int .i64 tb)from by rw[hv3];exact⟨by simp[go_sem],by simp[go_sem]⟩);clear hb3 hba HB2 HTK;by_cases hF:F=0
 case neg=>
  have hFb:(F != 0)=true:=by simpa using hF
  have HNZ:=aH hF;clear hF;obtain⟨r0,r1,r2,r3,r4,r5,y0,y1,y2,y3,y4,y5,-⟩:=HR.out.below HB3.out;rw[hv3]at r0 r1 r2 r3 r4 r5 y0 y1 y2 y3 y4 y5;go_wp2;rw[←hv3];obtain⟨q0,q1,q2,q3,q4,q5,-⟩:=(HR.out.below HB3.out).set (.slice none 0 0) (.slice none 0 0) (.slice none 0 0) (.int .i64 0) (.int .i64 0) (.int .i64 0);refine bP (v:=.tuple #[stk0.v,.int .i64 F]) ?_ rfl ?_
  ·simp[results,Tryz.results24,go_sem,q0,q1,q2,q3,q4,q5,stk0]
  ·exact⟨stk0,rfl,stk0_in _ _,by first|rfl|(rw[if_neg HNZ.out];rfl),below_set6 (bC HB0.out HB3.out) (by have:=HG.out;omega) _ _ _ _ _ _,stk0_far _⟩
 subst hF;have HBS:=aH HB3.out.size;have HCP:=aH (rcopy_any s v3 (HS0.out.then HB3.out) (by have:=HLL.out;omega) (by have:=HLL.out;omega) (by have:=HLL.out;omega) (fun q hq=>by have:=HLL.out.2.2.2.1 q hq;omega));obtain⟨t0,t1,t2,t3,t4,t5,-⟩:=HT.out.below HB3.out;rw[hv3]at t0 t1 t2 t3 t4 t5;go_wp2_with fail;rw[←hv3];clear hv3;obtain⟨Gk,hGk⟩:∃Gk,Gk=w3.heap.size:=⟨_,rfl⟩;rw[←hGk]at HCB;try rw[←hGk]
 clear hGk;clear t0 t1 t2 t3 t4 t5;refine HCP.out.mono ?_;rintro e w4 ⟨t,rfl,hta,htr,hb4,hta2⟩;obtain⟨v4,hv4⟩:∃v4,v4=w4.alloc t.ob:=⟨_,rfl⟩;have hba:=bL (bR w4.heap.size w4) t.ob;rw[←hv4]at hba;have HTA:=aH hta;have HTR:=aH (htr.below hba);have HRO:=aH (htr.out (D:=w4.heap.size) (nR _));have HSZ:=aH (show v3.heap.size≤w4.heap.size∧w4.heap.size<v4.heap.size from⟨hb4.size,by rw[hv4];simp⟩);have HB5:=aH (show Below w0.heap.size w0 v4 from HB3.out.trans ((bC hb4 hba).mono HB3.out.size));have HT4:=aH (show SkAt v4 w4.heap.size t by rw[hv4];exact Cells6.new w4 _ _ _ _ _ _ _);have b0:=kK (bC hb4 hba) HCB.out.1;have b1:=kK (bC hb4 hba) HCB.out.2;have HTT:=aH (show t.tl=s.tl from congrArg Ab.t HTA.out);have hkt:k<t.tl.length:=by rw[HTT.out];exact HKS.out
 obtain⟨gt,et,gt1,gt2,gt3⟩:=HTR.out.tAt (by omega);have hot:=HTR.out.t;rw[et]at hot;obtain⟨p0,p1,y0,y1⟩:=KT.Own.at2 hot rfl k hkt;have HET:=aH et;have HGT:=aH (show v3.heap.size≤gt∧gt<v4.heap.size∧gt≠w4.heap.size from⟨gt1,gt2,fun e=>HRO.out.2.2 (by rw[et,←e];rfl)⟩);obtain⟨u0,u1,u2,u3,u4,u5,-⟩:=HT4.out;rw[et]at u2;have hkti:(k:Int)<t.tl.length:=by omega
 rw[hv4]at u0 u1 u2 u3 u4 u5 p0 p1 y0 y1 b0 b1;clear hta htr hb4 hta2 hba HCP hot et gt1 gt2 gt3
 go_upto_region 16 with fail
 rw[←hv4];clear u0 u1 u2 u3 u4 u5 p0 p1 y0 y1 b0 b1;have hkl:k<t.tl.length:=hkt;have M6:=aH (HTR.out.putT k hkl gt HET.out (ta,tb) HVF.out);have HT6:=aH (show SkAt ((v4.setCell ⟨gt,k*2,none⟩ (.int .i64 (ta))).setCell ⟨gt,k*2+1,none⟩ (.int .i64 (tb))) w4.heap.size t from((HT4.out.off (D:=gt) (o:=k*2) HGT.out.2.2 _).off (D:=gt) (o:=k*2+1) HGT.out.2.2 _));have HB6:=aH (show Below w0.heap.size w0 ((v4.setCell ⟨gt,k*2,none⟩ (.int .i64 (ta))).setCell ⟨gt,k*2+1,none⟩ (.int .i64 (tb)))from((HB5.out.setCell (by show w0.heap.size≤gt;have:=HGT.out;have:=HBS.out;omega) _).setCell (by show w0.heap.size≤gt;have:=HGT.out;have:=HBS.out;omega) _));clear HTR HT4 HB5 hv4;generalize (v4.setCell ⟨gt,k*2,none⟩ (.int .i64 (ta))).setCell ⟨gt,k*2+1,none⟩ (.int .i64 (tb))=w6 at *;have HR6:=aH (HR.out.below HB6.out);obtain⟨u0,u1,u2,u3,u4,u5,-⟩:=HT6.out;obtain⟨r0,r1,r2,r3,r4,r5,y0,y1,y2,y3,y4,y5,-⟩:=HR6.out;go_wp2;obtain⟨q0,q1,q2,q3,q4,q5,-⟩:=HR6.out.setS t;have hfar:=M6.out.farr;have hlen1:t.cl.length≤100000:=by rw[show t.cl=s.cl from congrArg Ab.c HTA.out];have:=HLL.out;omega
 have htl:t.ll.length=s.ll.length:=by
  have h:=congrArg (fun a:Ab=>a.l.length) HTA.out;have e1:t.ab.l.length=t.ll.length:=by show(t.ll.map Lo.ab).length=_;rw[List.length_map]
  have e2:s.ab.l.length=s.ll.length:=by show(s.ll.map Lo.ab).length=_;rw[List.length_map]
  rw[←e1,←e2];exact h
 have hlen2:t.ll.length≤100000:=by rw[htl];have:=HLL.out;omega
 have hin:=(M6.out.inn hlen1 hlen2 (by show(t.tl.set _ _).length≤_;rw[List.length_set,HTT.out];have:=HLL.out;omega)).set6 hfar (D:=Gr) (by have:=HG.out;have:=HBS.out;omega) (.slice t.cA t.cl.length t.cc) (.slice t.lA t.ll.length t.lc) (.slice t.tA t.tl.length t.tc) (.int .i64 t.st) (.int .i64 t.inn) (.int .i64 t.out);have hlt2:(t.tl.set k ((ta:Int),(tb:Int))).length=t.tl.length:=List.length_set;refine bP (v:=.tuple #[.agg #[.slice t.cA t.cl.length t.cc,.slice t.lA t.ll.length t.lc,.slice t.tA t.tl.length t.tc,.int .i64 t.st,.int .i64 t.inn,.int .i64 t.out],.int .i64 0]) ?_ rfl ?_
 ·simp[results,Tryz.results24,go_sem,q0,q1,q2,q3,q4,q5]
 ·refine⟨⟨t.cA,t.cc,t.cl,t.lA,t.lc,t.ll,t.tA,t.tc,t.tl.set k (ta,tb),t.st,t.inn,t.out⟩,by show _=Ending.returned (.tuple #[.agg #[_,_,.slice t.tA (t.tl.set k ((ta:Int),(tb:Int))).length t.tc,_,_,_],_]);rw[hlt2],?_,?_,below_set6 (bC HB0.out HB6.out) (by have:=HG.out;omega) _ _ _ _ _ _,by have h:=hfar.less (B':=w.heap.size) (by have:=HG.out;have:=HBS.out;omega);exact h⟩
  ·have h:=hin;exact⟨by simpa using h.c,by simpa using h.l,by simpa using h.t,fun p hp=>by have:=h.x p hp;simpa using this,h.f⟩
  ·have e:(⟨t.cl,t.ll.map Lo.ab,t.tl.set k (ta,tb),t.st,t.inn,t.out⟩:Ab)=dA:=by
    rw[HAA.out];have e0:=HTA.out;show({t.ab with t:=t.ab.t.set k (ta,tb)}:Ab)=_;rw[e0];rfl
   first
    |(rw[if_pos rfl];exact e)
    |exact e
end Go.Proofs.YtacjonncakhhmaaGreat
