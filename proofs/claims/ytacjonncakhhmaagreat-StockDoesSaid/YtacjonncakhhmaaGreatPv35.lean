/- Stocks: the law of a call. -/
import Derived.Test.YtacjonncakhhmaaGreatPv00
import Derived.Test.YtacjonncakhhmaaGreatPv33
import Derived.Test.YtacjonncakhhmaaGreatPv34
import Derived.Test.YtacjonncakhhmaaGreatPv32
import Derived.Test.YtacjonncakhhmaaGreatPv30
import Derived.Test.YtacjonncakhhmaaGreatPv17
import Derived.Test.YtacjonncakhhmaaGreatPv07
import Derived.Test.YtacjonncakhhmaaGreatPv26
import Derived.Test.YtacjonncakhhmaaGreatPv12
import Derived.Test.YtacjonncakhhmaaGreatPv29
import Derived.Test.YtacjonncakhhmaaGreatPv23
set_option maxRecDepth 100000
set_option maxHeartbeats 8000000
namespace Go.Proofs.YtacjonncakhhmaaGreat
open Go.RowKit
theorem rdoes_any (d:Dk) (s:Stk) (o:Opp) (w:World) (hd:d.In w w.heap.size) (hs:s.In w w.heap.size) (ho:o.Fit):
  Calls Tryz.prog 9 #[d.v,s.v,o.v] w fun e w'=>∃t:Stk,e=.returned (.tuple #[t.v,.int .i64 (cgE d s.ab o.w (opE d s.ab o))])∧t.In w' w'.heap.size∧t.ab=(if cgE d s.ab o.w (opE d s.ab o)=0 then opA s.ab o else ab0)∧Below w.heap.size w w'∧t.Far w.heap.size:=by
 obtain⟨k,b',x,y,n⟩:=o;have HO:=aH ho;dsimp only;obtain⟨w0,hw0⟩:∃w0,w0=((((w.alloc d.ob).alloc s.ob).alloc (.cells #[.int .i64 k,.int .i64 b',.int .i64 x,.int .i64 y,.int .i64 n] 33)).alloc zo):=⟨_,rfl⟩;have HB0:=aH (show Below w.heap.size w w0 by rw[hw0];exact bL (bL (bL (bL (bR _ _) _) _) _) _);have HD0:=aH (hd.then HB0.out);have HS0:=aH (hs.then HB0.out);have HK0:=aH (show DkAt w0 w.heap.size d by rw[hw0];exact(((Cells4.new w _ _ _ _ _).below (bL (bR _ _) _)).below (bL (bR _ _) _)).below (bL (bR _ _) _));have HT0:=aH (show SkAt w0 (w.heap.size+1) s by
  have e:(w.alloc d.ob).heap.size=w.heap.size+1:=by simp
  rw[hw0,←e];exact((Cells6.new (w.alloc d.ob) 31 _ _ _ _ _ _).below (bL (bR _ _) _)).below (bL (bR _ _) _))
 have HR0:=aH (show Cells6 w0 (w.heap.size+3) (.slice none 0 0) (.slice none 0 0) (.slice none 0 0) (.int .i64 0) (.int .i64 0) (.int .i64 0)by
  have e:(((w.alloc d.ob).alloc s.ob).alloc (.cells #[.int .i64 k,.int .i64 b',.int .i64 x,.int .i64 y,.int .i64 n] 33)).heap.size=w.heap.size+3:=by simp
  rw[hw0,←e];exact Cells6.new (((w.alloc d.ob).alloc s.ob).alloc (.cells #[.int .i64 k,.int .i64 b',.int .i64 x,.int .i64 y,.int .i64 n] 33)) 31 _ _ _ _ _ _)
 have HSZ:=aH (show w0.heap.size=w.heap.size+4 by rw[hw0];simp);have HOO:=aH (show w0.cell? ⟨w.heap.size+2,0,none⟩=some (.int .i64 k)∧w0.cell? ⟨w.heap.size+2,1,none⟩=some (.int .i64 b')∧w0.cell? ⟨w.heap.size+2,2,none⟩=some (.int .i64 x)∧w0.cell? ⟨w.heap.size+2,3,none⟩=some (.int .i64 y)∧w0.cell? ⟨w.heap.size+2,4,none⟩=some (.int .i64 n)from by
  have e:((w.alloc d.ob).alloc s.ob).heap.size=w.heap.size+2:=by simp
  rw[hw0,←e];refine⟨kK (bL (bR _ _) _) ?_,kK (bL (bR _ _) _) ?_,kK (bL (bR _ _) _) ?_,kK (bL (bR _ _) _) ?_,kK (bL (bR _ _) _) ?_⟩;all_goals (rw[alloc_at];rfl))
 obtain⟨t0,t1,t2,t3,t4,t5,-⟩:=HT0.out;obtain⟨d0,d1,d2,d3,-⟩:=HK0.out;obtain⟨o0,o1,o2,o3,o4⟩:=HOO.out;rw[hw0]at t0 t1 t2 t3 t4 t5 d0 d1 d2 d3 o0 o1 o2 o3 o4;clear hd hs ho;by_cases h1:k=1
 ·have h1b:(k==1)=true:=by simpa using h1
  have HC:=aH (rfill_any d s b' x n (hn:=HO.out.n) (w:=w0) (hd:=HD0.out) (hs:=HS0.out));have HEE:opE d s.ab ⟨k,b',x,y,n⟩=foE d s.ab x (max n 0) (s.ab.inn+n):=by unfold opE;rw[if_pos h1]
  have HAA:opA s.ab ⟨k,b',x,y,n⟩=foA s.ab b' x.toNat (max n 0) 4 (s.ab.inn+n):=by unfold opA;rw[if_pos h1]
  rw[HEE,HAA];generalize foA s.ab b' x.toNat (max n 0) 4 (s.ab.inn+n)=dA at *;generalize cgE d s.ab b' (foE d s.ab x (max n 0) (s.ab.inn+n))=E at *;generalize (if E=0 then dA else ab0)=dR at *;clear HEE HAA h1;go_enter Tryz.func9,Tryz.ntmps9;go_wp2_with fail;rw[←hw0];clear hw0;refine HC.out.mono ?_;rintro e w1 ⟨t,rfl,ht,hab,hb1,hfar⟩;have hR1:=HR0.out.below hb1;obtain⟨r0,r1,r2,r3,r4,r5,y0,y1,y2,y3,y4,y5,_⟩:=hR1;have HR1:=aH (HR0.out.below hb1);have HB1:=aH (bC HB0.out hb1);have HTT:=aH (aI ht (aI hab hfar));clear ht hab hfar hb1 t0 t1 t2 t3 t4 t5 d0 d1 d2 d3 o0 o1 o2 o3 o4;go_wp2;have hset:=HR1.out.setS t;obtain⟨q0,q1,q2,q3,q4,q5,_⟩:=hset;have hsz:=HSZ.out;refine bP (v:=.tuple #[t.v,.int .i64 E]) ?_ rfl ?_
  ·simp[results,Tryz.results9,go_sem,q0,q1,q2,q3,q4,q5]
  ·refine⟨t,rfl,?_,HTT.out.2.1,below_set6 HB1.out (by omega) _ _ _ _ _ _,HTT.out.2.2.less (by omega)⟩;have:=HTT.out.1.set6 HTT.out.2.2 (D:=w.heap.size+3) (by omega) (.slice t.cA t.cl.length t.cc) (.slice t.lA t.ll.length t.lc) (.slice t.tA t.tl.length t.tc) (.int .i64 t.st) (.int .i64 t.inn) (.int .i64 t.out);simpa using this
 have h1b:(k==1)=false:=by simpa using h1
 by_cases h2:k=2
 ·have h2b:(k==2)=true:=by simpa using h2
  have HC:=aH (rwaste_any d s b' x n (hn:=HO.out.n) (w:=w0) (hd:=HD0.out) (hs:=HS0.out));have HEE:opE d s.ab ⟨k,b',x,y,n⟩=foE d s.ab x (-(max n 0)) (s.ab.out+n):=by unfold opE;rw[if_neg h1,if_pos h2]
  have HAA:opA s.ab ⟨k,b',x,y,n⟩=foA s.ab b' x.toNat (-(max n 0)) 5 (s.ab.out+n):=by unfold opA;rw[if_neg h1,if_pos h2]
  rw[HEE,HAA];generalize foA s.ab b' x.toNat (-(max n 0)) 5 (s.ab.out+n)=dA at *;generalize cgE d s.ab b' (foE d s.ab x (-(max n 0)) (s.ab.out+n))=E at *;generalize (if E=0 then dA else ab0)=dR at *;clear HEE HAA h1 h2;go_enter Tryz.func9,Tryz.ntmps9;go_wp2_with fail;rw[←hw0];clear hw0;refine HC.out.mono ?_;rintro e w1 ⟨t,rfl,ht,hab,hb1,hfar⟩;have hR1:=HR0.out.below hb1;obtain⟨r0,r1,r2,r3,r4,r5,y0,y1,y2,y3,y4,y5,_⟩:=hR1;have HR1:=aH (HR0.out.below hb1);have HB1:=aH (bC HB0.out hb1);have HTT:=aH (aI ht (aI hab hfar));clear ht hab hfar hb1 t0 t1 t2 t3 t4 t5 d0 d1 d2 d3 o0 o1 o2 o3 o4;go_wp2;have hset:=HR1.out.setS t;obtain⟨q0,q1,q2,q3,q4,q5,_⟩:=hset;have hsz:=HSZ.out;refine bP (v:=.tuple #[t.v,.int .i64 E]) ?_ rfl ?_
  ·simp[results,Tryz.results9,go_sem,q0,q1,q2,q3,q4,q5]
  ·refine⟨t,rfl,?_,HTT.out.2.1,below_set6 HB1.out (by omega) _ _ _ _ _ _,HTT.out.2.2.less (by omega)⟩;have:=HTT.out.1.set6 HTT.out.2.2 (D:=w.heap.size+3) (by omega) (.slice t.cA t.cl.length t.cc) (.slice t.lA t.ll.length t.lc) (.slice t.tA t.tl.length t.tc) (.int .i64 t.st) (.int .i64 t.inn) (.int .i64 t.out);simpa using this
 have h2b:(k==2)=false:=by simpa using h2
 by_cases h3:k=3
 ·have h3b:(k==3)=true:=by simpa using h3
  have HC:=aH (rmovef_any d s b' x y n (hn:=HO.out.n) (w:=w0) (hd:=HD0.out) (hs:=HS0.out));have HEE:opE d s.ab ⟨k,b',x,y,n⟩=moE d s.ab x y n:=by unfold opE;rw[if_neg h1,if_neg h2,if_pos h3]
  have HAA:opA s.ab ⟨k,b',x,y,n⟩=moA s.ab b' x y n:=by unfold opA;rw[if_neg h1,if_neg h2,if_pos h3]
  rw[HEE,HAA];generalize moA s.ab b' x y n=dA at *;generalize cgE d s.ab b' (moE d s.ab x y n)=E at *;generalize (if E=0 then dA else ab0)=dR at *;clear HEE HAA h1 h2 h3;go_enter Tryz.func9,Tryz.ntmps9;go_wp2_with fail;rw[←hw0];clear hw0;refine HC.out.mono ?_;rintro e w1 ⟨t,rfl,ht,hab,hb1,hfar⟩;have hR1:=HR0.out.below hb1;obtain⟨r0,r1,r2,r3,r4,r5,y0,y1,y2,y3,y4,y5,_⟩:=hR1;have HR1:=aH (HR0.out.below hb1);have HB1:=aH (bC HB0.out hb1);have HTT:=aH (aI ht (aI hab hfar));clear ht hab hfar hb1 t0 t1 t2 t3 t4 t5 d0 d1 d2 d3 o0 o1 o2 o3 o4;go_wp2;have hset:=HR1.out.setS t;obtain⟨q0,q1,q2,q3,q4,q5,_⟩:=hset;have hsz:=HSZ.out;refine bP (v:=.tuple #[t.v,.int .i64 E]) ?_ rfl ?_
  ·simp[results,Tryz.results9,go_sem,q0,q1,q2,q3,q4,q5]
  ·refine⟨t,rfl,?_,HTT.out.2.1,below_set6 HB1.out (by omega) _ _ _ _ _ _,HTT.out.2.2.less (by omega)⟩;have:=HTT.out.1.set6 HTT.out.2.2 (D:=w.heap.size+3) (by omega) (.slice t.cA t.cl.length t.cc) (.slice t.lA t.ll.length t.lc) (.slice t.tA t.tl.length t.tc) (.int .i64 t.st) (.int .i64 t.inn) (.int .i64 t.out);simpa using this
 have h3b:(k==3)=false:=by simpa using h3
 by_cases h4:k=4
 ·have h4b:(k==4)=true:=by simpa using h4
  have HC:=aH (rtakef_any d s b' x (hfb:=HO.out.w) (w:=w0) (hd:=HD0.out) (hs:=HS0.out));have HEE:opE d s.ab ⟨k,b',x,y,n⟩=taE d s.ab b' x:=by unfold opE;rw[if_neg h1,if_neg h2,if_neg h3,if_pos h4]
  have HAA:opA s.ab ⟨k,b',x,y,n⟩=taA s.ab b' x:=by unfold opA;rw[if_neg h1,if_neg h2,if_neg h3,if_pos h4]
  rw[HEE,HAA];generalize taA s.ab b' x=dA at *;generalize cgE d s.ab b' (taE d s.ab b' x)=E at *;generalize (if E=0 then dA else ab0)=dR at *;clear HEE HAA h1 h2 h3 h4;go_enter Tryz.func9,Tryz.ntmps9;go_wp2_with fail;rw[←hw0];clear hw0;refine HC.out.mono ?_;rintro e w1 ⟨t,rfl,ht,hab,hb1,hfar⟩;have hR1:=HR0.out.below hb1;obtain⟨r0,r1,r2,r3,r4,r5,y0,y1,y2,y3,y4,y5,_⟩:=hR1;have HR1:=aH (HR0.out.below hb1);have HB1:=aH (bC HB0.out hb1);have HTT:=aH (aI ht (aI hab hfar));clear ht hab hfar hb1 t0 t1 t2 t3 t4 t5 d0 d1 d2 d3 o0 o1 o2 o3 o4;go_wp2;have hset:=HR1.out.setS t;obtain⟨q0,q1,q2,q3,q4,q5,_⟩:=hset;have hsz:=HSZ.out;refine bP (v:=.tuple #[t.v,.int .i64 E]) ?_ rfl ?_
  ·simp[results,Tryz.results9,go_sem,q0,q1,q2,q3,q4,q5]
  ·refine⟨t,rfl,?_,HTT.out.2.1,below_set6 HB1.out (by omega) _ _ _ _ _ _,HTT.out.2.2.less (by omega)⟩;have:=HTT.out.1.set6 HTT.out.2.2 (D:=w.heap.size+3) (by omega) (.slice t.cA t.cl.length t.cc) (.slice t.lA t.ll.length t.lc) (.slice t.tA t.tl.length t.tc) (.int .i64 t.st) (.int .i64 t.inn) (.int .i64 t.out);simpa using this
 have h4b:(k==4)=false:=by simpa using h4
 have HC:=aH (rdropf_any d s b' (w:=w0) (hd:=HD0.out) (hs:=HS0.out));have HEE:opE d s.ab ⟨k,b',x,y,n⟩=drE s.ab b':=by unfold opE;rw[if_neg h1,if_neg h2,if_neg h3,if_neg h4]
 have HAA:opA s.ab ⟨k,b',x,y,n⟩=drA s.ab b':=by unfold opA;rw[if_neg h1,if_neg h2,if_neg h3,if_neg h4]
 rw[HEE,HAA];generalize drA s.ab b'=dA at *;generalize cgE d s.ab b' (drE s.ab b')=E at *;generalize (if E=0 then dA else ab0)=dR at *;clear HEE HAA h1 h2 h3 h4;go_enter Tryz.func9,Tryz.ntmps9;go_wp2_with fail;rw[←hw0];clear hw0;refine HC.out.mono ?_;rintro e w1 ⟨t,rfl,ht,hab,hb1,hfar⟩;have hR1:=HR0.out.below hb1;obtain⟨r0,r1,r2,r3,r4,r5,y0,y1,y2,y3,y4,y5,_⟩:=hR1;have HR1:=aH (HR0.out.below hb1);have HB1:=aH (bC HB0.out hb1);have HTT:=aH (aI ht (aI hab hfar));clear ht hab hfar hb1 t0 t1 t2 t3 t4 t5 d0 d1 d2 d3 o0 o1 o2 o3 o4;go_wp2;have hset:=HR1.out.setS t;obtain⟨q0,q1,q2,q3,q4,q5,_⟩:=hset;have hsz:=HSZ.out;refine bP (v:=.tuple #[t.v,.int .i64 E]) ?_ rfl ?_
 ·simp[results,Tryz.results9,go_sem,q0,q1,q2,q3,q4,q5]
 ·refine⟨t,rfl,?_,HTT.out.2.1,below_set6 HB1.out (by omega) _ _ _ _ _ _,HTT.out.2.2.less (by omega)⟩;have:=HTT.out.1.set6 HTT.out.2.2 (D:=w.heap.size+3) (by omega) (.slice t.cA t.cl.length t.cc) (.slice t.lA t.ll.length t.lc) (.slice t.tA t.tl.length t.tc) (.int .i64 t.st) (.int .i64 t.inn) (.int .i64 t.out);simpa using this
theorem same_s (s u:Stk) (h:s.ab=u.ab) (w:World) (hs:s.In w w.heap.size) (hu:u.In w w.heap.size):Calls Tryz.prog 10 #[s.v,u.v] w fun e w'=>e=.returned (.bool true)∧Below w.heap.size w w':=by
 obtain⟨w0,hw0⟩:∃w0,w0=(w.alloc s.ob).alloc u.ob:=⟨_,rfl⟩;have HB0:=aH (show Below w.heap.size w w0 by rw[hw0];exact bL (bL (bR _ _) _) _);have HS:=aH (hs.then HB0.out);have HU:=aH (hu.then HB0.out);have HS1:=aH (show SkAt w0 w.heap.size s by rw[hw0];exact(Cells6.new w _ _ _ _ _ _ _).below (bL (bR _ _) _));have HU1:=aH (show SkAt w0 (w.heap.size+1) u by
  have e:(w.alloc s.ob).heap.size=w.heap.size+1:=by simp
  rw[hw0,←e];exact Cells6.new _ _ _ _ _ _ _ _)
 have h1:s.cl=u.cl:=congrArg Ab.c h;have h2:s.ll.map Lo.ab=u.ll.map Lo.ab:=congrArg Ab.l h;have h3:s.tl=u.tl:=congrArg Ab.t h;have h4:s.st=u.st:=congrArg Ab.st h;have h5:s.inn=u.inn:=congrArg Ab.inn h;have h6:s.out=u.out:=congrArg Ab.out h;have hll:s.ll.length=u.ll.length:=by have:=congrArg List.length h2;simpa using this
 have HQ:=aH (show ∀k,k<s.ll.length→(s.ll.getD k lo0).r=(u.ll.getD k lo0).r∧(s.ll.getD k lo0).l=(u.ll.getD k lo0).l∧(s.ll.getD k lo0).xs=(u.ll.getD k lo0).xs from fun k hk=>by
  have e1:=ab_l s k hk;have e2:=ab_l u k (by omega);have e:s.ab.l=u.ab.l:=congrArg Ab.l h;rw[e,e2]at e1;have a1:=congrArg Prod.fst e1;have a2:=congrArg Prod.snd e1;exact⟨a1.symm,(congrArg Prod.fst a2).symm,(congrArg Prod.snd a2).symm⟩)
 clear hs hu h h2;obtain⟨cA,cc,cl,lA,lc,ll,tA,tc,tl,st,inn,out⟩:=s;obtain⟨cA2,cc2,cl2,lA2,lc2,ll2,tA2,tc2,tl2,st2,inn2,out2⟩:=u;dsimp only at *;subst h1 h3 h4 h5 h6;have HLL:=aH hll;have hli:((ll.length:Int) != (ll2.length:Int))=false:=by rw[hll];simp
 clear hll;obtain⟨g0,g1,g2,g3,g4,g5,-⟩:=HS1.out;obtain⟨f0,f1,f2,f3,f4,f5,-⟩:=HU1.out;dsimp only at g0 g1 g2 g3 g4 g5 f0 f1 f2 f3 f4 f5;rw[hw0]at g0 g1 g2 g3 g4 g5 f0 f1 f2 f3 f4 f5;have hl1:=HS.out.c.2.2;have hl2:=HS.out.l.2.2;have hl3:=HS.out.t.2.2;dsimp only at hl1 hl2 hl3;go_enter Tryz.func10,Tryz.ntmps10;go_wp2_with fail;rw[←hw0];clear hw0 g0 g1 g2 g3 g4 g5 f0 f1 f2 f3 f4 f5 hli
 go_loopw [5] (fun i wr=>∃k:Nat,k≤cl.length∧i=.int .i64 k∧Hid (Below w0.heap.size w0 wr)) (fun i _=>cl.length-(intOf i).toNat)
 case atStart=>exact⟨0,Nat.zero_le _,rfl,aH (bR _ _)⟩
 case round=>
  obtain⟨k,hk,rfl,hbl⟩:=hrel;have HB:=aH hbl.out;clear hbl;have G1:=(HS1.out.below HB.out).1;have G2:=(HU1.out.below HB.out).1;dsimp only at G1 G2;by_cases hlt:k<cl.length
  ·obtain⟨b1,o1,rfl,hb1,hc1,hcell1⟩:=ce_cells (HS.out.then HB.out).c (by dsimp only;omega);obtain⟨b2,o2,rfl,hb2,hc2,hcell2⟩:=ce_cells (HU.out.then HB.out).c (by dsimp only;omega);obtain⟨e1,e2,e3⟩:=hcell1 k hlt;obtain⟨f1,f2,f3⟩:=hcell2 k hlt;dsimp only at e1 e2 e3 f1 f2 f3;clear hcell1 hcell2;generalize cl.getD k ce0=q at *;obtain⟨qa,qb,qc⟩:=q;dsimp only at e1 e2 e3 f1 f2 f3;go_wp2_with fail;go_quiet (fail);go_wp2
   go_roundw
   case rel=>exact⟨k+1,by omega,num_i (by omega),aH (below_drewN HB.out _)⟩
   case measure=>simp[intOf];omega
  ·obtain rfl:k=cl.length:=(by omega);obtain⟨wA,hwA⟩:∃wA,wA=wr:=⟨_,rfl⟩;have HBA:=aH (show Below w0.heap.size w0 wA by rw[hwA];exact HB.out);go_wp2_with fail;rw[←hwA];clear hwA HB G1 G2
   go_loopw [6] (fun i wr=>∃k:Nat,k≤ll.length∧i=.int .i64 k∧Hid (Below w0.heap.size w0 wr)) (fun i _=>ll.length-(intOf i).toNat)
   case atStart=>exact⟨0,Nat.zero_le _,rfl,aH HBA.out⟩
   case round=>
    clear HBA;obtain⟨k,hk,rfl,hbl⟩:=hrel;have HB:=aH hbl.out;clear hbl;have G1:=(HS1.out.below HB.out).2.1;have G2:=(HU1.out.below HB.out).2.1;dsimp only at G1 G2;by_cases hlt:k<ll.length
    ·have hlt2:k<ll2.length:=(by have:=HLL.out;omega);obtain⟨b1,o1,rfl,hb1,hc1,hcell1⟩:=lo_cells (HS.out.then HB.out).l (by dsimp only;omega);obtain⟨b2,o2,rfl,hb2,hc2,hcell2⟩:=lo_cells (HU.out.then HB.out).l (by dsimp only;omega);obtain⟨e1,e2,e3⟩:=hcell1 k hlt;obtain⟨f1,f2,f3⟩:=hcell2 k hlt2;dsimp only at e1 e2 e3 f1 f2 f3 hc1 hc2;have HX1:=aH ((HS.out.then HB.out).x _ (getD_mem' ll k lo0 hlt));have HX2:=aH ((HU.out.then HB.out).x _ (getD_mem' ll2 k lo0 hlt2));obtain⟨p1,p2,p3⟩:=HQ.out k hlt;rw[←p1]at f1;rw[←p2]at f2;rw[←p3]at f3 HX2;clear hcell1 hcell2 p1 p2 p3;generalize (ll2.getD k lo0).A=pA at *;generalize (ll2.getD k lo0).c=pc at *;generalize ll.getD k lo0=q at *;obtain⟨qr,ql,qA,qc,qx⟩:=q;dsimp only at e1 e2 e3 f1 f2 f3 HX1 HX2;have hlt':(k:Int)<ll.length:=(by omega);have hlt2':(k:Int)<ll2.length:=(by omega)
     go_upto_region 11 with fail
     refine wp_region_held_drew (S:=fun w'=>w'.cell? ⟨w.heap.size,1,none⟩=some (Value.slice (some ⟨b1,o1,none⟩) ll.length lc)∧w'.cell? ⟨w.heap.size+1,1,none⟩=some (Value.slice (some ⟨b2,o2,none⟩) ll2.length lc2)∧w'.cell? ⟨b1,o1+k*3,none⟩=some (.int .i64 qr)∧w'.cell? ⟨b1,o1+k*3+1,none⟩=some (.int .i64 ql)∧w'.cell? ⟨b1,o1+k*3+2,none⟩=some (.slice qA qx.length qc)∧w'.cell? ⟨b2,o2+k*3,none⟩=some (.int .i64 qr)∧w'.cell? ⟨b2,o2+k*3+1,none⟩=some (.int .i64 ql)∧w'.cell? ⟨b2,o2+k*3+2,none⟩=some (.slice pA qx.length pc)) (by kernel_rfl) ?_ (fun hHeld=>?_)
     ·exact⟨G1,G2,e1,e2,e3,f1,f2,f3⟩
     have bw:=(bR wr.heap.size wr).drew;have X1:=aH (HX1.out.then bw);have X2:=aH (HX2.out.then bw);have B1:=aH (Below.drew HB.out);clear bw G1 G2 e1 e2 e3 f1 f2 f3 HX1 HX2;generalize wr.drew=v0 at *;refine wk [.k 0 79,.k 1 80,.k 2 81,.k 3 82,.k 4 83,.k 5 84,.k 6 85,.k 7 86,.k 8 87,.k 9 88] (fun _ _ _ _ _ h=>h) hHeld ?_ (by kernel_rfl);repeat (refine .k (v:=?_) rfl (by kernel_rfl) ?_ ?_;rotate_left 1;(intro w h;go_simp<;>try rfl);try simp only[sp])
     refine .nil ?_;refine wQ 10 (some 89) rfl (fun K hK=>?_) (by kernel_rfl);go_simp;refine(Lg.same_any qr ql qA pA qc pc qx v0 X1.out X2.out).mono ?_;rintro e v1 ⟨rfl,hb⟩;have B2:=aH (bC B1.out hb);obtain⟨k1,k2,k3,k4,k5,k6,k7,k8⟩:=hHeld;have hH:=aI (kK hb k1) (aI (kK hb k2) (aI (kK hb k3) (aI (kK hb k4) (aI (kK hb k5) (aI (kK hb k6) (aI (kK hb k7) (kK hb k8)))))));clear k1 k2 k3 k4 k5 k6 k7 k8 hb X1 X2 B1;go_wp2_with fail;refine hK.out _ _ hH (fun hHeld=>?_);clear hK K;clear hH;(try simp only[sp]);refine wk [.k 11 90] (fun _ _ _ _ _ h=>h) hHeld ?_ (by kernel_rfl);repeat (refine .k (v:=?_) rfl (by kernel_rfl) ?_ ?_;rotate_left 1;(intro w h;go_simp<;>try rfl);try simp only[sp])
     refine .nil ?_;refine wD (by kernel_rfl) ?_;clear hHeld;go_wp2
     go_roundw
     case rel=>exact⟨k+1,by omega,num_i (by omega),aH B2.out⟩
     case measure=>simp[intOf];omega
    ·obtain rfl:k=ll.length:=(by omega);obtain⟨wA,hwA⟩:∃wA,wA=wr:=⟨_,rfl⟩;have HBA:=aH (show Below w0.heap.size w0 wA by rw[hwA];exact HB.out);go_wp2_with fail;rw[←hwA];clear hwA HB G1 G2
     go_loopw [7] (fun i wr=>∃k:Nat,k≤tl.length∧i=.int .i64 k∧Hid (Below w0.heap.size w0 wr)) (fun i _=>tl.length-(intOf i).toNat)
     case atStart=>exact⟨0,Nat.zero_le _,rfl,aH HBA.out⟩
     case round=>
      clear HBA;obtain⟨k,hk,rfl,hbl⟩:=hrel;have HB:=aH hbl.out;clear hbl;have G1:=(HS1.out.below HB.out).2.2.1;have G2:=(HU1.out.below HB.out).2.2.1;dsimp only at G1 G2;by_cases hlt:k<tl.length
      ·obtain⟨b1,o1,rfl,hb1,hc1,hcell1⟩:=tip_cells (HS.out.then HB.out).t (by dsimp only;omega);obtain⟨b2,o2,rfl,hb2,hc2,hcell2⟩:=tip_cells (HU.out.then HB.out).t (by dsimp only;omega);obtain⟨e1,e2⟩:=hcell1 k hlt;obtain⟨f1,f2⟩:=hcell2 k hlt;dsimp only at e1 e2 f1 f2;clear hcell1 hcell2;generalize tl.getD k (0,0)=q at *;obtain⟨qa,qb⟩:=q;dsimp only at e1 e2 f1 f2;go_wp2_with fail;go_quiet (fail);go_wp2
       go_roundw
       case rel=>exact⟨k+1,by omega,num_i (by omega),aH (below_drewN HB.out _)⟩
       case measure=>simp[intOf];omega
      ·obtain rfl:k=tl.length:=(by omega);go_wp2
       go_ret
       exact⟨rfl,bC HB0.out HB.out⟩
def laB (a:Ab):Bool:=decide (400<a.c.length)||decide (400<a.l.length)||decide (400<a.t.length)||a.l.any (fun q=>decide (100<q.2.2.length))
theorem la_no {a:Ab} (h:laB a=false):a.c.length≤400∧a.l.length≤400∧a.t.length≤400∧∀q∈a.l,q.2.2.length≤100:=by
 unfold laB at h;rw[Bool.or_eq_false_iff,Bool.or_eq_false_iff,Bool.or_eq_false_iff,decide_eq_false_iff_not,decide_eq_false_iff_not,decide_eq_false_iff_not,List.any_eq_false]at h;refine⟨by omega,by omega,by omega,fun q hq=>?_⟩;have:=h.2 q hq;simp only[decide_eq_true_eq]at this;omega
theorem large_s (s:Stk) (w:World) (hs:s.In w w.heap.size):Calls Tryz.prog 5 #[s.v] w fun e w'=>e=.returned (.bool (laB s.ab))∧Below w.heap.size w w':=by
 obtain⟨w0,hw0⟩:∃w0,w0=w.alloc s.ob:=⟨_,rfl⟩;have HB0:=aH (show Below w.heap.size w w0 by rw[hw0];exact bL (bR _ _) _);have HL:=aH (hs.l.then HB0.out);have HS0:=aH (show SkAt w0 w.heap.size s by rw[hw0];exact Cells6.new w _ _ _ _ _ _ _);have hl9:=hs.l.2.2;have hl8:=hs.c.2.2;have hl7:=hs.t.2.2;have HV:=aH (show laB s.ab=(decide (400<s.cl.length)||decide (400<s.ll.length)||decide (400<s.tl.length)||s.ll.any (fun q=>decide (100<q.xs.length)))from by
  unfold laB;show(decide (400<s.cl.length)||decide (400<(s.ll.map Lo.ab).length)||decide (400<s.tl.length)||(s.ll.map Lo.ab).any _)=_;rw[List.length_map,List.any_map];rfl)
 clear hs;generalize laB s.ab=R at *;obtain⟨cA,cc,cl,lA,lc,ll,tA,tc,tl,st,inn,out⟩:=s;dsimp only at *;obtain⟨g0,g1,g2,-⟩:=HS0.out;dsimp only at g0 g1 g2;have HYES:=aH (fun k h1 h2=>any_yes ll lo0 (fun q=>decide (100<q.xs.length)) k h1 h2);have HNON:=aH (show(∀j,j<ll.length→¬ 100<(ll.getD j lo0).xs.length)→ll.any (fun q=>decide (100<q.xs.length))=false from fun h=>by
  rw[List.any_eq_false];intro q hq;obtain⟨j,hj,rfl⟩:=List.getElem_of_mem hq;have:=h j hj;rw[List.getD_eq_getElem?_getD,List.getElem?_eq_getElem hj]at this;simpa using this)
 by_cases h1:400<cl.length
 ·have HR:=aH (show R=true by rw[HV.out,dT h1];rfl);go_enter Tryz.func5,Tryz.ntmps5;go_wp2
  go_ret
  exact⟨by rw[HR.out];rfl,by rw[←hw0];exact HB0.out⟩
 by_cases h2:400<ll.length
 ·have HR:=aH (show R=true by rw[HV.out,dT h2];simp);go_enter Tryz.func5,Tryz.ntmps5;go_wp2
  go_ret
  exact⟨by rw[HR.out];rfl,by rw[←hw0];exact HB0.out⟩
 by_cases h3:400<tl.length
 ·have HR:=aH (show R=true by rw[HV.out,dT h3];simp);go_enter Tryz.func5,Tryz.ntmps5;go_wp2
  go_ret
  exact⟨by rw[HR.out];rfl,by rw[←hw0];exact HB0.out⟩
 rw[dF h1,dF h2,dF h3]at HV;have hi1:¬(400:Int)<cl.length:=by omega
 have hi2:¬(400:Int)<ll.length:=by omega
 have hi3:¬(400:Int)<tl.length:=by omega
 clear h1 h2 h3;go_enter Tryz.func5,Tryz.ntmps5;go_wp2_with fail;rw[←hw0];clear hw0
 go_loopw [3] (fun i wr=>∃k:Nat,k≤ll.length∧i=.int .i64 k∧Hid (∀j,j<k→¬ 100<(ll.getD j lo0).xs.length)∧wr=w0) (fun i _=>ll.length-(intOf i).toNat)
 case atStart=>exact⟨0,Nat.zero_le _,rfl,aH (fun j hj=>absurd hj (Nat.not_lt_zero _)),rfl⟩
 case round=>
  obtain⟨k,hk,rfl,hno,rfl⟩:=hrel;have HNO:=aH hno.out;clear hno;by_cases hlt:k<ll.length
  ·obtain⟨b,off,rfl,hb,hbc,hcell⟩:=lo_cells HL.out (by omega);obtain⟨e1,e2,e3⟩:=hcell k hlt;have HYk:=aH (HYES.out k hlt);have HNk:=aH (show ¬ 100<(ll.getD k lo0).xs.length→∀j,j<k+1→¬ 100<(ll.getD j lo0).xs.length from fun h j hj=>by
    by_cases e:j=k
    ·rw[e];exact h
    ·exact HNO.out j (by omega))
   have hxl:(ll.getD k lo0).xs.length≤9223372036854775807∨True:=.inr trivial;clear hcell e1 e2 hxl;obtain⟨n,hn⟩:∃n,(ll.getD k lo0).xs.length=n:=⟨_,rfl⟩;rw[hn]at e3 HYk HNk;generalize (ll.getD k lo0).A=qA at *;generalize (ll.getD k lo0).c=qc at *;clear hn;by_cases h1:100<n
   ·have HR:=aH (show R=true by rw[HV.out,HYk.out (dT h1)];rfl);have h1i:(100:Int)<n:=(by omega);clear h1;go_wp2
    go_ret
    exact⟨by rw[HR.out];rfl,HB0.out⟩
   ·have HNX:=aH (HNk.out h1);have h1i:¬(100:Int)<n:=(by omega);clear h1;go_wp2
    go_roundw
    case rel=>exact⟨k+1,by omega,num_i (by omega),aH HNX.out,by trivial⟩
    case measure=>simp[intOf];omega
  ·obtain rfl:k=ll.length:=(by omega);have HR:=aH (show R=false by rw[HV.out,HNON.out HNO.out];rfl);go_wp2
   go_ret
   exact⟨by rw[HR.out];rfl,HB0.out⟩
theorem stockDoes_walk (d:Dk) (s:Stk) (o:Opp) (w:World) (hd:d.In w w.heap.size) (hs:s.In w w.heap.size) (ho:o.Fit):Calls Tryz.prog 3 #[d.v,s.v,o.v] w fun e w'=>e=.returned (.bool true)∧Below w.heap.size w w':=by
 obtain⟨w0,hw0⟩:∃w0,w0=(((w.alloc d.ob).alloc s.ob).alloc (.cells #[.int .i64 o.k,.int .i64 o.w,.int .i64 o.a,.int .i64 o.b,.int .i64 o.n] 33)):=⟨_,rfl⟩;have HB0:=aH (show Below w.heap.size w w0 by rw[hw0];exact bL (bL (bL (bR _ _) _) _) _);have HD0:=aH (hd.then HB0.out);have HS0:=aH (hs.then HB0.out);obtain⟨Gd,hGd⟩:∃Gd,Gd=w.heap.size:=⟨_,rfl⟩;obtain⟨Gs,hGs⟩:∃Gs,Gs=w.heap.size+1:=⟨_,rfl⟩;obtain⟨Go',hGo⟩:∃Go',Go'=w.heap.size+1+1:=⟨_,rfl⟩;have HK:=aH (show DkAt w0 Gd d by rw[hw0,hGd];exact((Cells4.new w _ _ _ _ _).below (bL (bR _ _) _)).below (bL (bR _ _) _));have HT:=aH (show SkAt w0 Gs s by
  have e:(w.alloc d.ob).heap.size=w.heap.size+1:=by simp
  rw[hw0,hGs,←e];exact(Cells6.new (w.alloc d.ob) 31 _ _ _ _ _ _).below (bL (bR _ _) _))
 have HOB:=aH (show ∀W,Below w0.heap.size w0 W→W.cell? ⟨Go',0,none⟩=some (.int .i64 o.k)∧W.cell? ⟨Go',1,none⟩=some (.int .i64 o.w)∧W.cell? ⟨Go',2,none⟩=some (.int .i64 o.a)∧W.cell? ⟨Go',3,none⟩=some (.int .i64 o.b)∧W.cell? ⟨Go',4,none⟩=some (.int .i64 o.n)from fun W h=>by
  have e:((w.alloc d.ob).alloc s.ob).heap.size=w.heap.size+1+1:=by simp
  refine⟨kK h ?_,kK h ?_,kK h ?_,kK h ?_,kK h ?_⟩;all_goals (rw[hw0,hGo,←e,alloc_at];rfl))
 have HLD:=aH (fun(V:World) (h:Below w0.heap.size w0 V)=>large_any d V (HD0.out.then h));have HLS:=aH (fun(V:World) (h:Below w0.heap.size w0 V)=>large_s s V (HS0.out.then h));have HLV:=aH (fun(V:World)=>lives13 V);have HCP:=aH (show laB s.ab=false→∀(V:World),Below w0.heap.size w0 V→Calls Tryz.prog 7 #[s.v] V fun e w'=>∃t:Stk,e=.returned t.v∧t.ab=s.ab∧t.In w' w'.heap.size∧Below V.heap.size V w' from fun hl V h=>by
  have h1:=la_no hl;have e1:s.ab.c.length=s.cl.length:=rfl;have e2:s.ab.l.length=s.ll.length:=by show(s.ll.map Lo.ab).length=_;rw[List.length_map]
  have e3:s.ab.t.length=s.tl.length:=rfl;have h4:∀q∈s.ll,q.xs.length≤100:=fun q hq=>h1.2.2.2 q.ab (List.mem_map.2 ⟨q,hq,rfl⟩);refine(rcopy_any s V (HS0.out.then h) (by omega) (by omega) (by omega) (fun q hq=>by have:=h4 q hq;omega)).mono ?_;rintro e w' ⟨t,rfl,ha,hr,hb,-⟩;have f1:t.cl.length=s.cl.length:=congrArg (fun a:Ab=>a.c.length) ha;have f2:t.ab.l.length=t.ll.length:=by show(t.ll.map Lo.ab).length=_;rw[List.length_map]
  have f3:t.ab.l.length=s.ab.l.length:=congrArg (fun a:Ab=>a.l.length) ha;have f4:t.tl.length=s.tl.length:=congrArg (fun a:Ab=>a.t.length) ha;exact⟨t,rfl,ha,hr.inn (by omega) (by omega) (by omega),hb⟩)
 have HDO:=aH (fun(V:World) (h:Below w0.heap.size w0 V)=>does_any d s o V (HD0.out.then h) (HS0.out.then h) ho);have HRD:=aH (fun(u:Stk) (hu:u.ab=s.ab) (V:World) (h:Below w0.heap.size w0 V) (hi:u.In V V.heap.size)=>show Calls Tryz.prog 9 #[d.v,u.v,o.v] V fun e w'=>∃t:Stk,e=.returned (.tuple #[t.v,.int .i64 (cgE d s.ab o.w (opE d s.ab o))])∧t.In w' w'.heap.size∧t.ab=(if cgE d s.ab o.w (opE d s.ab o)=0 then opA s.ab o else ab0)∧Below V.heap.size V w' from by
  have:=rdoes_any d u o V (HD0.out.then h) hi ho;rw[hu]at this;refine this.mono ?_;rintro e w' ⟨t,h1,h2,h3,h4,-⟩;exact⟨t,h1,h2,h3,h4⟩)
 have HSM:=aH (fun(s u:Stk) (h:s.ab=u.ab) (V:World) (h1) (h2)=>same_s s u h V h1 h2);have HRG:=aH (fun(s:Stk) (V:World) (h:Below w0.heap.size w0 V) (h2)=>right_s d s V (HD0.out.then h) h2);have HOR:=aH (fun h=>@op_right d s.ab o h);generalize laB s.ab=ls at *;generalize largeB d=lb at *;generalize cgE d s.ab o.w (opE d s.ab o)=E at *;generalize opA s.ab o=dA at *;obtain⟨d0,d1,d2,d3,-⟩:=HK.out;obtain⟨t0,t1,t2,t3,t4,t5,-⟩:=HT.out;rw[hw0,hGd]at d0 d1 d2 d3;rw[hw0,hGs]at t0 t1 t2 t3 t4 t5;clear hd hs ho;go_enter Tryz.func3,Tryz.ntmps3;go_wp2_with fail;rw[←hw0];try rw[←hGo]
 try rw[←hGs]
 try rw[←hGd]
 clear hw0 hGd hGs hGo d0 d1 d2 d3 t0 t1 t2 t3 t4 t5;refine(HLD.out w0 (bR _ _)).mono ?_;rintro e w1 ⟨rfl,hb1⟩;have HB1:=aH hb1;clear hb1
 cases lb
 case true=>
  go_wp2_with fail;refine(HLV.out w1).mono ?_;rintro e w2 ⟨rfl,hb2⟩;have HB2:=aH (bC HB0.out (bC HB1.out hb2));clear hb2;go_wp2
  go_ret
  exact⟨rfl,HB2.out⟩
 obtain⟨t0,t1,t2,t3,t4,t5,-⟩:=HT.out.below HB1.out;go_wp2_with fail;refine(HLS.out w1 HB1.out).mono ?_;rintro e w2 ⟨rfl,hb2⟩;have HB2:=aH (bC HB1.out hb2);clear hb2 t0 t1 t2 t3 t4 t5 HB1
 cases ls
 case true=>
  go_wp2_with fail;refine(HLV.out w2).mono ?_;rintro e w3 ⟨rfl,hb3⟩;have HB3:=aH (bC HB0.out (bC HB2.out hb3));clear hb3;go_wp2
  go_ret
  exact⟨rfl,HB3.out⟩
 have HCX:=aH (HCP.out (by simp));obtain⟨t0,t1,t2,t3,t4,t5,-⟩:=HT.out.below HB2.out;go_wp2_with fail;clear t0 t1 t2 t3 t4 t5;refine(HCX.out w2 HB2.out).mono ?_;rintro e w3 ⟨u,rfl,hua,hui,hb3⟩;obtain⟨v3,hv3⟩:∃v3,v3=w3.alloc u.ob:=⟨_,rfl⟩;have hba:=bL (bR w3.heap.size w3) u.ob;rw[←hv3]at hba;have HB3:=aH (show Below w0.heap.size w0 v3 from bC HB2.out (bC hb3 hba));have HUA:=aH hua;have HU3:=aH (hui.then hba);have HS3:=aH (show SkAt v3 w3.heap.size u by rw[hv3];exact Cells6.new w3 _ _ _ _ _ _ _);clear hua hui hb3 hba HB2;obtain⟨d0,d1,d2,d3,-⟩:=HK.out.below HB3.out;obtain⟨t0,t1,t2,t3,t4,t5,-⟩:=HT.out.below HB3.out;obtain⟨o0,o1,o2,o3,o4⟩:=HOB.out v3 HB3.out;rw[hv3]at d0 d1 d2 d3 t0 t1 t2 t3 t4 t5 o0 o1 o2 o3 o4;go_wp2_with fail;rw[←hv3];clear hv3 d0 d1 d2 d3 t0 t1 t2 t3 t4 t5 o0 o1 o2 o3 o4;generalize w3.heap.size=Gu at *;refine(HDO.out v3 HB3.out).mono ?_;rintro e w4 ⟨a,rfl,hai,haa,hb4,-⟩;obtain⟨v4,hv4⟩:∃v4,v4=w4.alloc a.ob:=⟨_,rfl⟩;have hba:=bL (bR w4.heap.size w4) a.ob;rw[←hv4]at hba;have HB4:=aH (show Below w0.heap.size w0 v4 from bC HB3.out (bC hb4 hba));have HAA:=aH haa;have HA4:=aH (hai.then hba);have HU4:=aH (HU3.out.then (bC hb4 hba));have HS4:=aH (HS3.out.below (bC hb4 hba));have HT4:=aH (show SkAt v4 w4.heap.size a by rw[hv4];exact Cells6.new w4 _ _ _ _ _ _ _);clear haa hai hb4 hba HU3 HS3 HB3;obtain⟨d0,d1,d2,d3,-⟩:=HK.out.below HB4.out;obtain⟨t0,t1,t2,t3,t4,t5,-⟩:=HS4.out;obtain⟨o0,o1,o2,o3,o4⟩:=HOB.out v4 HB4.out;rw[hv4]at d0 d1 d2 d3 t0 t1 t2 t3 t4 t5 o0 o1 o2 o3 o4;go_wp2_with fail;rw[←hv4];clear hv4 d0 d1 d2 d3 t0 t1 t2 t3 t4 t5 o0 o1 o2 o3 o4;generalize w4.heap.size=Ga at *;refine(HRD.out u HUA.out v4 HB4.out HU4.out).mono ?_;rintro e w5 ⟨b,rfl,hbi,hbb,hb5⟩;obtain⟨v5,hv5⟩:∃v5,v5=w5.alloc b.ob:=⟨_,rfl⟩;have hba:=bL (bR w5.heap.size w5) b.ob;rw[←hv5]at hba
 have HB5:=aH (show Below w0.heap.size w0 v5 from bC HB4.out (bC hb5 hba));have HAB:=aH (show a.ab=b.ab from HAA.out.trans hbb.symm);have HBI:=aH (hbi.then hba);have HA5:=aH (HA4.out.then (bC hb5 hba));have HU5:=aH (HU4.out.then (bC hb5 hba));have HS5:=aH (HS4.out.below (bC hb5 hba));have HT5:=aH (HT4.out.below (bC hb5 hba));have HR5:=aH (show SkAt v5 w5.heap.size b by rw[hv5];exact Cells6.new w5 _ _ _ _ _ _ _);clear hbb hbi hb5 hba HU4 HS4 HB4 HA4 HT4;go_wp2_with fail;rw[←hv5];clear hv5;generalize w5.heap.size=Gb at *;refine(HLV.out v5).mono ?_;rintro e w6 ⟨rfl,hb6⟩;have HB6:=aH (bC HB5.out hb6);have HBI6:=aH (HBI.out.then hb6);have HA6:=aH (HA5.out.then hb6);have HU6:=aH (HU5.out.then hb6);have HS6:=aH (HS5.out.below hb6);have HT6:=aH (HT5.out.below hb6);have HR6:=aH (HR5.out.below hb6);clear hb6 HB5 HBI HA5 HU5 HS5 HT5 HR5;obtain⟨a0,a1,a2,a3,a4,a5,-⟩:=HT6.out;obtain⟨b0,b1,b2,b3,b4,b5,-⟩:=HR6.out;go_wp2_with fail;clear a0 a1 a2 a3 a4 a5 b0 b1 b2 b3 b4 b5;refine(HSM.out a b HAB.out w6 HA6.out HBI6.out).mono ?_;rintro e w7 ⟨rfl,hb7⟩;have HB7:=aH (bC HB6.out hb7);have HA7:=aH (HA6.out.then hb7);have HU7:=aH (HU6.out.then hb7);have HS7:=aH (HS6.out.below hb7);have HT7:=aH (HT6.out.below hb7);clear hb7 HB6 HBI6 HA6 HU6 HS6 HT6 HR6;have hee:(E != E)=false:=by simp
 obtain⟨t0,t1,t2,t3,t4,t5,-⟩:=HT.out.below HB7.out;obtain⟨u0,u1,u2,u3,u4,u5,-⟩:=HS7.out;go_wp2_with fail;clear t0 t1 t2 t3 t4 t5 u0 u1 u2 u3 u4 u5 hee;refine(HSM.out s u HUA.out.symm w7 (HS0.out.then HB7.out) HU7.out).mono ?_;rintro e w8 ⟨rfl,hb8⟩;have HB8:=aH (bC HB7.out hb8);have HA8:=aH (HA7.out.then hb8);have HT8:=aH (HT7.out.below hb8);clear hb8 HB7 HA7 HU7 HS7 HT7;by_cases hE:E=0
 case neg=>
  have hEb:(E != 0)=true:=by simpa using hE
  clear hE;go_wp2
  go_ret
  exact⟨rfl,bC HB0.out HB8.out⟩
 have HRT:=aH (show rgS d a.ab=true from by rw[HAA.out,if_pos hE];exact(HOR.out hE).1);subst hE;obtain⟨d0,d1,d2,d3,-⟩:=HK.out.below HB8.out;obtain⟨a0,a1,a2,a3,a4,a5,-⟩:=HT8.out;go_wp2_with fail;clear d0 d1 d2 d3 a0 a1 a2 a3 a4 a5;refine(HRG.out a w8 HB8.out HA8.out).mono ?_;rw[HRT.out];rintro e w9 ⟨rfl,hb9⟩;have HB9:=aH (bC HB0.out (bC HB8.out hb9));clear hb9;go_wp2
 go_ret
 exact⟨rfl,HB9.out⟩
end Go.Proofs.YtacjonncakhhmaaGreat
