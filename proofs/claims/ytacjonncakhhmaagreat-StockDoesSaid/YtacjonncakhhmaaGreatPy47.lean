/- Stocks: is one too large? -/
import Derived.Test.YtacjonncakhhmaaGreatPy00
import Derived.Test.YtacjonncakhhmaaGreatPy45
import Derived.Test.YtacjonncakhhmaaGreatPy46
import Derived.Test.YtacjonncakhhmaaGreatPy44
import Derived.Test.YtacjonncakhhmaaGreatPy41
import Derived.Test.YtacjonncakhhmaaGreatPy23
import Derived.Test.YtacjonncakhhmaaGreatPy10
import Derived.Test.YtacjonncakhhmaaGreatPy35
import Derived.Test.YtacjonncakhhmaaGreatPy17
set_option maxRecDepth 100000
set_option maxHeartbeats 8000000
namespace Go.Proofs.YtacjonncakhhmaaGreat
open Go.RowKit
theorem rdoes_any (d:Dk) (s:Stk) (o:Opp) (w:World) (hd:d.In w w.heap.size) (hs:s.In w w.heap.size) (ho:o.Fit):
  Calls Tryz.prog 9 #[d.v,s.v,o.v] w fun e w'=>∃t:Stk,e=.returned (.tuple #[t.v,.int .i64 (cgE d s.ab o.w (opE d s.ab o))])∧t.In w' w'.heap.size∧t.ab=(if cgE d s.ab o.w (opE d s.ab o)=0 then opA s.ab o else ab0)∧Below w.heap.size w w'∧t.Far w.heap.size:=by
 obtain⟨k,b',x,y,n⟩:=o;have HO:=aH ho;dsimp only;obtain⟨w0,hw0⟩:∃w0,w0=((((w.alloc (.cells #[.slice d.bA d.bn d.bc,.slice d.pA d.pn d.pc,.slice d.rA d.rn d.rc,.int .i64 d.arms] 26)).alloc (.cells #[.slice s.cA s.cl.length s.cc,.slice s.lA s.ll.length s.lc,.slice s.tA s.tl.length s.tc,.int .i64 s.st,.int .i64 s.inn,.int .i64 s.out] 31)).alloc (.cells #[.int .i64 k,.int .i64 b',.int .i64 x,.int .i64 y,.int .i64 n] 33)).alloc (.cells #[.slice none 0 0,.slice none 0 0,.slice none 0 0,.int .i64 0,.int .i64 0,.int .i64 0] 31)):=⟨_,rfl⟩;have HB0:=aH (show Below w.heap.size w w0 by rw[hw0];exact bL (bL (bL (bL (bR _ _) _) _) _) _);have HD0:=aH (hd.then HB0.out);have HS0:=aH (hs.then HB0.out);have HK0:=aH (show DkAt w0 w.heap.size d by rw[hw0];exact(((Cells4.new w _ _ _ _ _).below (bL (bR _ _) _)).below (bL (bR _ _) _)).below (bL (bR _ _) _));have HT0:=aH (show SkAt w0 (w.heap.size+1) s by
  have e:(w.alloc (.cells #[.slice d.bA d.bn d.bc,.slice d.pA d.pn d.pc,.slice d.rA d.rn d.rc,.int .i64 d.arms] 26)).heap.size=w.heap.size+1:=by simp
  rw[hw0,←e];exact((Cells6.new (w.alloc (.cells #[.slice d.bA d.bn d.bc,.slice d.pA d.pn d.pc,.slice d.rA d.rn d.rc,.int .i64 d.arms] 26)) 31 _ _ _ _ _ _).below (bL (bR _ _) _)).below (bL (bR _ _) _))
 have HR0:=aH (show Cells6 w0 (w.heap.size+3) (.slice none 0 0) (.slice none 0 0) (.slice none 0 0) (.int .i64 0) (.int .i64 0) (.int .i64 0)by
  have e:(((w.alloc (.cells #[.slice d.bA d.bn d.bc,.slice d.pA d.pn d.pc,.slice d.rA d.rn d.rc,.int .i64 d.arms] 26)).alloc (.cells #[.slice s.cA s.cl.length s.cc,.slice s.lA s.ll.length s.lc,.slice s.tA s.tl.length s.tc,.int .i64 s.st,.int .i64 s.inn,.int .i64 s.out] 31)).alloc (.cells #[.int .i64 k,.int .i64 b',.int .i64 x,.int .i64 y,.int .i64 n] 33)).heap.size=w.heap.size+3:=by simp
  rw[hw0,←e];exact Cells6.new (((w.alloc (.cells #[.slice d.bA d.bn d.bc,.slice d.pA d.pn d.pc,.slice d.rA d.rn d.rc,.int .i64 d.arms] 26)).alloc (.cells #[.slice s.cA s.cl.length s.cc,.slice s.lA s.ll.length s.lc,.slice s.tA s.tl.length s.tc,.int .i64 s.st,.int .i64 s.inn,.int .i64 s.out] 31)).alloc (.cells #[.int .i64 k,.int .i64 b',.int .i64 x,.int .i64 y,.int .i64 n] 33)) 31 _ _ _ _ _ _)
 have HSZ:=aH (show w0.heap.size=w.heap.size+4 by rw[hw0];simp);have HOO:=aH (show w0.cell? ⟨w.heap.size+2,0,none⟩=some (.int .i64 k)∧w0.cell? ⟨w.heap.size+2,1,none⟩=some (.int .i64 b')∧w0.cell? ⟨w.heap.size+2,2,none⟩=some (.int .i64 x)∧w0.cell? ⟨w.heap.size+2,3,none⟩=some (.int .i64 y)∧w0.cell? ⟨w.heap.size+2,4,none⟩=some (.int .i64 n)from by
  have e:((w.alloc (.cells #[.slice d.bA d.bn d.bc,.slice d.pA d.pn d.pc,.slice d.rA d.rn d.rc,.int .i64 d.arms] 26)).alloc (.cells #[.slice s.cA s.cl.length s.cc,.slice s.lA s.ll.length s.lc,.slice s.tA s.tl.length s.tc,.int .i64 s.st,.int .i64 s.inn,.int .i64 s.out] 31)).heap.size=w.heap.size+2:=by simp
  rw[hw0,←e];refine⟨kK (bL (bR _ _) _) ?_,kK (bL (bR _ _) _) ?_,kK (bL (bR _ _) _) ?_,kK (bL (bR _ _) _) ?_,kK (bL (bR _ _) _) ?_⟩
  all_goals (rw[alloc_at];rfl))
 obtain⟨t0,t1,t2,t3,t4,t5,-⟩:=HT0.out;obtain⟨d0,d1,d2,d3,-⟩:=HK0.out;obtain⟨o0,o1,o2,o3,o4⟩:=HOO.out;rw[hw0]at t0 t1 t2 t3 t4 t5 d0 d1 d2 d3 o0 o1 o2 o3 o4;clear hd hs ho;by_cases h1:k=1
 ·have h1b:(k==1)=true:=by simpa using h1
  have HC:=aH (rfill_any d s b' x n (hn:=HO.out.n) (w:=w0) (hd:=HD0.out) (hs:=HS0.out));have HEE:opE d s.ab ⟨k,b',x,y,n⟩=foE d s.ab x (max n 0) (s.ab.inn+n):=by unfold opE;rw[if_pos h1]
  have HAA:opA s.ab ⟨k,b',x,y,n⟩=foA s.ab b' x.toNat (max n 0) 4 (s.ab.inn+n):=by unfold opA;rw[if_pos h1]
  rw[HEE,HAA];generalize foA s.ab b' x.toNat (max n 0) 4 (s.ab.inn+n)=dA at *;generalize cgE d s.ab b' (foE d s.ab x (max n 0) (s.ab.inn+n))=E at *;generalize (if E=0 then dA else ab0)=dR at *;clear HEE HAA h1;go_enter Tryz.func9,Tryz.ntmps9;go_wp2_with fail;rw[←hw0];clear hw0;refine HC.out.mono ?_;rintro e w1 ⟨t,rfl,ht,hab,hb1,hfar⟩;have hR1:=HR0.out.below hb1;obtain⟨r0,r1,r2,r3,r4,r5,y0,y1,y2,y3,y4,y5,_⟩:=hR1;have HR1:=aH (HR0.out.below hb1);have HB1:=aH (bC HB0.out hb1);have HTT:=aH (aI ht (aI hab hfar));clear ht hab hfar hb1 t0 t1 t2 t3 t4 t5 d0 d1 d2 d3 o0 o1 o2 o3 o4;go_wp2;have hset:=HR1.out.set (.slice t.cA t.cl.length t.cc) (.slice t.lA t.ll.length t.lc) (.slice t.tA t.tl.length t.tc) (.int .i64 t.st) (.int .i64 t.inn) (.int .i64 t.out);obtain⟨q0,q1,q2,q3,q4,q5,_⟩:=hset;have hsz:=HSZ.out;refine bP (v:=.tuple #[t.v,.int .i64 E]) ?_ rfl ?_
  ·simp[results,Tryz.results9,go_sem,q0,q1,q2,q3,q4,q5]
  ·refine⟨t,rfl,?_,HTT.out.2.1,below_set6 HB1.out (by omega) _ _ _ _ _ _,HTT.out.2.2.less (by omega)⟩;have:=HTT.out.1.set6 HTT.out.2.2 (D:=w.heap.size+3) (by omega) (.slice t.cA t.cl.length t.cc) (.slice t.lA t.ll.length t.lc) (.slice t.tA t.tl.length t.tc) (.int .i64 t.st) (.int .i64 t.inn) (.int .i64 t.out);simpa using this
 have h1b:(k==1)=false:=by simpa using h1
 by_cases h2:k=2
 ·have h2b:(k==2)=true:=by simpa using h2
  have HC:=aH (rwaste_any d s b' x n (hn:=HO.out.n) (w:=w0) (hd:=HD0.out) (hs:=HS0.out));have HEE:opE d s.ab ⟨k,b',x,y,n⟩=foE d s.ab x (-(max n 0)) (s.ab.out+n):=by unfold opE;rw[if_neg h1,if_pos h2]
  have HAA:opA s.ab ⟨k,b',x,y,n⟩=foA s.ab b' x.toNat (-(max n 0)) 5 (s.ab.out+n):=by unfold opA;rw[if_neg h1,if_pos h2]
  rw[HEE,HAA];generalize foA s.ab b' x.toNat (-(max n 0)) 5 (s.ab.out+n)=dA at *;generalize cgE d s.ab b' (foE d s.ab x (-(max n 0)) (s.ab.out+n))=E at *;generalize (if E=0 then dA else ab0)=dR at *;clear HEE HAA h1 h2;go_enter Tryz.func9,Tryz.ntmps9;go_wp2_with fail;rw[←hw0];clear hw0;refine HC.out.mono ?_;rintro e w1 ⟨t,rfl,ht,hab,hb1,hfar⟩;have hR1:=HR0.out.below hb1;obtain⟨r0,r1,r2,r3,r4,r5,y0,y1,y2,y3,y4,y5,_⟩:=hR1;have HR1:=aH (HR0.out.below hb1);have HB1:=aH (bC HB0.out hb1);have HTT:=aH (aI ht (aI hab hfar));clear ht hab hfar hb1 t0 t1 t2 t3 t4 t5 d0 d1 d2 d3 o0 o1 o2 o3 o4;go_wp2;have hset:=HR1.out.set (.slice t.cA t.cl.length t.cc) (.slice t.lA t.ll.length t.lc) (.slice t.tA t.tl.length t.tc) (.int .i64 t.st) (.int .i64 t.inn) (.int .i64 t.out);obtain⟨q0,q1,q2,q3,q4,q5,_⟩:=hset;have hsz:=HSZ.out;refine bP (v:=.tuple #[t.v,.int .i64 E]) ?_ rfl ?_
  ·simp[results,Tryz.results9,go_sem,q0,q1,q2,q3,q4,q5]
  ·refine⟨t,rfl,?_,HTT.out.2.1,below_set6 HB1.out (by omega) _ _ _ _ _ _,HTT.out.2.2.less (by omega)⟩;have:=HTT.out.1.set6 HTT.out.2.2 (D:=w.heap.size+3) (by omega) (.slice t.cA t.cl.length t.cc) (.slice t.lA t.ll.length t.lc) (.slice t.tA t.tl.length t.tc) (.int .i64 t.st) (.int .i64 t.inn) (.int .i64 t.out);simpa using this
 have h2b:(k==2)=false:=by simpa using h2
 by_cases h3:k=3
 ·have h3b:(k==3)=true:=by simpa using h3
  have HC:=aH (rmovef_any d s b' x y n (hn:=HO.out.n) (w:=w0) (hd:=HD0.out) (hs:=HS0.out));have HEE:opE d s.ab ⟨k,b',x,y,n⟩=moE d s.ab x y n:=by unfold opE;rw[if_neg h1,if_neg h2,if_pos h3]
  have HAA:opA s.ab ⟨k,b',x,y,n⟩=moA s.ab b' x y n:=by unfold opA;rw[if_neg h1,if_neg h2,if_pos h3]
  rw[HEE,HAA];generalize moA s.ab b' x y n=dA at *;generalize cgE d s.ab b' (moE d s.ab x y n)=E at *;generalize (if E=0 then dA else ab0)=dR at *;clear HEE HAA h1 h2 h3;go_enter Tryz.func9,Tryz.ntmps9;go_wp2_with fail;rw[←hw0];clear hw0;refine HC.out.mono ?_;rintro e w1 ⟨t,rfl,ht,hab,hb1,hfar⟩;have hR1:=HR0.out.below hb1;obtain⟨r0,r1,r2,r3,r4,r5,y0,y1,y2,y3,y4,y5,_⟩:=hR1;have HR1:=aH (HR0.out.below hb1);have HB1:=aH (bC HB0.out hb1);have HTT:=aH (aI ht (aI hab hfar));clear ht hab hfar hb1 t0 t1 t2 t3 t4 t5 d0 d1 d2 d3 o0 o1 o2 o3 o4;go_wp2;have hset:=HR1.out.set (.slice t.cA t.cl.length t.cc) (.slice t.lA t.ll.length t.lc) (.slice t.tA t.tl.length t.tc) (.int .i64 t.st) (.int .i64 t.inn) (.int .i64 t.out);obtain⟨q0,q1,q2,q3,q4,q5,_⟩:=hset;have hsz:=HSZ.out;refine bP (v:=.tuple #[t.v,.int .i64 E]) ?_ rfl ?_
  ·simp[results,Tryz.results9,go_sem,q0,q1,q2,q3,q4,q5]
  ·refine⟨t,rfl,?_,HTT.out.2.1,below_set6 HB1.out (by omega) _ _ _ _ _ _,HTT.out.2.2.less (by omega)⟩;have:=HTT.out.1.set6 HTT.out.2.2 (D:=w.heap.size+3) (by omega) (.slice t.cA t.cl.length t.cc) (.slice t.lA t.ll.length t.lc) (.slice t.tA t.tl.length t.tc) (.int .i64 t.st) (.int .i64 t.inn) (.int .i64 t.out);simpa using this
 have h3b:(k==3)=false:=by simpa using h3
 by_cases h4:k=4
 ·have h4b:(k==4)=true:=by simpa using h4
  have HC:=aH (rtakef_any d s b' x (hfb:=HO.out.w) (w:=w0) (hd:=HD0.out) (hs:=HS0.out));have HEE:opE d s.ab ⟨k,b',x,y,n⟩=taE d s.ab b' x:=by unfold opE;rw[if_neg h1,if_neg h2,if_neg h3,if_pos h4]
  have HAA:opA s.ab ⟨k,b',x,y,n⟩=taA s.ab b' x:=by unfold opA;rw[if_neg h1,if_neg h2,if_neg h3,if_pos h4]
  rw[HEE,HAA];generalize taA s.ab b' x=dA at *;generalize cgE d s.ab b' (taE d s.ab b' x)=E at *;generalize (if E=0 then dA else ab0)=dR at *;clear HEE HAA h1 h2 h3 h4;go_enter Tryz.func9,Tryz.ntmps9;go_wp2_with fail;rw[←hw0];clear hw0;refine HC.out.mono ?_;rintro e w1 ⟨t,rfl,ht,hab,hb1,hfar⟩;have hR1:=HR0.out.below hb1;obtain⟨r0,r1,r2,r3,r4,r5,y0,y1,y2,y3,y4,y5,_⟩:=hR1;have HR1:=aH (HR0.out.below hb1);have HB1:=aH (bC HB0.out hb1);have HTT:=aH (aI ht (aI hab hfar));clear ht hab hfar hb1 t0 t1 t2 t3 t4 t5 d0 d1 d2 d3 o0 o1 o2 o3 o4;go_wp2;have hset:=HR1.out.set (.slice t.cA t.cl.length t.cc) (.slice t.lA t.ll.length t.lc) (.slice t.tA t.tl.length t.tc) (.int .i64 t.st) (.int .i64 t.inn) (.int .i64 t.out);obtain⟨q0,q1,q2,q3,q4,q5,_⟩:=hset;have hsz:=HSZ.out;refine bP (v:=.tuple #[t.v,.int .i64 E]) ?_ rfl ?_
  ·simp[results,Tryz.results9,go_sem,q0,q1,q2,q3,q4,q5]
  ·refine⟨t,rfl,?_,HTT.out.2.1,below_set6 HB1.out (by omega) _ _ _ _ _ _,HTT.out.2.2.less (by omega)⟩;have:=HTT.out.1.set6 HTT.out.2.2 (D:=w.heap.size+3) (by omega) (.slice t.cA t.cl.length t.cc) (.slice t.lA t.ll.length t.lc) (.slice t.tA t.tl.length t.tc) (.int .i64 t.st) (.int .i64 t.inn) (.int .i64 t.out);simpa using this
 have h4b:(k==4)=false:=by simpa using h4
 have HC:=aH (rdropf_any d s b' (w:=w0) (hd:=HD0.out) (hs:=HS0.out));have HEE:opE d s.ab ⟨k,b',x,y,n⟩=drE s.ab b':=by unfold opE;rw[if_neg h1,if_neg h2,if_neg h3,if_neg h4]
 have HAA:opA s.ab ⟨k,b',x,y,n⟩=drA s.ab b':=by unfold opA;rw[if_neg h1,if_neg h2,if_neg h3,if_neg h4]
 rw[HEE,HAA];generalize drA s.ab b'=dA at *;generalize cgE d s.ab b' (drE s.ab b')=E at *;generalize (if E=0 then dA else ab0)=dR at *;clear HEE HAA h1 h2 h3 h4;go_enter Tryz.func9,Tryz.ntmps9;go_wp2_with fail;rw[←hw0];clear hw0;refine HC.out.mono ?_;rintro e w1 ⟨t,rfl,ht,hab,hb1,hfar⟩;have hR1:=HR0.out.below hb1;obtain⟨r0,r1,r2,r3,r4,r5,y0,y1,y2,y3,y4,y5,_⟩:=hR1;have HR1:=aH (HR0.out.below hb1);have HB1:=aH (bC HB0.out hb1);have HTT:=aH (aI ht (aI hab hfar));clear ht hab hfar hb1 t0 t1 t2 t3 t4 t5 d0 d1 d2 d3 o0 o1 o2 o3 o4;go_wp2;have hset:=HR1.out.set (.slice t.cA t.cl.length t.cc) (.slice t.lA t.ll.length t.lc) (.slice t.tA t.tl.length t.tc) (.int .i64 t.st) (.int .i64 t.inn) (.int .i64 t.out);obtain⟨q0,q1,q2,q3,q4,q5,_⟩:=hset;have hsz:=HSZ.out;refine bP (v:=.tuple #[t.v,.int .i64 E]) ?_ rfl ?_
 ·simp[results,Tryz.results9,go_sem,q0,q1,q2,q3,q4,q5]
 ·refine⟨t,rfl,?_,HTT.out.2.1,below_set6 HB1.out (by omega) _ _ _ _ _ _,HTT.out.2.2.less (by omega)⟩;have:=HTT.out.1.set6 HTT.out.2.2 (D:=w.heap.size+3) (by omega) (.slice t.cA t.cl.length t.cc) (.slice t.lA t.ll.length t.lc) (.slice t.tA t.tl.length t.tc) (.int .i64 t.st) (.int .i64 t.inn) (.int .i64 t.out);simpa using this
theorem same_s (s u:Stk) (h:s.ab=u.ab) (w:World) (hs:s.In w w.heap.size) (hu:u.In w w.heap.size):Calls Tryz.prog 10 #[s.v,u.v] w fun e w'=>e=.returned (.bool true)∧Below w.heap.size w w':=by
 obtain⟨w0,hw0⟩:∃w0,w0=(w.alloc (.cells #[.slice s.cA s.cl.length s.cc,.slice s.lA s.ll.length s.lc,.slice s.tA s.tl.length s.tc,.int .i64 s.st,.int .i64 s.inn,.int .i64 s.out] 31)).alloc (.cells #[.slice u.cA u.cl.length u.cc,.slice u.lA u.ll.length u.lc,.slice u.tA u.tl.length u.tc,.int .i64 u.st,.int .i64 u.inn,.int .i64 u.out] 31):=⟨_,rfl⟩;have HB0:=aH (show Below w.heap.size w w0 by rw[hw0];exact bL (bL (bR _ _) _) _);have HS:=aH (hs.then HB0.out);have HU:=aH (hu.then HB0.out);have HS1:=aH (show SkAt w0 w.heap.size s by rw[hw0];exact(Cells6.new w _ _ _ _ _ _ _).below (bL (bR _ _) _));have HU1:=aH (show SkAt w0 (w.heap.size+1) u by
  have e:(w.alloc (.cells #[.slice s.cA s.cl.length s.cc,.slice s.lA s.ll.length s.lc,.slice s.tA s.tl.length s.tc,.int .i64 s.st,.int .i64 s.inn,.int .i64 s.out] 31)).heap.size=w.heap.size+1:=by simp
  rw[hw0,←e];exact Cells6.new _ _ _ _ _ _ _ _)
 have h1:s.cl=u.cl:=congrArg Ab.c h;have h2:s.ll.map Lo.ab=u.ll.map Lo.ab:=congrArg Ab.l h;have h3:s.tl=u.tl:=congrArg Ab.t h;have h4:s.st=u.st:=congrArg Ab.st h;have h5:s.inn=u.inn:=congrArg Ab.inn h;have h6:s.out=u.out:=congrArg Ab.out h;have hll:s.ll.length=u.ll.length:=by have:=congrArg List.length h2;simpa using this
 have HQ:=aH (show ∀k,k<s.ll.length→(s.ll.getD k lo0).r=(u.ll.getD k lo0).r∧(s.ll.getD k lo0).l=(u.ll.getD k lo0).l∧(s.ll.getD k lo0).xs=(u.ll.getD k lo0).xs from fun k hk=>by
  have e1:=ab_l s k hk;have e2:=ab_l u k (by omega);have e:s.ab.l=u.ab.l:=congrArg Ab.l h;rw[e,e2]at e1;have a1:=congrArg Prod.fst e1;have a2:=congrArg Prod.snd e1;exact⟨a1.symm,(congrArg Prod.fst a2).symm,(congrArg Prod.snd a2).symm⟩)
 clear hs hu h h2;obtain⟨cA,cc,cl,lA,lc,ll,tA,tc,tl,st,inn,out⟩:=s;obtain⟨cA2,cc2,cl2,lA2,lc2,ll2,tA2,tc2,tl2,st2,inn2,out2⟩:=u;dsimp only at *;subst h1 h3 h4 h5 h6;have HLL:=aH hll;have hli:((ll.length:Int) != (ll2.length:Int))=false:=by rw[hll];simp
 clear hll;obtain⟨g0,g1,g2,g3,g4,g5,-⟩:=HS1.out;obtain⟨f0,f1,f2,f3,f4,f5,-⟩:=HU1.out;dsimp only at g0 g1 g2 g3 g4 g5 f0 f1 f2 f3 f4 f5;rw[hw0]at g0 g1 g2 g3 g4 g5 f0 f1 f2 f3 f4 f5;have hl1:=HS.out.c.2.2;have hl2:=HS.out.l.2.2;have hl3:=HS.out.t.2.2;dsimp only at hl1 hl2 hl3;go_enter Tryz.func10,Tryz.ntmps10;go_wp2_with fail;rw[←hw0];clear hw0 g0 g1 g2 g3 g4 g5 f0 f1 f2 f3 f4 f5 hli
 go_loopw [5] (fun i wr=>∃k:Nat,k≤cl.length∧i=.int .i64 k∧Hid (Below w0.heap.size w0 wr)) (fun i _=>cl.length - (intOf i).toNat)
 case atStart=>exact⟨0,Nat.zero_le _,rfl,aH (bR _ _)⟩
 case round=>
  obtain⟨k,hk,rfl,hbl⟩:=hrel;have HB:=aH hbl.out;clear hbl;have G1:=(HS1.out.below HB.out).1;have G2:=(HU1.out.below HB.out).1;dsimp only at G1 G2;by_cases hlt:k<cl.length
  ·obtain⟨b1,o1,rfl,hb1,hc1,hcell1⟩:=ce_cells (HS.out.then HB.out).c (by dsimp only;omega);obtain⟨b2,o2,rfl,hb2,hc2,hcell2⟩:=ce_cells (HU.out.then HB.out).c (by dsimp only;omega);obtain⟨e1,e2,e3⟩:=hcell1 k hlt;obtain⟨f1,f2,f3⟩:=hcell2 k hlt;dsimp only at e1 e2 e3 f1 f2 f3;clear hcell1 hcell2;generalize cl.getD k ce0=q at *;obtain⟨qa,qb,qc⟩:=q;dsimp only at e1 e2 e3 f1 f2 f3;go_wp2_with fail;go_quiet (fail);go_wp2
   go_roundw
   case rel=>exact⟨k+1,by omega,num_i (by omega),aH (below_drewN HB.out _)⟩
   case measure=>simp[intOf];omega
  ·obtain rfl:k=cl.length:=by omega
   obtain⟨wA,hwA⟩:∃wA,wA=wr:=⟨_,rfl⟩;have HBA:=aH (show Below w0.heap.size w0 wA by rw[hwA];exact HB.out);go_wp2_with fail;rw[←hwA];clear hwA HB G1 G2
   go_loopw [6] (fun i wr=>∃k:Nat,k≤ll.length∧i=.int .i64 k∧Hid (Below w0.heap.size w0 wr)) (fun i _=>ll.length - (intOf i).toNat)
   case atStart=>exact⟨0,Nat.zero_le _,rfl,aH HBA.out⟩
   case round=>
    clear HBA;obtain⟨k,hk,rfl,hbl⟩:=hrel;have HB:=aH hbl.out;clear hbl;have G1:=(HS1.out.below HB.out).2.1;have G2:=(HU1.out.below HB.out).2.1;dsimp only at G1 G2;by_cases hlt:k<ll.length
    ·have hlt2:k<ll2.length:=by have:=HLL.out;omega
     obtain⟨b1,o1,rfl,hb1,hc1,hcell1⟩:=lo_cells (HS.out.then HB.out).l (by dsimp only;omega);obtain⟨b2,o2,rfl,hb2,hc2,hcell2⟩:=lo_cells (HU.out.then HB.out).l (by dsimp only;omega);obtain⟨e1,e2,e3⟩:=hcell1 k hlt;obtain⟨f1,f2,f3⟩:=hcell2 k hlt2;dsimp only at e1 e2 e3 f1 f2 f3 hc1 hc2;have HX1:=aH ((HS.out.then HB.out).x _ (getD_mem' ll k lo0 hlt));have HX2:=aH ((HU.out.then HB.out).x _ (getD_mem' ll2 k lo0 hlt2));obtain⟨p1,p2,p3⟩:=HQ.out k hlt;rw[←p1]at f1;rw[←p2]at f2;rw[←p3]at f3 HX2;clear hcell1 hcell2 p1 p2 p3;generalize (ll2.getD k lo0).A=pA at *;generalize (ll2.getD k lo0).c=pc at *;generalize ll.getD k lo0=q at *;obtain⟨qr,ql,qA,qc,qx⟩:=q;dsimp only at e1 e2 e3 f1 f2 f3 HX1 HX2;have hlt':(k:Int)<ll.length:=by omega
     have hlt2':(k:Int)<ll2.length:=by omega
     go_upto_region 11 with fail
     refine wp_region_held_drew (S:=fun w'=>w'.cell? ⟨w.heap.size,1,none⟩=some (Value.slice (some ⟨b1,o1,none⟩) ll.length lc)∧w'.cell? ⟨w.heap.size+1,1,none⟩=some (Value.slice (some ⟨b2,o2,none⟩) ll2.length lc2)∧w'.cell? ⟨b1,o1+k * 3,none⟩=some (.int .i64 qr)∧w'.cell? ⟨b1,o1+k * 3+1,none⟩=some (.int .i64 ql)∧w'.cell? ⟨b1,o1+k * 3+2,none⟩=some (.slice qA qx.length qc)∧w'.cell? ⟨b2,o2+k * 3,none⟩=some (.int .i64 qr)∧w'.cell? ⟨b2,o2+k * 3+1,none⟩=some (.int .i64 ql)∧w'.cell? ⟨b2,o2+k * 3+2,none⟩=some (.slice pA qx.length pc)) (by kernel_rfl) ?_ (fun hHeld=>?_)
     ·exact⟨G1,G2,e1,e2,e3,f1,f2,f3⟩
     have bw:=(bR wr.heap.size wr).drew;have X1:=aH (HX1.out.then bw);have X2:=aH (HX2.out.then bw);have B1:=aH (Below.drew HB.out);clear bw G1 G2 e1 e2 e3 f1 f2 f3 HX1 HX2;generalize wr.drew=v0 at *;refine wk [.k 0 79,.k 1 80,.k 2 81,.k 3 82,.k 4 83,.k 5 84,.k 6 85,.k 7 86,.k 8 87,.k 9 88] (fun _ _ _ _ _ h=>h) hHeld ?_ (by kernel_rfl)
     repeat (first | (refine .k (v:=?_) rfl (by kernel_rfl) ?_ ?_;rotate_left 1;((intro w hSw;(try dsimp only at hSw);go_simp) <;> (try with_reducible rfl));(try simp only[sp])) | (refine .u rfl (by kernel_rfl) ?_;(try simp only[sp])))
     refine .nil ?_;refine wQ 10 (some 89) rfl (fun K hK=>?_) (by kernel_rfl);go_simp;refine(Lg.same_any qr ql qA pA qc pc qx v0 X1.out X2.out).mono ?_;rintro e v1 ⟨rfl,hb⟩;have B2:=aH (B1.out.trans (hb.mono B1.out.size));obtain⟨k1,k2,k3,k4,k5,k6,k7,k8⟩:=hHeld;have hH:=aI (kK hb k1) (aI (kK hb k2) (aI (kK hb k3) (aI (kK hb k4) (aI (kK hb k5) (aI (kK hb k6) (aI (kK hb k7) (kK hb k8)))))));clear k1 k2 k3 k4 k5 k6 k7 k8 hb X1 X2 B1;go_wp2_with fail;refine hK.out _ _ hH (fun hHeld=>?_);clear hK K;clear hH
     try simp only[sp]
     refine wk [.k 11 90] (fun _ _ _ _ _ h=>h) hHeld ?_ (by kernel_rfl)
     repeat (first | (refine .k (v:=?_) rfl (by kernel_rfl) ?_ ?_;rotate_left 1;((intro w hSw;(try dsimp only at hSw);go_simp) <;> (try with_reducible rfl));(try simp only[sp])) | (refine .u rfl (by kernel_rfl) ?_;(try simp only[sp])))
     refine .nil ?_;refine wD (by kernel_rfl) ?_;clear hHeld;go_wp2
     go_roundw
     case rel=>exact⟨k+1,by omega,num_i (by omega),aH B2.out⟩
     case measure=>simp[intOf];omega
    ·obtain rfl:k=ll.length:=by omega
     obtain⟨wA,hwA⟩:∃wA,wA=wr:=⟨_,rfl⟩;have HBA:=aH (show Below w0.heap.size w0 wA by rw[hwA];exact HB.out);go_wp2_with fail;rw[←hwA];clear hwA HB G1 G2
     go_loopw [7] (fun i wr=>∃k:Nat,k≤tl.length∧i=.int .i64 k∧Hid (Below w0.heap.size w0 wr)) (fun i _=>tl.length - (intOf i).toNat)
     case atStart=>exact⟨0,Nat.zero_le _,rfl,aH HBA.out⟩
     case round=>
      clear HBA;obtain⟨k,hk,rfl,hbl⟩:=hrel;have HB:=aH hbl.out;clear hbl;have G1:=(HS1.out.below HB.out).2.2.1;have G2:=(HU1.out.below HB.out).2.2.1;dsimp only at G1 G2;by_cases hlt:k<tl.length
      ·obtain⟨b1,o1,rfl,hb1,hc1,hcell1⟩:=tip_cells (HS.out.then HB.out).t (by dsimp only;omega);obtain⟨b2,o2,rfl,hb2,hc2,hcell2⟩:=tip_cells (HU.out.then HB.out).t (by dsimp only;omega);obtain⟨e1,e2⟩:=hcell1 k hlt;obtain⟨f1,f2⟩:=hcell2 k hlt;dsimp only at e1 e2 f1 f2;clear hcell1 hcell2;generalize tl.getD k (0,0)=q at *;obtain⟨qa,qb⟩:=q;dsimp only at e1 e2 f1 f2;go_wp2_with fail;go_quiet (fail);go_wp2
       go_roundw
       case rel=>exact⟨k+1,by omega,num_i (by omega),aH (below_drewN HB.out _)⟩
       case measure=>simp[intOf];omega
      ·obtain rfl:k=tl.length:=by omega
       go_wp2
       go_ret
       exact⟨rfl,bC HB0.out HB.out⟩
def laB (a:Ab):Bool:=decide (400<a.c.length)||decide (400<a.l.length)||decide (400<a.t.length)||a.l.any (fun q=>decide (100<q.2.2.length))
theorem la_no {a:Ab} (h:laB a=false):a.c.length≤400∧a.l.length≤400∧a.t.length≤400∧∀q∈a.l,q.2.2.length≤100:=by
 unfold laB at h;rw[Bool.or_eq_false_iff,Bool.or_eq_false_iff,Bool.or_eq_false_iff,decide_eq_false_iff_not,decide_eq_false_iff_not,decide_eq_false_iff_not,List.any_eq_false]at h;refine⟨by omega,by omega,by omega,fun q hq=>?_⟩;have:=h.2 q hq;simp only[decide_eq_true_eq]at this;omega
theorem large_s (s:Stk) (w:World) (hs:s.In w w.heap.size):Calls Tryz.prog 5 #[s.v] w fun e w'=>e=.returned (.bool (laB s.ab))∧Below w.heap.size w w':=by
 obtain⟨w0,hw0⟩:∃w0,w0=w.alloc (.cells #[.slice s.cA s.cl.length s.cc,.slice s.lA s.ll.length s.lc,.slice s.tA s.tl.length s.tc,.int .i64 s.st,.int .i64 s.inn,.int .i64 s.out] 31):=⟨_,rfl⟩;have HB0:=aH (show Below w.heap.size w w0 by rw[hw0];exact bL (bR _ _) _);have HL:=aH (hs.l.then HB0.out);have HS0:=aH (show SkAt w0 w.heap.size s by rw[hw0];exact Cells6.new w _ _ _ _ _ _ _);have hl9:=hs.l.2.2;have hl8:=hs.c.2.2;have hl7:=hs.t.2.2;have HV:=aH (show laB s.ab=(decide (400<s.cl.length)||decide (400<s.ll.length)||decide (400<s.tl.length)||s.ll.any (fun q=>decide (100<q.xs.length)))from by
  unfold laB;show(decide (400<s.cl.length)||decide (400<(s.ll.map Lo.ab).length)||decide (400<s.tl.length)||(s.ll.map Lo.ab).any _)=_;rw[List.length_map,List.any_map];rfl)
 clear hs;generalize laB s.ab=R at *;obtain⟨cA,cc,cl,lA,lc,ll,tA,tc,tl,st,inn,out⟩:=s;dsimp only at *;obtain⟨g0,g1,g2,-⟩:=HS0.out;dsimp only at g0 g1 g2;have HYES:=aH (fun k h1 h2=>any_yes ll lo0 (fun q=>decide (100<q.xs.length)) k h1 h2);have HNON:=aH (show(∀j,j<ll.length→¬ 100<(ll.getD j lo0).xs.length)→ll.any (fun q=>decide (100<q.xs.length))=false from fun h=>by
  rw[List.any_eq_false];intro q hq;obtain⟨j,hj,rfl⟩:=List.getElem_of_mem hq;have:=h j hj;rw[List.getD_eq_getElem?_getD,List.getElem?_eq_getElem hj]at this;simpa using this)
 by_cases h1:400<cl.length
 ·have HR:=aH (show R=true by rw[HV.out,dT h1];rfl);go_enter Tryz.func5,Tryz.ntmps5;go_wp2
  go_ret
  exact⟨by rw[HR.out];rfl,by rw[←hw0];exact HB0.out⟩
 by_cases h2:400<ll.length
 ·have HR:=aH (show R=true by rw[HV.out,dT h2];simp);go_enter Tryz.func5,Tryz.ntmps5;go_wp2
  go_ret
  exact⟨by rw[HR.out];rfl,by rw[←hw0];exact HB0.out⟩
 by_cases h3:400<tl.length
 ·have HR:=aH (show R=true by rw[HV.out,dT h3];simp);go_enter Tryz.func5,Tryz.ntmps5;go_wp2
  go_ret
  exact⟨by rw[HR.out];rfl,by rw[←hw0];exact HB0.out⟩
 rw[dF h1,dF h2,dF h3]at HV;have hi1:¬(400:Int)<cl.length:=by omega
 have hi2:¬(400:Int)<ll.length:=by omega
 have hi3:¬(400:Int)<tl.length:=by omega
 clear h1 h2 h3;go_enter Tryz.func5,Tryz.ntmps5;go_wp2_with fail;rw[←hw0];clear hw0
 go_loopw [3] (fun i wr=>∃k:Nat,k≤ll.length∧i=.int .i64 k∧Hid (∀j,j<k→¬ 100<(ll.getD j lo0).xs.length)∧wr=w0) (fun i _=>ll.length - (intOf i).toNat)
 case atStart=>exact⟨0,Nat.zero_le _,rfl,aH (fun j hj=>absurd hj (Nat.not_lt_zero _)),rfl⟩
 case round=>
  obtain⟨k,hk,rfl,hno,rfl⟩:=hrel;have HNO:=aH hno.out;clear hno;by_cases hlt:k<ll.length
  ·obtain⟨b,off,rfl,hb,hbc,hcell⟩:=lo_cells HL.out (by omega);obtain⟨e1,e2,e3⟩:=hcell k hlt;have HYk:=aH (HYES.out k hlt);have HNk:=aH (show ¬ 100<(ll.getD k lo0).xs.length→∀j,j<k+1→¬ 100<(ll.getD j lo0).xs.length from fun h j hj=>by
    by_cases e:j=k
    ·rw[e];exact h
    ·exact HNO.out j (by omega))
   have hxl:(ll.getD k lo0).xs.length≤9223372036854775807∨True:=.inr trivial;clear hcell e1 e2 hxl;obtain⟨n,hn⟩:∃n,(ll.getD k lo0).xs.length=n:=⟨_,rfl⟩;rw[hn]at e3 HYk HNk;generalize (ll.getD k lo0).A=qA at *;generalize (ll.getD k lo0).c=qc at *;clear hn;by_cases h1:100<n
   ·have HR:=aH (show R=true by rw[HV.out,HYk.out (dT h1)];rfl);have h1i:(100:Int)<n:=by omega
    clear h1;go_wp2
    go_ret
    exact⟨by rw[HR.out];rfl,HB0.out⟩
   ·have HNX:=aH (HNk.out h1);have h1i:¬(100:Int)<n:=by omega
    clear h1;go_wp2
    go_roundw
    case rel=>exact⟨k+1,by omega,num_i (by omega),aH HNX.out,by trivial⟩
    case measure=>simp[intOf];omega
  ·obtain rfl:k=ll.length:=by omega
   have HR:=aH (show R=false by rw[HV.out,HNON.out HNO.out];rfl);go_wp2
   go_ret
   exact⟨by rw[HR.out];rfl,HB0.out⟩
end Go.Proofs.YtacjonncakhhmaaGreat
