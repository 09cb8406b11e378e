/- Stocks: a right stock stays right. -/
import Derived.Test.YtacjonncakhhmaaGreatPv00
import Derived.Test.YtacjonncakhhmaaGreatPv24
set_option maxRecDepth 100000
set_option maxHeartbeats 8000000
namespace Go.Proofs.YtacjonncakhhmaaGreat
open Go.RowKit
theorem drop_any (d:Dk) (s:Stk) (b':Int) (w:World) (hd:d.In w w.heap.size) (hs:s.In w w.heap.size):
  Calls Tryz.prog 20 #[d.v,s.v,.int .i64 b'] w fun e w'=>∃t:Stk,e=.returned (.tuple #[t.v,.int .i64 (cgE d s.ab b' (drE s.ab b'))])∧t.In w' w'.heap.size∧t.ab=(if cgE d s.ab b' (drE s.ab b')=0 then drA s.ab b' else ab0)∧Below w.heap.size w w':=by
 obtain⟨w0,hw0⟩:∃w0,w0=((((w.alloc d.ob).alloc s.ob).alloc (.cells #[.int .i64 b'] 3)).alloc zo):=⟨_,rfl⟩;have HB0:=aH (show Below w.heap.size w w0 by rw[hw0];exact bL (bL (bL (bL (bR _ _) _) _) _) _);have HD0:=aH (hd.then HB0.out);have HS0:=aH (hs.then HB0.out);have HK0:=aH (show DkAt w0 w.heap.size d by rw[hw0];exact(((Cells4.new w _ _ _ _ _).below (bL (bR _ _) _)).below (bL (bR _ _) _)).below (bL (bR _ _) _));have HT0:=aH (show SkAt w0 (w.heap.size+1) s by
  have e:(w.alloc d.ob).heap.size=w.heap.size+1:=by simp
  rw[hw0,←e];exact((Cells6.new (w.alloc d.ob) 31 _ _ _ _ _ _).below (bL (bR _ _) _)).below (bL (bR _ _) _))
 have HI0:=aH (show w0.cell? ⟨w.heap.size+2,0,none⟩=some (.int .i64 b')∧w0.heap.size=w.heap.size+4 by
  rw[hw0];refine⟨?_,by simp⟩
  ·have h:((w.alloc d.ob).alloc s.ob).heap.size=w.heap.size+2:=(by simp);refine kK (bL (bR _ _) _) (?_);rw[←h,alloc_at];rfl)
 have HR0:=aH (show Cells6 w0 (w.heap.size+3) (.slice none 0 0) (.slice none 0 0) (.slice none 0 0) (.int .i64 0) (.int .i64 0) (.int .i64 0)by
  have h:=Cells6.new (((w.alloc d.ob).alloc s.ob).alloc (.cells #[.int .i64 b'] 3)) 31 (.slice none 0 0) (.slice none 0 0) (.slice none 0 0) (.int .i64 0) (.int .i64 0) (.int .i64 0);rw[←hw0,show(((w.alloc d.ob).alloc s.ob).alloc (.cells #[.int .i64 b'] 3)).heap.size=w.heap.size+3 by simp]at h;exact h)
 have HC:=aH (change_any d s b' 49 #[.pointer (some ⟨w.heap.size+2,0,none⟩)] (drE s.ab b') (drA s.ab b') w0 HD0.out HS0.out (enters_of Tryz.func49 (by kernel_rfl) rfl) (fun hrg hb1' hb2' V B D t hM hab hT hD hb hle=>by
  have hI:=HI0.out;have hsz:w0.heap.size=w.heap.size+4:=hI.2;have hfb:fits b':=by have h:=hd.a;unfold fits at h⊢;omega
  have e1:s.ab=t.ab:=hab.symm;rw[e1];rw[e1]at hrg;exact drop1_any d t b' V B D _ hrg hM hT (kK hb hI.1)))
 generalize drE s.ab b'=dE at *;generalize drA s.ab b'=dA at *;generalize cgE d s.ab b' dE=E at *;generalize (if E=0 then dA else ab0)=dR at *;have hmf:∀(fn:Fn) (first cap:Array Value) (w:World),(Instr.makeFunc fn first cap).run Tryz.prog w=.ok (.func fn first cap) w:=fun _ _ _ _=>rfl;obtain⟨t0,t1,t2,t3,t4,t5,_⟩:=HT0.out;obtain⟨d0,d1,d2,d3,_⟩:=HK0.out;obtain⟨i0,_⟩:=HI0.out;clear hd hs;go_enter Tryz.func20,Tryz.ntmps20;go_wp2_with fail;rw[←hw0];clear hw0;refine HC.out.mono ?_;rintro e w1 ⟨t,rfl,ht,hab,hfar,hb1⟩;have hR1:=HR0.out.below hb1;obtain⟨r0,r1,r2,r3,r4,r5,y0,y1,y2,y3,y4,y5,_⟩:=hR1;have HR1:=aH (HR0.out.below hb1);have HB1:=aH (bC HB0.out hb1);have HTT:=aH (aI ht (aI hab hfar));clear ht hab hfar hb1 t0 t1 t2 t3 t4 t5 d0 d1 d2 d3 hmf i0;go_wp2;have hset:=HR1.out.setS t;obtain⟨q0,q1,q2,q3,q4,q5,_⟩:=hset;have hsz:w0.heap.size=w.heap.size+4:=HI0.out.2;refine bP (v:=.tuple #[t.v,.int .i64 E]) ?_ rfl ?_
 ·simp[results,Tryz.results20,go_sem,q0,q1,q2,q3,q4,q5]
 ·refine⟨t,rfl,?_,HTT.out.2.1,below_set6 HB1.out (by omega) _ _ _ _ _ _⟩;have:=HTT.out.1.set6 HTT.out.2.2 (D:=w.heap.size+3) (by omega) (.slice t.cA t.cl.length t.cc) (.slice t.lA t.ll.length t.lc) (.slice t.tA t.tl.length t.tc) (.int .i64 t.st) (.int .i64 t.inn) (.int .i64 t.out);simpa using this
theorem take_any (d:Dk) (s:Stk) (b' id:Int) (w:World) (hd:d.In w w.heap.size) (hs:s.In w w.heap.size) (hid:fits id):
  Calls Tryz.prog 16 #[d.v,s.v,.int .i64 b',.int .i64 id] w fun e w'=>∃t:Stk,e=.returned (.tuple #[t.v,.int .i64 (cgE d s.ab b' (taE d s.ab b' id))])∧t.In w' w'.heap.size∧t.ab=(if cgE d s.ab b' (taE d s.ab b' id)=0 then taA s.ab b' id else ab0)∧Below w.heap.size w w':=by
 obtain⟨w0,hw0⟩:∃w0,w0=(((((w.alloc d.ob).alloc s.ob).alloc (.cells #[.int .i64 b'] 3)).alloc (.cells #[.int .i64 id] 3)).alloc zo):=⟨_,rfl⟩;have HB0:=aH (show Below w.heap.size w w0 by rw[hw0];exact bL (bL (bL (bL (bL (bR _ _) _) _) _) _) _);have HD0:=aH (hd.then HB0.out);have HS0:=aH (hs.then HB0.out);have HK0:=aH (show DkAt w0 w.heap.size d by rw[hw0];exact((((Cells4.new w _ _ _ _ _).below (bL (bR _ _) _)).below (bL (bR _ _) _)).below (bL (bR _ _) _)).below (bL (bR _ _) _));have HT0:=aH (show SkAt w0 (w.heap.size+1) s by
  have e:(w.alloc d.ob).heap.size=w.heap.size+1:=by simp
  rw[hw0,←e];exact(((Cells6.new (w.alloc d.ob) 31 _ _ _ _ _ _).below (bL (bR _ _) _)).below (bL (bR _ _) _)).below (bL (bR _ _) _))
 have HI0:=aH (show w0.cell? ⟨w.heap.size+2,0,none⟩=some (.int .i64 b')∧w0.cell? ⟨w.heap.size+3,0,none⟩=some (.int .i64 id)∧w0.heap.size=w.heap.size+5 by
  rw[hw0];refine⟨?_,?_,by simp⟩
  ·have h:((w.alloc d.ob).alloc s.ob).heap.size=w.heap.size+2:=(by simp);refine kK (bL (bR _ _) _) (kK (bL (bR _ _) _) (?_));rw[←h,alloc_at];rfl
  ·have h:(((w.alloc d.ob).alloc s.ob).alloc (.cells #[.int .i64 b'] 3)).heap.size=w.heap.size+3:=(by simp);refine kK (bL (bR _ _) _) (?_);rw[←h,alloc_at];rfl)
 have HR0:=aH (show Cells6 w0 (w.heap.size+4) (.slice none 0 0) (.slice none 0 0) (.slice none 0 0) (.int .i64 0) (.int .i64 0) (.int .i64 0)by
  have h:=Cells6.new ((((w.alloc d.ob).alloc s.ob).alloc (.cells #[.int .i64 b'] 3)).alloc (.cells #[.int .i64 id] 3)) 31 (.slice none 0 0) (.slice none 0 0) (.slice none 0 0) (.int .i64 0) (.int .i64 0) (.int .i64 0);rw[←hw0,show((((w.alloc d.ob).alloc s.ob).alloc (.cells #[.int .i64 b'] 3)).alloc (.cells #[.int .i64 id] 3)).heap.size=w.heap.size+4 by simp]at h;exact h)
 have HC:=aH (change_any d s b' 40 #[.pointer (some ⟨w.heap.size,0,none⟩),.pointer (some ⟨w.heap.size+3,0,none⟩),.pointer (some ⟨w.heap.size+2,0,none⟩)] (taE d s.ab b' id) (taA s.ab b' id) w0 HD0.out HS0.out (enters_of Tryz.func40 (by kernel_rfl) rfl) (fun hrg hb1' hb2' V B D t hM hab hT hD hb hle=>by
  have hI:=HI0.out;have hsz:w0.heap.size=w.heap.size+5:=hI.2.2;have hfb:fits b':=by have h:=hd.a;unfold fits at h⊢;omega
  have e1:s.ab=t.ab:=hab.symm;rw[e1];rw[e1]at hrg;exact take1_any d t b' V B D _ _ _ id hrg hM hT hD hid hfb (HK0.out.below hb) (kK hb hI.2.1) (kK hb hI.1) (by omega)))
 generalize taE d s.ab b' id=dE at *;generalize taA s.ab b' id=dA at *;generalize cgE d s.ab b' dE=E at *;generalize (if E=0 then dA else ab0)=dR at *;have hmf:∀(fn:Fn) (first cap:Array Value) (w:World),(Instr.makeFunc fn first cap).run Tryz.prog w=.ok (.func fn first cap) w:=fun _ _ _ _=>rfl;obtain⟨t0,t1,t2,t3,t4,t5,_⟩:=HT0.out;obtain⟨d0,d1,d2,d3,_⟩:=HK0.out;obtain⟨i0,i1,_⟩:=HI0.out;clear hd hs;go_enter Tryz.func16,Tryz.ntmps16;go_wp2_with fail;rw[←hw0];clear hw0;refine HC.out.mono ?_;rintro e w1 ⟨t,rfl,ht,hab,hfar,hb1⟩;have hR1:=HR0.out.below hb1;obtain⟨r0,r1,r2,r3,r4,r5,y0,y1,y2,y3,y4,y5,_⟩:=hR1;have HR1:=aH (HR0.out.below hb1);have HB1:=aH (bC HB0.out hb1);have HTT:=aH (aI ht (aI hab hfar));clear ht hab hfar hb1 t0 t1 t2 t3 t4 t5 d0 d1 d2 d3 hmf i0 i1;go_wp2;have hset:=HR1.out.setS t;obtain⟨q0,q1,q2,q3,q4,q5,_⟩:=hset;have hsz:w0.heap.size=w.heap.size+5:=HI0.out.2.2;refine bP (v:=.tuple #[t.v,.int .i64 E]) ?_ rfl ?_
 ·simp[results,Tryz.results16,go_sem,q0,q1,q2,q3,q4,q5]
 ·refine⟨t,rfl,?_,HTT.out.2.1,below_set6 HB1.out (by omega) _ _ _ _ _ _⟩;have:=HTT.out.1.set6 HTT.out.2.2 (D:=w.heap.size+4) (by omega) (.slice t.cA t.cl.length t.cc) (.slice t.lA t.ll.length t.lc) (.slice t.tA t.tl.length t.tc) (.int .i64 t.st) (.int .i64 t.inn) (.int .i64 t.out);simpa using this
theorem gset_eq {α:Type} (l:List α) (k:Nat) (q z:α) (h:k<l.length):(l.set k q).getD k z=q:=by rw[List.getD_eq_getElem?_getD,List.getElem?_set_self h];rfl
theorem gset_ne {α:Type} (l:List α) (k j:Nat) (q z:α) (h:k≠j):(l.set k q).getD j z=l.getD j z:=by rw[List.getD_eq_getElem?_getD,List.getElem?_set_ne h,List.getD_eq_getElem?_getD]
def ptAb (a:Ab) (b':Int) (k:Nat) (c:Cel.Ce):Ab:={a with c:=a.c.set k c,l:=a.l.set k (ptA a k c b')}
theorem okW_parts {a f:Ab} {i:Nat} (h:okW a f i=true):(a.c.getD i ce0).Right∧(a.c.getD i ce0).a=(f.c.getD i ce0).a∧Lg.rgB (a.l.getD i (0,0,[])).1 (a.l.getD i (0,0,[])).2.1 (a.l.getD i (0,0,[])).2.2=true∧(a.l.getD i (0,0,[])).1=(f.l.getD i (0,0,[])).1∧(a.l.getD i (0,0,[])).2.1=(a.c.getD i ce0).c:=by
 unfold okW at h;rw[Bool.and_eq_true,Bool.and_eq_true,Bool.and_eq_true,Bool.and_eq_true,decide_eq_true_eq,decide_eq_true_eq,decide_eq_true_eq,decide_eq_true_eq]at h;exact⟨h.1.1,h.1.2,h.2.1.1,h.2.1.2,h.2.2⟩
theorem okW_mk {a f:Ab} {i:Nat} (h1:(a.c.getD i ce0).Right) (h2:(a.c.getD i ce0).a=(f.c.getD i ce0).a) (h3:Lg.rgB (a.l.getD i (0,0,[])).1 (a.l.getD i (0,0,[])).2.1 (a.l.getD i (0,0,[])).2.2=true) (h4:(a.l.getD i (0,0,[])).1=(f.l.getD i (0,0,[])).1) (h5:(a.l.getD i (0,0,[])).2.1=(a.c.getD i ce0).c):okW a f i=true:=by
 unfold okW;rw[Bool.and_eq_true,Bool.and_eq_true,Bool.and_eq_true,Bool.and_eq_true,decide_eq_true_eq,decide_eq_true_eq,decide_eq_true_eq,decide_eq_true_eq];exact⟨⟨h1,h2⟩,⟨h3,h4⟩,h5⟩
theorem rw_parts {a f:Ab} (h:rwB a f=true):a.c.length=f.c.length∧a.l.length=f.l.length∧∀i,i<a.c.length→okW a f i=true:=by
 unfold rwB at h;rw[Bool.and_eq_true,Bool.and_eq_true,decide_eq_true_eq,decide_eq_true_eq,List.all_eq_true]at h;exact⟨h.1.1,h.1.2,fun i hi=>h.2 i (List.mem_range.2 hi)⟩
theorem rw_mk {a f:Ab} (h1:a.c.length=f.c.length) (h2:a.l.length=f.l.length) (h3:∀i,i<a.c.length→okW a f i=true):rwB a f=true:=by
 unfold rwB;rw[Bool.and_eq_true,Bool.and_eq_true,decide_eq_true_eq,decide_eq_true_eq,List.all_eq_true];exact⟨⟨h1,h2⟩,fun i hi=>h3 i (List.mem_range.1 hi)⟩
theorem rw_pt {a f:Ab} {b':Int} {k:Nat} {c:Cel.Ce} (h:rwB a f=true) (hfl:f.c.length=f.l.length) (hk:k<a.c.length) (hc:c.Right) (ha:c.a=(a.c.getD k ce0).a) (hv:c.c=(a.c.getD k ce0).c+1) (hx:(a.c.getD k ce0).c≠2147483647) (hm:Lg.mayB b' (c.b-(a.c.getD k ce0).b)=true):rwB (ptAb a b' k c) f=true:=by
 obtain⟨h1,h2,h3⟩:=rw_parts h;have hkl:k<a.l.length:=by omega
 obtain⟨q1,q2,q3,q4,q5⟩:=okW_parts (h3 k hk);have hn:Lg.ntE (a.l.getD k (0,0,[])).1 (a.l.getD k (0,0,[])).2.1 (a.l.getD k (0,0,[])).2.2 b' (c.b-(a.c.getD k ce0).b)=0:=by
  unfold Lg.ntE;rw[q3,hm,if_neg (by simp),if_neg (by simp),if_neg (by rw[q5];exact hx)]
 have hr:=Lg.nt_right' hn;have e1:(ptAb a b' k c).c=a.c.set k c:=rfl;have e2:(ptAb a b' k c).l=a.l.set k (ptA a k c b'):=rfl;refine rw_mk (by rw[e1,List.length_set];exact h1) (by rw[e2,List.length_set];exact h2) (fun i hi=>?_);rw[e1,List.length_set]at hi;by_cases hik:k=i
 ·subst hik;have g1:(ptAb a b' k c).c.getD k ce0=c:=by rw[e1];exact gset_eq _ _ _ _ hk
  have g2:(ptAb a b' k c).l.getD k (0,0,[])=ptA a k c b':=by rw[e2];exact gset_eq _ _ _ _ hkl
  refine okW_mk (by rw[g1];exact hc) (by rw[g1,ha];exact q2) (by rw[g2];exact hr) ?_ ?_
  ·rw[g2,←q4];show Lg.ntR _ _ _ _ _=_;unfold Lg.ntR;rw[if_pos hn]
  ·rw[g2,g1,hv,←q5];show Lg.ntM _ _ _ _ _=_;unfold Lg.ntM;rw[if_pos hn]
 ·have g1:(ptAb a b' k c).c.getD i ce0=a.c.getD i ce0:=by rw[e1];exact gset_ne _ _ _ _ _ hik
  have g2:(ptAb a b' k c).l.getD i (0,0,[])=a.l.getD i (0,0,[]):=by rw[e2];exact gset_ne _ _ _ _ _ hik
  obtain⟨p1,p2,p3,p4,p5⟩:=okW_parts (h3 i hi);exact okW_mk (by rw[g1];exact p1) (by rw[g1];exact p2) (by rw[g2];exact p3) (by rw[g2];exact p4) (by rw[g2,g1];exact p5)
theorem sum_set (l:List Cel.Ce) (k:Nat) (c:Cel.Ce) (hk:k<l.length):Two.sumL (volS (l.set k c))=Two.sumL (volS l)+(c.b-(l.getD k ce0).b):=by
 induction l generalizing k with
 |nil=>simp at hk
 |cons x l ih=>
  cases k with
  |zero=>
   have e1:volS ((x::l).set 0 c)=c.b::volS l:=rfl;have e2:volS (x::l)=x.b::volS l:=rfl;have e3:(x::l).getD 0 ce0=x:=rfl;rw[e1,e2,e3,Two.sumL_cons,Two.sumL_cons];omega
  |succ k=>
   have e1:volS ((x::l).set (k+1) c)=x.b::volS (l.set k c):=rfl;have e2:volS (x::l)=x.b::volS l:=rfl;have e3:(x::l).getD (k+1) ce0=l.getD k ce0:=rfl;rw[e1,e2,e3,Two.sumL_cons,Two.sumL_cons,ih k (by simpa using hk)];omega
structure RgP (d:Dk) (a:Ab):Prop where
 z:zchk d=0
 w:rwB a (newA d)=true
 t:a.t.length=(newA d).t.length
 r:rtB a.t d.arms=true
 st:a.st=(newA d).st
 i:0≤a.inn∧a.inn≤1152921504606846976
 o:0≤a.out∧a.out≤1152921504606846976
 s:Two.sumL (volS a.c)=a.st+a.inn-a.out
theorem rw_all {a f:Ab} (h:rwB a f=true):∀q∈a.c,q.Right:=fun q hq=>by
 obtain⟨j,hj,rfl⟩:=List.getElem_of_mem hq;have:=(okW_parts ((rw_parts h).2.2 j hj)).1;rw[List.getD_eq_getElem?_getD,List.getElem?_eq_getElem hj]at this;exact this
theorem new_right (d:Dk) (h:zchk d=0):(∀q∈(newA d).c,q.Right)∧(newA d).c.length≤384:=by
 have hok:=dchk_ok d (zchk_d d h);exact⟨newC_right d.pl hok.pl d.pl.length (nR _),by have:=newA_len d h;omega⟩
theorem sum_small {l:List Cel.Ce} (h:∀q∈l,q.Right) (hl:l.length≤384):0≤Two.sumL (volS l)∧Two.sumL (volS l)≤422212465065984:=by
 have:=sumL_bd l h;omega
theorem rg_P (d:Dk) (a:Ab) (h:rgS d a=true):RgP d a:=by
 unfold rgS at h;rw[Bool.and_eq_true,Bool.and_eq_true,Bool.and_eq_true,Bool.and_eq_true,decide_eq_true_eq,decide_eq_true_eq]at h;obtain⟨hz,⟨⟨h1,h2⟩,h3⟩,h4⟩:=h;unfold rsB flowB at h4;rw[Bool.and_eq_true,Bool.and_eq_true,Bool.and_eq_true,decide_eq_true_eq,decide_eq_true_eq,Bool.and_eq_true,Bool.and_eq_true,decide_eq_true_eq,decide_eq_true_eq,decide_eq_true_eq,decide_eq_true_eq]at h4;obtain⟨⟨⟨k1,k2⟩,k3⟩,k4⟩:=h4;have hl:=newA_len d hz;have hr:=rw_len h1;have hs:=sum_small (rw_all h1) (by omega);have hn:=sum_small (new_right d hz).1 (new_right d hz).2;have hst:(newA d).st=Two.sumL (volS (newA d).c):=rfl;rw[fitV,if_pos (by unfold fits;omega),←w64,←w64]at k4;rw[wrap_fits (a.st+a.inn) (by unfold fits;omega)]at k4;rw[wrap_fits _ (by unfold fits;omega)]at k4;exact⟨hz,h1,h2,h3,k1,k2,k3,k4⟩
theorem P_rg (d:Dk) (a:Ab) (h:RgP d a):rgS d a=true:=by
 obtain⟨hz,h1,h2,h3,k1,k2,k3,k4⟩:=h;have hl:=newA_len d hz;have hr:=rw_len h1;have hs:=sum_small (rw_all h1) (by omega);have hn:=sum_small (new_right d hz).1 (new_right d hz).2;have hst:(newA d).st=Two.sumL (volS (newA d).c):=rfl;unfold rgS rsB flowB;rw[Bool.and_eq_true,Bool.and_eq_true,Bool.and_eq_true,Bool.and_eq_true,decide_eq_true_eq,decide_eq_true_eq,Bool.and_eq_true,Bool.and_eq_true,Bool.and_eq_true,decide_eq_true_eq,decide_eq_true_eq,Bool.and_eq_true,Bool.and_eq_true,decide_eq_true_eq,decide_eq_true_eq,decide_eq_true_eq,decide_eq_true_eq];refine⟨hz,⟨⟨h1,h2⟩,h3⟩,⟨⟨k1,k2⟩,k3⟩,?_⟩;rw[fitV,if_pos (by unfold fits;omega),←w64,←w64];rw[wrap_fits (a.st+a.inn) (by unfold fits;omega)];rw[wrap_fits _ (by unfold fits;omega)];exact k4
theorem rg_new (d:Dk) (hz:zchk d=0):rgS d (newA d)=true:=by
 have hok:=dchk_ok d (zchk_d d hz);have ha:0≤d.arms:=by have:=hok.arm;omega
 obtain⟨l1,l2,l3,l4,l5⟩:=newA_len d hz;refine P_rg d _ ⟨hz,?_,rfl,?_,rfl,(show(0:Int)≤0∧(0:Int)≤1152921504606846976 by decide),(show(0:Int)≤0∧(0:Int)≤1152921504606846976 by decide),?_⟩
 ·refine rw_mk rfl rfl (fun i hi=>?_);have hc:=(new_right d hz).1 _ (getD_mem' (newA d).c i ce0 hi);have hl:(newA d).l.getD i (0,0,[])=(8,0,[]):=by
   show(List.replicate (wellN d) ((8,0,[]):Int×Int×List Ch)).getD i (0,0,[])=(8,0,[]);rw[List.getD_eq_getElem?_getD,List.getElem?_replicate,if_pos (by omega)];rfl
  have hcc:((newA d).c.getD i ce0).c=0:=by
   have:∀n,∀q∈newCn d.pl n,q.c=0:=fun n q hq=>by
    unfold newCn plC at hq;rw[List.mem_flatMap]at hq;obtain⟨j,_,hq⟩:=hq;rw[List.mem_map]at hq;obtain⟨i,_,rfl⟩:=hq;rfl
   exact this _ _ (getD_mem' (newA d).c i ce0 hi)
  exact okW_mk hc rfl (by rw[hl];rfl) rfl (by rw[hl,hcc])
 ·refine rt_yes (fun k hk=>?_);have hg:∀j,j<(newA d).t.length→(newA d).t.getD j (0,0)=(1,0):=fun j hj=>by
   show(List.replicate (tipN d) ((1,0):Int×Int)).getD j (0,0)=(1,0);rw[List.getD_eq_getElem?_getD,List.getElem?_replicate,if_pos (by omega)];rfl
  have hb:hbB (newA d).t k 0=false:=by
   unfold hbB;rw[List.any_eq_false];intro q hq;have:q=(1,0):=by
    have h1:q∈List.replicate (tipN d) ((1,0):Int×Int):=List.mem_of_mem_take hq;exact List.eq_of_mem_replicate h1
   rw[this];decide
  unfold okT;rw[hg k hk];dsimp only;rw[hb,dT ha];decide
 ·show Two.sumL (volS (newA d).c)=Two.sumL (volS (newA d).c)+0-0;omega
theorem may_ok {d:Dk} {b' m:Int} {x:Cel.Ce} (ha:d.arms≤8) (h1:1≤b') (h2:b'≤d.arms) (h:Cel.chE x m=0):Lg.mayB b' ((Cel.chV x m).b-x.b)=true:=by
 rw[chV_b h];obtain⟨g1,g2,g3,g4,g5⟩:=ch_ok h;unfold Cel.Ce.Right at g1;unfold Lg.mayB;exact dT ⟨h1,by omega,by omega,by omega,g2⟩
theorem chV_r {x:Cel.Ce} {m:Int} (h:Cel.chE x m=0):(Cel.chV x m).Right∧(Cel.chV x m).a=x.a∧(Cel.chV x m).c=x.c+1:=by
 obtain⟨g1,g2,g3,g4,g5⟩:=ch_ok h;unfold Cel.Ce.Right at g1;unfold Cel.chV;rw[if_pos h];refine⟨?_,rfl,rfl⟩;unfold Cel.Ce.Right;dsimp only;omega
theorem new_lens {d:Dk} (hz:zchk d=0):(newA d).c.length=(newA d).l.length:=by have:=newA_len d hz;omega
theorem arms_ok {d:Dk} (hz:zchk d=0):1≤d.arms∧d.arms≤8:=(dchk_ok d (zchk_d d hz)).arm
theorem rg_pt {d:Dk} {a:Ab} {b' m:Int} {k:Nat} (hz:zchk d=0) (hw:rwB a (newA d)=true) (hk:k<a.c.length) (h1:1≤b') (h2:b'≤d.arms) (h:Cel.chE (a.c.getD k ce0) m=0):
  rwB (ptAb a b' k (Cel.chV (a.c.getD k ce0) m)) (newA d)=true∧Two.sumL (volS (ptAb a b' k (Cel.chV (a.c.getD k ce0) m)).c)=Two.sumL (volS a.c)+m:=by
 obtain⟨r1,r2,r3⟩:=chV_r h;refine⟨rw_pt hw (new_lens hz) hk r1 r2 r3 (ch_ok h).2.2.1 (may_ok (arms_ok hz).2 h1 h2 h),?_⟩;show Two.sumL (volS (a.c.set k _))=_;rw[sum_set _ _ _ hk,chV_b h]
theorem fo_ok {d:Dk} {a:Ab} {id m f:Int} (hd:dchk d=0) (h:foE d a id m f=0):(0≤id∧id<wellN d)∧Cel.chE (a.c.getD id.toNat ce0) m=0∧flowB f=true:=by
 unfold foE flE at h;by_cases hP:isP d 1 id=true
 case neg=>rw[if_neg hP]at h;cases h
 rw[if_pos hP]at h;by_cases he:Cel.chE (a.c.getD id.toNat ce0) m=0
 case neg=>rw[if_neg he]at h;exact absurd h he
 rw[if_pos he]at h;by_cases hf:flowB f=true
 case neg=>rw[if_neg hf]at h;cases h
 rw[(isP_eq d hd id).1]at hP;exact⟨of_decide_eq_true hP,he,hf⟩
theorem flow_ok {n:Int} (h:flowB n=true):0≤n∧n≤1152921504606846976:=by
 unfold flowB at h;rw[Bool.and_eq_true,decide_eq_true_eq,decide_eq_true_eq]at h;exact h
theorem rg_fill {d:Dk} {a:Ab} {b' id n:Int} (hr:rgS d a=true) (h1:1≤b') (h2:b'≤d.arms) (h:foE d a id (max n 0) (a.inn+n)=0):rgS d (foA a b' id.toNat (max n 0) 4 (a.inn+n))=true:=by
 have P:=rg_P d a hr;obtain⟨h3,h4,h5⟩:=fo_ok (zchk_d d P.z) h;have hl:=newA_len d P.z;have hw:=rw_len P.w;obtain⟨q1,q2⟩:=rg_pt P.z P.w (k:=id.toNat) (by omega) h1 h2 h4;have hm:=(ch_ok h4).2.1;refine P_rg d _ ⟨P.z,q1,P.t,P.r,P.st,flow_ok h5,P.o,?_⟩;show Two.sumL (volS (ptAb a b' id.toNat _).c)=a.st+(a.inn+n)-a.out;rw[q2,P.s];omega
theorem rg_waste {d:Dk} {a:Ab} {b' id n:Int} (hr:rgS d a=true) (h1:1≤b') (h2:b'≤d.arms) (h:foE d a id (-(max n 0)) (a.out+n)=0):rgS d (foA a b' id.toNat (-(max n 0)) 5 (a.out+n))=true:=by
 have P:=rg_P d a hr;obtain⟨h3,h4,h5⟩:=fo_ok (zchk_d d P.z) h;have hl:=newA_len d P.z;have hw:=rw_len P.w;obtain⟨q1,q2⟩:=rg_pt P.z P.w (k:=id.toNat) (by omega) h1 h2 h4;have hm:=(ch_ok h4).2.1;refine P_rg d _ ⟨P.z,q1,P.t,P.r,P.st,P.i,flow_ok h5,?_⟩;show Two.sumL (volS (ptAb a b' id.toNat _).c)=a.st+a.inn-(a.out+n);rw[q2,P.s];omega
noncomputable def moE (d:Dk) (a:Ab) (x y n:Int):Int:=if isP d 1 x=true∧isP d 1 y=true then(if x=y then 1 else Cel.mvE (a.c.getD x.toNat ce0) (a.c.getD y.toNat ce0) n)else 3
def moA (a:Ab) (b' x y n:Int):Ab:=ptAb (ptAb a b' x.toNat (Cel.mvX (a.c.getD x.toNat ce0) (a.c.getD y.toNat ce0) n)) b' y.toNat (Cel.mvY (a.c.getD x.toNat ce0) (a.c.getD y.toNat ce0) n)
theorem mv_ok {x y:Cel.Ce} {n:Int} (h:Cel.mvE x y n=0):Cel.chE x (-(max n 0))=0∧Cel.chE y (max n 0)=0∧Cel.mvX x y n=Cel.chV x (-(max n 0))∧Cel.mvY x y n=Cel.chV y (max n 0):=by
 have hx:Cel.mvX x y n=Cel.chV x (-(max n 0)):=by unfold Cel.mvX;rw[if_pos h]
 have hy:Cel.mvY x y n=Cel.chV y (max n 0):=by unfold Cel.mvY;rw[if_pos h]
 unfold Cel.mvE at h;by_cases h1:Cel.chE x (-(max n 0))=0
 ·rw[if_pos h1]at h;exact⟨h1,h,hx,hy⟩
 ·rw[if_neg h1]at h;exact absurd h h1
theorem mo_ok {d:Dk} {a:Ab} {x y n:Int} (hd:dchk d=0) (h:moE d a x y n=0):(0≤x∧x<wellN d)∧(0≤y∧y<wellN d)∧x≠y∧Cel.mvE (a.c.getD x.toNat ce0) (a.c.getD y.toNat ce0) n=0:=by
 unfold moE at h;by_cases hP:isP d 1 x=true∧isP d 1 y=true
 case neg=>rw[if_neg hP]at h;cases h
 rw[if_pos hP]at h;by_cases he:x=y
 ·rw[if_pos he]at h;cases h
 rw[if_neg he]at h;obtain⟨h1,h2⟩:=hP;rw[(isP_eq d hd _).1]at h1 h2;exact⟨of_decide_eq_true h1,of_decide_eq_true h2,he,h⟩
theorem rg_move {d:Dk} {a:Ab} {b' x y n:Int} (hr:rgS d a=true) (h1:1≤b') (h2:b'≤d.arms) (h:moE d a x y n=0):rgS d (moA a b' x y n)=true:=by
 have P:=rg_P d a hr;obtain⟨h3,h4,h5,h6⟩:=mo_ok (zchk_d d P.z) h;obtain⟨e1,e2,e3,e4⟩:=mv_ok h6;have hl:=newA_len d P.z;have hw:=rw_len P.w;obtain⟨q1,q2⟩:=rg_pt P.z P.w (k:=x.toNat) (by omega) h1 h2 e1;have hg:(ptAb a b' x.toNat (Cel.chV (a.c.getD x.toNat ce0) (-(max n 0)))).c.getD y.toNat ce0=a.c.getD y.toNat ce0:=gset_ne _ _ _ _ _ (by omega);rw[←hg]at e2;obtain⟨q3,q4⟩:=rg_pt P.z q1 (k:=y.toNat) (by show y.toNat<(a.c.set _ _).length;rw[List.length_set];omega) h1 h2 e2;rw[hg]at q3 q4;unfold moA;rw[e3,e4];refine P_rg d _ ⟨P.z,q3,P.t,P.r,P.st,P.i,P.o,?_⟩;rw[q4,q2,P.s];show _=a.st+a.inn-a.out;omega
theorem rt_iff (xs:List (Int×Int)) (arms:Int):rtB xs arms=true↔∀i,i<xs.length→Tp.ofV (xs.getD i (0,0)).1 (xs.getD i (0,0)).2≠0∧(xs.getD i (0,0)).2≤arms∧∀j,j<i→¬((xs.getD j (0,0)).1=2∧(xs.getD j (0,0)).2=(xs.getD i (0,0)).2):=by
 have hb:∀i,i<xs.length→∀b,(hbB xs i b=false↔∀j,j<i→¬((xs.getD j (0,0)).1=2∧(xs.getD j (0,0)).2=b)):=by
  intro i hi b
  induction i with
  |zero=>exact⟨fun _ j hj=>absurd hj (by omega),fun _=>by unfold hbB;simp⟩
  |succ i ih=>
   rw[hb_snoc xs i (by omega),Bool.or_eq_false_iff,ih (by omega)];constructor
   ·rintro⟨h1,h2⟩ j hj ⟨g1,g2⟩;rcases Nat.lt_succ_iff_lt_or_eq.1 hj with h|rfl
    ·exact h1 j h ⟨g1,g2⟩
    ·rw[g1,g2]at h2;simp at h2
   ·intro h;refine⟨fun j hj=>h j (by omega),?_⟩;have:=h i (by omega);by_cases h1:(xs.getD i (0,0)).1=2
    ·rw[h1];by_cases h2:(xs.getD i (0,0)).2=b
     ·exact absurd ⟨h1,h2⟩ this
     ·simp only[beq_self_eq_true,Bool.true_and];exact beq_eq_false_iff_ne.2 h2
    ·rw[beq_eq_false_iff_ne.2 h1,Bool.false_and]
 constructor
 ·intro h i hi;unfold rtB at h;rw[List.all_eq_true]at h;have:=h i (List.mem_range.2 hi);unfold okT at this;rw[Bool.and_eq_true,Bool.and_eq_true,Bool.not_eq_true',Bool.not_eq_true',decide_eq_true_eq,hb i hi]at this;exact⟨by simpa using this.1.1,this.1.2,this.2⟩
 ·intro h;refine rt_yes (fun i hi=>?_);obtain⟨h1,h2,h3⟩:=h i hi;unfold okT;rw[Bool.and_eq_true,Bool.and_eq_true,Bool.not_eq_true',Bool.not_eq_true',decide_eq_true_eq,hb i hi];exact⟨⟨by simpa using h1,h2⟩,h3⟩
theorem ofV_2 (s b:Int):(Tp.ofV s b==2)=true↔s=2∧1≤b∧b≤8:=by
 unfold Tp.ofV
 split
 ·rename_i h
  constructor
  ·intro h2;have:=(beq_iff_eq).1 h2;omega
  ·intro h2;omega
 ·split
  ·rename_i h;exact⟨fun _=>h,fun _=>rfl⟩
  ·rename_i h
   constructor
   ·intro h2;exact absurd h2 (by decide)
   ·intro h2;exact absurd h2 h
theorem hd_no {a:Ab} {b':Int} (h1:1≤b') (h8:b'≤8) (h:(hdF a b').2≠true):∀j,j<a.t.length→¬((a.t.getD j (0,0)).1=2∧(a.t.getD j (0,0)).2=b'):=by
 intro j hj ⟨g1,g2⟩;apply h;unfold hdF Tp.fstV
 cases e:(List.range a.t.length).find? (Tp.hdP a.t b' 0)with
 |some i=>rfl
 |none=>
  exfalso;rw[List.find?_range_eq_none]at e;have:=e j hj;unfold Tp.hdP at this;rw[(ofV_2 _ _).2 ⟨g1,by omega,by omega⟩,g2]at this;simp at this
theorem hd_yes {a:Ab} {b':Int} (h:(hdF a b').2=true):∃k:Nat,(hdF a b').1=k∧k<a.t.length∧(a.t.getD k (0,0)).1=2∧(a.t.getD k (0,0)).2=b':=by
 unfold hdF Tp.fstV at h⊢
 cases e:(List.range a.t.length).find? (Tp.hdP a.t b' 0)with
 |none=>rw[e]at h;cases h
 |some i=>
  have hp:=List.find?_some e;unfold Tp.hdP at hp;rw[Bool.and_eq_true,Bool.and_eq_true,ofV_2]at hp;exact⟨i,rfl,List.mem_range.1 (List.mem_of_find?_eq_some e),hp.2.1.1,by simpa using hp.2.2⟩
theorem ofV_nz {s b:Int} (h:Tp.ofV s b≠0):((s=1∨s=3)∧b=0)∨(s=2∧1≤b∧b≤8):=by
 unfold Tp.ofV at h
 split at h
 ·left;assumption
 ·split at h
  ·right;assumption
  ·exact absurd rfl h
theorem ta_ok {d:Dk} {a:Ab} {b' id:Int} (hd:dchk d=0) (h:taE d a b' id=0):(wellN d≤id∧id<wellN d+tipN d)∧(hdF a b').2≠true∧Tp.tkE (a.t.getD (tiK a id) (0,0)).1 (a.t.getD (tiK a id) (0,0)).2 b'=0:=by
 unfold taE at h;by_cases hP:isP d 2 id=true
 case neg=>rw[if_neg hP]at h;cases h
 rw[if_pos hP]at h;by_cases hf:(hdF a b').2=true
 ·rw[if_pos hf]at h;cases h
 rw[if_neg hf]at h;rw[(isP_eq d hd id).2]at hP;exact⟨of_decide_eq_true hP,hf,h⟩
theorem rg_take {d:Dk} {a:Ab} {b' id:Int} (hr:rgS d a=true) (h1:1≤b') (h2:b'≤d.arms) (h:taE d a b' id=0):rgS d (taA a b' id)=true:=by
 have P:=rg_P d a hr;obtain⟨h3,h4,h5⟩:=ta_ok (zchk_d d P.z) h;have hl:=newA_len d P.z;have hw:=rw_len P.w;have ht:=P.t;have h8:=(arms_ok P.z).2;have hk:tiK a id<a.t.length:=by unfold tiK;omega
 obtain⟨k,ek⟩:∃k,tiK a id=k:=⟨_,rfl⟩;have hv:Tp.tkV (a.t.getD (tiK a id) (0,0)).1 (a.t.getD (tiK a id) (0,0)).2 b'=(2,b'):=by unfold Tp.tkV;rw[if_pos h5]
 refine P_rg d _ ⟨P.z,P.w,by show(a.t.set _ _).length=_;rw[List.length_set];exact ht,?_,P.st,P.i,P.o,P.s⟩;have hR:=(rt_iff _ _).1 P.r;have hN:=hd_no h1 (by omega) h4;show rtB (a.t.set (tiK a id) (Tp.tkV (a.t.getD (tiK a id) (0,0)).1 (a.t.getD (tiK a id) (0,0)).2 b')) d.arms=true;rw[hv];rw[ek]at hk⊢;refine(rt_iff _ _).2 (fun i hi=>?_);rw[List.length_set]at hi;obtain⟨r1,r2,r3⟩:=hR i hi;by_cases hik:k=i
 ·subst hik;rw[gset_eq _ _ _ _ hk];refine⟨?_,h2,fun j hj=>?_⟩
  ·have:=(ofV_2 2 b').2 ⟨rfl,h1,by omega⟩;intro h0;rw[h0]at this
   cases this
  ·rw[gset_ne _ _ _ _ _ (by omega)];exact hN j (by omega)
 ·rw[gset_ne _ _ _ _ _ hik];refine⟨r1,r2,fun j hj=>?_⟩;by_cases hjk:k=j
  ·subst hjk;rw[gset_eq _ _ _ _ hk];rintro⟨_,g⟩;dsimp only at g;have:=hN i hi;rcases ofV_nz r1 with q|q
   ·omega
   ·exact this ⟨q.1,g.symm⟩
  ·rw[gset_ne _ _ _ _ _ hjk];exact r3 j hj
theorem dr_ok {a:Ab} {b':Int} (h:drE a b'=0):(hdF a b').2=true∧Tp.dpE (a.t.getD (hdF a b').1.toNat (0,0)).1 (a.t.getD (hdF a b').1.toNat (0,0)).2 b'=0:=by
 unfold drE at h;by_cases hf:(hdF a b').2=true
 ·rw[if_pos hf]at h;exact⟨hf,h⟩
 ·rw[if_neg hf]at h;cases h
theorem rg_drop {d:Dk} {a:Ab} {b':Int} (hr:rgS d a=true) (h:drE a b'=0):rgS d (drA a b')=true:=by
 have P:=rg_P d a hr;obtain⟨h4,h5⟩:=dr_ok h;obtain⟨k,ek,hk,_,_⟩:=hd_yes h4;have ht:=P.t;have h0:=(arms_ok P.z).1;have e2:(hdF a b').1.toNat=k:=by omega
 have hv:Tp.dpV (a.t.getD (hdF a b').1.toNat (0,0)).1 (a.t.getD (hdF a b').1.toNat (0,0)).2 b'=(3,0):=by unfold Tp.dpV;rw[if_pos h5]
 refine P_rg d _ ⟨P.z,P.w,by show(a.t.set _ _).length=_;rw[List.length_set];exact ht,?_,P.st,P.i,P.o,P.s⟩;have hR:=(rt_iff _ _).1 P.r;show rtB (a.t.set (hdF a b').1.toNat (Tp.dpV (a.t.getD (hdF a b').1.toNat (0,0)).1 (a.t.getD (hdF a b').1.toNat (0,0)).2 b')) d.arms=true;rw[hv,e2];refine(rt_iff _ _).2 (fun i hi=>?_);rw[List.length_set]at hi;obtain⟨r1,r2,r3⟩:=hR i hi;by_cases hik:k=i
 ·subst hik;rw[gset_eq _ _ _ _ hk];refine⟨by decide,by show(0:Int)≤_;omega,fun j hj=>?_⟩;rw[gset_ne _ _ _ _ _ (by omega)];rintro⟨g1,g2⟩;dsimp only at g2;rcases ofV_nz (hR j (by omega)).1 with q|q<;>omega
 ·rw[gset_ne _ _ _ _ _ hik];refine⟨r1,r2,fun j hj=>?_⟩;by_cases hjk:k=j
  ·subst hjk;rw[gset_eq _ _ _ _ hk];rintro⟨g,_⟩;dsimp only at g;omega
  ·rw[gset_ne _ _ _ _ _ hjk];exact r3 j hj
end Go.Proofs.YtacjonncakhhmaaGreat
