/- Stocks: one whose rows are the call's own. -/
import Derived.Test.YtacjonncakhhmaaGreatPy00
import Derived.Test.YtacjonncakhhmaaGreatPy25
import Derived.Test.YtacjonncakhhmaaGreatPy26
set_option maxRecDepth 100000
set_option maxHeartbeats 8000000
namespace Go.Proofs.YtacjonncakhhmaaGreat
open Go.RowKit
theorem rg_lens (d:Dk) (s:Stk) (h:rgS d s.ab=true):s.cl.length≤384∧s.ll.length≤384∧s.tl.length≤384∧(∀q∈s.ll,q.xs.length≤64)∧s.cl.length=wellN d∧s.ll.length=wellN d∧s.tl.length=tipN d∧zchk d=0:=by
 unfold rgS at h;rw[Bool.and_eq_true,Bool.and_eq_true,Bool.and_eq_true,Bool.and_eq_true,decide_eq_true_eq,decide_eq_true_eq]at h;obtain⟨hz,⟨⟨h1,h2⟩,_⟩,_⟩:=h;obtain⟨n1,n2,n3,n4,n5⟩:=newA_len d hz;obtain⟨l1,l2⟩:=rw_len h1;have e1:s.ab.c=s.cl:=rfl;have e2:s.ab.l.length=s.ll.length:=by show(s.ll.map Lo.ab).length=_;rw[List.length_map]
 have e3:s.ab.t=s.tl:=rfl;rw[e1,n1]at l1;rw[e2,n2]at l2;rw[e3,n4]at h2;refine⟨by omega,by omega,by omega,fun q hq=>?_,l1,l2,h2,hz⟩;unfold rwB at h1;rw[Bool.and_eq_true,List.all_eq_true]at h1;obtain⟨j,hj,rfl⟩:=List.getElem_of_mem hq;have:=h1.2 j (List.mem_range.2 (by rw[e1];omega));unfold okW at this;rw[Bool.and_eq_true,Bool.and_eq_true,Bool.and_eq_true]at this;have h3:=this.2.1;rw[Bool.and_eq_true]at h3;have hr:=h3.1;rw[ab_l s j hj]at hr;have e:s.ll.getD j lo0=s.ll[j]:=by rw[List.getD_eq_getElem?_getD,List.getElem?_eq_getElem hj];rfl
 rw[e]at hr;have:=(Lg.rg_parts hr).1;unfold Lg.rgC at this;dsimp only at this;omega
def Stk.Far (s:Stk) (B:Nat):Prop:=(∀a,s.cA=some a→B≤a.block)∧(∀a,s.lA=some a→B≤a.block)∧(∀a,s.tA=some a→B≤a.block)∧∀q∈s.ll,∀a,q.A=some a→B≤a.block
theorem stk0_far (B:Nat):stk0.Far B:=by
 unfold Stk.Far;refine⟨fun a h=>?_,fun a h=>?_,fun a h=>?_,fun q hq=>?_⟩
 ·simp[stk0]at h
 ·simp[stk0]at h
 ·simp[stk0]at h
 ·simp[stk0]at hq
theorem Mine.farr {V:World} {B D G:Nat} {s:Stk} (h:Mine V B D s) (hG:G≤B):s.Far G:=
 ⟨fun a ha=>Nat.le_trans hG (h.c.lt a.block (bk_own (by rw[ha];rfl))).1,fun a ha=>Nat.le_trans hG (h.l.lt a.block (bk_own (by rw[ha];rfl))).1,fun a ha=>Nat.le_trans hG (h.t.lt a.block (bk_own (by rw[ha];rfl))).1,fun q hq a ha=>Nat.le_trans hG (h.y q hq a ha).2.2.2⟩
theorem Stk.In.set1 {w:World} {G B D o:Nat} {s:Stk} (h:s.In w G) (hf:s.Far B) (hD:D<B) (u:Value):s.In (w.setCell ⟨D,o,none⟩ u) G:=
 ⟨h.c.far (fun a ha=>by have:=hf.1 a ha;omega) o u,h.l.far (fun a ha=>by have:=hf.2.1 a ha;omega) o u,h.t.far (fun a ha=>by have:=hf.2.2.1 a ha;omega) o u,fun q hq=>(h.x q hq).far (fun a ha=>by have:=hf.2.2.2 q hq a ha;omega) o u,h.f⟩
theorem Stk.In.set6 {w:World} {G B D:Nat} {s:Stk} (h:s.In w G) (hf:s.Far B) (hD:D<B) (p0 p1 p2 p3 p4 p5:Value):s.In ((((((w.setCell ⟨D,0,none⟩ p0).setCell ⟨D,1,none⟩ p1).setCell ⟨D,2,none⟩ p2).setCell ⟨D,3,none⟩ p3).setCell ⟨D,4,none⟩ p4).setCell ⟨D,5,none⟩ p5) G:=
 (((((h.set1 hf hD p0).set1 hf hD p1).set1 hf hD p2).set1 hf hD p3).set1 hf hD p4).set1 hf hD p5
noncomputable def cgE (d:Dk) (a:Ab) (b':Int) (E:Int):Int:=if rgS d a=true then(if 1≤b'∧b'≤d.arms then E else 1)else 130
theorem change_any (d:Dk) (s:Stk) (b':Int) (kf:Nat) (cap:Array Value) (dE:Int) (dA:Ab) (w:World) (hd:d.In w w.heap.size) (hs:s.In w w.heap.size) (hen:∀args w,(callFunc kf args).run Tryz.prog w=.ok (.enter kf args) w)
  (hdo:rgS d s.ab=true→1≤b'→b'≤d.arms→∀(V:World) (B D:Nat) (t:Stk),Mine V B D t→t.ab=s.ab→Tl V D d b'→d.In V D→Below w.heap.size w V→w.heap.size≤D→Calls Tryz.prog kf (#[.pointer (some ⟨D,0,none⟩)]++cap) V fun e V'=>e=.returned (.int .i64 dE)∧(dE=0→∃t':Stk,Mine V' B D t'∧t'.ab=dA∧t'.cl.length≤100000∧t'.ll.length≤100000∧t'.tl.length≤100000)∧Below D V V'):
  Calls Tryz.prog 34 #[d.v,s.v,.int .i64 b',.func (.func kf) #[] cap] w fun e w'=>∃t:Stk,e=.returned (.tuple #[t.v,.int .i64 (cgE d s.ab b' dE)])∧t.In w' w'.heap.size∧t.ab=(if cgE d s.ab b' dE=0 then dA else ab0)∧t.Far w.heap.size∧Below w.heap.size w w':=by
 obtain⟨w0,hw0⟩:∃w0,w0=((w.alloc (.cells #[.slice d.bA d.bn d.bc,.slice d.pA d.pn d.pc,.slice d.rA d.rn d.rc,.int .i64 d.arms] 26)).alloc (.cells #[.slice s.cA s.cl.length s.cc,.slice s.lA s.ll.length s.lc,.slice s.tA s.tl.length s.tc,.int .i64 s.st,.int .i64 s.inn,.int .i64 s.out] 31)).alloc (.cells #[.slice none 0 0,.slice none 0 0,.slice none 0 0,.int .i64 0,.int .i64 0,.int .i64 0] 31):=⟨_,rfl⟩;have HB0:=aH (show Below w.heap.size w w0 by rw[hw0];exact bL (bL (bL (bR _ _) _) _) _);have HD0:=aH (hd.then HB0.out);have HS0:=aH (hs.then HB0.out);have HSw:=aH hs;have HDw:=aH hd;have HK0:=aH (show DkAt w0 w.heap.size d by rw[hw0];exact((Cells4.new w _ _ _ _ _).below (bL (bR _ _) _)).below (bL (bR _ _) _));have HT0:=aH (show SkAt w0 (w.heap.size+1) s by
  have h:=(Cells6.new (w.alloc (.cells #[.slice d.bA d.bn d.bc,.slice d.pA d.pn d.pc,.slice d.rA d.rn d.rc,.int .i64 d.arms] 26)) 31 (.slice s.cA s.cl.length s.cc) (.slice s.lA s.ll.length s.lc) (.slice s.tA s.tl.length s.tc) (.int .i64 s.st) (.int .i64 s.inn) (.int .i64 s.out)).below (bL (bR _ _) (.cells #[.slice none 0 0,.slice none 0 0,.slice none 0 0,.int .i64 0,.int .i64 0,.int .i64 0] 31));rw[←hw0,show(w.alloc (.cells #[.slice d.bA d.bn d.bc,.slice d.pA d.pn d.pc,.slice d.rA d.rn d.rc,.int .i64 d.arms] 26)).heap.size=w.heap.size+1 by simp]at h;exact h)
 have HR0:=aH (show Cells6 w0 (w.heap.size+2) (.slice none 0 0) (.slice none 0 0) (.slice none 0 0) (.int .i64 0) (.int .i64 0) (.int .i64 0)by
  have h:=Cells6.new ((w.alloc (.cells #[.slice d.bA d.bn d.bc,.slice d.pA d.pn d.pc,.slice d.rA d.rn d.rc,.int .i64 d.arms] 26)).alloc (.cells #[.slice s.cA s.cl.length s.cc,.slice s.lA s.ll.length s.lc,.slice s.tA s.tl.length s.tc,.int .i64 s.st,.int .i64 s.inn,.int .i64 s.out] 31)) 31 (.slice none 0 0) (.slice none 0 0) (.slice none 0 0) (.int .i64 0) (.int .i64 0) (.int .i64 0);rw[←hw0,show((w.alloc (.cells #[.slice d.bA d.bn d.bc,.slice d.pA d.pn d.pc,.slice d.rA d.rn d.rc,.int .i64 d.arms] 26)).alloc (.cells #[.slice s.cA s.cl.length s.cc,.slice s.lA s.ll.length s.lc,.slice s.tA s.tl.length s.tc,.int .i64 s.st,.int .i64 s.inn,.int .i64 s.out] 31)).heap.size=w.heap.size+2 by simp]at h;exact h)
 have HRG:=aH (fun w h1 h2=>right_s d s w h1 h2);have HLN:=aH (rg_lens d s);have HDO:=aH hdo;have HEN:=aH hen;have HE:=aH (show cgE d s.ab b' dE=(if rgS d s.ab=true then(if 1≤b'∧b'≤d.arms then dE else 1)else 130)from rfl);generalize cgE d s.ab b' dE=E at *;clear hd hs hdo hen;obtain⟨t0,t1,t2,t3,t4,t5,_⟩:=HT0.out;obtain⟨d0,d1,d2,d3,_⟩:=HK0.out;clear t0 t1 t2 t3 t4 t5 d0 d1 d2 d3;obtain⟨r,hr⟩:∃r,rgS d s.ab=r:=⟨_,rfl⟩;rw[hr]at HE HRG HDO HLN;clear hr
 cases r
 case false=>
  have hE:E=130:=by rw[HE.out];rfl
  subst hE;go_enter Tryz.func34,Tryz.ntmps34;go_wp2_with fail;rw[←hw0];clear hw0;refine(HRG.out _ HD0.out HS0.out).mono ?_;rintro e w1 ⟨rfl,hb1⟩;have HB1:=aH (bC HB0.out hb1);have hr:=HR0.out.below hb1;have HR1:=aH hr;obtain⟨r0,r1,r2,r3,r4,r5,y0,y1,y2,y3,y4,y5,_⟩:=hr;clear hb1;go_wp2;have hset:=HR1.out.set (.slice none 0 0) (.slice none 0 0) (.slice none 0 0) (.int .i64 0) (.int .i64 0) (.int .i64 0);obtain⟨q0,q1,q2,q3,q4,q5,_⟩:=hset;refine bP (v:=.tuple #[stk0.v,.int .i64 130]) ?_ rfl ?_
  ·simp[results,Tryz.results34,go_sem,q0,q1,q2,q3,q4,q5,stk0]
  ·exact⟨stk0,rfl,stk0_in _ _,rfl,stk0_far _,below_set6 HB1.out (by omega) _ _ _ _ _ _⟩
 case true=>
  have HLT:=aH (HLN.out rfl);clear HLN;rw[if_pos rfl]at HE;by_cases hby:1≤b'∧b'≤d.arms
  case neg=>
   have hE:E=1:=by rw[HE.out,if_neg hby]
   subst hE;have HARM:=aH hby;by_cases hb1':b'<1
   all_goals
    have hb2':b'<1∨d.arms<b':=by omega
    clear hby;go_enter Tryz.func34,Tryz.ntmps34;go_wp2_with fail;rw[←hw0];clear hw0;refine(HRG.out _ HD0.out HS0.out).mono ?_;rintro e w1 ⟨rfl,hb1⟩;have HB1:=aH (bC HB0.out hb1);have hr:=HR0.out.below hb1;have HR1:=aH hr;obtain⟨d0,d1,d2,d3,_⟩:=HK0.out.below hb1;obtain⟨r0,r1,r2,r3,r4,r5,y0,y1,y2,y3,y4,y5,_⟩:=hr;clear hb1;have hb3':¬b'<1→d.arms<b':=by omega
    (try have hb4':=hb3' (by omega))
    clear hb3' hb2';go_wp2;have hset:=HR1.out.set (.slice none 0 0) (.slice none 0 0) (.slice none 0 0) (.int .i64 0) (.int .i64 0) (.int .i64 0);obtain⟨q0,q1,q2,q3,q4,q5,_⟩:=hset;refine bP (v:=.tuple #[stk0.v,.int .i64 1]) ?_ rfl ?_
    ·simp[results,Tryz.results34,go_sem,q0,q1,q2,q3,q4,q5,stk0]
    ·exact⟨stk0,rfl,stk0_in _ _,rfl,stk0_far _,below_set6 HB1.out (by omega) _ _ _ _ _ _⟩
  have hE:E=dE:=by rw[HE.out,if_pos hby]
  subst hE;obtain⟨hby1,hby2⟩:=hby;have HDT:=aH (HDO.out rfl hby1 hby2);clear HDO;go_enter Tryz.func34,Tryz.ntmps34;go_wp2_with fail;rw[←hw0];clear hw0;refine(HRG.out _ HD0.out HS0.out).mono ?_;rintro e w1 ⟨rfl,hb1⟩;have HB1:=aH (bC HB0.out hb1);have HR1:=aH (HR0.out.below hb1);obtain⟨d0,d1,d2,d3,_⟩:=HK0.out.below hb1;obtain⟨t0,t1,t2,t3,t4,t5,_⟩:=HT0.out.below hb1;have hRs:w.heap.size+2<w1.heap.size:=by obtain⟨_,_,_,_,_,_,_,_,_,_,_,_,h⟩:=HR1.out;exact h
  have HRs:=aH hRs;have hba:=bL (bR w1.heap.size w1) (.cells #[.slice s.cA s.cl.length s.cc,.slice s.lA s.ll.length s.lc,.slice s.tA s.tl.length s.tc,.int .i64 s.st,.int .i64 s.inn,.int .i64 s.out,.slice d.bA d.bn d.bc,.slice d.pA d.pn d.pc,.slice d.rA d.rn d.rc,.int .i64 d.arms,.int .i64 b'] 84);have HB2:=aH (bC HB1.out hba);have HR2:=aH (HR1.out.below hba);have HSK:=aH (show SkAt (w1.alloc (.cells #[.slice s.cA s.cl.length s.cc,.slice s.lA s.ll.length s.lc,.slice s.tA s.tl.length s.tc,.int .i64 s.st,.int .i64 s.inn,.int .i64 s.out,.slice d.bA d.bn d.bc,.slice d.pA d.pn d.pc,.slice d.rA d.rn d.rc,.int .i64 d.arms,.int .i64 b'] 84)) w1.heap.size s from⟨by rw[alloc_at];rfl,by rw[alloc_at];rfl,by rw[alloc_at];rfl,by rw[alloc_at];rfl,by rw[alloc_at];rfl,by rw[alloc_at];rfl,by simp,by simp,by simp,by simp,by simp,by simp,by simp⟩);have HTL:=aH (show Tl (w1.alloc (.cells #[.slice s.cA s.cl.length s.cc,.slice s.lA s.ll.length s.lc,.slice s.tA s.tl.length s.tc,.int .i64 s.st,.int .i64 s.inn,.int .i64 s.out,.slice d.bA d.bn d.bc,.slice d.pA d.pn d.pc,.slice d.rA d.rn d.rc,.int .i64 d.arms,.int .i64 b'] 84)) w1.heap.size d b' from⟨by rw[alloc_at];rfl,by rw[alloc_at];rfl,by rw[alloc_at];rfl,by rw[alloc_at];rfl,by rw[alloc_at];rfl,by simp⟩);have HSD:=aH ((HSw.out.then HB1.out).below hba);have HDD:=aH ((HDw.out.then HB1.out).below hba);clear hb1 hRs;go_wp2_with fail;generalize w1.alloc (.cells #[.slice s.cA s.cl.length s.cc,.slice s.lA s.ll.length s.lc,.slice s.tA s.tl.length s.tc,.int .i64 s.st,.int .i64 s.inn,.int .i64 s.out,.slice d.bA d.bn d.bc,.slice d.pA d.pn d.pc,.slice d.rA d.rn d.rc,.int .i64 d.arms,.int .i64 b'] 84)=V at *;obtain⟨D,hD⟩:∃D,w1.heap.size=D:=⟨_,rfl⟩;rw[hD]at HSK HTL HSD HDD HRs
  try simp only[hD]
  have HDw1:=aH (show w.heap.size+2<D from HRs.out);have HDV:=aH (show D<V.heap.size from HTL.out.2.2.2.2.2);clear d0 d1 d2 d3 t0 t1 t2 t3 t4 t5 hba HB1 HR1 hD;refine(renew_any s D d b' V HSD.out HSK.out HTL.out (by have:=HLT.out.1;omega) (by have:=HLT.out.2.1;omega) (by have:=HLT.out.2.2.1;omega) (fun q hq=>by have:=HLT.out.2.2.2.1 q hq;omega)).mono ?_;rintro e V2 ⟨t,rfl,hab,hM,hT,hb2⟩;have HB3:=aH (HB2.out.trans (hb2.mono (by have:=HDw1.out;omega)));have HR3:=aH (HR2.out.low hb2 HDw1.out);have HCL:=aH (HDT.out V2 V.heap.size D t hM hab hT (HDD.out.below hb2) HB3.out (by have:=HDw1.out;omega));clear hab hM hT hb2 HSK HTL HSD HB2 HR2;have hen:=HEN.out;go_wp2_with fail;refine HCL.out.mono ?_;rintro e V3 ⟨rfl,hM,hb3⟩;have HB4:=aH (HB3.out.trans (hb3.mono (by have:=HDw1.out;omega)));have HR4:=aH (HR3.out.low hb3 HDw1.out);have HM:=aH hM;obtain⟨r0,r1,r2,r3,r4,r5,y0,y1,y2,y3,y4,y5,_⟩:=HR4.out;clear hM hb3 hen HR3 HB3;by_cases hz:E=0
  case neg=>
   have hz':(E==0)=false:=by simpa using hz
   have HZ:=aH hz;clear hz;go_wp2;have hset:=HR4.out.set (.slice none 0 0) (.slice none 0 0) (.slice none 0 0) (.int .i64 0) (.int .i64 0) (.int .i64 0);obtain⟨q0,q1,q2,q3,q4,q5,_⟩:=hset;refine bP (v:=.tuple #[stk0.v,.int .i64 E]) ?_ rfl ?_
   ·simp[results,Tryz.results34,go_sem,q0,q1,q2,q3,q4,q5,stk0]
   ·exact⟨stk0,rfl,stk0_in _ _,by first | rfl | (rw[if_neg HZ.out];rfl),stk0_far _,below_set6 HB4.out (by omega) _ _ _ _ _ _⟩
  ·subst hz;obtain⟨t',hM,hab,hl1,hl2,hl3⟩:=HM.out rfl;have HMM:=aH hM;clear HM;obtain⟨x0,x1,x2,x3,x4,x5,_⟩:=hM.at';clear hM;go_wp2;have hset:=HR4.out.set (.slice t'.cA t'.cl.length t'.cc) (.slice t'.lA t'.ll.length t'.lc) (.slice t'.tA t'.tl.length t'.tc) (.int .i64 t'.st) (.int .i64 t'.inn) (.int .i64 t'.out);obtain⟨q0,q1,q2,q3,q4,q5,_⟩:=hset;have hR:w.heap.size+2<V.heap.size:=by have:=HDw1.out;have:=HDV.out;omega
   have C1:=(HMM.out.c.set6 (D:=w.heap.size+2) hR (.slice t'.cA t'.cl.length t'.cc) (.slice t'.lA t'.ll.length t'.lc) (.slice t'.tA t'.tl.length t'.tc) (.int .i64 t'.st) (.int .i64 t'.inn) (.int .i64 t'.out)).isL (by omega);have C2:=(HMM.out.l.set6 (D:=w.heap.size+2) hR (.slice t'.cA t'.cl.length t'.cc) (.slice t'.lA t'.ll.length t'.lc) (.slice t'.tA t'.tl.length t'.tc) (.int .i64 t'.st) (.int .i64 t'.inn) (.int .i64 t'.out)).isL (by omega);have C3:=(HMM.out.t.set6 (D:=w.heap.size+2) hR (.slice t'.cA t'.cl.length t'.cc) (.slice t'.lA t'.ll.length t'.lc) (.slice t'.tA t'.tl.length t'.tc) (.int .i64 t'.st) (.int .i64 t'.inn) (.int .i64 t'.out)).isL (by omega);refine bP (v:=.tuple #[t'.v,.int .i64 0]) ?_ rfl ?_
   ·simp[results,Tryz.results34,go_sem,q0,q1,q2,q3,q4,q5]
   ·refine⟨t',rfl,⟨C1,C2,C3,fun q hq=>?_,HMM.out.f⟩,by first | exact hab | (rw[if_pos rfl];exact hab),HMM.out.farr (by have:=HDw1.out;have:=HDV.out;omega),below_set6 HB4.out (by omega) _ _ _ _ _ _⟩;have hx:=HMM.out.x q hq;have hf:∀a,q.A=some a→a.block≠w.heap.size+2:=fun a ha=>by have:=(HMM.out.y q hq a ha).2.2.2;omega
    have h6:=(((((hx.far hf 0 (.slice t'.cA t'.cl.length t'.cc)).far hf 1 (.slice t'.lA t'.ll.length t'.lc)).far hf 2 (.slice t'.tA t'.tl.length t'.tc)).far hf 3 (.int .i64 t'.st)).far hf 4 (.int .i64 t'.inn)).far hf 5 (.int .i64 t'.out);simpa using h6
structure Rw (V:World) (B:Nat) (s:Stk):Prop where
 c:KE.Own V B (.slice s.cA s.cl.length s.cc) s.cl
 l:KL.Own V B (.slice s.lA s.ll.length s.lc) s.ll
 t:KT.Own V B (.slice s.tA s.tl.length s.tc) s.tl
 x:∀q∈s.ll,KC.IsL V V.heap.size (.slice q.A q.xs.length q.c) q.xs
 y:∀q∈s.ll,∀a,q.A=some a→some a.block≠bk s.cA∧some a.block≠bk s.lA∧some a.block≠bk s.tA∧B≤a.block
 n1:∀b,bk s.cA=some b→bk s.lA≠some b
 n2:∀b,bk s.cA=some b→bk s.tA≠some b
 n3:∀b,bk s.lA=some b→bk s.tA≠some b
 le:B≤V.heap.size
 f:fits s.st∧fits s.inn∧fits s.out
theorem Rw.inn {V:World} {B:Nat} {s:Stk} (h:Rw V B s) (h1:s.cl.length≤100000) (h2:s.ll.length≤100000) (h3:s.tl.length≤100000):s.In V V.heap.size:=
 ⟨h.c.isL (by omega),h.l.isL (by omega),h.t.isL (by omega),h.x,h.f⟩
theorem Rw.below {V V':World} {B:Nat} {s:Stk} (h:Rw V B s) (hb:Below V.heap.size V V'):Rw V' B s where
 c:=h.c.below hb
 l:=h.l.below hb
 t:=h.t.below hb
 x:=fun q hq=>(h.x q hq).then hb
 y:=h.y
 n1:=h.n1
 n2:=h.n2
 n3:=h.n3
 le:=Nat.le_trans h.le hb.size
 f:=h.f
theorem Rw.far {V:World} {B D o:Nat} {s:Stk} (h:Rw V B s) (h1:bk s.cA≠some D) (h2:bk s.lA≠some D) (h3:bk s.tA≠some D) (h4:∀q∈s.ll,∀a,q.A=some a→a.block≠D) (u:Value):Rw (V.setCell ⟨D,o,none⟩ u) B s:=
 ⟨h.c.far (fun b hb e=>h1 (by rw[own_bk hb,e])) o u,h.l.far (fun b hb e=>h2 (by rw[own_bk hb,e])) o u,h.t.far (fun b hb e=>h3 (by rw[own_bk hb,e])) o u,fun q hq=>by have:=(h.x q hq).far (h4 q hq) o u;simpa using this,h.y,h.n1,h.n2,h.n3,by simpa using h.le,h.f⟩
theorem Rw.out {V:World} {B D:Nat} {s:Stk} (h:Rw V B s) (hD:V.heap.size≤D):bk s.cA≠some D∧bk s.lA≠some D∧bk s.tA≠some D:=
 ⟨fun e=>by have:=(h.c.lt D (bk_own e)).2;omega,fun e=>by have:=(h.l.lt D (bk_own e)).2;omega,fun e=>by have:=(h.t.lt D (bk_own e)).2;omega⟩
theorem Rw.putC {V:World} {B:Nat} {s:Stk} (h:Rw V B s) (k:Nat) (hk:k<s.cl.length) (g:Nat) (hg:s.cA=some ⟨g,0,none⟩) (q:Cel.Ce) (hq:q.Fit):
  Rw (((V.setCell ⟨g,k * 3,none⟩ (.int .i64 q.a)).setCell ⟨g,k * 3+1,none⟩ (.int .i64 q.b)).setCell ⟨g,k * 3+2,none⟩ (.int .i64 q.c)) B {s with cl:=s.cl.set k q}:=by
 have hc:=h.c;rw[hg]at hc;have hl:((Value.slice s.lA s.ll.length s.lc)).ownBlock≠some g:=fun e=>h.n1 g (by rw[hg];rfl) (own_bk e);have ht:((Value.slice s.tA s.tl.length s.tc)).ownBlock≠some g:=fun e=>h.n2 g (by rw[hg];rfl) (own_bk e);refine⟨?_,?_,?_,fun p hp=>?_,h.y,h.n1,h.n2,h.n3,by simpa using h.le,h.f⟩
 ·have:=hc.put3 (K:=KE) rfl rfl k hk q _ _ _ rfl hq;show KE.Own _ B (.slice s.cA (s.cl.set k q).length s.cc) (s.cl.set k q);rw[List.length_set,hg];exact this
 ·exact h.l.far3o (fun b hb e=>hl (by rw[hb,e])) _ _ _ _ _ _
 ·exact h.t.far3o (fun b hb e=>ht (by rw[hb,e])) _ _ _ _ _ _
 ·have hy:=h.y p hp;have hne:∀a,p.A=some a→a.block≠g:=fun a ha e=>(hy a ha).1 (by rw[e,hg];rfl);have:=(((h.x p hp).far hne (k * 3) (.int .i64 q.a)).far hne (k * 3+1) (.int .i64 q.b)).far hne (k * 3+2) (.int .i64 q.c);simpa using this
theorem Rw.putL {V:World} {B:Nat} {s:Stk} (h:Rw V B s) (k:Nat) (hk:k<s.ll.length) (g:Nat) (hg:s.lA=some ⟨g,0,none⟩) (q:Lo) (hq:fits q.r∧fits q.l) (hx:KC.IsL V V.heap.size (.slice q.A q.xs.length q.c) q.xs)
  (hy:∀a,q.A=some a→some a.block≠bk s.cA∧some a.block≠bk s.lA∧some a.block≠bk s.tA∧B≤a.block):
  Rw (((V.setCell ⟨g,k * 3,none⟩ (.int .i64 q.r)).setCell ⟨g,k * 3+1,none⟩ (.int .i64 q.l)).setCell ⟨g,k * 3+2,none⟩ (.slice q.A q.xs.length q.c)) B {s with ll:=s.ll.set k q}:=by
 have hc:=h.l;rw[hg]at hc;have hl:((Value.slice s.cA s.cl.length s.cc)).ownBlock≠some g:=fun e=>h.n1 g (own_bk e) (by rw[hg];rfl);have ht:((Value.slice s.tA s.tl.length s.tc)).ownBlock≠some g:=fun e=>h.n3 g (by rw[hg];rfl) (own_bk e);have hY:∀p∈s.ll.set k q,∀a,p.A=some a→some a.block≠bk s.cA∧some a.block≠bk s.lA∧some a.block≠bk s.tA∧B≤a.block:=setOk h.y k q hy;have hX:∀p∈s.ll.set k q,KC.IsL V V.heap.size (.slice p.A p.xs.length p.c) p.xs:=setOk h.x k q hx;refine⟨?_,?_,?_,fun p hp=>?_,hY,h.n1,h.n2,h.n3,by simpa using h.le,h.f⟩
 ·exact h.c.far3o (fun b hb e=>hl (by rw[hb,e])) _ _ _ _ _ _
 ·have:=hc.put3 (K:=KL) rfl rfl k hk q _ _ _ rfl hq;show KL.Own _ B (.slice s.lA (s.ll.set k q).length s.lc) (s.ll.set k q);rw[List.length_set,hg];exact this
 ·exact h.t.far3o (fun b hb e=>ht (by rw[hb,e])) _ _ _ _ _ _
 ·have hne:∀a,p.A=some a→a.block≠g:=fun a ha e=>(hY p hp a ha).2.1 (by rw[e,hg];rfl);have:=(((hX p hp).far hne (k * 3) (.int .i64 q.r)).far hne (k * 3+1) (.int .i64 q.l)).far hne (k * 3+2) (.slice q.A q.xs.length q.c);simpa using this
theorem Rw.putT {V:World} {B:Nat} {s:Stk} (h:Rw V B s) (k:Nat) (hk:k<s.tl.length) (g:Nat) (hg:s.tA=some ⟨g,0,none⟩) (q:Int×Int) (hq:fits q.1∧fits q.2):
  Rw ((V.setCell ⟨g,k * 2,none⟩ (.int .i64 q.1)).setCell ⟨g,k * 2+1,none⟩ (.int .i64 q.2)) B {s with tl:=s.tl.set k q}:=by
 have hc:=h.t;rw[hg]at hc;have hl:((Value.slice s.cA s.cl.length s.cc)).ownBlock≠some g:=fun e=>h.n2 g (own_bk e) (by rw[hg];rfl);have ht:((Value.slice s.lA s.ll.length s.lc)).ownBlock≠some g:=fun e=>h.n3 g (own_bk e) (by rw[hg];rfl);refine⟨?_,?_,?_,fun p hp=>?_,h.y,h.n1,h.n2,h.n3,by simpa using h.le,h.f⟩
 ·exact h.c.far2o (fun b hb e=>hl (by rw[hb,e])) _ _ _ _
 ·exact h.l.far2o (fun b hb e=>ht (by rw[hb,e])) _ _ _ _
 ·have:=hc.put2 (K:=KT) rfl rfl k hk q _ _ rfl hq;show KT.Own _ B (.slice s.tA (s.tl.set k q).length s.tc) (s.tl.set k q);rw[List.length_set,hg];exact this
 ·have hy:=h.y p hp;have hne:∀a,p.A=some a→a.block≠g:=fun a ha e=>(hy a ha).2.2.1 (by rw[e,hg];rfl);have:=((h.x p hp).far hne (k * 2) (.int .i64 q.1)).far hne (k * 2+1) (.int .i64 q.2);simpa using this
theorem Rw.cAt {V:World} {B:Nat} {s:Stk} (h:Rw V B s) (h0:0<s.cl.length):∃g,s.cA=some ⟨g,0,none⟩∧B≤g∧g<V.heap.size∧s.cl.length≤s.cc:=by
 obtain⟨g,cap,e,h1,h2,h3⟩:=h.c.shape h0;simp only[Value.slice.injEq]at e;exact⟨g,e.1,h1,h2,by omega⟩
theorem Rw.lAt {V:World} {B:Nat} {s:Stk} (h:Rw V B s) (h0:0<s.ll.length):∃g,s.lA=some ⟨g,0,none⟩∧B≤g∧g<V.heap.size∧s.ll.length≤s.lc:=by
 obtain⟨g,cap,e,h1,h2,h3⟩:=h.l.shape h0;simp only[Value.slice.injEq]at e;exact⟨g,e.1,h1,h2,by omega⟩
theorem Rw.tAt {V:World} {B:Nat} {s:Stk} (h:Rw V B s) (h0:0<s.tl.length):∃g,s.tA=some ⟨g,0,none⟩∧B≤g∧g<V.heap.size∧s.tl.length≤s.tc:=by
 obtain⟨g,cap,e,h1,h2,h3⟩:=h.t.shape h0;simp only[Value.slice.injEq]at e;exact⟨g,e.1,h1,h2,by omega⟩
theorem Rw.farr {V:World} {B:Nat} {s:Stk} (h:Rw V B s):s.Far B:=
 ⟨fun a ha=>(h.c.lt a.block (bk_own (by rw[ha];rfl))).1,fun a ha=>(h.l.lt a.block (bk_own (by rw[ha];rfl))).1,fun a ha=>(h.t.lt a.block (bk_own (by rw[ha];rfl))).1,fun q hq a ha=>(h.y q hq a ha).2.2.2⟩
end Go.Proofs.YtacjonncakhhmaaGreat
