/- Stocks: a flow in a right stock. -/
import Derived.Test.YtmecohdedghiaaaGreatDoorPo18
import Derived.Test.YtmecohdedghiaaaGreatDoorPo19
set_option maxRecDepth 100000
set_option maxHeartbeats 8000000
open Go.Proofs.Tryz
namespace Go.Proofs.YtmecohdedghiaaaGreatDoor
open Go.RowKit
theorem eu (d:Dk) (s:Stk) (h:cE d s.ab=true):s.cl.length≤384∧s.ll.length≤384∧s.tl.length≤384∧(∀q∈s.ll,q.xs.length≤64)∧s.cl.length=au d∧s.ll.length=au d∧s.tl.length=bm d∧aA d=0:=by
 unfold cE at h;rw[Bool.and_eq_true,Bool.and_eq_true,Bool.and_eq_true,Bool.and_eq_true,decide_eq_true_eq,decide_eq_true_eq]at h;obtain⟨hz,⟨⟨h1,h2⟩,_⟩,_⟩:=h;obtain⟨n1,n2,n3,n4,n5⟩:=bF d hz;obtain⟨l1,l2⟩:=gq h1;have e1:s.ab.c=s.cl:=rfl;have e2:s.ab.l.length=s.ll.length:=by show(s.ll.map Lo.ab).length=_;rw[List.length_map]
 have e3:s.ab.t=s.tl:=rfl;rw[e1,n1]at l1;rw[e2,n2]at l2;rw[e3,n4]at h2;refine⟨by omega,by omega,by omega,fun q hq=>?_,l1,l2,h2,hz⟩;unfold hJ at h1;rw[Bool.and_eq_true,List.all_eq_true]at h1;obtain⟨j,hj,rfl⟩:=List.getElem_of_mem hq;have:=h1.2 j (List.mem_range.2 (by rw[e1];omega));unfold nF at this;rw[Bool.and_eq_true,Bool.and_eq_true,Bool.and_eq_true]at this;have h3:=this.2.1;rw[Bool.and_eq_true]at h3;have hr:=h3.1;rw[oz s j hj]at hr;have e:s.ll.getD j av=s.ll[j]:=by rw[List.getD_eq_getElem?_getD,List.getElem?_eq_getElem hj];rfl
 rw[e]at hr;have:=(Lg.rg_parts hr).1;unfold Lg.rgC at this;dsimp only at this;omega
theorem Mine.farr {V:World} {B D G:Nat} {s:Stk} (h:Mine V B D s) (hG:G≤B):s.Far G:=
 ⟨fun a ha=>Nat.le_trans hG (h.c.lt a.block (ax (by rw[ha];rfl))).1,fun a ha=>Nat.le_trans hG (h.l.lt a.block (ax (by rw[ha];rfl))).1,fun a ha=>Nat.le_trans hG (h.t.lt a.block (ax (by rw[ha];rfl))).1,fun q hq a ha=>Nat.le_trans hG (h.y q hq a ha).2.2.2⟩
theorem Stk.In.set1 {w:World} {G B D o:Nat} {s:Stk} (h:s.In w G) (hf:s.Far B) (hD:D<B) (u:Value):s.In (w.setCell ⟨D,o,none⟩ u) G:=
 ⟨h.c.far (fun a ha=>by have:=hf.1 a ha;omega) o u,h.l.far (fun a ha=>by have:=hf.2.1 a ha;omega) o u,h.t.far (fun a ha=>by have:=hf.2.2.1 a ha;omega) o u,fun q hq=>(h.x q hq).far (fun a ha=>by have:=hf.2.2.2 q hq a ha;omega) o u,h.f⟩
theorem Stk.In.set6 {w:World} {G B D:Nat} {s:Stk} (h:s.In w G) (hf:s.Far B) (hD:D<B) (p0 p1 p2 p3 p4 p5:Value):s.In ((((((w.setCell ⟨D,0,none⟩ p0).setCell ⟨D,1,none⟩ p1).setCell ⟨D,2,none⟩ p2).setCell ⟨D,3,none⟩ p3).setCell ⟨D,4,none⟩ p4).setCell ⟨D,5,none⟩ p5) G:=
 (((((h.set1 hf hD p0).set1 hf hD p1).set1 hf hD p2).set1 hf hD p3).set1 hf hD p4).set1 hf hD p5
noncomputable def br (d:Dk) (a:Ab) (b':Int) (E:Int):Int:=if cE d a=true then(if 1≤b'∧b'≤d.arms then E else 1)else 130
theorem aT (d:Dk) (s:Stk) (b':Int) (kf:Nat) (cap:Array Value) (dE:Int) (dA:Ab) (w:World) (hd:d.In w w.heap.size) (hs:s.In w w.heap.size) (E9:∀args w,(callFunc kf args).run prog w=.ok (.enter kf args) w)
  (hdo:cE d s.ab=true→1≤b'→b'≤d.arms→∀(V:World) (B D:Nat) (t:Stk),Mine V B D t→t.ab=s.ab→Tl V D d b'→d.In V D→Below w.heap.size w V→w.heap.size≤D→Calls prog kf (#[.pointer (some ⟨D,0,none⟩)]++cap) V fun e V'=>e=.returned (.int .i64 dE)∧(dE=0→∃t':Stk,Mine V' B D t'∧t'.ab=dA∧t'.cl.length≤100000∧t'.ll.length≤100000∧t'.tl.length≤100000)∧Below D V V'):
  Calls prog 185 #[d.v,s.v,.int .i64 b',.func (.func kf) #[] cap] w fun e w'=>∃t:Stk,e=.returned (.tuple #[t.v,.int .i64 (br d s.ab b' dE)])∧t.In w' w'.heap.size∧t.ab=(if br d s.ab b' dE=0 then dA else fP)∧t.Far w.heap.size∧Below w.heap.size w w':=by
 obtain⟨w0,hw0⟩:∃w0,w0=((w.alloc d.ob).alloc s.ob).alloc zo:=⟨_,rfl⟩;have CG:=aH (BC hw0);have CR:=aH (hd.then CG.out);have Dq:=aH (hs.then CG.out);have Ti:=aH hs;have TJ:=aH hd;have DO:=aH (show dv w0 w.heap.size d by rw[hw0];exact((Cells4.new w _ _ _ _ _).below (bL (bR _ _) _)).below (bL (bR _ _) _));have CN:=aH (show cn w0 (w.heap.size+1) s by
  have h:=(Cells6.new (w.alloc d.ob) 41 (.slice s.cA s.cl.length s.cc) (.slice s.lA s.ll.length s.lc) (.slice s.tA s.tl.length s.tc) (.int .i64 s.st) (.int .i64 s.inn) (.int .i64 s.out)).below (bL (bR _ _) zo);rw[←hw0,show(w.alloc d.ob).heap.size=w.heap.size+1 by simp]at h;exact h)
 have DD:=aH (show Cells6 w0 (w.heap.size+2) (.slice none 0 0) (.slice none 0 0) (.slice none 0 0) (.int .i64 0) (.int .i64 0) (.int .i64 0)by
  have h:=Cells6.new ((w.alloc d.ob).alloc s.ob) 41 (.slice none 0 0) (.slice none 0 0) (.slice none 0 0) (.int .i64 0) (.int .i64 0) (.int .i64 0);rw[←hw0,show((w.alloc d.ob).alloc s.ob).heap.size=w.heap.size+2 by simp]at h;exact h)
 have EV:=aH (fun w h1 h2=>ks d s w h1 h2);have CV:=aH (eu d s);have FQ:=aH hdo;have Kl:=aH E9;have HE:=aH (show br d s.ab b' dE=(if cE d s.ab=true then(if 1≤b'∧b'≤d.arms then dE else 1)else 130)from rfl);generalize br d s.ab b' dE=E at *;clear hd hs hdo E9;obtain⟨t0,t1,t2,t3,t4,t5,_⟩:=CN.out;obtain⟨d0,d1,d2,d3,_⟩:=DO.out;clear t0 t1 t2 t3 t4 t5 d0 d1 d2 d3;obtain⟨r,hr⟩:∃r,cE d s.ab=r:=⟨_,rfl⟩;rw[hr]at HE EV FQ CV;clear hr
 cases r
 case false=>
  have hE:E=130:=by rw[HE.out];rfl
  subst hE;go_enter func185,ntmps185;go_wp2_with fail;rw[←hw0];clear hw0;refine(EV.out _ CR.out Dq.out).mono ?_;rintro e w1 ⟨rfl,CE⟩;have CH:=aH (bC CG.out CE);have hr:=DD.out.below CE;have CU:=aH hr;obtain⟨r0,r1,r2,r3,r4,r5,y0,y1,y2,y3,y4,y5,_⟩:=hr;clear CE;go_wp2;have DA:=CU.out.set (.slice none 0 0) (.slice none 0 0) (.slice none 0 0) (.int .i64 0) (.int .i64 0) (.int .i64 0);obtain⟨q0,q1,q2,q3,q4,q5,_⟩:=DA;refine bP (v:=.tuple #[stk0.v,.int .i64 130]) ?_ rfl ?_
  ·simp[results,results185,go_sem,q0,q1,q2,q3,q4,q5,stk0]
  ·exact⟨stk0,rfl,ex _ _,rfl,ee _,aF CH.out (by omega) _ _ _ _ _ _⟩
 case true=>
  have LH:=aH (CV.out rfl);clear CV;rw[if_pos rfl]at HE;by_cases Jv:1≤b'∧b'≤d.arms
  case neg=>
   have hE:E=1:=(by rw[HE.out,if_neg Jv]);subst hE;have Td:=aH Jv;by_cases hb1':b'<1;all_goals
    have Gu:b'<1∨d.arms<b':=(by omega);clear Jv;go_enter func185,ntmps185;go_wp2_with fail;rw[←hw0];clear hw0;refine(EV.out _ CR.out Dq.out).mono ?_;rintro e w1 ⟨rfl,CE⟩;have CH:=aH (bC CG.out CE);have hr:=DD.out.below CE;have CU:=aH hr;obtain⟨d0,d1,d2,d3,_⟩:=DO.out.below CE;obtain⟨r0,r1,r2,r3,r4,r5,y0,y1,y2,y3,y4,y5,_⟩:=hr;clear CE;have MF:¬b'<1→d.arms<b':=(by omega);(try have Sj:=MF (by omega));clear MF Gu;go_wp2;have DA:=CU.out.set (.slice none 0 0) (.slice none 0 0) (.slice none 0 0) (.int .i64 0) (.int .i64 0) (.int .i64 0);obtain⟨q0,q1,q2,q3,q4,q5,_⟩:=DA;refine bP (v:=.tuple #[stk0.v,.int .i64 1]) ?_ rfl ?_
    ·simp[results,results185,go_sem,q0,q1,q2,q3,q4,q5,stk0]
    ·exact⟨stk0,rfl,ex _ _,rfl,ee _,aF CH.out (by omega) _ _ _ _ _ _⟩
  have hE:E=dE:=by rw[HE.out,if_pos Jv]
  subst hE;obtain⟨hby1,hby2⟩:=Jv;have R8:=aH (FQ.out rfl hby1 hby2);clear FQ;go_enter func185,ntmps185;go_wp2_with fail;rw[←hw0];clear hw0;refine(EV.out _ CR.out Dq.out).mono ?_;rintro e w1 ⟨rfl,CE⟩;have CH:=aH (bC CG.out CE);have CU:=aH (DD.out.below CE);obtain⟨d0,d1,d2,d3,_⟩:=DO.out.below CE;obtain⟨t0,t1,t2,t3,t4,t5,_⟩:=CN.out.below CE;have Ma:w.heap.size+2<w1.heap.size:=by obtain⟨_,_,_,_,_,_,_,_,_,_,_,_,h⟩:=CU.out;exact h
  have RC:=aH Ma;have CZ:=bL (bR w1.heap.size w1) (.cells #[.slice s.cA s.cl.length s.cc,.slice s.lA s.ll.length s.lc,.slice s.tA s.tl.length s.tc,.int .i64 s.st,.int .i64 s.inn,.int .i64 s.out,.slice d.bA d.bn d.bc,.slice d.pA d.pn d.pc,.slice d.rA d.rn d.rc,.int .i64 d.arms,.int .i64 b'] 219);have CL:=aH (bC CH.out CZ);have CT:=aH (CU.out.below CZ);have Pu:=aH (show cn (w1.alloc (.cells #[.slice s.cA s.cl.length s.cc,.slice s.lA s.ll.length s.lc,.slice s.tA s.tl.length s.tc,.int .i64 s.st,.int .i64 s.inn,.int .i64 s.out,.slice d.bA d.bn d.bc,.slice d.pA d.pn d.pc,.slice d.rA d.rn d.rc,.int .i64 d.arms,.int .i64 b'] 219)) w1.heap.size s from⟨by rw[ah];rfl,by rw[ah];rfl,by rw[ah];rfl,by rw[ah];rfl,by rw[ah];rfl,by rw[ah];rfl,by simp,by simp,by simp,by simp,by simp,by simp,by simp⟩);have Hc:=aH (show Tl (w1.alloc (.cells #[.slice s.cA s.cl.length s.cc,.slice s.lA s.ll.length s.lc,.slice s.tA s.tl.length s.tc,.int .i64 s.st,.int .i64 s.inn,.int .i64 s.out,.slice d.bA d.bn d.bc,.slice d.pA d.pn d.pc,.slice d.rA d.rn d.rc,.int .i64 d.arms,.int .i64 b'] 219)) w1.heap.size d b' from⟨by rw[ah];rfl,by rw[ah];rfl,by rw[ah];rfl,by rw[ah];rfl,by rw[ah];rfl,by simp⟩);have Ql:=aH ((Ti.out.then CH.out).below CZ);have NR:=aH ((TJ.out.then CH.out).below CZ);clear CE Ma;go_wp2_with fail;generalize w1.alloc (.cells #[.slice s.cA s.cl.length s.cc,.slice s.lA s.ll.length s.lc,.slice s.tA s.tl.length s.tc,.int .i64 s.st,.int .i64 s.inn,.int .i64 s.out,.slice d.bA d.bn d.bc,.slice d.pA d.pn d.pc,.slice d.rA d.rn d.rc,.int .i64 d.arms,.int .i64 b'] 219)=V at *;obtain⟨D,hD⟩:∃D,w1.heap.size=D:=⟨_,rfl⟩;rw[hD]at Pu Hc Ql NR RC;try simp only[hD]
  have GR:=aH (show w.heap.size+2<D from RC.out);have Js:=aH (show D<V.heap.size from Hc.out.2.2.2.2.2);clear d0 d1 d2 d3 t0 t1 t2 t3 t4 t5 CZ CH CU hD;refine(qZ s D d b' V Ql.out Pu.out Hc.out (by have:=LH.out.1;omega) (by have:=LH.out.2.1;omega) (by have:=LH.out.2.2.1;omega) (fun q hq=>by have:=LH.out.2.2.2.1 q hq;omega)).mono ?_;rintro e V2 ⟨t,rfl,Dg,hM,hT,CM⟩;have CS:=aH (CL.out.trans (CM.mono (by have:=GR.out;omega)));have Di:=aH (CT.out.low CM GR.out);have Hi:=aH (R8.out V2 V.heap.size D t hM Dg hT (NR.out.below CM) CS.out (by have:=GR.out;omega));clear Dg hM hT CM Pu Hc Ql CL CT;have E9:=Kl.out;go_wp2_with fail;refine Hi.out.mono ?_;rintro e V3 ⟨rfl,hM,CO⟩;have CW:=aH (CS.out.trans (CO.mono (by have:=GR.out;omega)));have Dp:=aH (Di.out.low CO GR.out);have HM:=aH hM;obtain⟨r0,r1,r2,r3,r4,r5,y0,y1,y2,y3,y4,y5,_⟩:=Dp.out;clear hM CO E9 Di CS;by_cases hz:E=0
  case neg=>
   have GB:(E==0)=false:=(by simpa using hz);have HZ:=aH hz;clear hz;go_wp2;have DA:=Dp.out.set (.slice none 0 0) (.slice none 0 0) (.slice none 0 0) (.int .i64 0) (.int .i64 0) (.int .i64 0);obtain⟨q0,q1,q2,q3,q4,q5,_⟩:=DA;refine bP (v:=.tuple #[stk0.v,.int .i64 E]) ?_ rfl ?_
   ·simp[results,results185,go_sem,q0,q1,q2,q3,q4,q5,stk0]
   ·exact⟨stk0,rfl,ex _ _,by first|rfl|(rw[if_neg HZ.out];rfl),ee _,aF CW.out (by omega) _ _ _ _ _ _⟩
  ·subst hz;obtain⟨t',hM,Dg,Gj,E8,E6⟩:=HM.out rfl;have Fp:=aH hM;clear HM;obtain⟨x0,x1,x2,x3,x4,x5,_⟩:=hM.at';clear hM;go_wp2;have DA:=Dp.out.setS t';obtain⟨q0,q1,q2,q3,q4,q5,_⟩:=DA;have hR:w.heap.size+2<V.heap.size:=(by have:=GR.out;have:=Js.out;omega);have C1:=(Fp.out.c.set6 (D:=w.heap.size+2) hR (.slice t'.cA t'.cl.length t'.cc) (.slice t'.lA t'.ll.length t'.lc) (.slice t'.tA t'.tl.length t'.tc) (.int .i64 t'.st) (.int .i64 t'.inn) (.int .i64 t'.out)).isL (by omega);have C2:=(Fp.out.l.set6 (D:=w.heap.size+2) hR (.slice t'.cA t'.cl.length t'.cc) (.slice t'.lA t'.ll.length t'.lc) (.slice t'.tA t'.tl.length t'.tc) (.int .i64 t'.st) (.int .i64 t'.inn) (.int .i64 t'.out)).isL (by omega);have C3:=(Fp.out.t.set6 (D:=w.heap.size+2) hR (.slice t'.cA t'.cl.length t'.cc) (.slice t'.lA t'.ll.length t'.lc) (.slice t'.tA t'.tl.length t'.tc) (.int .i64 t'.st) (.int .i64 t'.inn) (.int .i64 t'.out)).isL (by omega);refine bP (v:=.tuple #[t'.v,.int .i64 0]) ?_ rfl ?_
   ·simp[results,results185,go_sem,q0,q1,q2,q3,q4,q5]
   ·refine⟨t',rfl,⟨C1,C2,C3,fun q hq=>?_,Fp.out.f⟩,by first|exact Dg|(rw[if_pos rfl];exact Dg),Fp.out.farr (by have:=GR.out;have:=Js.out;omega),aF CW.out (by omega) _ _ _ _ _ _⟩;have hx:=Fp.out.x q hq;have hf:∀a,q.A=some a→a.block≠w.heap.size+2:=fun a ha=>(by have:=(Fp.out.y q hq a ha).2.2.2;omega);have h6:=(((((hx.far hf 0 (.slice t'.cA t'.cl.length t'.cc)).far hf 1 (.slice t'.lA t'.ll.length t'.lc)).far hf 2 (.slice t'.tA t'.tl.length t'.tc)).far hf 3 (.int .i64 t'.st)).far hf 4 (.int .i64 t'.inn)).far hf 5 (.int .i64 t'.out);simpa using h6
def xK (s:Stk) (k:Nat) (c:Cel.Ce) (b':Int):Int×Int×List Ch:=
 (Lg.ntR (s.ll.getD k av).r (s.ll.getD k av).l (s.ll.getD k av).xs b' (c.b-(s.cl.getD k aM).b),Lg.ntM (s.ll.getD k av).r (s.ll.getD k av).l (s.ll.getD k av).xs b' (c.b-(s.cl.getD k aM).b),Lg.ntZ (s.ll.getD k av).r (s.ll.getD k av).l (s.ll.getD k av).xs b' (c.b-(s.cl.getD k aM).b))
theorem wl {r l:Int} (xs:List Ch) (b n:Int) (hr:ae r):ae (Lg.ntR r l xs b n)∧ae (Lg.ntM r l xs b n):=by
 unfold Lg.ntR Lg.ntM;by_cases h:Lg.ntE r l xs b n=0
 ·rw[if_pos h,if_pos h];have h1:=(Lg.rg_parts (Lg.nt_ok h).1).1;unfold Lg.rgC at h1;exact⟨hr,by unfold ae;omega⟩
 ·rw[if_neg h,if_neg h];exact⟨by decide,by decide⟩
theorem zb {r l:Int} (xs:List Ch) (b n:Int):(Lg.ntZ r l xs b n).length≤65:=by
 unfold Lg.ntZ;by_cases h:Lg.ntE r l xs b n=0
 ·rw[if_pos h];have h1:=(Lg.rg_parts (Lg.nt_ok h).1).1;unfold Lg.rgC at h1;unfold Lg.ntL;rw[List.length_append,List.length_drop];simp only[List.length_cons,List.length_nil];omega
 ·rw[if_neg h];exact Nat.zero_le _
theorem pU (s:Stk) (d:Dk) (b':Int) (V:World) (B D k:Nat) (c:Cel.Ce) (hM:Mine V B D s) (hT:Tl V D d b') (hk:k<s.cl.length) (Ft:k<s.ll.length) (hc:c.Fit) (hn:ae (c.b-(s.cl.getD k aM).b)) (h1:s.cl.length≤100000) (h2:s.ll.length≤100000):
  Calls prog 255 #[.pointer (some ⟨D,0,none⟩),.int .i64 k,c.v] V fun e V'=>∃q:Lo,e=.returned (.tuple #[])∧q.ab=xK s k c b'∧Mine V' B D {s with ll:=s.ll.set k q,cl:=s.cl.set k c}∧Tl V' D d b'∧Below D V V'∧(∀a u,V.cell? a=some u→some a.block≠bk s.cA→some a.block≠bk s.lA→V'.cell? a=some u):=by
 obtain⟨ca,cb,cc⟩:=c;have CG:=aH (show Below D V (V.alloc (.cells #[.int .i64 ca,.int .i64 cb,.int .i64 cc] 70))from(bL (bR V.heap.size V) _).mono (Nat.le_of_lt hT.2.2.2.2.2));have CZ:=bL (bR V.heap.size V) (.cells #[.int .i64 ca,.int .i64 cb,.int .i64 cc] 70);have Mo:=aH (fun(a:Addr) (u:Value) (h:V.cell? a=some u)=>kK CZ h);have HM:=aH (hM.below CZ);have HT:=aH (hT.below CZ);have HC:=aH hc;have Dm:=aH (Cells3.new V 70 (.int .i64 ca) (.int .i64 cb) (.int .i64 cc));obtain⟨gc,ec,gc1,gc2,gc3⟩:=hM.cAt (by omega);obtain⟨gl,el,gl1,gl2,gl3⟩:=hM.lAt (by omega);have HG:=aH (show B≤gc∧gc<V.heap.size∧s.cl.length≤s.cc∧B≤gl∧gl<V.heap.size∧s.ll.length≤s.lc∧D<B∧B≤V.heap.size from⟨gc1,gc2,gc3,gl1,gl2,gl3,hM.lt,hM.le⟩);have Ig:=aH ec;have MW:=aH el;have HX:=aH (hM.x _ (af s.ll k av Ft));have HF:=aH ((hM.l.isL (by omega)).2.1 _ (af s.ll k av Ft));have HP:Hid (∀Q X,s.ll.getD k av=Q→s.cl.getD k aM=X→xK s k ⟨ca,cb,cc⟩ b'=(Lg.ntR Q.r Q.l Q.xs b' (cb-X.b),Lg.ntM Q.r Q.l Q.xs b' (cb-X.b),Lg.ntZ Q.r Q.l Q.xs b' (cb-X.b))):=aH (fun Q X e1 e2=>by subst e1;subst e2;rfl);have Ed:=aH (fun(W:World) (h:Mine W B D s)=>show W.cell? ⟨gl,k*3,none⟩=some (.int .i64 (s.ll.getD k av).r)∧W.cell? ⟨gl,k*3+1,none⟩=some (.int .i64 (s.ll.getD k av).l)∧W.cell? ⟨gl,k*3+2,none⟩=some (.slice (s.ll.getD k av).A (s.ll.getD k av).xs.length (s.ll.getD k av).c)∧W.frozen? ⟨gl,k*3,none⟩=false∧W.frozen? ⟨gl,k*3+1,none⟩=false∧W.frozen? ⟨gl,k*3+2,none⟩=false from by
  have RV:=h.l;rw[MW.out]at RV;exact KL.Own.at3 RV rfl k Ft)
 have IX:=aH (fun(W:World) (h:Mine W B D s)=>show W.cell? ⟨gc,k*3+1,none⟩=some (.int .i64 (s.cl.getD k aM).b)from by
  have Hy:=h.c;rw[Ig.out]at Hy;exact(KE.Own.at3 Hy rfl k hk).2.1)
 obtain⟨Q,hQ⟩:∃Q,s.ll.getD k av=Q:=⟨_,rfl⟩;obtain⟨X,hX⟩:∃X,s.cl.getD k aM=X:=⟨_,rfl⟩;rw[hQ]at HX HF Ed;rw[hX]at IX hn;have HP:=aH (HP.out Q X hQ hX);obtain⟨qr,ql,qA,qc,qx⟩:=Q;dsimp only at *;have HN:=aH (fun w h=>Lg.note_all qr ql qA qc qx b' (cb-X.b) w h);have JI:=aH (wl (l:=ql) qx b' (cb-X.b) HF.out.1);have Qh:=aH (zb (r:=qr) (l:=ql) qx b' (cb-X.b));generalize Lg.ntR qr ql qx b' (cb-X.b)=ZR at *;generalize Lg.ntM qr ql qx b' (cb-X.b)=ZM at *;generalize Lg.ntZ qr ql qx b' (cb-X.b)=ZZ at *;generalize Lg.ntE qr ql qx b' (cb-X.b)=ZE at *;have Mp:=aH (HX.out.then CZ);have Sr:(k:Int)<s.cl.length:=by omega
 have UM:(k:Int)<s.ll.length:=by omega
 clear hM hT hc gc1 gc2 gc3 gl1 gl2 gl3 ec el hQ hX HX CZ;go_enter func255,ntmps255
 go_upto_region 1 with fail
 obtain⟨Cb,hCb⟩:∃Cb,V.heap.size=Cb:=⟨_,rfl⟩;generalize V.alloc (.cells #[.int .i64 ca,.int .i64 cb,.int .i64 cc] 70)=V5 at *;rw[hCb]at Dm HG;try simp only[hCb]
 obtain⟨e1,e2,e3,e4,e5⟩:V5.drew.cell? ⟨D,1,none⟩=some (.slice (some ⟨gl,0,none⟩) s.ll.length s.lc)∧V5.drew.cell? ⟨D,10,none⟩=some (.int .i64 b')∧V5.drew.cell? ⟨Cb,1,none⟩=some (.int .i64 cb)∧V5.drew.cell? ⟨D,0,none⟩=some (.slice (some ⟨gc,0,none⟩) s.cl.length s.cc)∧V5.drew.cell? ⟨gc,k*3+1,none⟩=some (.int .i64 X.b):=⟨by rw[←MW.out];exact HM.out.at'.2.1,HT.out.2.2.2.2.1,Dm.out.2.1,by rw[←Ig.out];exact HM.out.at'.1,IX.out _ (HM.out.below (bR _ _).drew)⟩;refine Ba ⟨e1,e2,e3,e4,e5⟩ (by kernel_rfl) (fun CC=>?_);clear e1 e2 e3 e4 e5;have bw:=(bR V5.heap.size V5).drew;have M7:=aH (HM.out.below bw);have T7:=aH (HT.out.below bw);have X7:=aH (Mp.out.then bw);have B7:=aH (Below.drew CG.out);have MQ:=aH (fun(a:Addr) (u:Value) (h:V.cell? a=some u)=>kK bw (Mo.out a u h));have B7sz:=aH (show V.heap.size≤V5.drew.heap.size by obtain⟨_,_,_,_,_,_,h⟩:=Dm.out;have e:V5.drew.heap.size=V5.heap.size:=rfl;rw[e];omega);have Py:=aH (show Cells3 V5.drew Cb (.int .i64 ca) (.int .i64 cb) (.int .i64 cc)from Dm.out.below bw);clear bw HM HT Mp CG Mo;generalize V5.drew=v0 at *;refine wk [.k 0 7,.k 1 8,.k 2 9,.k 3 10,.k 4 11,.k 5 12,.k 6 13,.k 7 14,.k 8 15,.k 9 16,.k 10 17,.k 11 18,.k 12 19,.k 13 20,.k 14 21,.k 16 23,.k 17 24,.k 18 25,.k 19 26,.k 20 27,.k 21 28,.k 22 29,.k 23 30,.k 24 31,.k 25 32,.k 26 33,.k 27 34,.k 28 35,.k 29 36,.k 30 37,.k 31 38,.k 32 39] (fun _ _ _ _ _ h=>h) CC ?_ (by kernel_rfl);repeat (refine .k (v:=?_) rfl (by kernel_rfl) ?_ ?_;rotate_left 1;(intro w h;go_simp<;>try rfl);try simp only[sp])
 refine .nil ?_;refine wQ 15 (some 22) rfl (fun K hK=>?_) (by kernel_rfl);obtain⟨r0,r1,r2,_⟩:=Ed.out _ M7.out;go_simp;clear r0 r1 r2;refine hK.out _ _ CC (fun CC=>?_);clear hK K;try simp only[sp]
 refine wQ 33 (some 40) rfl (fun K hK=>?_) (by kernel_rfl);go_simp;rw[bE _ hn];refine(HN.out _ X7.out).mono ?_;rintro e v1 ⟨A',c',rfl,ho,hb⟩;have UG:V.heap.size≤v0.heap.size:=B7sz.out;have M8:=aH (M7.out.below hb);have T8:=aH (T7.out.below hb);have B8:=aH (B7.out.trans (hb.mono (by have:=T7.out.2.2.2.2.2;omega)));have P8:=aH (Py.out.below hb);have Nb:=aH (fun(a:Addr) (u:Value) (h:V.cell? a=some u)=>kK hb (MQ.out a u h));have O8:=aH ho;have L8:=aH hb.size;obtain⟨f1,f2,f3,f4,f5⟩:=CC;have hH:=aI (kK hb f1) (aI (kK hb f2) (aI (kK hb f3) (aI (kK hb f4) (kK hb f5))));clear f1 f2 f3 f4 f5;have HY:=aH (show ∀a,A'=some a→some a.block≠bk s.cA∧some a.block≠bk s.lA∧some a.block≠bk s.tA∧B≤a.block from fun a ha=>by
  have h:=(ho.lt a.block (ax (by rw[ha];rfl))).1;refine⟨fun e=>?_,fun e=>?_,fun e=>?_,Nat.le_trans M7.out.le h⟩
  ·have:=(M7.out.c.lt a.block (ax e.symm)).2;omega
  ·have:=(M7.out.l.lt a.block (ax e.symm)).2;omega
  ·have:=(M7.out.t.lt a.block (ax e.symm)).2;omega)
 go_wp2_with fail;clear ho hb M7 T7 B7 MQ;refine hK.out _ _ hH (fun CC=>?_);clear hK K;clear hH;try simp only[sp]
 refine wk [.k 34 6,.k 35 41,.k 36 42,.k 37 43] (fun _ _ _ _ _ h=>h) CC ?_ (by kernel_rfl);repeat (refine .k (v:=?_) rfl (by kernel_rfl) ?_ ?_;rotate_left 1;(intro w h;go_simp<;>try rfl);try simp only[sp])
 refine .nil ?_;refine wQ 38 none rfl (fun K hK=>?_) (by kernel_rfl);obtain⟨r0,r1,r2,y0,y1,y2⟩:=Ed.out _ M8.out;go_simp;clear r0 r1 r2 y0 y1 y2;have EO:gl≠D:=by have:=HG.out;omega
 have J4:gl≠Cb:=by have:=HG.out;omega
 have Q5:gc≠gl:=fun e=>M8.out.n1 gc (by rw[Ig.out];rfl) (by rw[MW.out,e];rfl);have M9:=aH (M8.out.putL k Ft gl MW.out ⟨ZR,ZM,A',c',ZZ⟩ JI.out (O8.out.isL (by have:=Qh.out;omega)) HY.out);have T9:=aH (((T8.out.off (g:=gl) (o:=k*3) (.inl EO) (.int .i64 ZR)).off (g:=gl) (o:=k*3+1) (.inl EO) (.int .i64 ZM)).off (g:=gl) (o:=k*3+2) (.inl EO) (.slice A' ZZ.length c'));have P9:=aH (((P8.out.off (D:=gl) (o:=k*3) J4 (.int .i64 ZR)).off (D:=gl) (o:=k*3+1) J4 (.int .i64 ZM)).off (D:=gl) (o:=k*3+2) J4 (.slice A' ZZ.length c'));have B9:=aH (show Below D V (((v1.setCell ⟨gl,k*3,none⟩ (.int .i64 ZR)).setCell ⟨gl,k*3+1,none⟩ (.int .i64 ZM)).setCell ⟨gl,k*3+2,none⟩ (.slice A' ZZ.length c'))from((B8.out.setCell (by show D≤gl;have:=HG.out;omega) _).setCell (by show D≤gl;have:=HG.out;omega) _).setCell (by show D≤gl;have:=HG.out;omega) _);have st3:∀a u,v1.cell? a=some u→gl≠a.block→(((v1.setCell ⟨gl,k*3,none⟩ (.int .i64 ZR)).setCell ⟨gl,k*3+1,none⟩ (.int .i64 ZM)).setCell ⟨gl,k*3+2,none⟩ (.slice A' ZZ.length c')).cell? a=some u:=fun a u h CJ=>sO (sO (sO h (fun e=>CJ (by rw[←e]))) (fun e=>CJ (by rw[←e]))) (fun e=>CJ (by rw[←e]));have Mt:=aH (fun(a:Addr) (u:Value) (h:V.cell? a=some u) (n2:some a.block≠bk s.lA)=>st3 a u (Nb.out a u h) (fun e=>n2 (by rw[MW.out,←e];rfl)));obtain⟨f1,f2,f3,f4,f5⟩:=CC;have IL:=aI (st3 _ _ f1 EO) (aI (st3 _ _ f2 EO) (aI (st3 _ _ f3 J4) (aI (st3 _ _ f4 EO) (st3 _ _ f5 Q5.symm))));clear f1 f2 f3 f4 f5;refine hK.out _ _ IL (fun CC=>?_);clear hK K;clear IL CC st3 EO J4 Q5 M8 T8 P8 B8 Nb;try simp only[sp]
 refine wD (by kernel_rfl) ?_;have M9:Hid (Mine (((v1.setCell ⟨gl,k*3,none⟩ (.int .i64 ZR)).setCell ⟨gl,k*3+1,none⟩ (.int .i64 ZM)).setCell ⟨gl,k*3+2,none⟩ (.slice A' ZZ.length c')) B D {s with ll:=s.ll.set k ⟨ZR,ZM,A',c',ZZ⟩}):=M9;generalize (((v1.setCell ⟨gl,k*3,none⟩ (.int .i64 ZR)).setCell ⟨gl,k*3+1,none⟩ (.int .i64 ZM)).setCell ⟨gl,k*3+2,none⟩ (.slice A' ZZ.length c'))=vx at *;go_wp2;obtain⟨e1,e2,e3,e4⟩:vx.drew.cell? ⟨D,0,none⟩=some (.slice (some ⟨gc,0,none⟩) s.cl.length s.cc)∧vx.drew.cell? ⟨Cb,0,none⟩=some (.int .i64 ca)∧vx.drew.cell? ⟨Cb,1,none⟩=some (.int .i64 cb)∧vx.drew.cell? ⟨Cb,2,none⟩=some (.int .i64 cc):=⟨by rw[←Ig.out];exact M9.out.at'.1,P9.out.1,P9.out.2.1,P9.out.2.2.1⟩;refine Cz ⟨e1,e2,e3,e4⟩ (by kernel_rfl) (fun CC=>?_);clear e1 e2 e3 e4;have bw:=(bR vx.heap.size vx).drew;have MA:=aH (M9.out.below bw);have TA:=aH (T9.out.below bw);have PA:=aH (P9.out.below bw);have BA:=aH (Below.drew B9.out);have PV:=aH (fun(a:Addr) (u:Value) (h:V.cell? a=some u) (n2:some a.block≠bk s.lA)=>kK bw (Mt.out a u h n2));clear bw M9 T9 P9 B9 Mt;generalize vx.drew=vy at *;refine wk [.k 0 44,.k 1 45,.k 2 46,.k 3 47,.k 4 48,.k 5 49,.k 6 50,.k 7 51,.k 8 52] (fun _ _ _ _ _ h=>h) CC ?_ (by kernel_rfl);repeat (refine .k (v:=?_) rfl (by kernel_rfl) ?_ ?_;rotate_left 1;(intro w h;go_simp<;>try rfl);try simp only[sp])
 refine .nil ?_;refine wQ 9 none rfl (fun K hK=>?_) (by kernel_rfl);have Hy:=MA.out.c;rw[show({s with ll:=s.ll.set k ⟨ZR,ZM,A',c',ZZ⟩}:Stk).cA=some ⟨gc,0,none⟩from Ig.out]at Hy;obtain⟨q0,q1,q2,y0,y1,y2⟩:=KE.Own.at3 Hy rfl k hk;dsimp only at q0 q1 q2;clear Hy;go_simp;clear q0 q1 q2 y0 y1 y2;have EO:gc≠D:=by have:=HG.out;omega
 have J4:gc≠Cb:=by have:=HG.out;omega
 have st3:∀a u,vy.cell? a=some u→gc≠a.block→(((vy.setCell ⟨gc,k*3,none⟩ (.int .i64 ca)).setCell ⟨gc,k*3+1,none⟩ (.int .i64 cb)).setCell ⟨gc,k*3+2,none⟩ (.int .i64 cc)).cell? a=some u:=fun a u h CJ=>sO (sO (sO h (fun e=>CJ (by rw[←e]))) (fun e=>CJ (by rw[←e]))) (fun e=>CJ (by rw[←e]));have PN:=aH (fun(a:Addr) (u:Value) (h:V.cell? a=some u) (n1:some a.block≠bk s.cA) (n2:some a.block≠bk s.lA)=>st3 a u (PV.out a u h n2) (fun e=>n1 (by rw[Ig.out,←e];rfl)));obtain⟨f1,f2,f3,f4⟩:=CC;have IL:=aI (st3 _ _ f1 EO) (aI (st3 _ _ f2 J4) (aI (st3 _ _ f3 J4) (st3 _ _ f4 J4)));clear f1 f2 f3 f4;refine hK.out _ _ IL (fun CC=>?_);clear hK K;clear IL CC st3;try simp only[sp]
 refine wD (by kernel_rfl) ?_;go_wp2
 go_end0
 ·refine⟨⟨ZR,ZM,A',c',ZZ⟩,rfl,HP.out.symm,MA.out.putC k hk gc Ig.out ⟨ca,cb,cc⟩ HC.out,((TA.out.off (g:=gc) (.inl EO) _).off (g:=gc) (.inl EO) _).off (g:=gc) (.inl EO) _,?_,PN.out⟩;exact((BA.out.setCell (by show D≤gc;have:=HG.out;omega) _).setCell (by show D≤gc;have:=HG.out;omega) _).setCell (by show D≤gc;have:=HG.out;omega) _
theorem kb (s:Stk) (d:Dk) (b':Int) (V:World) (B D k:Nat) (c:Cel.Ce) (hM:Mine V B D s) (hT:Tl V D d b') (hk:k<s.cl.length) (Ft:k<s.ll.length) (hc:c.Fit) (hn:ae (c.b-(s.cl.getD k aM).b)) (h1:s.cl.length≤100000) (h2:s.ll.length≤100000):
  Calls prog 255 #[.pointer (some ⟨D,0,none⟩),.int .i64 k,c.v] V fun e V'=>∃q:Lo,e=.returned (.tuple #[])∧q.ab=xK s k c b'∧Mine V' B D {s with ll:=s.ll.set k q,cl:=s.cl.set k c}∧Tl V' D d b'∧Below D V V':=by
 refine(pU s d b' V B D k c hM hT hk Ft hc hn h1 h2).mono ?_;rintro e V' ⟨q,h⟩;exact⟨q,h.1,h.2.1,h.2.2.1,h.2.2.2.1,h.2.2.2.2.1⟩
theorem jd (s:Stk) (d:Dk) (b':Int) (V:World) (B D k kf:Nat) (p:Int×Int) (er:Int) (hM:Mine V B D s) (hT:Tl V D d b') (hk:k<s.tl.length) (hp:ae p.1∧ae p.2) (h3:s.tl.length≤100000) (E9:∀args w,(callFunc kf args).run prog w=.ok (.enter kf args) w)
  (hdo:∀W,Calls prog kf #[Tp.tpV (s.tl.getD k (0,0)).1 (s.tl.getD k (0,0)).2,.int .i64 b'] W fun e W'=>e=.returned (Tp.tpE p er)∧Below W.heap.size W W'):
  Calls prog 188 #[.pointer (some ⟨D,0,none⟩),.int .i64 k,.func (.func kf) #[] #[]] V fun e V'=>e=.returned (.int .i64 er)∧Mine V' B D {s with tl:=s.tl.set k p}∧Tl V' D d b'∧Below D V V':=by
 have HM:=aH hM;have HT:=aH hT;have HP:=aH hp;have Kl:=aH E9;obtain⟨gt,et,gt1,gt2,gt3⟩:=hM.tAt (by omega);have HG:=aH (show B≤gt∧gt<V.heap.size∧s.tl.length≤s.tc∧D<B∧B≤V.heap.size from⟨gt1,gt2,gt3,hM.lt,hM.le⟩);have PQ:=aH et;have Ed:=aH (fun(W:World) (h:Mine W B D s)=>show W.cell? ⟨gt,k*2,none⟩=some (.int .i64 (s.tl.getD k (0,0)).1)∧W.cell? ⟨gt,k*2+1,none⟩=some (.int .i64 (s.tl.getD k (0,0)).2)∧W.frozen? ⟨gt,k*2,none⟩=false∧W.frozen? ⟨gt,k*2+1,none⟩=false from by
  have ho:=h.t;rw[PQ.out]at ho;exact KT.Own.at2 ho rfl k hk)
 have FQ:=aH hdo;obtain⟨X,hX⟩:∃X,s.tl.getD k (0,0)=X:=⟨_,rfl⟩;rw[hX]at Ed FQ;obtain⟨x1,x2⟩:=X;obtain⟨p1,p2⟩:=p;dsimp only at *;have UD:(k:Int)<s.tl.length:=by omega
 clear hM hT hp E9 hdo gt1 gt2 gt3 et hX;go_enter func188,ntmps188
 go_upto_region 2 with fail
 obtain⟨e1,e2⟩:V.drew.cell? ⟨D,2,none⟩=some (.slice (some ⟨gt,0,none⟩) s.tl.length s.tc)∧V.drew.cell? ⟨D,10,none⟩=some (.int .i64 b'):=⟨by rw[←PQ.out];exact HM.out.at'.2.2.1,HT.out.2.2.2.2.1⟩;refine pE ⟨e1,e2⟩ (by kernel_rfl) (fun CC=>?_);clear e1 e2;have bw:=(bR V.heap.size V).drew;have M7:=aH (HM.out.below bw);have T7:=aH (HT.out.below bw);have B7:=aH (Below.drew (bR D V));have Z7:=aH (show V.heap.size≤V.drew.heap.size from nR _);clear bw HM HT;generalize V.drew=v0 at *;refine wk [.k 0 9,.k 1 10,.k 2 11,.k 3 12,.k 4 13,.k 5 14,.k 6 15,.k 7 16,.k 8 17,.k 9 18,.k 10 19,.k 11 20,.k 12 21,.k 13 22,.k 14 23,.k 15 24,.k 17 26,.k 18 27,.k 19 28,.k 20 29] (fun _ _ _ _ _ h=>h) CC ?_ (by kernel_rfl);repeat (refine .k (v:=?_) rfl (by kernel_rfl) ?_ ?_;rotate_left 1;(intro w h;go_simp<;>try rfl);try simp only[sp])
 refine .nil ?_;refine wQ 16 (some 25) rfl (fun K hK=>?_) (by kernel_rfl);obtain⟨r0,r1,_⟩:=Ed.out _ M7.out;go_simp;clear r0 r1;refine hK.out _ _ CC (fun CC=>?_);clear hK K;try simp only[sp]
 refine wQ 21 (some 30) rfl (fun K hK=>?_) (by kernel_rfl);have E9:=Kl.out;go_simp;refine(FQ.out _).mono ?_;rintro e v1 ⟨rfl,hb⟩;have M8:=aH (M7.out.below hb);have T8:=aH (T7.out.below hb);have B8:=aH (B7.out.trans (hb.mono (by have:=T7.out.2.2.2.2.2;omega)));obtain⟨f1,f2⟩:=CC;have hH:=aI (kK hb f1) (kK hb f2);clear f1 f2;go_wp2_with fail;clear hb E9 M7 T7 B7;refine hK.out _ _ hH (fun CC=>?_);clear hK K;clear hH;try simp only[sp]
 refine wk [.k 22 8,.k 23 31,.k 24 32,.k 25 33] (fun _ _ _ _ _ h=>h) CC ?_ (by kernel_rfl);repeat (refine .k (v:=?_) rfl (by kernel_rfl) ?_ ?_;rotate_left 1;(intro w h;go_simp<;>try rfl);try simp only[sp])
 refine .nil ?_;refine wQ 26 none rfl (fun K hK=>?_) (by kernel_rfl);obtain⟨r0,r1,y0,y1⟩:=Ed.out _ M8.out;go_simp;clear r0 r1 y0 y1;have EO:gt≠D:=by have:=HG.out;omega
 have M9:=aH (show Mine ((v1.setCell ⟨gt,k*2,none⟩ (.int .i64 p1)).setCell ⟨gt,k*2+1,none⟩ (.int .i64 p2)) B D {s with tl:=s.tl.set k (p1,p2)}from M8.out.putT k hk gt PQ.out (p1,p2) HP.out);have T9:=aH ((T8.out.off (g:=gt) (o:=k*2) (.inl EO) (.int .i64 p1)).off (g:=gt) (o:=k*2+1) (.inl EO) (.int .i64 p2));have B9:=aH (show Below D V ((v1.setCell ⟨gt,k*2,none⟩ (.int .i64 p1)).setCell ⟨gt,k*2+1,none⟩ (.int .i64 p2))from(B8.out.setCell (by show D≤gt;have:=HG.out;omega) _).setCell (by show D≤gt;have:=HG.out;omega) _);have st2:∀a u,v1.cell? a=some u→gt≠a.block→((v1.setCell ⟨gt,k*2,none⟩ (.int .i64 p1)).setCell ⟨gt,k*2+1,none⟩ (.int .i64 p2)).cell? a=some u:=fun a u h CJ=>sO (sO h (fun e=>CJ (by rw[←e]))) (fun e=>CJ (by rw[←e]));obtain⟨f1,f2⟩:=CC;have IL:=aI (st2 _ _ f1 EO) (st2 _ _ f2 EO);clear f1 f2;refine hK.out _ _ IL (fun CC=>?_);clear hK K;clear IL st2 EO M8 T8 B8;try simp only[sp]
 refine wk [.k 27 7] (fun _ _ _ _ _ h=>h) CC ?_ (by kernel_rfl);repeat (refine .k (v:=?_) rfl (by kernel_rfl) ?_ ?_;rotate_left 1;(intro w h;go_simp<;>try rfl);try simp only[sp])
 refine .nil ?_;refine wD (by kernel_rfl) ?_;clear CC;go_wp2;refine bP (v:=.int .i64 er) ?_ rfl ⟨rfl,M9.out,T9.out,B9.out⟩;simp[results,results188,go_sem]
def Stk.fl (s:Stk) (o:Nat) (n:Int):Stk:=if o=4 then {s with inn:=n}else {s with out:=n}
theorem Mine.putO {V:World} {B D o:Nat} {s:Stk} (h:Mine V B D s) (ho:o=4∨o=5) (n:Int) (hn:ae n):Mine (V.setCell ⟨D,o,none⟩ (.int .i64 n)) B D (s.fl o n):=by
 rcases ho with rfl|rfl
 ·exact(h.putF n hn).1
 ·exact(h.putF n hn).2
theorem Stk.fl_cl (s:Stk) (o:Nat) (n:Int):(s.fl o n).cl=s.cl∧(s.fl o n).ll=s.ll∧(s.fl o n).tl=s.tl:=by unfold Stk.fl;split<;>exact⟨rfl,rfl,rfl⟩
noncomputable def rE (d:Dk) (id er f:Int):Int:=if dJ d 1 id=true then(if er=0 then(if cz f=true then 0 else 4)else er)else 3
theorem tJ (s:Stk) (d:Dk) (b':Int) (V:World) (B D kf o:Nat) (id n z er:Int) (x:Cel.Ce) (hM:Mine V B D s) (hT:Tl V D d b') (hd:d.In V D) (DU:ae id) (h1:s.cl.length≤100000) (h2:s.ll.length≤100000)
  (ho:o=4∧z=s.inn∨o=5∧z=s.out) (hw:dJ d 1 id=true→∃k:Nat,id=k∧k<s.cl.length∧k<s.ll.length) (hx:x.Fit) (hdif:∀k:Nat,id=k→er=0→ae (x.b-(s.cl.getD k aM).b)) (hz:er=0→ae (z+n))
  (E9:∀args w,(callFunc kf args).run prog w=.ok (.enter kf args) w)
  (hdo:∀k:Nat,id=k→dJ d 1 id=true→∀W,Calls prog kf #[(s.cl.getD k aM).v,.int .i64 n] W fun e W'=>e=.returned (Cel.ceE x er)∧Below W.heap.size W W'):
  Calls prog 257 #[.pointer (some ⟨D,0,none⟩),.int .i64 id,.int .i64 n,.func (.func kf) #[] #[],.pointer (some ⟨D,o,none⟩)] V fun e V'=>e=.returned (.int .i64 (rE d id er (z+n)))∧
   (rE d id er (z+n)=0→∃(k:Nat) (q:Lo),id=k∧q.ab=xK s k x b'∧Mine V' B D {s.fl o (z+n)with ll:=s.ll.set k q,cl:=s.cl.set k x}∧Tl V' D d b')∧Below D V V':=by
 have EL:=aH (show D<V.heap.size from hT.2.2.2.2.2);have HM:=aH hM;have HT:=aH hT;obtain⟨t0,t1,t2,t3,t4,_⟩:=hT;have He:=aH (dK d 1 id DU V (hd.more (Nat.le_of_lt EL.out)));by_cases hP:dJ d 1 id=true
 case neg=>
  have hP:dJ d 1 id=false:=by simpa using hP
  have hE:rE d id er (z+n)=3:=by unfold rE;rw[hP];rfl
  rw[hE];rw[hP]at He;clear hw hdif hz E9 hdo ho hx hd hE hM;go_enter func257,ntmps257;go_wp2_with fail;refine He.out.mono ?_;rintro e w1 ⟨rfl,CE⟩;have CH:=aH (CE.mono (Nat.le_of_lt EL.out));clear CE;go_wp2;refine bP (v:=.int .i64 3) ?_ rfl ⟨rfl,fun h=>absurd h (by decide),CH.out⟩;simp[results,results257,go_sem]
 obtain⟨k,rfl,hk,Ft⟩:=hw hP;have FQ:=aH (hdo k rfl hP);have HX:=aH hx;have Kl:=aH E9;rw[hP]at He;have hE:rE d k er (z+n)=(if er=0 then(if cz (z+n)=true then 0 else 4)else er):=by unfold rE;rw[hP];rfl
 have HE:=aH hE;generalize rE d k er (z+n)=E at *;have OU:=aH (hdif k rfl);have HZ:=aH hz;have HO:=aH ho;obtain⟨gc,ec,gc1,gc2,gc3⟩:=hM.cAt (by omega);have Ig:=aH ec;have Ed:=aH (fun(W:World) (h:Mine W B D s)=>show W.cell? ⟨gc,k*3,none⟩=some (.int .i64 (s.cl.getD k aM).a)∧W.cell? ⟨gc,k*3+1,none⟩=some (.int .i64 (s.cl.getD k aM).b)∧W.cell? ⟨gc,k*3+2,none⟩=some (.int .i64 (s.cl.getD k aM).c)from by
  have Hy:=h.c;rw[Ig.out]at Hy;obtain⟨q0,q1,q2,_⟩:=KE.Own.at3 Hy rfl k hk;exact⟨q0,q1,q2⟩)
 obtain⟨X,hX⟩:∃X,s.cl.getD k aM=X:=⟨_,rfl⟩;have Jo:=aH hX;rw[hX]at Ed FQ OU;obtain⟨xa,xb,xc⟩:=X;obtain⟨ya,yb,yc⟩:=x;dsimp only at Ed FQ OU;have Sr:(k:Int)<s.cl.length:=by omega
 clear hw hdif hz E9 hdo hx hd hE hM gc1 gc2 gc3 ec DU hP ho hX;go_enter func257,ntmps257;go_wp2_with fail;refine He.out.mono ?_;rintro e w1 ⟨rfl,CE⟩;have CH:=aH (CE.mono (Nat.le_of_lt EL.out));have M1:=aH (HM.out.below CE);have T1:=aH (HT.out.below CE);have g0:=M1.out.at'.1;rw[Ig.out]at g0;obtain⟨q0,q1,q2⟩:=Ed.out _ M1.out;clear CE t0 t1 t2 t3 t4;have E9:=Kl.out;go_wp2_with fail;refine(FQ.out _).mono ?_;rintro e w2 ⟨rfl,CM⟩;have Fs:D≤w1.heap.size:=by have:=T1.out.2.2.2.2.2;omega
 have CL:=aH (CH.out.trans (CM.mono Fs));have M2:=aH (M1.out.below CM);have T2:=aH (T1.out.below CM);clear CM Fs g0 q0 q1 q2 E9 M1 T1 CH HM HT;by_cases her:er=0
 case neg=>
  have Ex:E=er:=by rw[HE.out,if_neg her]
  subst Ex;have SY:(E==0)=false:=by simpa using her
  have Qb:=aH her;clear her;go_wp2;refine bP (v:=.int .i64 E) ?_ rfl ⟨rfl,fun h=>absurd h Qb.out,?_⟩
  ·simp[results,results257,go_sem]
  ·exact CL.out.trans ((bL (bR w2.heap.size w2) _).mono (by have:=T2.out.2.2.2.2.2;omega))
 subst her;rw[if_pos rfl]at HE;have Ll:=OU.out rfl;have Oz:=HZ.out rfl
 go_upto_region 6 with fail
 have CZ:=bL (bR w2.heap.size w2) (.cells #[.int .i64 ya,.int .i64 yb,.int .i64 yc] 70);have M3:=aH (M2.out.below CZ);have T3:=aH (T2.out.below CZ);have B3:=aH (CL.out.trans (CZ.mono (by have:=T2.out.2.2.2.2.2;omega)));have P3:=aH (Cells3.new w2 70 (.int .i64 ya) (.int .i64 yb) (.int .i64 yc));obtain⟨Cb,hCb⟩:∃Cb,w2.heap.size=Cb:=⟨_,rfl⟩;have TB:=aH (show D<Cb by have:=T2.out.2.2.2.2.2;omega);generalize w2.alloc (.cells #[.int .i64 ya,.int .i64 yb,.int .i64 yc] 70)=w3 at *;rw[hCb]at P3;try simp only[hCb]
 clear CZ hCb M2 T2 CL;obtain⟨c0,f0⟩:w3.cell? ⟨D,o,none⟩=some (.int .i64 z)∧w3.frozen? ⟨D,o,none⟩=false:=by
  obtain⟨_,_,_,_,c4,c5,_,_,_,_,f4,f5,_⟩:=M3.out.at';rcases HO.out with ⟨rfl,rfl⟩|⟨rfl,rfl⟩
  ·exact⟨c4,f4⟩
  ·exact⟨c5,f5⟩
 have Hj:Go.RowKit.wrap64 (z+n)=z+n:=ef _ Oz;have R3:=aH Oz
 go_upto_region 7 with fail
 have QY:o=4∨o=5:=by rcases HO.out with h|h;exact .inl h.1;exact .inr h.1
 have M4:=aH (M3.out.putO QY (z+n) R3.out);have T4:=aH (T3.out.off (g:=D) (o:=o) (.inr (by omega)) (.int .i64 (z+n)));have P4:=aH (P3.out.off (D:=D) (o:=o) (by have:=TB.out;omega) (.int .i64 (z+n)));have B4:=aH (show Below D V (w3.setCell ⟨D,o,none⟩ (.int .i64 (z+n)))from B3.out.setCell (nR _) _);have c1:(w3.setCell ⟨D,o,none⟩ (.int .i64 (z+n))).cell? ⟨D,o,none⟩=some (.int .i64 (z+n)):=ag c0;generalize w3.setCell ⟨D,o,none⟩ (.int .i64 (z+n))=w4 at *;clear c0 f0 Hj M3 T3 P3 B3 QY Oz;go_wp2_with fail;refine(iG (z+n) _).mono ?_;rintro e w5 ⟨rfl,rfl⟩;by_cases hf:cz (z+n)=true
 case neg=>
  have Ex:E=4:=by rw[HE.out,if_neg hf]
  subst Ex;have hf:cz (z+n)=false:=by simpa using hf
  rw[hf];go_wp2;refine bP (v:=.int .i64 4) ?_ rfl ⟨rfl,fun h=>absurd h (by decide),B4.out⟩;simp[results,results257,go_sem]
 have Ex:E=0:=by rw[HE.out,if_pos hf]
 subst Ex;rw[hf];obtain⟨p0,p1,p2,_⟩:=P4.out;go_wp2_with fail;obtain⟨l1,l2,l3⟩:=s.fl_cl o (z+n);have Ge:=aH (show xK (s.fl o (z+n)) k ⟨ya,yb,yc⟩ b'=xK s k ⟨ya,yb,yc⟩ b' by unfold xK;rw[l1,l2]);refine(kb (s.fl o (z+n)) d b' w4 B D k ⟨ya,yb,yc⟩ M4.out T4.out (by rw[l1];exact hk) (by rw[l2];exact Ft) HX.out (by rw[l1,Jo.out];exact Ll) (by rw[l1];exact h1) (by rw[l2];exact h2)).mono ?_;rintro e w6 ⟨q,rfl,hq,hM6,hT6,hb6⟩;rw[l1,l2]at hM6;rw[Ge.out]at hq;have Ew:=aH (B4.out.trans hb6);have HQ:=aH (aI hq (aI hM6 hT6));clear l1 l2 l3 hq hM6 hT6 hb6 p0 p1 p2 c1;go_wp2;refine bP (v:=.int .i64 0) ?_ rfl ⟨rfl,⟨k,rfl,q,HQ.out⟩,Ew.out⟩;simp[results,results257,go_sem]
theorem sr (d:Dk) (a:Ab) (h:cE d a=true):(0≤a.inn∧a.inn≤1152921504606846976)∧(0≤a.out∧a.out≤1152921504606846976)∧(∀k,k<a.c.length→(a.c.getD k aM).Right)∧aJ d=0∧a.c.length=au d∧a.l.length=au d∧a.t.length=bm d:=by
 unfold cE at h;rw[Bool.and_eq_true,Bool.and_eq_true,Bool.and_eq_true,Bool.and_eq_true,decide_eq_true_eq,decide_eq_true_eq]at h;obtain⟨hz,⟨⟨h1,h2⟩,_⟩,rs⟩:=h;obtain⟨n1,n2,n3,n4,n5⟩:=bF d hz;obtain⟨l1,l2⟩:=gq h1;unfold rh at rs;rw[Bool.and_eq_true,Bool.and_eq_true,Bool.and_eq_true]at rs;obtain⟨⟨⟨_,f1⟩,f2⟩,_⟩:=rs;unfold cz at f1 f2;rw[Bool.and_eq_true,decide_eq_true_eq,decide_eq_true_eq]at f1 f2;refine⟨f1,f2,fun k hk=>?_,cm d hz,by omega,by omega,by omega⟩;unfold hJ at h1;rw[Bool.and_eq_true,List.all_eq_true]at h1;have:=h1.2 k (List.mem_range.2 hk);unfold nF at this;rw[Bool.and_eq_true,Bool.and_eq_true]at this;exact of_decide_eq_true this.1.1
def BD (a:Ab) (k:Nat) (c:Cel.Ce) (b':Int):Int×Int×List Ch:=
 (Lg.ntR (a.l.getD k (0,0,[])).1 (a.l.getD k (0,0,[])).2.1 (a.l.getD k (0,0,[])).2.2 b' (c.b-(a.c.getD k aM).b),Lg.ntM (a.l.getD k (0,0,[])).1 (a.l.getD k (0,0,[])).2.1 (a.l.getD k (0,0,[])).2.2 b' (c.b-(a.c.getD k aM).b),Lg.ntZ (a.l.getD k (0,0,[])).1 (a.l.getD k (0,0,[])).2.1 (a.l.getD k (0,0,[])).2.2 b' (c.b-(a.c.getD k aM).b))
theorem nj (s:Stk) (k:Nat) (hk:k<s.ll.length) (c:Cel.Ce) (b':Int):xK s k c b'=BD s.ab k c b':=by
 unfold xK BD;rw[oz s k hk];rfl
theorem tO {x:Cel.Ce} {m:Int} (h:Cel.chE x m=0):x.Right∧m≠0∧x.c≠2147483647∧0≤x.b+m∧x.b+m≤x.a:=by
 unfold Cel.chE at h;by_cases h1:x.Right
 case neg=>rw[if_pos h1]at h;cases h
 rw[if_neg (by simpa using h1)]at h;by_cases h2:m=0
 ·rw[if_pos h2]at h;cases h
 rw[if_neg h2]at h;by_cases h3:x.c=2147483647
 ·rw[if_pos h3]at h;cases h
 rw[if_neg h3]at h;by_cases h4:x.b+m<0
 ·rw[if_pos h4]at h;cases h
 rw[if_neg h4]at h;by_cases h5:x.a<x.b+m
 ·rw[if_pos h5]at h;cases h
 exact⟨h1,h2,h3,by omega,by omega⟩
theorem eV {x:Cel.Ce} (h:x.Right):x.Fit:=by
 unfold Cel.Ce.Right at h;exact⟨by unfold ae;omega,by unfold ae;omega,by unfold ae;omega⟩
theorem la (x:Cel.Ce) (m:Int):(Cel.chV x m).Fit:=by
 unfold Cel.chV;by_cases h:Cel.chE x m=0
 ·rw[if_pos h];obtain⟨h1,h2,h3,h4,h5⟩:=tO h;unfold Cel.Ce.Right at h1;exact⟨by unfold ae;dsimp only;omega,by unfold ae;dsimp only;omega,by unfold ae;dsimp only;omega⟩
 ·rw[if_neg h];exact⟨by decide,by decide,by decide⟩
theorem tY {x:Cel.Ce} {m:Int} (h:Cel.chE x m=0):(Cel.chV x m).b-x.b=m:=by
 unfold Cel.chV;rw[if_pos h];dsimp only;omega
def dV (a:Ab) (b':Int) (k:Nat) (m:Int) (o:Nat) (f:Int):Ab:=⟨a.c.set k (Cel.chV (a.c.getD k aM) m),a.l.set k (BD a k (Cel.chV (a.c.getD k aM) m) b'),a.t,a.st,if o=4 then f else a.inn,if o=4 then a.out else f⟩
noncomputable def cL (d:Dk) (a:Ab) (id m f:Int):Int:=rE d id (Cel.chE (a.c.getD id.toNat aM) m) f
theorem qf (d:Dk) (t:Stk) (b':Int) (V:World) (B D kf o:Nat) (id n m z:Int) (hrg:cE d t.ab=true) (hM:Mine V B D t) (hT:Tl V D d b') (hd:d.In V D) (DU:ae id)
  (ho:o=4∧z=t.inn∨o=5∧z=t.out) (hm:m=max n 0∨m= -(max n 0)) (E9:∀args w,(callFunc kf args).run prog w=.ok (.enter kf args) w)
  (hcall:∀x:Cel.Ce,x.Fit→∀W,Calls prog kf #[x.v,.int .i64 n] W fun e W'=>e=.returned (Cel.ceE (Cel.chV x m) (Cel.chE x m))∧Below W.heap.size W W'):
  Calls prog 257 #[.pointer (some ⟨D,0,none⟩),.int .i64 id,.int .i64 n,.func (.func kf) #[] #[],.pointer (some ⟨D,o,none⟩)] V fun e V'=>e=.returned (.int .i64 (cL d t.ab id m (z+n)))∧
   (cL d t.ab id m (z+n)=0→∃t':Stk,Mine V' B D t'∧t'.ab=dV t.ab b' id.toNat m o (z+n)∧t'.cl.length≤100000∧t'.ll.length≤100000∧t'.tl.length≤100000)∧Below D V V':=by
 obtain⟨r1,r2,r3,r4,r5,r6,r7⟩:=sr d t.ab hrg;obtain⟨l1,l2,l3,l4,l5,l6,l7,l8⟩:=eu d t hrg;have hR:∀k,k<t.cl.length→(t.cl.getD k aM).Right:=r3;have PO:dJ d 1 id=true→∃k:Nat,id=k∧k<t.cl.length∧k<t.ll.length:=by
  intro h;rw[(d6 d r4 id).1]at h;have:=of_decide_eq_true h;exact⟨id.toNat,by omega,by omega,by omega⟩
 have Qg:t.ab.inn=t.inn:=rfl;have Ow:t.ab.out=t.out:=rfl;rw[Qg]at r1;rw[Ow]at r2;refine(tJ t d b' V B D kf o id n z (Cel.chE (t.cl.getD id.toNat aM) m) (Cel.chV (t.cl.getD id.toNat aM) m) hM hT hd DU (by omega) (by omega) ho PO (la _ _) (fun k e he=>?_) (fun he=>?_) E9 (fun k e hP W=>?_)).mono ?_
 ·subst e;have e2:(k:Int).toNat=k:=by omega
  rw[e2]at he⊢;rw[tY he];obtain⟨h1,h2,h3,h4,h5⟩:=tO he;unfold Cel.Ce.Right at h1;unfold ae;omega
 ·obtain⟨h1,h2,h3,h4,h5⟩:=tO he;unfold Cel.Ce.Right at h1;unfold ae;rcases ho with ⟨_,rfl⟩|⟨_,rfl⟩
  ·omega
  ·omega
 ·subst e;have e2:(k:Int).toNat=k:=by omega
  rw[e2];obtain⟨k',e3,hk,_⟩:=PO hP;have e4:k'=k:=by omega
  subst e4;exact hcall _ (eV (hR _ hk)) W
 ·rintro e V' ⟨he,h,hb⟩;refine⟨he,fun h0=>?_,hb⟩;obtain⟨k,q,e1,hq,hM',_⟩:=h h0;subst e1;have e2:(k:Int).toNat=k:=by omega
  rw[e2]at hq hM'⊢;have hP:dJ d 1 (k:Int)=true:=by
   by_cases hp:dJ d 1 (k:Int)=true
   ·exact hp
   ·have:cL d t.ab k m (z+n)=3:=(by unfold cL rE;rw[if_neg hp]);rw[this]at h0
    cases h0
  obtain⟨k',e3,hk,Ft⟩:=PO hP;have e4:k'=k:=by omega
  subst e4;refine⟨_,hM',?_,by show(t.cl.set _ _).length≤_;rw[List.length_set];omega,by show(t.ll.set _ _).length≤_;rw[List.length_set];omega,by show(t.fl o (z+n)).tl.length≤_;rw[(t.fl_cl o (z+n)).2.2];omega⟩;rw[nj t k' Ft]at hq;rcases ho with ⟨rfl,_⟩|⟨rfl,_⟩
  ·simp only[Stk.ab,dV,Stk.fl,if_true,List.map_set,hq]
  ·simp only[Stk.ab,dV,Stk.fl,List.map_set,hq];rfl
end Go.Proofs.YtmecohdedghiaaaGreatDoor
