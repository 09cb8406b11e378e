/- Stocks: a right stock stays right. -/
import Derived.Test.YtmecohdedghiaaaGreatDoorPo20
import Derived.Shelf.Abstract
set_option maxRecDepth 100000
set_option maxHeartbeats 8000000
open Go.Proofs.Tryz
namespace Go.Proofs.YtmecohdedghiaaaGreatDoor
open Go.RowKit
theorem qL (d:Dk) (t:Stk) (b':Int) (V:World) (B D pi pn:Nat) (id n:Int) (hrg:cE d t.ab=true) (hM:Mine V B D t) (hT:Tl V D d b') (hd:d.In V D) (DU:ae id) (hn:ae n) (hpi:V.cell? ⟨pi,0,none⟩=some (.int .i64 id)) (Ev:V.cell? ⟨pn,0,none⟩=some (.int .i64 n)) (Ia:pi<D) (FZ:pn<D):
  Calls prog 256 #[.pointer (some ⟨D,0,none⟩),.pointer (some ⟨pi,0,none⟩),.pointer (some ⟨pn,0,none⟩)] V fun e V'=>e=.returned (.int .i64 (cL d t.ab id (max n 0) (t.inn+n)))∧
   (cL d t.ab id (max n 0) (t.inn+n)=0→∃t':Stk,Mine V' B D t'∧t'.ab=dV t.ab b' id.toNat (max n 0) 4 (t.inn+n)∧t'.cl.length≤100000∧t'.ll.length≤100000∧t'.tl.length≤100000)∧Below D V V':=by
 have DI:Below D V V.drew:=Below.drew (bR D V);have HF:=aH (fun W (hb:Below D V W) (hM':Mine W B D t) (hT':Tl W D d b')=>qf d t b' W B D 258 4 id n (max n 0) t.inn hrg hM' hT' (hd.below hb) DU (by simp) (by simp) (enters_of func258 (by kernel_rfl) rfl) (fun x hx W'=>Cel.pour_any x n hx hn W'));have HM:=aH hM;have HT:=aH hT;obtain⟨e1,e2⟩:V.drew.cell? ⟨pi,0,none⟩=some (.int .i64 id)∧V.drew.cell? ⟨pn,0,none⟩=some (.int .i64 n):=⟨hpi,Ev⟩;generalize cL d t.ab id (max n 0) (t.inn+n)=E at *;have HL:=aH (aI Ia FZ);clear hrg hM hT hd DU hn Ia FZ DI;go_enter func256,ntmps256
 go_upto_region 1 with fail
 clear hpi Ev;refine pE ⟨e1,e2⟩ (by kernel_rfl) (fun CC=>?_);clear e1 e2;have bw:=(bR V.heap.size V).drew;have M7:=aH (HM.out.below bw);have T7:=aH (HT.out.below bw);have B7:=aH (Below.drew (bR D V));clear bw HM HT;generalize V.drew=v0 at *;refine wk [.k 0 5,.k 1 6,.k 2 7,.k 3 8,.k 4 9,.k 5 10,.k 6 11,.k 7 12] (fun _ _ _ _ _ h=>h) CC ?_ (by kernel_rfl);repeat (refine .k (v:=?_) rfl (by kernel_rfl) ?_ ?_;rotate_left 1;(intro w h;go_simp<;>try rfl);try simp only[sp])
 refine .nil ?_;refine wQ 8 (some 13) rfl (fun K hK=>?_) (by kernel_rfl);go_simp;refine(HF.out v0 B7.out M7.out T7.out).mono ?_;rintro e v1 ⟨rfl,hres,hb⟩;have HR:=aH hres;have B8:=aH (B7.out.trans hb);obtain⟨f1,f2⟩:=CC;have hH:=aI ((hb.cell (p:=⟨pi,0,none⟩) HL.out.1).trans f1) ((hb.cell (p:=⟨pn,0,none⟩) HL.out.2).trans f2);clear f1 f2 hres hb M7 T7 B7;go_wp2_with fail;refine hK.out _ _ hH (fun CC=>?_);clear hK K;clear hH;try simp only[sp]
 refine wk [.k 9 4] (fun _ _ _ _ _ h=>h) CC ?_ (by kernel_rfl);repeat (refine .k (v:=?_) rfl (by kernel_rfl) ?_ ?_;rotate_left 1;(intro w h;go_simp<;>try rfl);try simp only[sp])
 refine .nil ?_;refine wD (by kernel_rfl) ?_;clear CC;go_wp2;refine bP (v:=.int .i64 E) ?_ rfl ⟨rfl,HR.out,B8.out⟩;simp[results,results256,go_sem]
theorem oq (d:Dk) (t:Stk) (b':Int) (V:World) (B D pi pn:Nat) (id n:Int) (hrg:cE d t.ab=true) (hM:Mine V B D t) (hT:Tl V D d b') (hd:d.In V D) (DU:ae id) (hn:ae n) (hpi:V.cell? ⟨pi,0,none⟩=some (.int .i64 id)) (Ev:V.cell? ⟨pn,0,none⟩=some (.int .i64 n)) (Ia:pi<D) (FZ:pn<D):
  Calls prog 259 #[.pointer (some ⟨D,0,none⟩),.pointer (some ⟨pi,0,none⟩),.pointer (some ⟨pn,0,none⟩)] V fun e V'=>e=.returned (.int .i64 (cL d t.ab id (-(max n 0)) (t.out+n)))∧
   (cL d t.ab id (-(max n 0)) (t.out+n)=0→∃t':Stk,Mine V' B D t'∧t'.ab=dV t.ab b' id.toNat (-(max n 0)) 5 (t.out+n)∧t'.cl.length≤100000∧t'.ll.length≤100000∧t'.tl.length≤100000)∧Below D V V':=by
 have DI:Below D V V.drew:=Below.drew (bR D V);have HF:=aH (fun W (hb:Below D V W) (hM':Mine W B D t) (hT':Tl W D d b')=>qf d t b' W B D 260 5 id n (-(max n 0)) t.out hrg hM' hT' (hd.below hb) DU (by simp) (by simp) (enters_of func260 (by kernel_rfl) rfl) (fun x hx W'=>Cel.draw_any x n hx hn W'));have HM:=aH hM;have HT:=aH hT;obtain⟨e1,e2⟩:V.drew.cell? ⟨pi,0,none⟩=some (.int .i64 id)∧V.drew.cell? ⟨pn,0,none⟩=some (.int .i64 n):=⟨hpi,Ev⟩;generalize cL d t.ab id (-(max n 0)) (t.out+n)=E at *;have HL:=aH (aI Ia FZ);clear hrg hM hT hd DU hn Ia FZ DI;go_enter func259,ntmps259
 go_upto_region 1 with fail
 clear hpi Ev;refine pE ⟨e1,e2⟩ (by kernel_rfl) (fun CC=>?_);clear e1 e2;have bw:=(bR V.heap.size V).drew;have M7:=aH (HM.out.below bw);have T7:=aH (HT.out.below bw);have B7:=aH (Below.drew (bR D V));clear bw HM HT;generalize V.drew=v0 at *;refine wk [.k 0 5,.k 1 6,.k 2 7,.k 3 8,.k 4 9,.k 5 10,.k 6 11,.k 7 12] (fun _ _ _ _ _ h=>h) CC ?_ (by kernel_rfl);repeat (refine .k (v:=?_) rfl (by kernel_rfl) ?_ ?_;rotate_left 1;(intro w h;go_simp<;>try rfl);try simp only[sp])
 refine .nil ?_;refine wQ 8 (some 13) rfl (fun K hK=>?_) (by kernel_rfl);go_simp;refine(HF.out v0 B7.out M7.out T7.out).mono ?_;rintro e v1 ⟨rfl,hres,hb⟩;have HR:=aH hres;have B8:=aH (B7.out.trans hb);obtain⟨f1,f2⟩:=CC;have hH:=aI ((hb.cell (p:=⟨pi,0,none⟩) HL.out.1).trans f1) ((hb.cell (p:=⟨pn,0,none⟩) HL.out.2).trans f2);clear f1 f2 hres hb M7 T7 B7;go_wp2_with fail;refine hK.out _ _ hH (fun CC=>?_);clear hK K;clear hH;try simp only[sp]
 refine wk [.k 9 4] (fun _ _ _ _ _ h=>h) CC ?_ (by kernel_rfl);repeat (refine .k (v:=?_) rfl (by kernel_rfl) ?_ ?_;rotate_left 1;(intro w h;go_simp<;>try rfl);try simp only[sp])
 refine .nil ?_;refine wD (by kernel_rfl) ?_;clear CC;go_wp2;refine bP (v:=.int .i64 E) ?_ rfl ⟨rfl,HR.out,B8.out⟩;simp[results,results259,go_sem]
def dU (a:Ab) (b':Int):Int×Bool:=Tp.fstV (Tp.hdP a.t b' 0) a.t.length
theorem tF (a:Ab) (b':Int) (h:(dU a b').2=true):∃k:Nat,(dU a b').1=k∧k<a.t.length:=by
 unfold dU Tp.fstV at h⊢
 cases e:(List.range a.t.length).find? (Tp.hdP a.t b' 0)with
 |none=>rw[e]at h;cases h
 |some i=>exact⟨i,rfl,List.mem_range.1 (List.mem_of_find?_eq_some e)⟩
def jg (a:Ab) (id:Int):Nat:=(id-a.c.length).toNat
noncomputable def eL (d:Dk) (a:Ab) (b' id:Int):Int:=if dJ d 2 id=true then(if (dU a b').2=true then 131 else Tp.tkE (a.t.getD (jg a id) (0,0)).1 (a.t.getD (jg a id) (0,0)).2 b')else 3
def fY (a:Ab) (b' id:Int):Ab:={a with t:=a.t.set (jg a id) (Tp.tkV (a.t.getD (jg a id) (0,0)).1 (a.t.getD (jg a id) (0,0)).2 b')}
def jr (a:Ab) (b':Int):Int:=if (dU a b').2=true then Tp.dpE (a.t.getD (dU a b').1.toNat (0,0)).1 (a.t.getD (dU a b').1.toNat (0,0)).2 b' else 131
def rC (a:Ab) (b':Int):Ab:={a with t:=a.t.set (dU a b').1.toNat (Tp.dpV (a.t.getD (dU a b').1.toNat (0,0)).1 (a.t.getD (dU a b').1.toNat (0,0)).2 b')}
theorem vi (x y b':Int) (hb:ae b'):ae (Tp.tkV x y b').1∧ae (Tp.tkV x y b').2:=by
 unfold Tp.tkV
 split
 ·exact⟨by show ae 2;decide,hb⟩
 ·exact⟨by decide,by decide⟩
theorem vh (x y b':Int):ae (Tp.dpV x y b').1∧ae (Tp.dpV x y b').2:=by
 unfold Tp.dpV
 split
 ·exact⟨by decide,by decide⟩
 ·exact⟨by decide,by decide⟩
theorem jF (d:Dk) (t:Stk) (b':Int) (V:World) (B D pd pi pb:Nat) (id:Int) (hrg:cE d t.ab=true) (hM:Mine V B D t) (hT:Tl V D d b') (hd:d.In V D) (DU:ae id) (Gw:ae b') (hpd:dv V pd d) (hpi:V.cell? ⟨pi,0,none⟩=some (.int .i64 id)) (hpb:V.cell? ⟨pb,0,none⟩=some (.int .i64 b')) (Ia:pi<D):
  Calls prog 186 #[.pointer (some ⟨D,0,none⟩),.pointer (some ⟨pd,0,none⟩),.pointer (some ⟨pi,0,none⟩),.pointer (some ⟨pb,0,none⟩)] V fun e V'=>e=.returned (.int .i64 (eL d t.ab b' id))∧
   (eL d t.ab b' id=0→∃t':Stk,Mine V' B D t'∧t'.ab=fY t.ab b' id∧t'.cl.length≤100000∧t'.ll.length≤100000∧t'.tl.length≤100000)∧Below D V V':=by
 have Dg:=sr d t.ab hrg;have Ds:=eu d t hrg;have Pr:=Dg.2.2.2.1;have r5:=Dg.2.2.2.2.1;have r7:=Dg.2.2.2.2.2.2;have l1:=Ds.1;have l2:=Ds.2.1;have l3:=Ds.2.2.1;have FZ:t.cl.length=au d:=r5;have CI:t.tl.length=bm d:=r7;have EL:=aH (show D<V.heap.size from hT.2.2.2.2.2);have HL:=aH (aI l1 (aI l2 l3));have HM:=aH hM;have HT:=aH hT;have He:=aH (dK d 2 id DU V (hd.more (Nat.le_of_lt EL.out)));have Dm:=aH (aI hpi hpb);have HE:=aH (show eL d t.ab b' id=(if dJ d 2 id=true then(if (dU t.ab b').2=true then 131 else Tp.tkE (t.tl.getD (jg t.ab id) (0,0)).1 (t.tl.getD (jg t.ab id) (0,0)).2 b')else 3)from rfl);have LO:=aH (d6 d Pr id).2;generalize eL d t.ab b' id=E at *;obtain⟨d0,d1,d2,d3,_⟩:=hpd;by_cases hP:dJ d 2 id=true
 case neg=>
  have Ex:E=3:=by rw[HE.out,if_neg hP]
  subst Ex;have hP:dJ d 2 id=false:=by simpa using hP
  rw[hP]at He;clear hrg hM hT hd DU Gw Ia hpb l1 l2 l3 r5 r7 FZ CI Dg Ds Pr;go_enter func186,ntmps186;go_wp2_with fail;refine He.out.mono ?_;rintro e w1 ⟨rfl,CE⟩;have CH:=aH (CE.mono (Nat.le_of_lt EL.out));clear CE;go_wp2;refine bP (v:=.int .i64 3) ?_ rfl ⟨rfl,fun h=>absurd h (by decide),CH.out⟩;simp[results,results186,go_sem]
 rw[if_pos hP]at HE;have Kb:(au d:Int)≤id∧id<au d+bm d:=by
  have h:=LO.out;rw[hP]at h;exact of_decide_eq_true h.symm
 obtain⟨k,hk⟩:∃k,jg t.ab id=k:=⟨_,rfl⟩;have Qk:id-(t.cl.length:Int)=k:=by
  have e:jg t.ab id=(id-(t.cl.length:Int)).toNat:=rfl;omega
 have Ft:k<t.tl.length:=by omega
 have HK:=aH (aI hk Ft);have OM:=aH (show IntKind.i64.wrap (id-(t.cl.length:Int))=(k:Int)by rw[bE _ (by rw[Qk];unfold ae;omega)];exact Qk);have HV:=aH (vi (t.tl.getD k (0,0)).1 (t.tl.getD k (0,0)).2 b' Gw);rw[hk]at HE;have FH:=aH (show fY t.ab b' id={t.ab with t:=t.tl.set k (Tp.tkV (t.tl.getD k (0,0)).1 (t.tl.getD k (0,0)).2 b')}by unfold fY;rw[hk];rfl);have NJ:=aH Ia;rw[hP]at He;have Ki:=aH (show Tp.fstV (Tp.hdP t.tl b' 0) t.tl.length=dU t.ab b' from rfl);obtain⟨⟨f1,f2⟩,hf⟩:∃x,dU t.ab b'=x:=⟨_,rfl⟩;rw[hf]at HE Ki;dsimp only at HE;clear hrg hM hT hd DU Gw Ia l1 l2 l3 r5 r7 FZ CI Dg Ds Pr hk Qk Ft Kb hf;go_enter func186,ntmps186;go_wp2_with fail;refine He.out.mono ?_;rintro e w1 ⟨rfl,CE⟩;have CH:=aH (CE.mono (Nat.le_of_lt EL.out));have M1:=aH (HM.out.below CE);have T1:=aH (HT.out.below CE);have X1:=aH (aI (kK CE Dm.out.1) (kK CE Dm.out.2));clear CE d0 d1 d2 d3 hpi hpb
 go_upto_region 3 with fail
 obtain⟨e1,e2⟩:w1.drew.cell? ⟨D,2,none⟩=some (.slice t.tA t.tl.length t.tc)∧w1.drew.cell? ⟨pb,0,none⟩=some (.int .i64 b'):=⟨M1.out.at'.2.2.1,X1.out.2⟩;refine pE ⟨e1,e2⟩ (by kernel_rfl) (fun CC=>?_);clear e1 e2;have bw:=(bR w1.heap.size w1).drew;have M2:=aH (M1.out.below bw);have T2:=aH (T1.out.below bw);have X2:=aH (aI (kK bw X1.out.1) (kK bw X1.out.2));have CL:=aH (Below.drew CH.out);clear bw M1 T1 X1 CH;generalize w1.drew=w2 at *;refine wk [.k 0 13,.k 1 14,.k 2 15,.k 3 16,.k 4 17,.k 5 18,.k 6 19] (fun _ _ _ _ _ h=>h) CC ?_ (by kernel_rfl);repeat (refine .k (v:=?_) rfl (by kernel_rfl) ?_ ?_;rotate_left 1;(intro w h;go_simp<;>try rfl);try simp only[sp])
 refine .nil ?_;refine wQ 7 (some 20) rfl (fun K hK=>?_) (by kernel_rfl);go_simp;refine(Tp.held_any (.slice t.tA t.tl.length t.tc) t.tl b' w2 (M2.out.inn (by have:=HL.out;omega) (by have:=HL.out;omega) (by have:=HL.out;omega)).t).mono ?_;rintro e w3 ⟨rfl,hb⟩;rw[Ki.out];have M3:=aH (M2.out.below hb);have T3:=aH (T2.out.below hb);have X3:=aH (aI (kK hb X2.out.1) (kK hb X2.out.2));have CS:=aH (CL.out.trans (hb.mono (by have:=T2.out.2.2.2.2.2;omega)));obtain⟨h1,h2⟩:=CC;have hH:=aI (kK hb h1) (kK hb h2);clear h1 h2 hb M2 T2 X2 CL;go_wp2_with fail;refine hK.out _ _ hH (fun CC=>?_);clear hK K;clear hH;try simp only[sp]
 refine wk [.k 8 12,.k 9 21,.k 10 22,.k 11 6,.k 12 7] (fun _ _ _ _ _ h=>h) CC ?_ (by kernel_rfl);repeat (refine .k (v:=?_) rfl (by kernel_rfl) ?_ ?_;rotate_left 1;(intro w h;go_simp<;>try rfl);try simp only[sp])
 refine .nil ?_;refine wD (by kernel_rfl) ?_;clear CC
 cases f2
 case true=>
  have Ex:E=131:=by rw[HE.out];rfl
  subst Ex;go_wp2;refine bP (v:=.int .i64 131) ?_ rfl (by first|exact⟨rfl,CS.out⟩|exact⟨rfl,fun h=>absurd h (by decide),CS.out⟩);simp[results,results186,go_sem]
 have Ex:E=Tp.tkE (t.tl.getD k (0,0)).1 (t.tl.getD k (0,0)).2 b':=by rw[HE.out];rfl
 have N9:=aH Ex;clear Ex
 go_upto_region 6 with fail
 obtain⟨e1,e2⟩:w3.drew.cell? ⟨D,0,none⟩=some (.slice t.cA t.cl.length t.cc)∧w3.drew.cell? ⟨pi,0,none⟩=some (.int .i64 id):=⟨M3.out.at'.1,X3.out.1⟩;refine pE ⟨e1,e2⟩ (by kernel_rfl) (fun CC=>?_);clear e1 e2;have bw:=(bR w3.heap.size w3).drew;have M4:=aH (M3.out.below bw);have T4:=aH (T3.out.below bw);have CW:=aH (Below.drew CS.out);have E9:=enters_of (P:=prog) (f:=189) func189 (by kernel_rfl) rfl;have HH:=aH (jd t d b' w3.drew B D k 189 (Tp.tkV (t.tl.getD k (0,0)).1 (t.tl.getD k (0,0)).2 b') (Tp.tkE (t.tl.getD k (0,0)).1 (t.tl.getD k (0,0)).2 b') M4.out T4.out HK.out.2 HV.out (by have:=HL.out;omega) E9 (fun W=>Tp.take_any _ _ b' W));clear bw M3 T3 CS E9;have hX:=X3.out.1;clear X3;rw[←N9.out]at HH;generalize w3.drew=w4 at *;refine wk [.k 0 24,.k 1 25,.k 2 26,.k 3 27,.k 4 28,.k 5 29,.k 6 30,.k 7 31,.k 8 32,.k 9 33] (fun _ _ _ _ _ h=>h) CC ?_ (by kernel_rfl);repeat (refine .k (v:=?_) rfl (by kernel_rfl) ?_ ?_;rotate_left 1;(intro w h;go_simp<;>try rfl);try simp only[sp])
 refine .nil ?_;rw[OM.out];refine wQ 10 (some 34) rfl (fun K hK=>?_) (by kernel_rfl);go_simp;refine HH.out.mono ?_;rintro e w5 ⟨rfl,hM5,hT5,EN⟩;have M7:=aH hM5;have H9:=aH (CW.out.trans EN);obtain⟨h1,h2⟩:=CC;have hH:=aI (show w5.cell? ⟨D,0,none⟩=some (.slice t.cA t.cl.length t.cc)from hM5.at'.1) ((EN.cell (p:=⟨pi,0,none⟩) NJ.out).trans h2);clear h1 h2 hM5 hT5 EN M4 T4 CW;go_wp2_with fail;refine hK.out _ _ hH (fun CC=>?_);clear hK K;clear hH;try simp only[sp]
 refine wk [.k 11 5] (fun _ _ _ _ _ h=>h) CC ?_ (by kernel_rfl);repeat (refine .k (v:=?_) rfl (by kernel_rfl) ?_ ?_;rotate_left 1;(intro w h;go_simp<;>try rfl);try simp only[sp])
 refine .nil ?_;refine wD (by kernel_rfl) ?_;clear CC;go_wp2;refine bP (v:=.int .i64 E) ?_ rfl ⟨rfl,fun _=>⟨_,M7.out,?_,by show t.cl.length≤_;have:=HL.out;omega,by show t.ll.length≤_;have:=HL.out;omega,by show(t.tl.set _ _).length≤_;rw[List.length_set];have:=HL.out;omega⟩,H9.out⟩
 ·simp[results,results186,go_sem]
 ·rw[FH.out];rfl
theorem jv (d:Dk) (t:Stk) (b':Int) (V:World) (B D pb:Nat) (hrg:cE d t.ab=true) (hM:Mine V B D t) (hT:Tl V D d b') (hpb:V.cell? ⟨pb,0,none⟩=some (.int .i64 b')):
  Calls prog 190 #[.pointer (some ⟨D,0,none⟩),.pointer (some ⟨pb,0,none⟩)] V fun e V'=>e=.returned (.int .i64 (jr t.ab b'))∧
   (jr t.ab b'=0→∃t':Stk,Mine V' B D t'∧t'.ab=rC t.ab b'∧t'.cl.length≤100000∧t'.ll.length≤100000∧t'.tl.length≤100000)∧Below D V V':=by
 have Ds:=eu d t hrg;have EL:=aH (show D<V.heap.size from hT.2.2.2.2.2);have HL:=aH (aI Ds.1 (aI Ds.2.1 Ds.2.2.1));have HM:=aH hM;have HT:=aH hT;have HE:=aH (show jr t.ab b'=(if (dU t.ab b').2=true then Tp.dpE (t.tl.getD (dU t.ab b').1.toNat (0,0)).1 (t.tl.getD (dU t.ab b').1.toNat (0,0)).2 b' else 131)from rfl);have HA:=aH (show rC t.ab b'={t.ab with t:=t.tl.set (dU t.ab b').1.toNat (Tp.dpV (t.tl.getD (dU t.ab b').1.toNat (0,0)).1 (t.tl.getD (dU t.ab b').1.toNat (0,0)).2 b')}from rfl);have Hv:=aH (tF t.ab b');generalize jr t.ab b'=E at *;have Ki:=aH (show Tp.fstV (Tp.hdP t.tl b' 0) t.tl.length=dU t.ab b' from rfl);obtain⟨⟨f1,f2⟩,hf⟩:∃x,dU t.ab b'=x:=⟨_,rfl⟩;rw[hf]at HE Ki HA Hv;dsimp only at HE HA Hv;have Jg:=aH hpb;clear hrg hM hT hpb Ds hf;go_enter func190,ntmps190
 go_upto_region 1 with fail
 obtain⟨e1,e2⟩:V.drew.cell? ⟨D,2,none⟩=some (.slice t.tA t.tl.length t.tc)∧V.drew.cell? ⟨pb,0,none⟩=some (.int .i64 b'):=⟨HM.out.at'.2.2.1,Jg.out⟩;refine pE ⟨e1,e2⟩ (by kernel_rfl) (fun CC=>?_);clear e1 e2;have bw:=(bR V.heap.size V).drew;have M2:=aH (HM.out.below bw);have T2:=aH (HT.out.below bw);have CL:=aH (Below.drew (bR D V));clear bw;generalize V.drew=w2 at *;refine wk [.k 0 7,.k 1 8,.k 2 9,.k 3 10,.k 4 11,.k 5 12,.k 6 13] (fun _ _ _ _ _ h=>h) CC ?_ (by kernel_rfl);repeat (refine .k (v:=?_) rfl (by kernel_rfl) ?_ ?_;rotate_left 1;(intro w h;go_simp<;>try rfl);try simp only[sp])
 refine .nil ?_;refine wQ 7 (some 14) rfl (fun K hK=>?_) (by kernel_rfl);go_simp;refine(Tp.held_any (.slice t.tA t.tl.length t.tc) t.tl b' w2 (M2.out.inn (by have:=HL.out;omega) (by have:=HL.out;omega) (by have:=HL.out;omega)).t).mono ?_;rintro e w3 ⟨rfl,hb⟩;rw[Ki.out];have M3:=aH (M2.out.below hb);have T3:=aH (T2.out.below hb);have CS:=aH (CL.out.trans (hb.mono (by have:=T2.out.2.2.2.2.2;omega)));obtain⟨h1,h2⟩:=CC;have hH:=aI (kK hb h1) (kK hb h2);clear h1 h2 hb M2 T2 CL;go_wp2_with fail;refine hK.out _ _ hH (fun CC=>?_);clear hK K;clear hH;try simp only[sp]
 refine wk [.k 8 6,.k 9 15,.k 10 16,.k 11 4,.k 12 5] (fun _ _ _ _ _ h=>h) CC ?_ (by kernel_rfl);repeat (refine .k (v:=?_) rfl (by kernel_rfl) ?_ ?_;rotate_left 1;(intro w h;go_simp<;>try rfl);try simp only[sp])
 refine .nil ?_;refine wD (by kernel_rfl) ?_;clear CC
 cases f2
 case false=>
  have Ex:E=131:=by rw[HE.out];rfl
  subst Ex;go_wp2;refine bP (v:=.int .i64 131) ?_ rfl (by first|exact⟨rfl,CS.out⟩|exact⟨rfl,fun h=>absurd h (by decide),CS.out⟩);simp[results,results190,go_sem]
 obtain⟨k,hk,Ft⟩:=Hv.out rfl;subst hk;have e2:(k:Int).toNat=k:=by omega
 rw[e2]at HE HA;have NY:=aH (show k<t.tl.length from Ft);have Ex:Tp.dpE (t.tl.getD k (0,0)).1 (t.tl.getD k (0,0)).2 b'=E:=by rw[HE.out];rfl
 have HH:=aH (jd t d b' w3 B D k 191 (Tp.dpV (t.tl.getD k (0,0)).1 (t.tl.getD k (0,0)).2 b') (Tp.dpE (t.tl.getD k (0,0)).1 (t.tl.getD k (0,0)).2 b') M3.out T3.out NY.out (vh _ _ _) (by have:=HL.out;omega) (enters_of func191 (by kernel_rfl) rfl) (fun W=>Tp.drop_any _ _ b' W));rw[Ex]at HH;clear e2 Ex Ft;go_wp2_with fail;refine HH.out.mono ?_;rintro e w5 ⟨rfl,hM5,hT5,EN⟩;have M7:=aH hM5;have H9:=aH (CS.out.trans EN);clear hM5 hT5 EN;go_wp2;refine bP (v:=.int .i64 E) ?_ rfl ⟨rfl,fun _=>⟨_,M7.out,?_,by show t.cl.length≤_;have:=HL.out;omega,by show t.ll.length≤_;have:=HL.out;omega,by show(t.tl.set _ _).length≤_;rw[List.length_set];have:=HL.out;omega⟩,H9.out⟩
 ·simp[results,results190,go_sem]
 ·rw[HA.out];rfl
theorem drop_any (d:Dk) (s:Stk) (b':Int) (w:World) (hd:d.In w w.heap.size) (hs:s.In w w.heap.size):
  Calls prog 128 #[d.v,s.v,.int .i64 b'] w fun e w'=>∃t:Stk,e=.returned (.tuple #[t.v,.int .i64 (br d s.ab b' (jr s.ab b'))])∧t.In w' w'.heap.size∧t.ab=(if br d s.ab b' (jr s.ab b')=0 then rC s.ab b' else fP)∧Below w.heap.size w w':=by
 obtain⟨w0,hw0⟩:∃w0,w0=((((w.alloc d.ob).alloc s.ob).alloc (.cells #[.int .i64 b'] 3)).alloc zo):=⟨_,rfl⟩;have CG:=aH (BZ hw0);have CR:=aH (hd.then CG.out);have Dq:=aH (hs.then CG.out);have DO:=aH (show dv w0 w.heap.size d by rw[hw0];exact(((Cells4.new w _ _ _ _ _).below (bL (bR _ _) _)).below (bL (bR _ _) _)).below (bL (bR _ _) _));have CN:=aH (show cn w0 (w.heap.size+1) s by
  have e:(w.alloc d.ob).heap.size=w.heap.size+1:=by simp
  rw[hw0,←e];exact((Cells6.new (w.alloc d.ob) 41 _ _ _ _ _ _).below (bL (bR _ _) _)).below (bL (bR _ _) _))
 have Ef:=aH (show w0.cell? ⟨w.heap.size+2,0,none⟩=some (.int .i64 b')∧w0.heap.size=w.heap.size+4 by
  rw[hw0];refine⟨?_,by simp⟩
  ·have h:((w.alloc d.ob).alloc s.ob).heap.size=w.heap.size+2:=(by simp);refine kK (bL (bR _ _) _) (?_);rw[←h,ah];rfl)
 have DD:=aH (show Cells6 w0 (w.heap.size+3) (.slice none 0 0) (.slice none 0 0) (.slice none 0 0) (.int .i64 0) (.int .i64 0) (.int .i64 0)by
  have h:=Cells6.new (((w.alloc d.ob).alloc s.ob).alloc (.cells #[.int .i64 b'] 3)) 41 (.slice none 0 0) (.slice none 0 0) (.slice none 0 0) (.int .i64 0) (.int .i64 0) (.int .i64 0);rw[←hw0,show(((w.alloc d.ob).alloc s.ob).alloc (.cells #[.int .i64 b'] 3)).heap.size=w.heap.size+3 by simp]at h;exact h)
 have HC:=aH (aT d s b' 190 #[.pointer (some ⟨w.heap.size+2,0,none⟩)] (jr s.ab b') (rC s.ab b') w0 CR.out Dq.out (enters_of func190 (by kernel_rfl) rfl) (fun hrg hb1' Gu V B D t hM Dg hT hD hb FO=>by
  have hI:=Ef.out;have D8:w0.heap.size=w.heap.size+4:=hI.2;have J3:ae b':=by have h:=hd.a;unfold ae at h⊢;omega
  have e1:s.ab=t.ab:=Dg.symm;rw[e1];rw[e1]at hrg;exact jv d t b' V B D _ hrg hM hT (kK hb hI.1)))
 generalize jr s.ab b'=dE at *;generalize rC s.ab b'=dA at *;generalize br d s.ab b' dE=E at *;generalize (if E=0 then dA else fP)=dR at *;have FE:∀(fn:Fn) (first cap:Array Value) (w:World),(Instr.makeFunc fn first cap).run prog w=.ok (.func fn first cap) w:=fun _ _ _ _=>rfl;obtain⟨t0,t1,t2,t3,t4,t5,_⟩:=CN.out;obtain⟨d0,d1,d2,d3,_⟩:=DO.out;obtain⟨i0,_⟩:=Ef.out;clear hd hs;go_enter func128,ntmps128;go_wp2_with fail;rw[←hw0];clear hw0;refine HC.out.mono ?_;rintro e w1 ⟨t,rfl,ht,Dg,hfar,CE⟩;have Ht:=DD.out.below CE;obtain⟨r0,r1,r2,r3,r4,r5,y0,y1,y2,y3,y4,y5,_⟩:=Ht;have CU:=aH (DD.out.below CE);have CH:=aH (bC CG.out CE);have Ea:=aH (aI ht (aI Dg hfar));clear ht Dg hfar CE t0 t1 t2 t3 t4 t5 d0 d1 d2 d3 FE i0;go_wp2;have DA:=CU.out.setS t;obtain⟨q0,q1,q2,q3,q4,q5,_⟩:=DA;have D8:w0.heap.size=w.heap.size+4:=Ef.out.2;refine bP (v:=.tuple #[t.v,.int .i64 E]) ?_ rfl ?_
 ·simp[results,results128,go_sem,q0,q1,q2,q3,q4,q5]
 ·refine⟨t,rfl,?_,Ea.out.2.1,aF CH.out (by omega) _ _ _ _ _ _⟩;have:=Ea.out.1.set6 Ea.out.2.2 (D:=w.heap.size+3) (by omega) (.slice t.cA t.cl.length t.cc) (.slice t.lA t.ll.length t.lc) (.slice t.tA t.tl.length t.tc) (.int .i64 t.st) (.int .i64 t.inn) (.int .i64 t.out);simpa using this
theorem take_any (d:Dk) (s:Stk) (b' id:Int) (w:World) (hd:d.In w w.heap.size) (hs:s.In w w.heap.size) (DU:ae id):
  Calls prog 126 #[d.v,s.v,.int .i64 b',.int .i64 id] w fun e w'=>∃t:Stk,e=.returned (.tuple #[t.v,.int .i64 (br d s.ab b' (eL d s.ab b' id))])∧t.In w' w'.heap.size∧t.ab=(if br d s.ab b' (eL d s.ab b' id)=0 then fY s.ab b' id else fP)∧Below w.heap.size w w':=by
 obtain⟨w0,hw0⟩:∃w0,w0=(((((w.alloc d.ob).alloc s.ob).alloc (.cells #[.int .i64 b'] 3)).alloc (.cells #[.int .i64 id] 3)).alloc zo):=⟨_,rfl⟩;have CG:=aH (BB hw0);have CR:=aH (hd.then CG.out);have Dq:=aH (hs.then CG.out);have DO:=aH (show dv w0 w.heap.size d by rw[hw0];exact((((Cells4.new w _ _ _ _ _).below (bL (bR _ _) _)).below (bL (bR _ _) _)).below (bL (bR _ _) _)).below (bL (bR _ _) _));have CN:=aH (show cn w0 (w.heap.size+1) s by
  have e:(w.alloc d.ob).heap.size=w.heap.size+1:=by simp
  rw[hw0,←e];exact(((Cells6.new (w.alloc d.ob) 41 _ _ _ _ _ _).below (bL (bR _ _) _)).below (bL (bR _ _) _)).below (bL (bR _ _) _))
 have Ef:=aH (show w0.cell? ⟨w.heap.size+2,0,none⟩=some (.int .i64 b')∧w0.cell? ⟨w.heap.size+3,0,none⟩=some (.int .i64 id)∧w0.heap.size=w.heap.size+5 by
  rw[hw0];refine⟨?_,?_,by simp⟩
  ·have h:((w.alloc d.ob).alloc s.ob).heap.size=w.heap.size+2:=(by simp);refine kK (bL (bR _ _) _) (kK (bL (bR _ _) _) (?_));rw[←h,ah];rfl
  ·have h:(((w.alloc d.ob).alloc s.ob).alloc (.cells #[.int .i64 b'] 3)).heap.size=w.heap.size+3:=(by simp);refine kK (bL (bR _ _) _) (?_);rw[←h,ah];rfl)
 have DD:=aH (show Cells6 w0 (w.heap.size+4) (.slice none 0 0) (.slice none 0 0) (.slice none 0 0) (.int .i64 0) (.int .i64 0) (.int .i64 0)by
  have h:=Cells6.new ((((w.alloc d.ob).alloc s.ob).alloc (.cells #[.int .i64 b'] 3)).alloc (.cells #[.int .i64 id] 3)) 41 (.slice none 0 0) (.slice none 0 0) (.slice none 0 0) (.int .i64 0) (.int .i64 0) (.int .i64 0);rw[←hw0,show((((w.alloc d.ob).alloc s.ob).alloc (.cells #[.int .i64 b'] 3)).alloc (.cells #[.int .i64 id] 3)).heap.size=w.heap.size+4 by simp]at h;exact h)
 have HC:=aH (aT d s b' 186 #[.pointer (some ⟨w.heap.size,0,none⟩),.pointer (some ⟨w.heap.size+3,0,none⟩),.pointer (some ⟨w.heap.size+2,0,none⟩)] (eL d s.ab b' id) (fY s.ab b' id) w0 CR.out Dq.out (enters_of func186 (by kernel_rfl) rfl) (fun hrg hb1' Gu V B D t hM Dg hT hD hb FO=>by
  have hI:=Ef.out;have D8:w0.heap.size=w.heap.size+5:=hI.2.2;have J3:ae b':=by have h:=hd.a;unfold ae at h⊢;omega
  have e1:s.ab=t.ab:=Dg.symm;rw[e1];rw[e1]at hrg;exact jF d t b' V B D _ _ _ id hrg hM hT hD DU J3 (DO.out.below hb) (kK hb hI.2.1) (kK hb hI.1) (by omega)))
 generalize eL d s.ab b' id=dE at *;generalize fY s.ab b' id=dA at *;generalize br d s.ab b' dE=E at *;generalize (if E=0 then dA else fP)=dR at *;have FE:∀(fn:Fn) (first cap:Array Value) (w:World),(Instr.makeFunc fn first cap).run prog w=.ok (.func fn first cap) w:=fun _ _ _ _=>rfl;obtain⟨t0,t1,t2,t3,t4,t5,_⟩:=CN.out;obtain⟨d0,d1,d2,d3,_⟩:=DO.out;obtain⟨i0,i1,_⟩:=Ef.out;clear hd hs;go_enter func126,ntmps126;go_wp2_with fail;rw[←hw0];clear hw0;refine HC.out.mono ?_;rintro e w1 ⟨t,rfl,ht,Dg,hfar,CE⟩;have Ht:=DD.out.below CE;obtain⟨r0,r1,r2,r3,r4,r5,y0,y1,y2,y3,y4,y5,_⟩:=Ht;have CU:=aH (DD.out.below CE);have CH:=aH (bC CG.out CE);have Ea:=aH (aI ht (aI Dg hfar));clear ht Dg hfar CE t0 t1 t2 t3 t4 t5 d0 d1 d2 d3 FE i0 i1;go_wp2;have DA:=CU.out.setS t;obtain⟨q0,q1,q2,q3,q4,q5,_⟩:=DA;have D8:w0.heap.size=w.heap.size+5:=Ef.out.2.2;refine bP (v:=.tuple #[t.v,.int .i64 E]) ?_ rfl ?_
 ·simp[results,results126,go_sem,q0,q1,q2,q3,q4,q5]
 ·refine⟨t,rfl,?_,Ea.out.2.1,aF CH.out (by omega) _ _ _ _ _ _⟩;have:=Ea.out.1.set6 Ea.out.2.2 (D:=w.heap.size+4) (by omega) (.slice t.cA t.cl.length t.cc) (.slice t.lA t.ll.length t.lc) (.slice t.tA t.tl.length t.tc) (.int .i64 t.st) (.int .i64 t.inn) (.int .i64 t.out);simpa using this
theorem qg {α:Type} (l:List α) (k:Nat) (q z:α) (h:k<l.length):(l.set k q).getD k z=q:=by rw[List.getD_eq_getElem?_getD,List.getElem?_set_self h];rfl
theorem hZ {α:Type} (l:List α) (k j:Nat) (q z:α) (h:k≠j):(l.set k q).getD j z=l.getD j z:=by rw[List.getD_eq_getElem?_getD,List.getElem?_set_ne h,List.getD_eq_getElem?_getD]
def qY (a:Ab) (b':Int) (k:Nat) (c:Cel.Ce):Ab:={a with c:=a.c.set k c,l:=a.l.set k (BD a k c b')}
theorem jZ {a f:Ab} {i:Nat} (h:nF a f i=true):(a.c.getD i aM).Right∧(a.c.getD i aM).a=(f.c.getD i aM).a∧Lg.rgB (a.l.getD i (0,0,[])).1 (a.l.getD i (0,0,[])).2.1 (a.l.getD i (0,0,[])).2.2=true∧(a.l.getD i (0,0,[])).1=(f.l.getD i (0,0,[])).1∧(a.l.getD i (0,0,[])).2.1=(a.c.getD i aM).c:=by
 unfold nF at h;rw[Bool.and_eq_true,Bool.and_eq_true,Bool.and_eq_true,Bool.and_eq_true,decide_eq_true_eq,decide_eq_true_eq,decide_eq_true_eq,decide_eq_true_eq]at h;exact⟨h.1.1,h.1.2,h.2.1.1,h.2.1.2,h.2.2⟩
theorem zG {a f:Ab} {i:Nat} (h1:(a.c.getD i aM).Right) (h2:(a.c.getD i aM).a=(f.c.getD i aM).a) (h3:Lg.rgB (a.l.getD i (0,0,[])).1 (a.l.getD i (0,0,[])).2.1 (a.l.getD i (0,0,[])).2.2=true) (h4:(a.l.getD i (0,0,[])).1=(f.l.getD i (0,0,[])).1) (h5:(a.l.getD i (0,0,[])).2.1=(a.c.getD i aM).c):nF a f i=true:=by
 unfold nF;rw[Bool.and_eq_true,Bool.and_eq_true,Bool.and_eq_true,Bool.and_eq_true,decide_eq_true_eq,decide_eq_true_eq,decide_eq_true_eq,decide_eq_true_eq];exact⟨⟨h1,h2⟩,⟨h3,h4⟩,h5⟩
theorem fc {a f:Ab} (h:hJ a f=true):a.c.length=f.c.length∧a.l.length=f.l.length∧∀i,i<a.c.length→nF a f i=true:=by
 unfold hJ at h;rw[Bool.and_eq_true,Bool.and_eq_true,decide_eq_true_eq,decide_eq_true_eq,List.all_eq_true]at h;exact⟨h.1.1,h.1.2,fun i hi=>h.2 i (List.mem_range.2 hi)⟩
theorem yd {a f:Ab} (h1:a.c.length=f.c.length) (h2:a.l.length=f.l.length) (h3:∀i,i<a.c.length→nF a f i=true):hJ a f=true:=by
 unfold hJ;rw[Bool.and_eq_true,Bool.and_eq_true,decide_eq_true_eq,decide_eq_true_eq,List.all_eq_true];exact⟨⟨h1,h2⟩,fun i hi=>h3 i (List.mem_range.1 hi)⟩
structure RgP (d:Dk) (a:Ab):Prop where
 z:aA d=0
 w:hJ a (aB d)=true
 t:a.t.length=(aB d).t.length
 r:qS a.t d.arms=true
 st:a.st=(aB d).st
 i:0≤a.inn∧a.inn≤1152921504606846976
 o:0≤a.out∧a.out≤1152921504606846976
 s:Two.sumL (aK a.c)=a.st+a.inn-a.out
theorem oi {a f:Ab} (h:hJ a f=true):∀q∈a.c,q.Right:=fun q hq=>by
 obtain⟨j,hj,rfl⟩:=List.getElem_of_mem hq;have:=(jZ ((fc h).2.2 j hj)).1;rw[List.getD_eq_getElem?_getD,List.getElem?_eq_getElem hj]at this;exact this
theorem dy (d:Dk) (h:aA d=0):(∀q∈(aB d).c,q.Right)∧(aB d).c.length≤384:=by
 have Dj:=aU d (cm d h);exact⟨dG d.pl Dj.pl d.pl.length (nR _),by have:=bF d h;omega⟩
theorem dx {l:List Cel.Ce} (h:∀q∈l,q.Right) (hl:l.length≤384):0≤Two.sumL (aK l)∧Two.sumL (aK l)≤422212465065984:=by
 have:=eZ l h;omega
theorem wW (d:Dk) (a:Ab) (h:cE d a=true):RgP d a:=by
 unfold cE at h;rw[Bool.and_eq_true,Bool.and_eq_true,Bool.and_eq_true,Bool.and_eq_true,decide_eq_true_eq,decide_eq_true_eq]at h;obtain⟨hz,⟨⟨h1,h2⟩,h3⟩,h4⟩:=h;unfold rh cz at h4;rw[Bool.and_eq_true,Bool.and_eq_true,Bool.and_eq_true,decide_eq_true_eq,decide_eq_true_eq,Bool.and_eq_true,Bool.and_eq_true,decide_eq_true_eq,decide_eq_true_eq,decide_eq_true_eq,decide_eq_true_eq]at h4;obtain⟨⟨⟨k1,k2⟩,k3⟩,k4⟩:=h4;have hl:=bF d hz;have hr:=gq h1;have hs:=dx (oi h1) (by omega);have hn:=dx (dy d hz).1 (dy d hz).2;have FI:(aB d).st=Two.sumL (aK (aB d).c):=rfl;rw[bW,if_pos (by unfold ae;omega),←uM,←uM]at k4;rw[bE (a.st+a.inn) (by unfold ae;omega)]at k4;rw[bE _ (by unfold ae;omega)]at k4;exact⟨hz,h1,h2,h3,k1,k2,k3,k4⟩
theorem Bj (d:Dk) (a:Ab) (h:RgP d a):cE d a=true:=by
 obtain⟨hz,h1,h2,h3,k1,k2,k3,k4⟩:=h;have hl:=bF d hz;have hr:=gq h1;have hs:=dx (oi h1) (by omega);have hn:=dx (dy d hz).1 (dy d hz).2;have FI:(aB d).st=Two.sumL (aK (aB d).c):=rfl;unfold cE rh cz;rw[Bool.and_eq_true,Bool.and_eq_true,Bool.and_eq_true,Bool.and_eq_true,decide_eq_true_eq,decide_eq_true_eq,Bool.and_eq_true,Bool.and_eq_true,Bool.and_eq_true,decide_eq_true_eq,decide_eq_true_eq,Bool.and_eq_true,Bool.and_eq_true,decide_eq_true_eq,decide_eq_true_eq,decide_eq_true_eq,decide_eq_true_eq];refine⟨hz,⟨⟨h1,h2⟩,h3⟩,⟨⟨k1,k2⟩,k3⟩,?_⟩;rw[bW,if_pos (by unfold ae;omega),←uM,←uM];rw[bE (a.st+a.inn) (by unfold ae;omega)];rw[bE _ (by unfold ae;omega)];exact k4
theorem yJ (d:Dk) (hz:aA d=0):cE d (aB d)=true:=by
 have Dj:=aU d (cm d hz);have ha:0≤d.arms:=by have:=Dj.arm;omega
 obtain⟨l1,l2,l3,l4,l5⟩:=bF d hz;refine Bj d _ ⟨hz,?_,rfl,?_,rfl,(show(0:Int)≤0∧(0:Int)≤1152921504606846976 by decide),(show(0:Int)≤0∧(0:Int)≤1152921504606846976 by decide),?_⟩
 ·refine yd rfl rfl (fun i hi=>?_);have hc:=(dy d hz).1 _ (af (aB d).c i aM hi);have hl:(aB d).l.getD i (0,0,[])=(8,0,[]):=by
   show(List.replicate (au d) ((8,0,[]):Int×Int×List Ch)).getD i (0,0,[])=(8,0,[]);rw[List.getD_eq_getElem?_getD,List.getElem?_replicate,if_pos (by omega)];rfl
  have Ot:((aB d).c.getD i aM).c=0:=by
   have:∀n,∀q∈bK d.pl n,q.c=0:=fun n q hq=>by
    unfold bK nD at hq;rw[List.mem_flatMap]at hq;obtain⟨j,_,hq⟩:=hq;rw[List.mem_map]at hq;obtain⟨i,_,rfl⟩:=hq;rfl
   exact this _ _ (af (aB d).c i aM hi)
  exact zG hc rfl (by rw[hl];rfl) rfl (by rw[hl,Ot])
 ·refine kd (fun k hk=>?_);have hg:∀j,j<(aB d).t.length→(aB d).t.getD j (0,0)=(1,0):=fun j hj=>by
   show(List.replicate (bm d) ((1,0):Int×Int)).getD j (0,0)=(1,0);rw[List.getD_eq_getElem?_getD,List.getElem?_replicate,if_pos (by omega)];rfl
  have hb:hbB (aB d).t k 0=false:=by
   unfold hbB;rw[List.any_eq_false];intro q hq;have:q=(1,0):=by
    have h1:q∈List.replicate (bm d) ((1,0):Int×Int):=List.mem_of_mem_take hq;exact List.eq_of_mem_replicate h1
   rw[this];decide
  unfold jn;rw[hg k hk];dsimp only;rw[hb,dT ha];decide
 ·show Two.sumL (aK (aB d).c)=Two.sumL (aK (aB d).c)+0-0;omega
theorem w8 {d:Dk} (hz:aA d=0):1≤d.arms∧d.arms≤8:=(aU d (cm d hz)).arm
noncomputable def gA (d:Dk) (a:Ab) (x y n:Int):Int:=if dJ d 1 x=true∧dJ d 1 y=true then(if x=y then 1 else Cel.mvE (a.c.getD x.toNat aM) (a.c.getD y.toNat aM) n)else 3
def jp (a:Ab) (b' x y n:Int):Ab:=qY (qY a b' x.toNat (Cel.mvX (a.c.getD x.toNat aM) (a.c.getD y.toNat aM) n)) b' y.toNat (Cel.mvY (a.c.getD x.toNat aM) (a.c.getD y.toNat aM) n)
theorem AD {x y:Cel.Ce} {n:Int} (h:Cel.mvE x y n=0):Cel.chE x (-(max n 0))=0∧Cel.chE y (max n 0)=0∧Cel.mvX x y n=Cel.chV x (-(max n 0))∧Cel.mvY x y n=Cel.chV y (max n 0):=by
 have hx:Cel.mvX x y n=Cel.chV x (-(max n 0)):=by unfold Cel.mvX;rw[if_pos h]
 have hy:Cel.mvY x y n=Cel.chV y (max n 0):=by unfold Cel.mvY;rw[if_pos h]
 unfold Cel.mvE at h;by_cases h1:Cel.chE x (-(max n 0))=0
 ·rw[if_pos h1]at h;exact⟨h1,h,hx,hy⟩
 ·rw[if_neg h1]at h;exact absurd h h1
theorem uk (xs:List (Int×Int)) (arms:Int):qS xs arms=true↔∀i,i<xs.length→Tp.ofV (xs.getD i (0,0)).1 (xs.getD i (0,0)).2≠0∧(xs.getD i (0,0)).2≤arms∧∀j,j<i→¬((xs.getD j (0,0)).1=2∧(xs.getD j (0,0)).2=(xs.getD i (0,0)).2):=by
 have hb:∀i,i<xs.length→∀b,(hbB xs i b=false↔∀j,j<i→¬((xs.getD j (0,0)).1=2∧(xs.getD j (0,0)).2=b)):=by
  intro i hi b
  induction i with
  |zero=>exact⟨fun _ j hj=>absurd hj (by omega),fun _=>by unfold hbB;simp⟩
  |succ i ih=>
   rw[kq xs i (by omega),Bool.or_eq_false_iff,ih (by omega)];constructor
   ·rintro⟨h1,h2⟩ j hj ⟨g1,g2⟩;rcases Nat.lt_succ_iff_lt_or_eq.1 hj with h|rfl
    ·exact h1 j h ⟨g1,g2⟩
    ·rw[g1,g2]at h2;simp at h2
   ·intro h;refine⟨fun j hj=>h j (by omega),?_⟩;have:=h i (by omega);by_cases h1:(xs.getD i (0,0)).1=2
    ·rw[h1];by_cases h2:(xs.getD i (0,0)).2=b
     ·exact absurd ⟨h1,h2⟩ this
     ·simp only[beq_self_eq_true,Bool.true_and];exact beq_eq_false_iff_ne.2 h2
    ·rw[beq_eq_false_iff_ne.2 h1,Bool.false_and]
 constructor
 ·intro h i hi;unfold qS at h;rw[List.all_eq_true]at h;have:=h i (List.mem_range.2 hi);unfold jn at this;rw[Bool.and_eq_true,Bool.and_eq_true,Bool.not_eq_true',Bool.not_eq_true',decide_eq_true_eq,hb i hi]at this;exact⟨by simpa using this.1.1,this.1.2,this.2⟩
 ·intro h;refine kd (fun i hi=>?_);obtain⟨h1,h2,h3⟩:=h i hi;unfold jn;rw[Bool.and_eq_true,Bool.and_eq_true,Bool.not_eq_true',Bool.not_eq_true',decide_eq_true_eq,hb i hi];exact⟨⟨by simpa using h1,h2⟩,h3⟩
theorem yg (s b:Int):(Tp.ofV s b==2)=true↔s=2∧1≤b∧b≤8:=by
 unfold Tp.ofV
 split
 ·rename_i h
  constructor
  ·intro h2;have:=(beq_iff_eq).1 h2;omega
  ·intro h2;omega
 ·split
  ·rename_i h;exact⟨fun _=>h,fun _=>rfl⟩
  ·rename_i h
   constructor
   ·intro h2;exact absurd h2 (by decide)
   ·intro h2;exact absurd h2 h
theorem AM {a:Ab} {b':Int} (h1:1≤b') (h8:b'≤8) (h:(dU a b').2≠true):∀j,j<a.t.length→¬((a.t.getD j (0,0)).1=2∧(a.t.getD j (0,0)).2=b'):=by
 intro j hj ⟨g1,g2⟩;apply h;unfold dU Tp.fstV
 cases e:(List.range a.t.length).find? (Tp.hdP a.t b' 0)with
 |some i=>rfl
 |none=>
  exfalso;rw[List.find?_range_eq_none]at e;have:=e j hj;unfold Tp.hdP at this;rw[(yg _ _).2 ⟨g1,by omega,by omega⟩,g2]at this;simp at this
theorem zv {s b:Int} (h:Tp.ofV s b≠0):((s=1∨s=3)∧b=0)∨(s=2∧1≤b∧b≤8):=by
 unfold Tp.ofV at h
 split at h
 ·left;assumption
 ·split at h
  ·right;assumption
  ·exact absurd rfl h
theorem Ax {d:Dk} {a:Ab} {b' id:Int} (hd:aJ d=0) (h:eL d a b' id=0):(au d≤id∧id<au d+bm d)∧(dU a b').2≠true∧Tp.tkE (a.t.getD (jg a id) (0,0)).1 (a.t.getD (jg a id) (0,0)).2 b'=0:=by
 unfold eL at h;by_cases hP:dJ d 2 id=true
 case neg=>rw[if_neg hP]at h;cases h
 rw[if_pos hP]at h;by_cases hf:(dU a b').2=true
 ·rw[if_pos hf]at h;cases h
 rw[if_neg hf]at h;rw[(d6 d hd id).2]at hP;exact⟨of_decide_eq_true hP,hf,h⟩
theorem xp {d:Dk} {a:Ab} {b' id:Int} (hr:cE d a=true) (h1:1≤b') (h2:b'≤d.arms) (h:eL d a b' id=0):cE d (fY a b' id)=true:=by
 have P:=wW d a hr;obtain⟨h3,h4,h5⟩:=Ax (cm d P.z) h;have hl:=bF d P.z;have hw:=gq P.w;have ht:=P.t;have h8:=(w8 P.z).2;have hk:jg a id<a.t.length:=by unfold jg;omega
 obtain⟨k,ek⟩:∃k,jg a id=k:=⟨_,rfl⟩;have hv:Tp.tkV (a.t.getD (jg a id) (0,0)).1 (a.t.getD (jg a id) (0,0)).2 b'=(2,b'):=by unfold Tp.tkV;rw[if_pos h5]
 refine Bj d _ ⟨P.z,P.w,by show(a.t.set _ _).length=_;rw[List.length_set];exact ht,?_,P.st,P.i,P.o,P.s⟩;have hR:=(uk _ _).1 P.r;have hN:=AM h1 (by omega) h4;show qS (a.t.set (jg a id) (Tp.tkV (a.t.getD (jg a id) (0,0)).1 (a.t.getD (jg a id) (0,0)).2 b')) d.arms=true;rw[hv];rw[ek]at hk⊢;refine(uk _ _).2 (fun i hi=>?_);rw[List.length_set]at hi;obtain⟨r1,r2,r3⟩:=hR i hi;by_cases hik:k=i
 ·subst hik;rw[qg _ _ _ _ hk];refine⟨?_,h2,fun j hj=>?_⟩
  ·have:=(yg 2 b').2 ⟨rfl,h1,by omega⟩;intro h0;rw[h0]at this
   cases this
  ·rw[hZ _ _ _ _ _ (by omega)];exact hN j (by omega)
 ·rw[hZ _ _ _ _ _ hik];refine⟨r1,r2,fun j hj=>?_⟩;by_cases hjk:k=j
  ·subst hjk;rw[qg _ _ _ _ hk];rintro⟨_,g⟩;dsimp only at g;have:=hN i hi;rcases zv r1 with q|q
   ·omega
   ·exact this ⟨q.1,g.symm⟩
  ·rw[hZ _ _ _ _ _ hjk];exact r3 j hj
end Go.Proofs.YtmecohdedghiaaaGreatDoor
