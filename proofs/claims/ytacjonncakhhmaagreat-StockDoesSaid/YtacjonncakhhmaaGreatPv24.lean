/- Stocks: a tip dropped in a turn. -/
import Derived.Test.YtacjonncakhhmaaGreatPv00
import Derived.Test.YtacjonncakhhmaaGreatPv23
import Derived.Shelf.Abstract
set_option maxRecDepth 100000
set_option maxHeartbeats 8000000
namespace Go.Proofs.YtacjonncakhhmaaGreat
open Go.RowKit
def Stk.fl (s:Stk) (o:Nat) (n:Int):Stk:=if o=4 then {s with inn:=n}else {s with out:=n}
theorem Mine.putO {V:World} {B D o:Nat} {s:Stk} (h:Mine V B D s) (ho:o=4∨o=5) (n:Int) (hn:fits n):Mine (V.setCell ⟨D,o,none⟩ (.int .i64 n)) B D (s.fl o n):=by
 rcases ho with rfl|rfl
 ·exact(h.putF n hn).1
 ·exact(h.putF n hn).2
theorem Stk.fl_cl (s:Stk) (o:Nat) (n:Int):(s.fl o n).cl=s.cl∧(s.fl o n).ll=s.ll∧(s.fl o n).tl=s.tl:=by unfold Stk.fl;split<;>exact⟨rfl,rfl,rfl⟩
noncomputable def flE (d:Dk) (id er f:Int):Int:=if isP d 1 id=true then(if er=0 then(if flowB f=true then 0 else 4)else er)else 3
theorem flow_any (s:Stk) (d:Dk) (b':Int) (V:World) (B D kf o:Nat) (id n z er:Int) (x:Cel.Ce) (hM:Mine V B D s) (hT:Tl V D d b') (hd:d.In V D) (hid:fits id) (h1:s.cl.length≤100000) (h2:s.ll.length≤100000)
  (ho:o=4∧z=s.inn∨o=5∧z=s.out) (hw:isP d 1 id=true→∃k:Nat,id=k∧k<s.cl.length∧k<s.ll.length) (hx:x.Fit) (hdif:∀k:Nat,id=k→er=0→fits (x.b-(s.cl.getD k ce0).b)) (hz:er=0→fits (z+n))
  (hen:∀args w,(callFunc kf args).run Tryz.prog w=.ok (.enter kf args) w)
  (hdo:∀k:Nat,id=k→isP d 1 id=true→∀W,Calls Tryz.prog kf #[(s.cl.getD k ce0).v,.int .i64 n] W fun e W'=>e=.returned (Cel.ceE x er)∧Below W.heap.size W W'):
  Calls Tryz.prog 45 #[.pointer (some ⟨D,0,none⟩),.int .i64 id,.int .i64 n,.func (.func kf) #[] #[],.pointer (some ⟨D,o,none⟩)] V fun e V'=>e=.returned (.int .i64 (flE d id er (z+n)))∧
   (flE d id er (z+n)=0→∃(k:Nat) (q:Lo),id=k∧q.ab=ptL s k x b'∧Mine V' B D {s.fl o (z+n)with ll:=s.ll.set k q,cl:=s.cl.set k x}∧Tl V' D d b')∧Below D V V':=by
 have HDL:=aH (show D<V.heap.size from hT.2.2.2.2.2);have HM:=aH hM;have HT:=aH hT;obtain⟨t0,t1,t2,t3,t4,_⟩:=hT;have HIP:=aH (isPart_any d 1 id hid V (hd.more (Nat.le_of_lt HDL.out)));by_cases hP:isP d 1 id=true
 case neg=>
  have hP:isP d 1 id=false:=by simpa using hP
  have hE:flE d id er (z+n)=3:=by unfold flE;rw[hP];rfl
  rw[hE];rw[hP]at HIP;clear hw hdif hz hen hdo ho hx hd hE hM;go_enter Tryz.func45,Tryz.ntmps45;go_wp2_with fail;refine HIP.out.mono ?_;rintro e w1 ⟨rfl,hb1⟩;have HB1:=aH (hb1.mono (Nat.le_of_lt HDL.out));clear hb1;go_wp2;refine bP (v:=.int .i64 3) ?_ rfl ⟨rfl,fun h=>absurd h (by decide),HB1.out⟩;simp[results,Tryz.results45,go_sem]
 obtain⟨k,rfl,hk,hkl⟩:=hw hP;have HDO:=aH (hdo k rfl hP);have HX:=aH hx;have HEN:=aH hen;rw[hP]at HIP;have hE:flE d k er (z+n)=(if er=0 then(if flowB (z+n)=true then 0 else 4)else er):=by unfold flE;rw[hP];rfl
 have HE:=aH hE;generalize flE d k er (z+n)=E at *;have HDI:=aH (hdif k rfl);have HZ:=aH hz;have HO:=aH ho;obtain⟨gc,ec,gc1,gc2,gc3⟩:=hM.cAt (by omega);have HEC:=aH ec;have HCell:=aH (fun(W:World) (h:Mine W B D s)=>show W.cell? ⟨gc,k*3,none⟩=some (.int .i64 (s.cl.getD k ce0).a)∧W.cell? ⟨gc,k*3+1,none⟩=some (.int .i64 (s.cl.getD k ce0).b)∧W.cell? ⟨gc,k*3+2,none⟩=some (.int .i64 (s.cl.getD k ce0).c)from by
  have hoc:=h.c;rw[HEC.out]at hoc;obtain⟨q0,q1,q2,_⟩:=KE.Own.at3 hoc rfl k hk;exact⟨q0,q1,q2⟩)
 obtain⟨X,hX⟩:∃X,s.cl.getD k ce0=X:=⟨_,rfl⟩;have HXX:=aH hX;rw[hX]at HCell HDO HDI;obtain⟨xa,xb,xc⟩:=X;obtain⟨ya,yb,yc⟩:=x;dsimp only at HCell HDO HDI;have hkc:(k:Int)<s.cl.length:=by omega
 clear hw hdif hz hen hdo hx hd hE hM gc1 gc2 gc3 ec hid hP ho hX;go_enter Tryz.func45,Tryz.ntmps45;go_wp2_with fail;refine HIP.out.mono ?_;rintro e w1 ⟨rfl,hb1⟩;have HB1:=aH (hb1.mono (Nat.le_of_lt HDL.out));have M1:=aH (HM.out.below hb1);have T1:=aH (HT.out.below hb1);have g0:=M1.out.at'.1;rw[HEC.out]at g0;obtain⟨q0,q1,q2⟩:=HCell.out _ M1.out;clear hb1 t0 t1 t2 t3 t4;have hen:=HEN.out;go_wp2_with fail;refine(HDO.out _).mono ?_;rintro e w2 ⟨rfl,hb2⟩;have hw1:D≤w1.heap.size:=by have:=T1.out.2.2.2.2.2;omega
 have HB2:=aH (HB1.out.trans (hb2.mono hw1));have M2:=aH (M1.out.below hb2);have T2:=aH (T1.out.below hb2);clear hb2 hw1 g0 q0 q1 q2 hen M1 T1 HB1 HM HT;by_cases her:er=0
 case neg=>
  have hEE:E=er:=by rw[HE.out,if_neg her]
  subst hEE;have herb:(E==0)=false:=by simpa using her
  have HER:=aH her;clear her;go_wp2;refine bP (v:=.int .i64 E) ?_ rfl ⟨rfl,fun h=>absurd h HER.out,?_⟩
  ·simp[results,Tryz.results45,go_sem]
  ·exact HB2.out.trans ((bL (bR w2.heap.size w2) _).mono (by have:=T2.out.2.2.2.2.2;omega))
 subst her;rw[if_pos rfl]at HE;have hd2:=HDI.out rfl;have hzn:=HZ.out rfl
 go_upto_region 6 with fail
 have hba:=bL (bR w2.heap.size w2) (.cells #[.int .i64 ya,.int .i64 yb,.int .i64 yc] 58);have M3:=aH (M2.out.below hba);have T3:=aH (T2.out.below hba);have B3:=aH (HB2.out.trans (hba.mono (by have:=T2.out.2.2.2.2.2;omega)));have P3:=aH (Cells3.new w2 58 (.int .i64 ya) (.int .i64 yb) (.int .i64 yc));obtain⟨Cb,hCb⟩:∃Cb,w2.heap.size=Cb:=⟨_,rfl⟩;have HDC:=aH (show D<Cb by have:=T2.out.2.2.2.2.2;omega);generalize w2.alloc (.cells #[.int .i64 ya,.int .i64 yb,.int .i64 yc] 58)=w3 at *;rw[hCb]at P3;try simp only[hCb]
 clear hba hCb M2 T2 HB2;obtain⟨c0,f0⟩:w3.cell? ⟨D,o,none⟩=some (.int .i64 z)∧w3.frozen? ⟨D,o,none⟩=false:=by
  obtain⟨_,_,_,_,c4,c5,_,_,_,_,f4,f5,_⟩:=M3.out.at';rcases HO.out with ⟨rfl,rfl⟩|⟨rfl,rfl⟩
  ·exact⟨c4,f4⟩
  ·exact⟨c5,f5⟩
 have hwr:Go.RowKit.wrap64 (z+n)=z+n:=wrap64_fits _ hzn;have HZN:=aH hzn
 go_upto_region 7 with fail
 have hoo:o=4∨o=5:=by rcases HO.out with h|h;exact .inl h.1;exact .inr h.1
 have M4:=aH (M3.out.putO hoo (z+n) HZN.out);have T4:=aH (T3.out.off (g:=D) (o:=o) (.inr (by omega)) (.int .i64 (z+n)));have P4:=aH (P3.out.off (D:=D) (o:=o) (by have:=HDC.out;omega) (.int .i64 (z+n)));have B4:=aH (show Below D V (w3.setCell ⟨D,o,none⟩ (.int .i64 (z+n)))from B3.out.setCell (nR _) _);have c1:(w3.setCell ⟨D,o,none⟩ (.int .i64 (z+n))).cell? ⟨D,o,none⟩=some (.int .i64 (z+n)):=st_same c0;generalize w3.setCell ⟨D,o,none⟩ (.int .i64 (z+n))=w4 at *;clear c0 f0 hwr M3 T3 P3 B3 hoo hzn;go_wp2_with fail;refine(isFlow_any (z+n) _).mono ?_;rintro e w5 ⟨rfl,rfl⟩;by_cases hf:flowB (z+n)=true
 case neg=>
  have hEE:E=4:=by rw[HE.out,if_neg hf]
  subst hEE;have hf:flowB (z+n)=false:=by simpa using hf
  rw[hf];go_wp2;refine bP (v:=.int .i64 4) ?_ rfl ⟨rfl,fun h=>absurd h (by decide),B4.out⟩;simp[results,Tryz.results45,go_sem]
 have hEE:E=0:=by rw[HE.out,if_pos hf]
 subst hEE;rw[hf];obtain⟨p0,p1,p2,_⟩:=P4.out;go_wp2_with fail;obtain⟨l1,l2,l3⟩:=s.fl_cl o (z+n);have HPT:=aH (show ptL (s.fl o (z+n)) k ⟨ya,yb,yc⟩ b'=ptL s k ⟨ya,yb,yc⟩ b' by unfold ptL;rw[l1,l2]);refine(put_any (s.fl o (z+n)) d b' w4 B D k ⟨ya,yb,yc⟩ M4.out T4.out (by rw[l1];exact hk) (by rw[l2];exact hkl) HX.out (by rw[l1,HXX.out];exact hd2) (by rw[l1];exact h1) (by rw[l2];exact h2)).mono ?_;rintro e w6 ⟨q,rfl,hq,hM6,hT6,hb6⟩;rw[l1,l2]at hM6;rw[HPT.out]at hq;have HB6:=aH (B4.out.trans hb6);have HQ:=aH (aI hq (aI hM6 hT6));clear l1 l2 l3 hq hM6 hT6 hb6 p0 p1 p2 c1;go_wp2;refine bP (v:=.int .i64 0) ?_ rfl ⟨rfl,⟨k,rfl,q,HQ.out⟩,HB6.out⟩;simp[results,Tryz.results45,go_sem]
theorem rg_ab (d:Dk) (a:Ab) (h:rgS d a=true):(0≤a.inn∧a.inn≤1152921504606846976)∧(0≤a.out∧a.out≤1152921504606846976)∧(∀k,k<a.c.length→(a.c.getD k ce0).Right)∧dchk d=0∧a.c.length=wellN d∧a.l.length=wellN d∧a.t.length=tipN d:=by
 unfold rgS at h;rw[Bool.and_eq_true,Bool.and_eq_true,Bool.and_eq_true,Bool.and_eq_true,decide_eq_true_eq,decide_eq_true_eq]at h;obtain⟨hz,⟨⟨h1,h2⟩,_⟩,rs⟩:=h;obtain⟨n1,n2,n3,n4,n5⟩:=newA_len d hz;obtain⟨l1,l2⟩:=rw_len h1;unfold rsB at rs;rw[Bool.and_eq_true,Bool.and_eq_true,Bool.and_eq_true]at rs;obtain⟨⟨⟨_,f1⟩,f2⟩,_⟩:=rs;unfold flowB at f1 f2;rw[Bool.and_eq_true,decide_eq_true_eq,decide_eq_true_eq]at f1 f2;refine⟨f1,f2,fun k hk=>?_,zchk_d d hz,by omega,by omega,by omega⟩;unfold rwB at h1;rw[Bool.and_eq_true,List.all_eq_true]at h1;have:=h1.2 k (List.mem_range.2 hk);unfold okW at this;rw[Bool.and_eq_true,Bool.and_eq_true]at this;exact of_decide_eq_true this.1.1
def ptA (a:Ab) (k:Nat) (c:Cel.Ce) (b':Int):Int×Int×List Ch:=
 (Lg.ntR (a.l.getD k (0,0,[])).1 (a.l.getD k (0,0,[])).2.1 (a.l.getD k (0,0,[])).2.2 b' (c.b-(a.c.getD k ce0).b),Lg.ntM (a.l.getD k (0,0,[])).1 (a.l.getD k (0,0,[])).2.1 (a.l.getD k (0,0,[])).2.2 b' (c.b-(a.c.getD k ce0).b),Lg.ntZ (a.l.getD k (0,0,[])).1 (a.l.getD k (0,0,[])).2.1 (a.l.getD k (0,0,[])).2.2 b' (c.b-(a.c.getD k ce0).b))
theorem ptL_ab (s:Stk) (k:Nat) (hk:k<s.ll.length) (c:Cel.Ce) (b':Int):ptL s k c b'=ptA s.ab k c b':=by
 unfold ptL ptA;rw[ab_l s k hk];rfl
theorem ch_ok {x:Cel.Ce} {m:Int} (h:Cel.chE x m=0):x.Right∧m≠0∧x.c≠2147483647∧0≤x.b+m∧x.b+m≤x.a:=by
 unfold Cel.chE at h;by_cases h1:x.Right
 case neg=>rw[if_pos h1]at h;cases h
 rw[if_neg (by simpa using h1)]at h;by_cases h2:m=0
 ·rw[if_pos h2]at h;cases h
 rw[if_neg h2]at h;by_cases h3:x.c=2147483647
 ·rw[if_pos h3]at h;cases h
 rw[if_neg h3]at h;by_cases h4:x.b+m<0
 ·rw[if_pos h4]at h;cases h
 rw[if_neg h4]at h;by_cases h5:x.a<x.b+m
 ·rw[if_pos h5]at h;cases h
 exact⟨h1,h2,h3,by omega,by omega⟩
theorem right_fit7 {x:Cel.Ce} (h:x.Right):x.Fit:=by
 unfold Cel.Ce.Right at h;exact⟨by unfold fits;omega,by unfold fits;omega,by unfold fits;omega⟩
theorem chV_fit (x:Cel.Ce) (m:Int):(Cel.chV x m).Fit:=by
 unfold Cel.chV;by_cases h:Cel.chE x m=0
 ·rw[if_pos h];obtain⟨h1,h2,h3,h4,h5⟩:=ch_ok h;unfold Cel.Ce.Right at h1;exact⟨by unfold fits;dsimp only;omega,by unfold fits;dsimp only;omega,by unfold fits;dsimp only;omega⟩
 ·rw[if_neg h];exact⟨by decide,by decide,by decide⟩
theorem chV_b {x:Cel.Ce} {m:Int} (h:Cel.chE x m=0):(Cel.chV x m).b-x.b=m:=by
 unfold Cel.chV;rw[if_pos h];dsimp only;omega
def foA (a:Ab) (b':Int) (k:Nat) (m:Int) (o:Nat) (f:Int):Ab:=⟨a.c.set k (Cel.chV (a.c.getD k ce0) m),a.l.set k (ptA a k (Cel.chV (a.c.getD k ce0) m) b'),a.t,a.st,if o=4 then f else a.inn,if o=4 then a.out else f⟩
noncomputable def foE (d:Dk) (a:Ab) (id m f:Int):Int:=flE d id (Cel.chE (a.c.getD id.toNat ce0) m) f
theorem flow_do (d:Dk) (t:Stk) (b':Int) (V:World) (B D kf o:Nat) (id n m z:Int) (hrg:rgS d t.ab=true) (hM:Mine V B D t) (hT:Tl V D d b') (hd:d.In V D) (hid:fits id)
  (ho:o=4∧z=t.inn∨o=5∧z=t.out) (hm:m=max n 0∨m= -(max n 0)) (hen:∀args w,(callFunc kf args).run Tryz.prog w=.ok (.enter kf args) w)
  (hcall:∀x:Cel.Ce,x.Fit→∀W,Calls Tryz.prog kf #[x.v,.int .i64 n] W fun e W'=>e=.returned (Cel.ceE (Cel.chV x m) (Cel.chE x m))∧Below W.heap.size W W'):
  Calls Tryz.prog 45 #[.pointer (some ⟨D,0,none⟩),.int .i64 id,.int .i64 n,.func (.func kf) #[] #[],.pointer (some ⟨D,o,none⟩)] V fun e V'=>e=.returned (.int .i64 (foE d t.ab id m (z+n)))∧
   (foE d t.ab id m (z+n)=0→∃t':Stk,Mine V' B D t'∧t'.ab=foA t.ab b' id.toNat m o (z+n)∧t'.cl.length≤100000∧t'.ll.length≤100000∧t'.tl.length≤100000)∧Below D V V':=by
 obtain⟨r1,r2,r3,r4,r5,r6,r7⟩:=rg_ab d t.ab hrg;obtain⟨l1,l2,l3,l4,l5,l6,l7,l8⟩:=rg_lens d t hrg;have hR:∀k,k<t.cl.length→(t.cl.getD k ce0).Right:=r3;have hpk:isP d 1 id=true→∃k:Nat,id=k∧k<t.cl.length∧k<t.ll.length:=by
  intro h;rw[(isP_eq d r4 id).1]at h;have:=of_decide_eq_true h;exact⟨id.toNat,by omega,by omega,by omega⟩
 have hinn:t.ab.inn=t.inn:=rfl;have hout:t.ab.out=t.out:=rfl;rw[hinn]at r1;rw[hout]at r2;refine(flow_any t d b' V B D kf o id n z (Cel.chE (t.cl.getD id.toNat ce0) m) (Cel.chV (t.cl.getD id.toNat ce0) m) hM hT hd hid (by omega) (by omega) ho hpk (chV_fit _ _) (fun k e he=>?_) (fun he=>?_) hen (fun k e hP W=>?_)).mono ?_
 ·subst e;have e2:(k:Int).toNat=k:=by omega
  rw[e2]at he⊢;rw[chV_b he];obtain⟨h1,h2,h3,h4,h5⟩:=ch_ok he;unfold Cel.Ce.Right at h1;unfold fits;omega
 ·obtain⟨h1,h2,h3,h4,h5⟩:=ch_ok he;unfold Cel.Ce.Right at h1;unfold fits;rcases ho with ⟨_,rfl⟩|⟨_,rfl⟩
  ·omega
  ·omega
 ·subst e;have e2:(k:Int).toNat=k:=by omega
  rw[e2];obtain⟨k',e3,hk,_⟩:=hpk hP;have e4:k'=k:=by omega
  subst e4;exact hcall _ (right_fit7 (hR _ hk)) W
 ·rintro e V' ⟨he,h,hb⟩;refine⟨he,fun h0=>?_,hb⟩;obtain⟨k,q,e1,hq,hM',_⟩:=h h0;subst e1;have e2:(k:Int).toNat=k:=by omega
  rw[e2]at hq hM'⊢;have hP:isP d 1 (k:Int)=true:=by
   by_cases hp:isP d 1 (k:Int)=true
   ·exact hp
   ·have:foE d t.ab k m (z+n)=3:=(by unfold foE flE;rw[if_neg hp]);rw[this]at h0
    cases h0
  obtain⟨k',e3,hk,hkl⟩:=hpk hP;have e4:k'=k:=by omega
  subst e4;refine⟨_,hM',?_,by show(t.cl.set _ _).length≤_;rw[List.length_set];omega,by show(t.ll.set _ _).length≤_;rw[List.length_set];omega,by show(t.fl o (z+n)).tl.length≤_;rw[(t.fl_cl o (z+n)).2.2];omega⟩;rw[ptL_ab t k' hkl]at hq;rcases ho with ⟨rfl,_⟩|⟨rfl,_⟩
  ·simp only[Stk.ab,foA,Stk.fl,if_true,List.map_set,hq]
  ·simp only[Stk.ab,foA,Stk.fl,List.map_set,hq];rfl
theorem fill1_any (d:Dk) (t:Stk) (b':Int) (V:World) (B D pi pn:Nat) (id n:Int) (hrg:rgS d t.ab=true) (hM:Mine V B D t) (hT:Tl V D d b') (hd:d.In V D) (hid:fits id) (hn:fits n) (hpi:V.cell? ⟨pi,0,none⟩=some (.int .i64 id)) (hpn:V.cell? ⟨pn,0,none⟩=some (.int .i64 n)) (hli:pi<D) (hln:pn<D):
  Calls Tryz.prog 44 #[.pointer (some ⟨D,0,none⟩),.pointer (some ⟨pi,0,none⟩),.pointer (some ⟨pn,0,none⟩)] V fun e V'=>e=.returned (.int .i64 (foE d t.ab id (max n 0) (t.inn+n)))∧
   (foE d t.ab id (max n 0) (t.inn+n)=0→∃t':Stk,Mine V' B D t'∧t'.ab=foA t.ab b' id.toNat (max n 0) 4 (t.inn+n)∧t'.cl.length≤100000∧t'.ll.length≤100000∧t'.tl.length≤100000)∧Below D V V':=by
 have hb0:Below D V V.drew:=Below.drew (bR D V);have HF:=aH (fun W (hb:Below D V W) (hM':Mine W B D t) (hT':Tl W D d b')=>flow_do d t b' W B D 46 4 id n (max n 0) t.inn hrg hM' hT' (hd.below hb) hid (by simp) (by simp) (enters_of Tryz.func46 (by kernel_rfl) rfl) (fun x hx W'=>Cel.pour_any x n hx hn W'));have HM:=aH hM;have HT:=aH hT;obtain⟨e1,e2⟩:V.drew.cell? ⟨pi,0,none⟩=some (.int .i64 id)∧V.drew.cell? ⟨pn,0,none⟩=some (.int .i64 n):=⟨hpi,hpn⟩;generalize foE d t.ab id (max n 0) (t.inn+n)=E at *;have HL:=aH (aI hli hln);clear hrg hM hT hd hid hn hli hln hb0;go_enter Tryz.func44,Tryz.ntmps44
 go_upto_region 1 with fail
 clear hpi hpn;refine wp_region_held_drew (S:=fun w'=>w'.cell? ⟨pi,0,none⟩=some (.int .i64 id)∧w'.cell? ⟨pn,0,none⟩=some (.int .i64 n)) (by kernel_rfl) ?_ (fun hHeld=>?_)
 ·exact⟨e1,e2⟩
 clear e1 e2;have bw:=(bR V.heap.size V).drew;have M7:=aH (HM.out.below bw);have T7:=aH (HT.out.below bw);have B7:=aH (Below.drew (bR D V));clear bw HM HT;generalize V.drew=v0 at *;refine wk [.k 0 5,.k 1 6,.k 2 7,.k 3 8,.k 4 9,.k 5 10,.k 6 11,.k 7 12] (fun _ _ _ _ _ h=>h) hHeld ?_ (by kernel_rfl);repeat (refine .k (v:=?_) rfl (by kernel_rfl) ?_ ?_;rotate_left 1;(intro w h;go_simp<;>try rfl);try simp only[sp])
 refine .nil ?_;refine wQ 8 (some 13) rfl (fun K hK=>?_) (by kernel_rfl);go_simp;refine(HF.out v0 B7.out M7.out T7.out).mono ?_;rintro e v1 ⟨rfl,hres,hb⟩;have HR:=aH hres;have B8:=aH (B7.out.trans hb);obtain⟨f1,f2⟩:=hHeld;have hH:=aI ((hb.cell (p:=⟨pi,0,none⟩) HL.out.1).trans f1) ((hb.cell (p:=⟨pn,0,none⟩) HL.out.2).trans f2);clear f1 f2 hres hb M7 T7 B7;go_wp2_with fail;refine hK.out _ _ hH (fun hHeld=>?_);clear hK K;clear hH;try simp only[sp]
 refine wk [.k 9 4] (fun _ _ _ _ _ h=>h) hHeld ?_ (by kernel_rfl);repeat (refine .k (v:=?_) rfl (by kernel_rfl) ?_ ?_;rotate_left 1;(intro w h;go_simp<;>try rfl);try simp only[sp])
 refine .nil ?_;refine wD (by kernel_rfl) ?_;clear hHeld;go_wp2;refine bP (v:=.int .i64 E) ?_ rfl ⟨rfl,HR.out,B8.out⟩;simp[results,Tryz.results44,go_sem]
theorem waste1_any (d:Dk) (t:Stk) (b':Int) (V:World) (B D pi pn:Nat) (id n:Int) (hrg:rgS d t.ab=true) (hM:Mine V B D t) (hT:Tl V D d b') (hd:d.In V D) (hid:fits id) (hn:fits n) (hpi:V.cell? ⟨pi,0,none⟩=some (.int .i64 id)) (hpn:V.cell? ⟨pn,0,none⟩=some (.int .i64 n)) (hli:pi<D) (hln:pn<D):
  Calls Tryz.prog 47 #[.pointer (some ⟨D,0,none⟩),.pointer (some ⟨pi,0,none⟩),.pointer (some ⟨pn,0,none⟩)] V fun e V'=>e=.returned (.int .i64 (foE d t.ab id (-(max n 0)) (t.out+n)))∧
   (foE d t.ab id (-(max n 0)) (t.out+n)=0→∃t':Stk,Mine V' B D t'∧t'.ab=foA t.ab b' id.toNat (-(max n 0)) 5 (t.out+n)∧t'.cl.length≤100000∧t'.ll.length≤100000∧t'.tl.length≤100000)∧Below D V V':=by
 have hb0:Below D V V.drew:=Below.drew (bR D V);have HF:=aH (fun W (hb:Below D V W) (hM':Mine W B D t) (hT':Tl W D d b')=>flow_do d t b' W B D 48 5 id n (-(max n 0)) t.out hrg hM' hT' (hd.below hb) hid (by simp) (by simp) (enters_of Tryz.func48 (by kernel_rfl) rfl) (fun x hx W'=>Cel.draw_any x n hx hn W'));have HM:=aH hM;have HT:=aH hT;obtain⟨e1,e2⟩:V.drew.cell? ⟨pi,0,none⟩=some (.int .i64 id)∧V.drew.cell? ⟨pn,0,none⟩=some (.int .i64 n):=⟨hpi,hpn⟩;generalize foE d t.ab id (-(max n 0)) (t.out+n)=E at *;have HL:=aH (aI hli hln);clear hrg hM hT hd hid hn hli hln hb0;go_enter Tryz.func47,Tryz.ntmps47
 go_upto_region 1 with fail
 clear hpi hpn;refine wp_region_held_drew (S:=fun w'=>w'.cell? ⟨pi,0,none⟩=some (.int .i64 id)∧w'.cell? ⟨pn,0,none⟩=some (.int .i64 n)) (by kernel_rfl) ?_ (fun hHeld=>?_)
 ·exact⟨e1,e2⟩
 clear e1 e2;have bw:=(bR V.heap.size V).drew;have M7:=aH (HM.out.below bw);have T7:=aH (HT.out.below bw);have B7:=aH (Below.drew (bR D V));clear bw HM HT;generalize V.drew=v0 at *;refine wk [.k 0 5,.k 1 6,.k 2 7,.k 3 8,.k 4 9,.k 5 10,.k 6 11,.k 7 12] (fun _ _ _ _ _ h=>h) hHeld ?_ (by kernel_rfl);repeat (refine .k (v:=?_) rfl (by kernel_rfl) ?_ ?_;rotate_left 1;(intro w h;go_simp<;>try rfl);try simp only[sp])
 refine .nil ?_;refine wQ 8 (some 13) rfl (fun K hK=>?_) (by kernel_rfl);go_simp;refine(HF.out v0 B7.out M7.out T7.out).mono ?_;rintro e v1 ⟨rfl,hres,hb⟩;have HR:=aH hres;have B8:=aH (B7.out.trans hb);obtain⟨f1,f2⟩:=hHeld;have hH:=aI ((hb.cell (p:=⟨pi,0,none⟩) HL.out.1).trans f1) ((hb.cell (p:=⟨pn,0,none⟩) HL.out.2).trans f2);clear f1 f2 hres hb M7 T7 B7;go_wp2_with fail;refine hK.out _ _ hH (fun hHeld=>?_);clear hK K;clear hH;try simp only[sp]
 refine wk [.k 9 4] (fun _ _ _ _ _ h=>h) hHeld ?_ (by kernel_rfl);repeat (refine .k (v:=?_) rfl (by kernel_rfl) ?_ ?_;rotate_left 1;(intro w h;go_simp<;>try rfl);try simp only[sp])
 refine .nil ?_;refine wD (by kernel_rfl) ?_;clear hHeld;go_wp2;refine bP (v:=.int .i64 E) ?_ rfl ⟨rfl,HR.out,B8.out⟩;simp[results,Tryz.results47,go_sem]
def hdF (a:Ab) (b':Int):Int×Bool:=Tp.fstV (Tp.hdP a.t b' 0) a.t.length
theorem hdF_at (a:Ab) (b':Int) (h:(hdF a b').2=true):∃k:Nat,(hdF a b').1=k∧k<a.t.length:=by
 unfold hdF Tp.fstV at h⊢
 cases e:(List.range a.t.length).find? (Tp.hdP a.t b' 0)with
 |none=>rw[e]at h;cases h
 |some i=>exact⟨i,rfl,List.mem_range.1 (List.mem_of_find?_eq_some e)⟩
def tiK (a:Ab) (id:Int):Nat:=(id-a.c.length).toNat
noncomputable def taE (d:Dk) (a:Ab) (b' id:Int):Int:=if isP d 2 id=true then(if (hdF a b').2=true then 131 else Tp.tkE (a.t.getD (tiK a id) (0,0)).1 (a.t.getD (tiK a id) (0,0)).2 b')else 3
def taA (a:Ab) (b' id:Int):Ab:={a with t:=a.t.set (tiK a id) (Tp.tkV (a.t.getD (tiK a id) (0,0)).1 (a.t.getD (tiK a id) (0,0)).2 b')}
def drE (a:Ab) (b':Int):Int:=if (hdF a b').2=true then Tp.dpE (a.t.getD (hdF a b').1.toNat (0,0)).1 (a.t.getD (hdF a b').1.toNat (0,0)).2 b' else 131
def drA (a:Ab) (b':Int):Ab:={a with t:=a.t.set (hdF a b').1.toNat (Tp.dpV (a.t.getD (hdF a b').1.toNat (0,0)).1 (a.t.getD (hdF a b').1.toNat (0,0)).2 b')}
theorem tkV_fit (x y b':Int) (hb:fits b'):fits (Tp.tkV x y b').1∧fits (Tp.tkV x y b').2:=by
 unfold Tp.tkV
 split
 ·exact⟨by show fits 2;decide,hb⟩
 ·exact⟨by decide,by decide⟩
theorem dpV_fit (x y b':Int):fits (Tp.dpV x y b').1∧fits (Tp.dpV x y b').2:=by
 unfold Tp.dpV
 split
 ·exact⟨by decide,by decide⟩
 ·exact⟨by decide,by decide⟩
theorem take1_any (d:Dk) (t:Stk) (b':Int) (V:World) (B D pd pi pb:Nat) (id:Int) (hrg:rgS d t.ab=true) (hM:Mine V B D t) (hT:Tl V D d b') (hd:d.In V D) (hid:fits id) (hb':fits b') (hpd:DkAt V pd d) (hpi:V.cell? ⟨pi,0,none⟩=some (.int .i64 id)) (hpb:V.cell? ⟨pb,0,none⟩=some (.int .i64 b')) (hli:pi<D):
  Calls Tryz.prog 40 #[.pointer (some ⟨D,0,none⟩),.pointer (some ⟨pd,0,none⟩),.pointer (some ⟨pi,0,none⟩),.pointer (some ⟨pb,0,none⟩)] V fun e V'=>e=.returned (.int .i64 (taE d t.ab b' id))∧
   (taE d t.ab b' id=0→∃t':Stk,Mine V' B D t'∧t'.ab=taA t.ab b' id∧t'.cl.length≤100000∧t'.ll.length≤100000∧t'.tl.length≤100000)∧Below D V V':=by
 have hab:=rg_ab d t.ab hrg;have hlens:=rg_lens d t hrg;have hdc:=hab.2.2.2.1;have r5:=hab.2.2.2.2.1;have r7:=hab.2.2.2.2.2.2;have l1:=hlens.1;have l2:=hlens.2.1;have l3:=hlens.2.2.1;have hln:t.cl.length=wellN d:=r5;have hlt:t.tl.length=tipN d:=r7;have HDL:=aH (show D<V.heap.size from hT.2.2.2.2.2);have HL:=aH (aI l1 (aI l2 l3));have HM:=aH hM;have HT:=aH hT;have HIP:=aH (isPart_any d 2 id hid V (hd.more (Nat.le_of_lt HDL.out)));have HBX:=aH (aI hpi hpb);have HE:=aH (show taE d t.ab b' id=(if isP d 2 id=true then(if (hdF t.ab b').2=true then 131 else Tp.tkE (t.tl.getD (tiK t.ab id) (0,0)).1 (t.tl.getD (tiK t.ab id) (0,0)).2 b')else 3)from rfl);have HPI:=aH (isP_eq d hdc id).2;generalize taE d t.ab b' id=E at *;obtain⟨d0,d1,d2,d3,_⟩:=hpd;by_cases hP:isP d 2 id=true
 case neg=>
  have hEE:E=3:=by rw[HE.out,if_neg hP]
  subst hEE;have hP:isP d 2 id=false:=by simpa using hP
  rw[hP]at HIP;clear hrg hM hT hd hid hb' hli hpb l1 l2 l3 r5 r7 hln hlt hab hlens hdc;go_enter Tryz.func40,Tryz.ntmps40;go_wp2_with fail;refine HIP.out.mono ?_;rintro e w1 ⟨rfl,hb1⟩;have HB1:=aH (hb1.mono (Nat.le_of_lt HDL.out));clear hb1;go_wp2;refine bP (v:=.int .i64 3) ?_ rfl ⟨rfl,fun h=>absurd h (by decide),HB1.out⟩;simp[results,Tryz.results40,go_sem]
 rw[if_pos hP]at HE;have hin:(wellN d:Int)≤id∧id<wellN d+tipN d:=by
  have h:=HPI.out;rw[hP]at h;exact of_decide_eq_true h.symm
 obtain⟨k,hk⟩:∃k,tiK t.ab id=k:=⟨_,rfl⟩;have hkk:id-(t.cl.length:Int)=k:=by
  have e:tiK t.ab id=(id-(t.cl.length:Int)).toNat:=rfl;omega
 have hkl:k<t.tl.length:=by omega
 have HK:=aH (aI hk hkl);have HKK:=aH (show IntKind.i64.wrap (id-(t.cl.length:Int))=(k:Int)by rw[wrap_fits _ (by rw[hkk];unfold fits;omega)];exact hkk);have HV:=aH (tkV_fit (t.tl.getD k (0,0)).1 (t.tl.getD k (0,0)).2 b' hb');rw[hk]at HE;have HTA:=aH (show taA t.ab b' id={t.ab with t:=t.tl.set k (Tp.tkV (t.tl.getD k (0,0)).1 (t.tl.getD k (0,0)).2 b')}by unfold taA;rw[hk];rfl);have HLB:=aH hli;rw[hP]at HIP;have HHF:=aH (show Tp.fstV (Tp.hdP t.tl b' 0) t.tl.length=hdF t.ab b' from rfl);obtain⟨⟨f1,f2⟩,hf⟩:∃x,hdF t.ab b'=x:=⟨_,rfl⟩;rw[hf]at HE HHF;dsimp only at HE;clear hrg hM hT hd hid hb' hli l1 l2 l3 r5 r7 hln hlt hab hlens hdc hk hkk hkl hin hf;go_enter Tryz.func40,Tryz.ntmps40;go_wp2_with fail;refine HIP.out.mono ?_;rintro e w1 ⟨rfl,hb1⟩;have HB1:=aH (hb1.mono (Nat.le_of_lt HDL.out));have M1:=aH (HM.out.below hb1);have T1:=aH (HT.out.below hb1);have X1:=aH (aI (kK hb1 HBX.out.1) (kK hb1 HBX.out.2));clear hb1 d0 d1 d2 d3 hpi hpb
 go_upto_region 3 with fail
 obtain⟨e1,e2⟩:w1.drew.cell? ⟨D,2,none⟩=some (.slice t.tA t.tl.length t.tc)∧w1.drew.cell? ⟨pb,0,none⟩=some (.int .i64 b'):=⟨M1.out.at'.2.2.1,X1.out.2⟩;refine wp_region_held_drew (S:=fun w'=>w'.cell? ⟨D,2,none⟩=some (.slice t.tA t.tl.length t.tc)∧w'.cell? ⟨pb,0,none⟩=some (.int .i64 b')) (by kernel_rfl) ?_ (fun hHeld=>?_)
 ·exact⟨e1,e2⟩
 clear e1 e2;have bw:=(bR w1.heap.size w1).drew;have M2:=aH (M1.out.below bw);have T2:=aH (T1.out.below bw);have X2:=aH (aI (kK bw X1.out.1) (kK bw X1.out.2));have HB2:=aH (Below.drew HB1.out);clear bw M1 T1 X1 HB1;generalize w1.drew=w2 at *;refine wk [.k 0 13,.k 1 14,.k 2 15,.k 3 16,.k 4 17,.k 5 18,.k 6 19] (fun _ _ _ _ _ h=>h) hHeld ?_ (by kernel_rfl);repeat (refine .k (v:=?_) rfl (by kernel_rfl) ?_ ?_;rotate_left 1;(intro w h;go_simp<;>try rfl);try simp only[sp])
 refine .nil ?_;refine wQ 7 (some 20) rfl (fun K hK=>?_) (by kernel_rfl);go_simp;refine(Tp.held_any (.slice t.tA t.tl.length t.tc) t.tl b' w2 (M2.out.inn (by have:=HL.out;omega) (by have:=HL.out;omega) (by have:=HL.out;omega)).t).mono ?_;rintro e w3 ⟨rfl,hb⟩;rw[HHF.out];have M3:=aH (M2.out.below hb);have T3:=aH (T2.out.below hb);have X3:=aH (aI (kK hb X2.out.1) (kK hb X2.out.2));have HB3:=aH (HB2.out.trans (hb.mono (by have:=T2.out.2.2.2.2.2;omega)));obtain⟨h1,h2⟩:=hHeld;have hH:=aI (kK hb h1) (kK hb h2);clear h1 h2 hb M2 T2 X2 HB2;go_wp2_with fail;refine hK.out _ _ hH (fun hHeld=>?_);clear hK K;clear hH;try simp only[sp]
 refine wk [.k 8 12,.k 9 21,.k 10 22,.k 11 6,.k 12 7] (fun _ _ _ _ _ h=>h) hHeld ?_ (by kernel_rfl);repeat (refine .k (v:=?_) rfl (by kernel_rfl) ?_ ?_;rotate_left 1;(intro w h;go_simp<;>try rfl);try simp only[sp])
 refine .nil ?_;refine wD (by kernel_rfl) ?_;clear hHeld
 cases f2
 case true=>
  have hEE:E=131:=by rw[HE.out];rfl
  subst hEE;go_wp2;refine bP (v:=.int .i64 131) ?_ rfl (by first|exact⟨rfl,HB3.out⟩|exact⟨rfl,fun h=>absurd h (by decide),HB3.out⟩);simp[results,Tryz.results40,go_sem]
 have hEE:E=Tp.tkE (t.tl.getD k (0,0)).1 (t.tl.getD k (0,0)).2 b':=by rw[HE.out];rfl
 have HEE:=aH hEE;clear hEE
 go_upto_region 6 with fail
 obtain⟨e1,e2⟩:w3.drew.cell? ⟨D,0,none⟩=some (.slice t.cA t.cl.length t.cc)∧w3.drew.cell? ⟨pi,0,none⟩=some (.int .i64 id):=⟨M3.out.at'.1,X3.out.1⟩;refine wp_region_held_drew (S:=fun w'=>w'.cell? ⟨D,0,none⟩=some (.slice t.cA t.cl.length t.cc)∧w'.cell? ⟨pi,0,none⟩=some (.int .i64 id)) (by kernel_rfl) ?_ (fun hHeld=>?_)
 ·exact⟨e1,e2⟩
 clear e1 e2;have bw:=(bR w3.heap.size w3).drew;have M4:=aH (M3.out.below bw);have T4:=aH (T3.out.below bw);have HB4:=aH (Below.drew HB3.out);have hen:=enters_of (P:=Tryz.prog) (f:=43) Tryz.func43 (by kernel_rfl) rfl;have HH:=aH (handle_any t d b' w3.drew B D k 43 (Tp.tkV (t.tl.getD k (0,0)).1 (t.tl.getD k (0,0)).2 b') (Tp.tkE (t.tl.getD k (0,0)).1 (t.tl.getD k (0,0)).2 b') M4.out T4.out HK.out.2 HV.out (by have:=HL.out;omega) hen (fun W=>Tp.take_any _ _ b' W));clear bw M3 T3 HB3 hen;have hX:=X3.out.1;clear X3;rw[←HEE.out]at HH;generalize w3.drew=w4 at *;refine wk [.k 0 24,.k 1 25,.k 2 26,.k 3 27,.k 4 28,.k 5 29,.k 6 30,.k 7 31,.k 8 32,.k 9 33] (fun _ _ _ _ _ h=>h) hHeld ?_ (by kernel_rfl);repeat (refine .k (v:=?_) rfl (by kernel_rfl) ?_ ?_;rotate_left 1;(intro w h;go_simp<;>try rfl);try simp only[sp])
 refine .nil ?_;rw[HKK.out];refine wQ 10 (some 34) rfl (fun K hK=>?_) (by kernel_rfl);go_simp;refine HH.out.mono ?_;rintro e w5 ⟨rfl,hM5,hT5,hb5⟩;have M7:=aH hM5;have HB7:=aH (HB4.out.trans hb5);obtain⟨h1,h2⟩:=hHeld;have hH:=aI (show w5.cell? ⟨D,0,none⟩=some (.slice t.cA t.cl.length t.cc)from hM5.at'.1) ((hb5.cell (p:=⟨pi,0,none⟩) HLB.out).trans h2);clear h1 h2 hM5 hT5 hb5 M4 T4 HB4;go_wp2_with fail;refine hK.out _ _ hH (fun hHeld=>?_);clear hK K;clear hH;try simp only[sp]
 refine wk [.k 11 5] (fun _ _ _ _ _ h=>h) hHeld ?_ (by kernel_rfl);repeat (refine .k (v:=?_) rfl (by kernel_rfl) ?_ ?_;rotate_left 1;(intro w h;go_simp<;>try rfl);try simp only[sp])
 refine .nil ?_;refine wD (by kernel_rfl) ?_;clear hHeld;go_wp2;refine bP (v:=.int .i64 E) ?_ rfl ⟨rfl,fun _=>⟨_,M7.out,?_,by show t.cl.length≤_;have:=HL.out;omega,by show t.ll.length≤_;have:=HL.out;omega,by show(t.tl.set _ _).length≤_;rw[List.length_set];have:=HL.out;omega⟩,HB7.out⟩
 ·simp[results,Tryz.results40,go_sem]
 ·rw[HTA.out];rfl
theorem drop1_any (d:Dk) (t:Stk) (b':Int) (V:World) (B D pb:Nat) (hrg:rgS d t.ab=true) (hM:Mine V B D t) (hT:Tl V D d b') (hpb:V.cell? ⟨pb,0,none⟩=some (.int .i64 b')):
  Calls Tryz.prog 49 #[.pointer (some ⟨D,0,none⟩),.pointer (some ⟨pb,0,none⟩)] V fun e V'=>e=.returned (.int .i64 (drE t.ab b'))∧
   (drE t.ab b'=0→∃t':Stk,Mine V' B D t'∧t'.ab=drA t.ab b'∧t'.cl.length≤100000∧t'.ll.length≤100000∧t'.tl.length≤100000)∧Below D V V':=by
 have hlens:=rg_lens d t hrg;have HDL:=aH (show D<V.heap.size from hT.2.2.2.2.2);have HL:=aH (aI hlens.1 (aI hlens.2.1 hlens.2.2.1));have HM:=aH hM;have HT:=aH hT;have HE:=aH (show drE t.ab b'=(if (hdF t.ab b').2=true then Tp.dpE (t.tl.getD (hdF t.ab b').1.toNat (0,0)).1 (t.tl.getD (hdF t.ab b').1.toNat (0,0)).2 b' else 131)from rfl);have HA:=aH (show drA t.ab b'={t.ab with t:=t.tl.set (hdF t.ab b').1.toNat (Tp.dpV (t.tl.getD (hdF t.ab b').1.toNat (0,0)).1 (t.tl.getD (hdF t.ab b').1.toNat (0,0)).2 b')}from rfl);have HAT:=aH (hdF_at t.ab b');generalize drE t.ab b'=E at *;have HHF:=aH (show Tp.fstV (Tp.hdP t.tl b' 0) t.tl.length=hdF t.ab b' from rfl);obtain⟨⟨f1,f2⟩,hf⟩:∃x,hdF t.ab b'=x:=⟨_,rfl⟩;rw[hf]at HE HHF HA HAT;dsimp only at HE HA HAT;have HPB:=aH hpb;clear hrg hM hT hpb hlens hf;go_enter Tryz.func49,Tryz.ntmps49
 go_upto_region 1 with fail
 obtain⟨e1,e2⟩:V.drew.cell? ⟨D,2,none⟩=some (.slice t.tA t.tl.length t.tc)∧V.drew.cell? ⟨pb,0,none⟩=some (.int .i64 b'):=⟨HM.out.at'.2.2.1,HPB.out⟩;refine wp_region_held_drew (S:=fun w'=>w'.cell? ⟨D,2,none⟩=some (.slice t.tA t.tl.length t.tc)∧w'.cell? ⟨pb,0,none⟩=some (.int .i64 b')) (by kernel_rfl) ?_ (fun hHeld=>?_)
 ·exact⟨e1,e2⟩
 clear e1 e2;have bw:=(bR V.heap.size V).drew;have M2:=aH (HM.out.below bw);have T2:=aH (HT.out.below bw);have HB2:=aH (Below.drew (bR D V));clear bw;generalize V.drew=w2 at *;refine wk [.k 0 7,.k 1 8,.k 2 9,.k 3 10,.k 4 11,.k 5 12,.k 6 13] (fun _ _ _ _ _ h=>h) hHeld ?_ (by kernel_rfl);repeat (refine .k (v:=?_) rfl (by kernel_rfl) ?_ ?_;rotate_left 1;(intro w h;go_simp<;>try rfl);try simp only[sp])
 refine .nil ?_;refine wQ 7 (some 14) rfl (fun K hK=>?_) (by kernel_rfl);go_simp;refine(Tp.held_any (.slice t.tA t.tl.length t.tc) t.tl b' w2 (M2.out.inn (by have:=HL.out;omega) (by have:=HL.out;omega) (by have:=HL.out;omega)).t).mono ?_;rintro e w3 ⟨rfl,hb⟩;rw[HHF.out];have M3:=aH (M2.out.below hb);have T3:=aH (T2.out.below hb);have HB3:=aH (HB2.out.trans (hb.mono (by have:=T2.out.2.2.2.2.2;omega)));obtain⟨h1,h2⟩:=hHeld;have hH:=aI (kK hb h1) (kK hb h2);clear h1 h2 hb M2 T2 HB2;go_wp2_with fail;refine hK.out _ _ hH (fun hHeld=>?_);clear hK K;clear hH;try simp only[sp]
 refine wk [.k 8 6,.k 9 15,.k 10 16,.k 11 4,.k 12 5] (fun _ _ _ _ _ h=>h) hHeld ?_ (by kernel_rfl);repeat (refine .k (v:=?_) rfl (by kernel_rfl) ?_ ?_;rotate_left 1;(intro w h;go_simp<;>try rfl);try simp only[sp])
 refine .nil ?_;refine wD (by kernel_rfl) ?_;clear hHeld
 cases f2
 case false=>
  have hEE:E=131:=by rw[HE.out];rfl
  subst hEE;go_wp2;refine bP (v:=.int .i64 131) ?_ rfl (by first|exact⟨rfl,HB3.out⟩|exact⟨rfl,fun h=>absurd h (by decide),HB3.out⟩);simp[results,Tryz.results49,go_sem]
 obtain⟨k,hk,hkl⟩:=HAT.out rfl;subst hk;have e2:(k:Int).toNat=k:=by omega
 rw[e2]at HE HA;have HKL:=aH (show k<t.tl.length from hkl);have hEE:Tp.dpE (t.tl.getD k (0,0)).1 (t.tl.getD k (0,0)).2 b'=E:=by rw[HE.out];rfl
 have HH:=aH (handle_any t d b' w3 B D k 50 (Tp.dpV (t.tl.getD k (0,0)).1 (t.tl.getD k (0,0)).2 b') (Tp.dpE (t.tl.getD k (0,0)).1 (t.tl.getD k (0,0)).2 b') M3.out T3.out HKL.out (dpV_fit _ _ _) (by have:=HL.out;omega) (enters_of Tryz.func50 (by kernel_rfl) rfl) (fun W=>Tp.drop_any _ _ b' W));rw[hEE]at HH;clear e2 hEE hkl;go_wp2_with fail;refine HH.out.mono ?_;rintro e w5 ⟨rfl,hM5,hT5,hb5⟩;have M7:=aH hM5;have HB7:=aH (HB3.out.trans hb5);clear hM5 hT5 hb5;go_wp2;refine bP (v:=.int .i64 E) ?_ rfl ⟨rfl,fun _=>⟨_,M7.out,?_,by show t.cl.length≤_;have:=HL.out;omega,by show t.ll.length≤_;have:=HL.out;omega,by show(t.tl.set _ _).length≤_;rw[List.length_set];have:=HL.out;omega⟩,HB7.out⟩
 ·simp[results,Tryz.results49,go_sem]
 ·rw[HA.out];rfl
end Go.Proofs.YtacjonncakhhmaaGreat
