/- Stocks: Fill, Waste. -/
import Derived.Test.YtacjonncakhhmaaGreatPy00
import Derived.Test.YtacjonncakhhmaaGreatPy29
import Derived.Shelf.Abstract
set_option maxRecDepth 100000
set_option maxHeartbeats 8000000
namespace Go.Proofs.YtacjonncakhhmaaGreat
open Go.RowKit
theorem handle_any (s:Stk) (d:Dk) (b':Int) (V:World) (B D k kf:Nat) (p:Int×Int) (er:Int) (hM:Mine V B D s) (hT:Tl V D d b') (hk:k<s.tl.length) (hp:fits p.1∧fits p.2) (h3:s.tl.length≤100000) (hen:∀args w,(callFunc kf args).run Tryz.prog w=.ok (.enter kf args) w)
  (hdo:∀W,Calls Tryz.prog kf #[Tp.tpV (s.tl.getD k (0,0)).1 (s.tl.getD k (0,0)).2,.int .i64 b'] W fun e W'=>e=.returned (Tp.tpE p er)∧Below W.heap.size W W'):
  Calls Tryz.prog 42 #[.pointer (some ⟨D,0,none⟩),.int .i64 k,.func (.func kf) #[] #[]] V fun e V'=>e=.returned (.int .i64 er)∧Mine V' B D {s with tl:=s.tl.set k p}∧Tl V' D d b'∧Below D V V':=by
 have HM:=aH hM;have HT:=aH hT;have HP:=aH hp;have HEN:=aH hen;obtain⟨gt,et,gt1,gt2,gt3⟩:=hM.tAt (by omega);have HG:=aH (show B≤gt∧gt<V.heap.size∧s.tl.length≤s.tc∧D<B∧B≤V.heap.size from⟨gt1,gt2,gt3,hM.lt,hM.le⟩);have HET:=aH et;have HCell:=aH (fun(W:World) (h:Mine W B D s)=>show W.cell? ⟨gt,k * 2,none⟩=some (.int .i64 (s.tl.getD k (0,0)).1)∧W.cell? ⟨gt,k * 2+1,none⟩=some (.int .i64 (s.tl.getD k (0,0)).2)∧W.frozen? ⟨gt,k * 2,none⟩=false∧W.frozen? ⟨gt,k * 2+1,none⟩=false from by
  have ho:=h.t;rw[HET.out]at ho;exact KT.Own.at2 ho rfl k hk)
 have HDO:=aH hdo;obtain⟨X,hX⟩:∃X,s.tl.getD k (0,0)=X:=⟨_,rfl⟩;rw[hX]at HCell HDO;obtain⟨x1,x2⟩:=X;obtain⟨p1,p2⟩:=p;dsimp only at *;have hkT:(k:Int)<s.tl.length:=by omega
 clear hM hT hp hen hdo gt1 gt2 gt3 et hX;go_enter Tryz.func42,Tryz.ntmps42
 go_upto_region 2 with fail
 obtain⟨e1,e2⟩:V.drew.cell? ⟨D,2,none⟩=some (.slice (some ⟨gt,0,none⟩) s.tl.length s.tc)∧V.drew.cell? ⟨D,10,none⟩=some (.int .i64 b'):=⟨by rw[←HET.out];exact HM.out.at'.2.2.1,HT.out.2.2.2.2.1⟩;refine wp_region_held_drew (S:=fun w'=>w'.cell? ⟨D,2,none⟩=some (.slice (some ⟨gt,0,none⟩) s.tl.length s.tc)∧w'.cell? ⟨D,10,none⟩=some (.int .i64 b')) (by kernel_rfl) ?_ (fun hHeld=>?_)
 ·exact⟨e1,e2⟩
 clear e1 e2;have bw:=(bR V.heap.size V).drew;have M7:=aH (HM.out.below bw);have T7:=aH (HT.out.below bw);have B7:=aH (Below.drew (bR D V));have Z7:=aH (show V.heap.size≤V.drew.heap.size from nR _);clear bw HM HT;generalize V.drew=v0 at *;refine wk [.k 0 9,.k 1 10,.k 2 11,.k 3 12,.k 4 13,.k 5 14,.k 6 15,.k 7 16,.k 8 17,.k 9 18,.k 10 19,.k 11 20,.k 12 21,.k 13 22,.k 14 23,.k 15 24,.k 17 26,.k 18 27,.k 19 28,.k 20 29] (fun _ _ _ _ _ h=>h) hHeld ?_ (by kernel_rfl)
 repeat (first | (refine .k (v:=?_) rfl (by kernel_rfl) ?_ ?_;rotate_left 1;((intro w hSw;(try dsimp only at hSw);go_simp) <;> (try with_reducible rfl));(try simp only[sp])) | (refine .u rfl (by kernel_rfl) ?_;(try simp only[sp])))
 refine .nil ?_;refine wQ 16 (some 25) rfl (fun K hK=>?_) (by kernel_rfl);obtain⟨r0,r1,_⟩:=HCell.out _ M7.out;go_simp;clear r0 r1;refine hK.out _ _ hHeld (fun hHeld=>?_);clear hK K
 try simp only[sp]
 refine wQ 21 (some 30) rfl (fun K hK=>?_) (by kernel_rfl);have hen:=HEN.out;go_simp;refine(HDO.out _).mono ?_;rintro e v1 ⟨rfl,hb⟩;have M8:=aH (M7.out.below hb);have T8:=aH (T7.out.below hb);have B8:=aH (B7.out.trans (hb.mono (by have:=T7.out.2.2.2.2.2;omega)));obtain⟨f1,f2⟩:=hHeld;have hH:=aI (kK hb f1) (kK hb f2);clear f1 f2;go_wp2_with fail;clear hb hen M7 T7 B7;refine hK.out _ _ hH (fun hHeld=>?_);clear hK K;clear hH
 try simp only[sp]
 refine wk [.k 22 8,.k 23 31,.k 24 32,.k 25 33] (fun _ _ _ _ _ h=>h) hHeld ?_ (by kernel_rfl)
 repeat (first | (refine .k (v:=?_) rfl (by kernel_rfl) ?_ ?_;rotate_left 1;((intro w hSw;(try dsimp only at hSw);go_simp) <;> (try with_reducible rfl));(try simp only[sp])) | (refine .u rfl (by kernel_rfl) ?_;(try simp only[sp])))
 refine .nil ?_;refine wQ 26 none rfl (fun K hK=>?_) (by kernel_rfl);obtain⟨r0,r1,y0,y1⟩:=HCell.out _ M8.out;go_simp;clear r0 r1 y0 y1;have hDg:gt≠D:=by have:=HG.out;omega
 have M9:=aH (show Mine ((v1.setCell ⟨gt,k * 2,none⟩ (.int .i64 p1)).setCell ⟨gt,k * 2+1,none⟩ (.int .i64 p2)) B D {s with tl:=s.tl.set k (p1,p2)}from M8.out.putT k hk gt HET.out (p1,p2) HP.out);have T9:=aH ((T8.out.off (g:=gt) (o:=k * 2) (.inl hDg) (.int .i64 p1)).off (g:=gt) (o:=k * 2+1) (.inl hDg) (.int .i64 p2));have B9:=aH (show Below D V ((v1.setCell ⟨gt,k * 2,none⟩ (.int .i64 p1)).setCell ⟨gt,k * 2+1,none⟩ (.int .i64 p2))from(B8.out.setCell (by show D≤gt;have:=HG.out;omega) _).setCell (by show D≤gt;have:=HG.out;omega) _);have st2:∀a u,v1.cell? a=some u→gt≠a.block→((v1.setCell ⟨gt,k * 2,none⟩ (.int .i64 p1)).setCell ⟨gt,k * 2+1,none⟩ (.int .i64 p2)).cell? a=some u:=fun a u h hne=>sO (sO h (fun e=>hne (by rw[←e]))) (fun e=>hne (by rw[←e]));obtain⟨f1,f2⟩:=hHeld;have hH2:=aI (st2 _ _ f1 hDg) (st2 _ _ f2 hDg);clear f1 f2;refine hK.out _ _ hH2 (fun hHeld=>?_);clear hK K;clear hH2 st2 hDg M8 T8 B8
 try simp only[sp]
 refine wk [.k 27 7] (fun _ _ _ _ _ h=>h) hHeld ?_ (by kernel_rfl)
 repeat (first | (refine .k (v:=?_) rfl (by kernel_rfl) ?_ ?_;rotate_left 1;((intro w hSw;(try dsimp only at hSw);go_simp) <;> (try with_reducible rfl));(try simp only[sp])) | (refine .u rfl (by kernel_rfl) ?_;(try simp only[sp])))
 refine .nil ?_;refine wD (by kernel_rfl) ?_;clear hHeld;go_wp2;refine bP (v:=.int .i64 er) ?_ rfl ⟨rfl,M9.out,T9.out,B9.out⟩;simp[results,Tryz.results42,go_sem]
def Stk.fl (s:Stk) (o:Nat) (n:Int):Stk:=if o=4 then {s with inn:=n}else {s with out:=n}
theorem Mine.putO {V:World} {B D o:Nat} {s:Stk} (h:Mine V B D s) (ho:o=4∨o=5) (n:Int) (hn:fits n):Mine (V.setCell ⟨D,o,none⟩ (.int .i64 n)) B D (s.fl o n):=by
 rcases ho with rfl | rfl
 ·exact(h.putF n hn).1
 ·exact(h.putF n hn).2
theorem Stk.fl_cl (s:Stk) (o:Nat) (n:Int):(s.fl o n).cl=s.cl∧(s.fl o n).ll=s.ll∧(s.fl o n).tl=s.tl:=by unfold Stk.fl;split <;> exact⟨rfl,rfl,rfl⟩
noncomputable def flE (d:Dk) (id er f:Int):Int:=if isP d 1 id=true then(if er=0 then(if flowB f=true then 0 else 4)else er)else 3
theorem flow_any (s:Stk) (d:Dk) (b':Int) (V:World) (B D kf o:Nat) (id n z er:Int) (x:Cel.Ce) (hM:Mine V B D s) (hT:Tl V D d b') (hd:d.In V D) (hid:fits id) (h1:s.cl.length≤100000) (h2:s.ll.length≤100000)
  (ho:o=4∧z=s.inn∨o=5∧z=s.out) (hw:isP d 1 id=true→∃k:Nat,id=k∧k<s.cl.length∧k<s.ll.length) (hx:x.Fit) (hdif:∀k:Nat,id=k→er=0→fits (x.b - (s.cl.getD k ce0).b)) (hz:er=0→fits (z+n))
  (hen:∀args w,(callFunc kf args).run Tryz.prog w=.ok (.enter kf args) w)
  (hdo:∀k:Nat,id=k→isP d 1 id=true→∀W,Calls Tryz.prog kf #[(s.cl.getD k ce0).v,.int .i64 n] W fun e W'=>e=.returned (Cel.ceE x er)∧Below W.heap.size W W'):
  Calls Tryz.prog 45 #[.pointer (some ⟨D,0,none⟩),.int .i64 id,.int .i64 n,.func (.func kf) #[] #[],.pointer (some ⟨D,o,none⟩)] V fun e V'=>e=.returned (.int .i64 (flE d id er (z+n)))∧
   (flE d id er (z+n)=0→∃(k:Nat) (q:Lo),id=k∧q.ab=ptL s k x b'∧Mine V' B D {s.fl o (z+n)with ll:=s.ll.set k q,cl:=s.cl.set k x}∧Tl V' D d b')∧Below D V V':=by
 have HDL:=aH (show D<V.heap.size from hT.2.2.2.2.2);have HM:=aH hM;have HT:=aH hT;obtain⟨t0,t1,t2,t3,t4,_⟩:=hT;have HIP:=aH (isPart_any d 1 id hid V (hd.more (Nat.le_of_lt HDL.out)));by_cases hP:isP d 1 id=true
 case neg=>
  have hP:isP d 1 id=false:=by simpa using hP
  have hE:flE d id er (z+n)=3:=by unfold flE;rw[hP];rfl
  rw[hE];rw[hP]at HIP;clear hw hdif hz hen hdo ho hx hd hE hM;go_enter Tryz.func45,Tryz.ntmps45;go_wp2_with fail;refine HIP.out.mono ?_;rintro e w1 ⟨rfl,hb1⟩;have HB1:=aH (hb1.mono (Nat.le_of_lt HDL.out));clear hb1;go_wp2;refine bP (v:=.int .i64 3) ?_ rfl ⟨rfl,fun h=>absurd h (by decide),HB1.out⟩;simp[results,Tryz.results45,go_sem]
 obtain⟨k,rfl,hk,hkl⟩:=hw hP;have HDO:=aH (hdo k rfl hP);have HX:=aH hx;have HEN:=aH hen;rw[hP]at HIP;have hE:flE d k er (z+n)=(if er=0 then(if flowB (z+n)=true then 0 else 4)else er):=by unfold flE;rw[hP];rfl
 have HE:=aH hE;generalize flE d k er (z+n)=E at *;have HDI:=aH (hdif k rfl);have HZ:=aH hz;have HO:=aH ho;obtain⟨gc,ec,gc1,gc2,gc3⟩:=hM.cAt (by omega);have HEC:=aH ec;have HCell:=aH (fun(W:World) (h:Mine W B D s)=>show W.cell? ⟨gc,k * 3,none⟩=some (.int .i64 (s.cl.getD k ce0).a)∧W.cell? ⟨gc,k * 3+1,none⟩=some (.int .i64 (s.cl.getD k ce0).b)∧W.cell? ⟨gc,k * 3+2,none⟩=some (.int .i64 (s.cl.getD k ce0).c)from by
  have hoc:=h.c;rw[HEC.out]at hoc;obtain⟨q0,q1,q2,_⟩:=KE.Own.at3 hoc rfl k hk;exact⟨q0,q1,q2⟩)
 obtain⟨X,hX⟩:∃X,s.cl.getD k ce0=X:=⟨_,rfl⟩;have HXX:=aH hX;rw[hX]at HCell HDO HDI;obtain⟨xa,xb,xc⟩:=X;obtain⟨ya,yb,yc⟩:=x;dsimp only at HCell HDO HDI;have hkc:(k:Int)<s.cl.length:=by omega
 clear hw hdif hz hen hdo hx hd hE hM gc1 gc2 gc3 ec hid hP ho hX;go_enter Tryz.func45,Tryz.ntmps45;go_wp2_with fail;refine HIP.out.mono ?_;rintro e w1 ⟨rfl,hb1⟩;have HB1:=aH (hb1.mono (Nat.le_of_lt HDL.out));have M1:=aH (HM.out.below hb1);have T1:=aH (HT.out.below hb1);have g0:=M1.out.at'.1;rw[HEC.out]at g0;obtain⟨q0,q1,q2⟩:=HCell.out _ M1.out;clear hb1 t0 t1 t2 t3 t4;have hen:=HEN.out;go_wp2_with fail;refine(HDO.out _).mono ?_;rintro e w2 ⟨rfl,hb2⟩;have hw1:D≤w1.heap.size:=by have:=T1.out.2.2.2.2.2;omega
 have HB2:=aH (HB1.out.trans (hb2.mono hw1));have M2:=aH (M1.out.below hb2);have T2:=aH (T1.out.below hb2);clear hb2 hw1 g0 q0 q1 q2 hen M1 T1 HB1 HM HT;by_cases her:er=0
 case neg=>
  have hEE:E=er:=by rw[HE.out,if_neg her]
  subst hEE;have herb:(E==0)=false:=by simpa using her
  have HER:=aH her;clear her;go_wp2;refine bP (v:=.int .i64 E) ?_ rfl ⟨rfl,fun h=>absurd h HER.out,?_⟩
  ·simp[results,Tryz.results45,go_sem]
  ·exact HB2.out.trans ((bL (bR w2.heap.size w2) _).mono (by have:=T2.out.2.2.2.2.2;omega))
 subst her;rw[if_pos rfl]at HE;have hd2:=HDI.out rfl;have hzn:=HZ.out rfl
 go_upto_region 6 with fail
 have hba:=bL (bR w2.heap.size w2) (.cells #[.int .i64 ya,.int .i64 yb,.int .i64 yc] 58);have M3:=aH (M2.out.below hba);have T3:=aH (T2.out.below hba);have B3:=aH (HB2.out.trans (hba.mono (by have:=T2.out.2.2.2.2.2;omega)));have P3:=aH (Cells3.new w2 58 (.int .i64 ya) (.int .i64 yb) (.int .i64 yc));obtain⟨Cb,hCb⟩:∃Cb,w2.heap.size=Cb:=⟨_,rfl⟩;have HDC:=aH (show D<Cb by have:=T2.out.2.2.2.2.2;omega);generalize w2.alloc (.cells #[.int .i64 ya,.int .i64 yb,.int .i64 yc] 58)=w3 at *;rw[hCb]at P3
 try simp only[hCb]
 clear hba hCb M2 T2 HB2;obtain⟨c0,f0⟩:w3.cell? ⟨D,o,none⟩=some (.int .i64 z)∧w3.frozen? ⟨D,o,none⟩=false:=by
  obtain⟨_,_,_,_,c4,c5,_,_,_,_,f4,f5,_⟩:=M3.out.at';rcases HO.out with ⟨rfl,rfl⟩ | ⟨rfl,rfl⟩
  ·exact⟨c4,f4⟩
  ·exact⟨c5,f5⟩
 have hwr:Go.RowKit.wrap64 (z+n)=z+n:=wrap64_fits _ hzn;have HZN:=aH hzn
 go_upto_region 7 with fail
 have hoo:o=4∨o=5:=by rcases HO.out with h | h;exact .inl h.1;exact .inr h.1
 have M4:=aH (M3.out.putO hoo (z+n) HZN.out);have T4:=aH (T3.out.off (g:=D) (o:=o) (.inr (by omega)) (.int .i64 (z+n)));have P4:=aH (P3.out.off (D:=D) (o:=o) (by have:=HDC.out;omega) (.int .i64 (z+n)));have B4:=aH (show Below D V (w3.setCell ⟨D,o,none⟩ (.int .i64 (z+n)))from B3.out.setCell (nR _) _);have c1:(w3.setCell ⟨D,o,none⟩ (.int .i64 (z+n))).cell? ⟨D,o,none⟩=some (.int .i64 (z+n)):=st_same c0;generalize w3.setCell ⟨D,o,none⟩ (.int .i64 (z+n))=w4 at *;clear c0 f0 hwr M3 T3 P3 B3 hoo hzn;go_wp2_with fail;refine(isFlow_any (z+n) _).mono ?_;rintro e w5 ⟨rfl,rfl⟩;by_cases hf:flowB (z+n)=true
 case neg=>
  have hEE:E=4:=by rw[HE.out,if_neg hf]
  subst hEE;have hf:flowB (z+n)=false:=by simpa using hf
  rw[hf];go_wp2;refine bP (v:=.int .i64 4) ?_ rfl ⟨rfl,fun h=>absurd h (by decide),B4.out⟩;simp[results,Tryz.results45,go_sem]
 have hEE:E=0:=by rw[HE.out,if_pos hf]
 subst hEE;rw[hf];obtain⟨p0,p1,p2,_⟩:=P4.out;go_wp2_with fail;obtain⟨l1,l2,l3⟩:=s.fl_cl o (z+n);have HPT:=aH (show ptL (s.fl o (z+n)) k ⟨ya,yb,yc⟩ b'=ptL s k ⟨ya,yb,yc⟩ b' by unfold ptL;rw[l1,l2]);refine(put_any (s.fl o (z+n)) d b' w4 B D k ⟨ya,yb,yc⟩ M4.out T4.out (by rw[l1];exact hk) (by rw[l2];exact hkl) HX.out (by rw[l1,HXX.out];exact hd2) (by rw[l1];exact h1) (by rw[l2];exact h2)).mono ?_;rintro e w6 ⟨q,rfl,hq,hM6,hT6,hb6⟩;rw[l1,l2]at hM6;rw[HPT.out]at hq;have HB6:=aH (B4.out.trans hb6);have HQ:=aH (aI hq (aI hM6 hT6));clear l1 l2 l3 hq hM6 hT6 hb6 p0 p1 p2 c1;go_wp2;refine bP (v:=.int .i64 0) ?_ rfl ⟨rfl,⟨k,rfl,q,HQ.out⟩,HB6.out⟩;simp[results,Tryz.results45,go_sem]
theorem rg_ab (d:Dk) (a:Ab) (h:rgS d a=true):(0≤a.inn∧a.inn≤1152921504606846976)∧(0≤a.out∧a.out≤1152921504606846976)∧(∀k,k<a.c.length→(a.c.getD k ce0).Right)∧dchk d=0∧a.c.length=wellN d∧a.l.length=wellN d∧a.t.length=tipN d:=by
 unfold rgS at h;rw[Bool.and_eq_true,Bool.and_eq_true,Bool.and_eq_true,Bool.and_eq_true,decide_eq_true_eq,decide_eq_true_eq]at h;obtain⟨hz,⟨⟨h1,h2⟩,_⟩,rs⟩:=h;obtain⟨n1,n2,n3,n4,n5⟩:=newA_len d hz;obtain⟨l1,l2⟩:=rw_len h1;unfold rsB at rs;rw[Bool.and_eq_true,Bool.and_eq_true,Bool.and_eq_true]at rs;obtain⟨⟨⟨_,f1⟩,f2⟩,_⟩:=rs;unfold flowB at f1 f2;rw[Bool.and_eq_true,decide_eq_true_eq,decide_eq_true_eq]at f1 f2;refine⟨f1,f2,fun k hk=>?_,zchk_d d hz,by omega,by omega,by omega⟩;unfold rwB at h1;rw[Bool.and_eq_true,List.all_eq_true]at h1;have:=h1.2 k (List.mem_range.2 hk);unfold okW at this;rw[Bool.and_eq_true,Bool.and_eq_true]at this;exact of_decide_eq_true this.1.1
def ptA (a:Ab) (k:Nat) (c:Cel.Ce) (b':Int):Int×Int×List Ch:=
 (Lg.ntR (a.l.getD k (0,0,[])).1 (a.l.getD k (0,0,[])).2.1 (a.l.getD k (0,0,[])).2.2 b' (c.b - (a.c.getD k ce0).b),Lg.ntM (a.l.getD k (0,0,[])).1 (a.l.getD k (0,0,[])).2.1 (a.l.getD k (0,0,[])).2.2 b' (c.b - (a.c.getD k ce0).b),Lg.ntZ (a.l.getD k (0,0,[])).1 (a.l.getD k (0,0,[])).2.1 (a.l.getD k (0,0,[])).2.2 b' (c.b - (a.c.getD k ce0).b))
theorem ptL_ab (s:Stk) (k:Nat) (hk:k<s.ll.length) (c:Cel.Ce) (b':Int):ptL s k c b'=ptA s.ab k c b':=by
 unfold ptL ptA;rw[ab_l s k hk];rfl
theorem ch_ok {x:Cel.Ce} {m:Int} (h:Cel.chE x m=0):x.Right∧m≠0∧x.c≠2147483647∧0≤x.b+m∧x.b+m≤x.a:=by
 unfold Cel.chE at h;by_cases h1:x.Right
 case neg=>rw[if_pos h1]at h;cases h
 rw[if_neg (by simpa using h1)]at h;by_cases h2:m=0
 ·rw[if_pos h2]at h;cases h
 rw[if_neg h2]at h;by_cases h3:x.c=2147483647
 ·rw[if_pos h3]at h;cases h
 rw[if_neg h3]at h;by_cases h4:x.b+m<0
 ·rw[if_pos h4]at h;cases h
 rw[if_neg h4]at h;by_cases h5:x.a<x.b+m
 ·rw[if_pos h5]at h;cases h
 exact⟨h1,h2,h3,by omega,by omega⟩
theorem right_fit7 {x:Cel.Ce} (h:x.Right):x.Fit:=by
 unfold Cel.Ce.Right at h;exact⟨by unfold fits;omega,by unfold fits;omega,by unfold fits;omega⟩
theorem chV_fit (x:Cel.Ce) (m:Int):(Cel.chV x m).Fit:=by
 unfold Cel.chV;by_cases h:Cel.chE x m=0
 ·rw[if_pos h];obtain⟨h1,h2,h3,h4,h5⟩:=ch_ok h;unfold Cel.Ce.Right at h1;exact⟨by unfold fits;dsimp only;omega,by unfold fits;dsimp only;omega,by unfold fits;dsimp only;omega⟩
 ·rw[if_neg h];exact⟨by decide,by decide,by decide⟩
theorem chV_b {x:Cel.Ce} {m:Int} (h:Cel.chE x m=0):(Cel.chV x m).b - x.b=m:=by
 unfold Cel.chV;rw[if_pos h];dsimp only;omega
def foA (a:Ab) (b':Int) (k:Nat) (m:Int) (o:Nat) (f:Int):Ab:=⟨a.c.set k (Cel.chV (a.c.getD k ce0) m),a.l.set k (ptA a k (Cel.chV (a.c.getD k ce0) m) b'),a.t,a.st,if o=4 then f else a.inn,if o=4 then a.out else f⟩
noncomputable def foE (d:Dk) (a:Ab) (id m f:Int):Int:=flE d id (Cel.chE (a.c.getD id.toNat ce0) m) f
theorem flow_do (d:Dk) (t:Stk) (b':Int) (V:World) (B D kf o:Nat) (id n m z:Int) (hrg:rgS d t.ab=true) (hM:Mine V B D t) (hT:Tl V D d b') (hd:d.In V D) (hid:fits id)
  (ho:o=4∧z=t.inn∨o=5∧z=t.out) (hm:m=max n 0∨m= -(max n 0)) (hen:∀args w,(callFunc kf args).run Tryz.prog w=.ok (.enter kf args) w)
  (hcall:∀x:Cel.Ce,x.Fit→∀W,Calls Tryz.prog kf #[x.v,.int .i64 n] W fun e W'=>e=.returned (Cel.ceE (Cel.chV x m) (Cel.chE x m))∧Below W.heap.size W W'):
  Calls Tryz.prog 45 #[.pointer (some ⟨D,0,none⟩),.int .i64 id,.int .i64 n,.func (.func kf) #[] #[],.pointer (some ⟨D,o,none⟩)] V fun e V'=>e=.returned (.int .i64 (foE d t.ab id m (z+n)))∧
   (foE d t.ab id m (z+n)=0→∃t':Stk,Mine V' B D t'∧t'.ab=foA t.ab b' id.toNat m o (z+n)∧t'.cl.length≤100000∧t'.ll.length≤100000∧t'.tl.length≤100000)∧Below D V V':=by
 obtain⟨r1,r2,r3,r4,r5,r6,r7⟩:=rg_ab d t.ab hrg;obtain⟨l1,l2,l3,l4,l5,l6,l7,l8⟩:=rg_lens d t hrg;have hR:∀k,k<t.cl.length→(t.cl.getD k ce0).Right:=r3;have hpk:isP d 1 id=true→∃k:Nat,id=k∧k<t.cl.length∧k<t.ll.length:=by
  intro h;rw[(isP_eq d r4 id).1]at h;have:=of_decide_eq_true h;exact⟨id.toNat,by omega,by omega,by omega⟩
 have hinn:t.ab.inn=t.inn:=rfl;have hout:t.ab.out=t.out:=rfl;rw[hinn]at r1;rw[hout]at r2;refine(flow_any t d b' V B D kf o id n z (Cel.chE (t.cl.getD id.toNat ce0) m) (Cel.chV (t.cl.getD id.toNat ce0) m) hM hT hd hid (by omega) (by omega) ho hpk (chV_fit _ _) (fun k e he=>?_) (fun he=>?_) hen (fun k e hP W=>?_)).mono ?_
 ·subst e;have e2:(k:Int).toNat=k:=by omega
  rw[e2]at he⊢;rw[chV_b he];obtain⟨h1,h2,h3,h4,h5⟩:=ch_ok he;unfold Cel.Ce.Right at h1;unfold fits;omega
 ·obtain⟨h1,h2,h3,h4,h5⟩:=ch_ok he;unfold Cel.Ce.Right at h1;unfold fits;rcases ho with ⟨_,rfl⟩ | ⟨_,rfl⟩
  ·omega
  ·omega
 ·subst e;have e2:(k:Int).toNat=k:=by omega
  rw[e2];obtain⟨k',e3,hk,_⟩:=hpk hP;have e4:k'=k:=by omega
  subst e4;exact hcall _ (right_fit7 (hR _ hk)) W
 ·rintro e V' ⟨he,h,hb⟩;refine⟨he,fun h0=>?_,hb⟩;obtain⟨k,q,e1,hq,hM',_⟩:=h h0;subst e1;have e2:(k:Int).toNat=k:=by omega
  rw[e2]at hq hM'⊢;have hP:isP d 1 (k:Int)=true:=by
   by_cases hp:isP d 1 (k:Int)=true
   ·exact hp
   ·have:foE d t.ab k m (z+n)=3:=by unfold foE flE;rw[if_neg hp]
    rw[this]at h0
    cases h0
  obtain⟨k',e3,hk,hkl⟩:=hpk hP;have e4:k'=k:=by omega
  subst e4;refine⟨_,hM',?_,by show(t.cl.set _ _).length≤_;rw[List.length_set];omega,by show(t.ll.set _ _).length≤_;rw[List.length_set];omega,by show(t.fl o (z+n)).tl.length≤_;rw[(t.fl_cl o (z+n)).2.2];omega⟩;rw[ptL_ab t k' hkl]at hq;rcases ho with ⟨rfl,_⟩ | ⟨rfl,_⟩
  ·simp only[Stk.ab,foA,Stk.fl,if_true,List.map_set,hq]
  ·simp only[Stk.ab,foA,Stk.fl,List.map_set,hq];rfl
theorem fill1_any (d:Dk) (t:Stk) (b':Int) (V:World) (B D pi pn:Nat) (id n:Int) (hrg:rgS d t.ab=true) (hM:Mine V B D t) (hT:Tl V D d b') (hd:d.In V D) (hid:fits id) (hn:fits n) (hpi:V.cell? ⟨pi,0,none⟩=some (.int .i64 id)) (hpn:V.cell? ⟨pn,0,none⟩=some (.int .i64 n)) (hli:pi<D) (hln:pn<D):
  Calls Tryz.prog 44 #[.pointer (some ⟨D,0,none⟩),.pointer (some ⟨pi,0,none⟩),.pointer (some ⟨pn,0,none⟩)] V fun e V'=>e=.returned (.int .i64 (foE d t.ab id (max n 0) (t.inn+n)))∧
   (foE d t.ab id (max n 0) (t.inn+n)=0→∃t':Stk,Mine V' B D t'∧t'.ab=foA t.ab b' id.toNat (max n 0) 4 (t.inn+n)∧t'.cl.length≤100000∧t'.ll.length≤100000∧t'.tl.length≤100000)∧Below D V V':=by
 have hb0:Below D V V.drew:=Below.drew (bR D V);have HF:=aH (fun W (hb:Below D V W) (hM':Mine W B D t) (hT':Tl W D d b')=>flow_do d t b' W B D 46 4 id n (max n 0) t.inn hrg hM' hT' (hd.below hb) hid (by simp) (by simp) (enters_of Tryz.func46 (by kernel_rfl) rfl) (fun x hx W'=>Cel.pour_any x n hx hn W'));have HM:=aH hM;have HT:=aH hT;obtain⟨e1,e2⟩:V.drew.cell? ⟨pi,0,none⟩=some (.int .i64 id)∧V.drew.cell? ⟨pn,0,none⟩=some (.int .i64 n):=⟨hpi,hpn⟩;generalize foE d t.ab id (max n 0) (t.inn+n)=E at *;have HL:=aH (aI hli hln);clear hrg hM hT hd hid hn hli hln hb0;go_enter Tryz.func44,Tryz.ntmps44
 go_upto_region 1 with fail
 clear hpi hpn;refine wp_region_held_drew (S:=fun w'=>w'.cell? ⟨pi,0,none⟩=some (.int .i64 id)∧w'.cell? ⟨pn,0,none⟩=some (.int .i64 n)) (by kernel_rfl) ?_ (fun hHeld=>?_)
 ·exact⟨e1,e2⟩
 clear e1 e2;have bw:=(bR V.heap.size V).drew;have M7:=aH (HM.out.below bw);have T7:=aH (HT.out.below bw);have B7:=aH (Below.drew (bR D V));clear bw HM HT;generalize V.drew=v0 at *;refine wk [.k 0 5,.k 1 6,.k 2 7,.k 3 8,.k 4 9,.k 5 10,.k 6 11,.k 7 12] (fun _ _ _ _ _ h=>h) hHeld ?_ (by kernel_rfl)
 repeat (first | (refine .k (v:=?_) rfl (by kernel_rfl) ?_ ?_;rotate_left 1;((intro w hSw;(try dsimp only at hSw);go_simp) <;> (try with_reducible rfl));(try simp only[sp])) | (refine .u rfl (by kernel_rfl) ?_;(try simp only[sp])))
 refine .nil ?_;refine wQ 8 (some 13) rfl (fun K hK=>?_) (by kernel_rfl);go_simp;refine(HF.out v0 B7.out M7.out T7.out).mono ?_;rintro e v1 ⟨rfl,hres,hb⟩;have HR:=aH hres;have B8:=aH (B7.out.trans hb);obtain⟨f1,f2⟩:=hHeld;have hH:=aI ((hb.cell (p:=⟨pi,0,none⟩) HL.out.1).trans f1) ((hb.cell (p:=⟨pn,0,none⟩) HL.out.2).trans f2);clear f1 f2 hres hb M7 T7 B7;go_wp2_with fail;refine hK.out _ _ hH (fun hHeld=>?_);clear hK K;clear hH
 try simp only[sp]
 refine wk [.k 9 4] (fun _ _ _ _ _ h=>h) hHeld ?_ (by kernel_rfl)
 repeat (first | (refine .k (v:=?_) rfl (by kernel_rfl) ?_ ?_;rotate_left 1;((intro w hSw;(try dsimp only at hSw);go_simp) <;> (try with_reducible rfl));(try simp only[sp])) | (refine .u rfl (by kernel_rfl) ?_;(try simp only[sp])))
 refine .nil ?_;refine wD (by kernel_rfl) ?_;clear hHeld;go_wp2;refine bP (v:=.int .i64 E) ?_ rfl ⟨rfl,HR.out,B8.out⟩;simp[results,Tryz.results44,go_sem]
theorem waste1_any (d:Dk) (t:Stk) (b':Int) (V:World) (B D pi pn:Nat) (id n:Int) (hrg:rgS d t.ab=true) (hM:Mine V B D t) (hT:Tl V D d b') (hd:d.In V D) (hid:fits id) (hn:fits n) (hpi:V.cell? ⟨pi,0,none⟩=some (.int .i64 id)) (hpn:V.cell? ⟨pn,0,none⟩=some (.int .i64 n)) (hli:pi<D) (hln:pn<D):
  Calls Tryz.prog 47 #[.pointer (some ⟨D,0,none⟩),.pointer (some ⟨pi,0,none⟩),.pointer (some ⟨pn,0,none⟩)] V fun e V'=>e=.returned (.int .i64 (foE d t.ab id (-(max n 0)) (t.out+n)))∧
   (foE d t.ab id (-(max n 0)) (t.out+n)=0→∃t':Stk,Mine V' B D t'∧t'.ab=foA t.ab b' id.toNat (-(max n 0)) 5 (t.out+n)∧t'.cl.length≤100000∧t'.ll.length≤100000∧t'.tl.length≤100000)∧Below D V V':=by
 have hb0:Below D V V.drew:=Below.drew (bR D V);have HF:=aH (fun W (hb:Below D V W) (hM':Mine W B D t) (hT':Tl W D d b')=>flow_do d t b' W B D 48 5 id n (-(max n 0)) t.out hrg hM' hT' (hd.below hb) hid (by simp) (by simp) (enters_of Tryz.func48 (by kernel_rfl) rfl) (fun x hx W'=>Cel.draw_any x n hx hn W'));have HM:=aH hM;have HT:=aH hT;obtain⟨e1,e2⟩:V.drew.cell? ⟨pi,0,none⟩=some (.int .i64 id)∧V.drew.cell? ⟨pn,0,none⟩=some (.int .i64 n):=⟨hpi,hpn⟩;generalize foE d t.ab id (-(max n 0)) (t.out+n)=E at *;have HL:=aH (aI hli hln);clear hrg hM hT hd hid hn hli hln hb0;go_enter Tryz.func47,Tryz.ntmps47
 go_upto_region 1 with fail
 clear hpi hpn;refine wp_region_held_drew (S:=fun w'=>w'.cell? ⟨pi,0,none⟩=some (.int .i64 id)∧w'.cell? ⟨pn,0,none⟩=some (.int .i64 n)) (by kernel_rfl) ?_ (fun hHeld=>?_)
 ·exact⟨e1,e2⟩
 clear e1 e2;have bw:=(bR V.heap.size V).drew;have M7:=aH (HM.out.below bw);have T7:=aH (HT.out.below bw);have B7:=aH (Below.drew (bR D V));clear bw HM HT;generalize V.drew=v0 at *;refine wk [.k 0 5,.k 1 6,.k 2 7,.k 3 8,.k 4 9,.k 5 10,.k 6 11,.k 7 12] (fun _ _ _ _ _ h=>h) hHeld ?_ (by kernel_rfl)
 repeat (first | (refine .k (v:=?_) rfl (by kernel_rfl) ?_ ?_;rotate_left 1;((intro w hSw;(try dsimp only at hSw);go_simp) <;> (try with_reducible rfl));(try simp only[sp])) | (refine .u rfl (by kernel_rfl) ?_;(try simp only[sp])))
 refine .nil ?_;refine wQ 8 (some 13) rfl (fun K hK=>?_) (by kernel_rfl);go_simp;refine(HF.out v0 B7.out M7.out T7.out).mono ?_;rintro e v1 ⟨rfl,hres,hb⟩;have HR:=aH hres;have B8:=aH (B7.out.trans hb);obtain⟨f1,f2⟩:=hHeld;have hH:=aI ((hb.cell (p:=⟨pi,0,none⟩) HL.out.1).trans f1) ((hb.cell (p:=⟨pn,0,none⟩) HL.out.2).trans f2);clear f1 f2 hres hb M7 T7 B7;go_wp2_with fail;refine hK.out _ _ hH (fun hHeld=>?_);clear hK K;clear hH
 try simp only[sp]
 refine wk [.k 9 4] (fun _ _ _ _ _ h=>h) hHeld ?_ (by kernel_rfl)
 repeat (first | (refine .k (v:=?_) rfl (by kernel_rfl) ?_ ?_;rotate_left 1;((intro w hSw;(try dsimp only at hSw);go_simp) <;> (try with_reducible rfl));(try simp only[sp])) | (refine .u rfl (by kernel_rfl) ?_;(try simp only[sp])))
 refine .nil ?_;refine wD (by kernel_rfl) ?_;clear hHeld;go_wp2;refine bP (v:=.int .i64 E) ?_ rfl ⟨rfl,HR.out,B8.out⟩;simp[results,Tryz.results47,go_sem]
end Go.Proofs.YtacjonncakhhmaaGreat
