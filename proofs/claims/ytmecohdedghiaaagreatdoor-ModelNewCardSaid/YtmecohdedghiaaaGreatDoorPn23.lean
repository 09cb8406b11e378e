/- Stocks: a move in a turn. -/
import Derived.Test.YtmecohdedghiaaaGreatDoorPn00
import Derived.Test.YtmecohdedghiaaaGreatDoorPn22
import Derived.Shelf.Abstract
set_option maxRecDepth 100000
set_option maxHeartbeats 8000000
namespace Go.Proofs.YtmecohdedghiaaaGreatDoor
open Go.RowKit
theorem handle_any (s:Stk) (d:Dk) (b':Int) (V:World) (B D k kf:Nat) (p:Int×Int) (er:Int) (hM:Mine V B D s) (hT:Tl V D d b') (hk:k<s.tl.length) (hp:fits p.1∧fits p.2) (h3:s.tl.length≤100000) (hen:∀args w,(callFunc kf args).run Tryz.prog w=.ok (.enter kf args) w)
  (hdo:∀W,Calls Tryz.prog kf #[Tp.tpV (s.tl.getD k (0,0)).1 (s.tl.getD k (0,0)).2,.int .i64 b'] W fun e W'=>e=.returned (Tp.tpE p er)∧Below W.heap.size W W'):
  Calls Tryz.prog 188 #[.pointer (some ⟨D,0,none⟩),.int .i64 k,.func (.func kf) #[] #[]] V fun e V'=>e=.returned (.int .i64 er)∧Mine V' B D {s with tl:=s.tl.set k p}∧Tl V' D d b'∧Below D V V':=by
 have HM:=aH hM;have HT:=aH hT;have HP:=aH hp;have HEN:=aH hen;obtain⟨gt,et,gt1,gt2,gt3⟩:=hM.tAt (by omega);have HG:=aH (show B≤gt∧gt<V.heap.size∧s.tl.length≤s.tc∧D<B∧B≤V.heap.size from⟨gt1,gt2,gt3,hM.lt,hM.le⟩);have HET:=aH et;have HCell:=aH (fun(W:World) (h:Mine W B D s)=>show W.cell? ⟨gt,k*2,none⟩=some (.int .i64 (s.tl.getD k (0,0)).1)∧W.cell? ⟨gt,k*2+1,none⟩=some (.int .i64 (s.tl.getD k (0,0)).2)∧W.frozen? ⟨gt,k*2,none⟩=false∧W.frozen? ⟨gt,k*2+1,none⟩=false from by
  have ho:=h.t;rw[HET.out]at ho;exact KT.Own.at2 ho rfl k hk)
 have HDO:=aH hdo;obtain⟨X,hX⟩:∃X,s.tl.getD k (0,0)=X:=⟨_,rfl⟩;rw[hX]at HCell HDO;obtain⟨x1,x2⟩:=X;obtain⟨p1,p2⟩:=p;dsimp only at *;have hkT:(k:Int)<s.tl.length:=by omega
 clear hM hT hp hen hdo gt1 gt2 gt3 et hX;go_enter Tryz.func188,Tryz.ntmps188
 go_upto_region 2 with fail
 obtain⟨e1,e2⟩:V.drew.cell? ⟨D,2,none⟩=some (.slice (some ⟨gt,0,none⟩) s.tl.length s.tc)∧V.drew.cell? ⟨D,10,none⟩=some (.int .i64 b'):=⟨by rw[←HET.out];exact HM.out.at'.2.2.1,HT.out.2.2.2.2.1⟩;refine wp_region_held_drew (S:=fun w'=>w'.cell? ⟨D,2,none⟩=some (.slice (some ⟨gt,0,none⟩) s.tl.length s.tc)∧w'.cell? ⟨D,10,none⟩=some (.int .i64 b')) (by kernel_rfl) ?_ (fun hHeld=>?_)
 ·exact⟨e1,e2⟩
 clear e1 e2;have bw:=(bR V.heap.size V).drew;have M7:=aH (HM.out.below bw);have T7:=aH (HT.out.below bw);have B7:=aH (Below.drew (bR D V));have Z7:=aH (show V.heap.size≤V.drew.heap.size from nR _);clear bw HM HT;generalize V.drew=v0 at *;refine wk [.k 0 9,.k 1 10,.k 2 11,.k 3 12,.k 4 13,.k 5 14,.k 6 15,.k 7 16,.k 8 17,.k 9 18,.k 10 19,.k 11 20,.k 12 21,.k 13 22,.k 14 23,.k 15 24,.k 17 26,.k 18 27,.k 19 28,.k 20 29] (fun _ _ _ _ _ h=>h) hHeld ?_ (by kernel_rfl);repeat (refine .k (v:=?_) rfl (by kernel_rfl) ?_ ?_;rotate_left 1;(intro w h;go_simp<;>try rfl);try simp only[sp])
 refine .nil ?_;refine wQ 16 (some 25) rfl (fun K hK=>?_) (by kernel_rfl);obtain⟨r0,r1,_⟩:=HCell.out _ M7.out;go_simp;clear r0 r1;refine hK.out _ _ hHeld (fun hHeld=>?_);clear hK K;try simp only[sp]
 refine wQ 21 (some 30) rfl (fun K hK=>?_) (by kernel_rfl);have hen:=HEN.out;go_simp;refine(HDO.out _).mono ?_;rintro e v1 ⟨rfl,hb⟩;have M8:=aH (M7.out.below hb);have T8:=aH (T7.out.below hb);have B8:=aH (B7.out.trans (hb.mono (by have:=T7.out.2.2.2.2.2;omega)));obtain⟨f1,f2⟩:=hHeld;have hH:=aI (kK hb f1) (kK hb f2);clear f1 f2;go_wp2_with fail;clear hb hen M7 T7 B7;refine hK.out _ _ hH (fun hHeld=>?_);clear hK K;clear hH;try simp only[sp]
 refine wk [.k 22 8,.k 23 31,.k 24 32,.k 25 33] (fun _ _ _ _ _ h=>h) hHeld ?_ (by kernel_rfl);repeat (refine .k (v:=?_) rfl (by kernel_rfl) ?_ ?_;rotate_left 1;(intro w h;go_simp<;>try rfl);try simp only[sp])
 refine .nil ?_;refine wQ 26 none rfl (fun K hK=>?_) (by kernel_rfl);obtain⟨r0,r1,y0,y1⟩:=HCell.out _ M8.out;go_simp;clear r0 r1 y0 y1;have hDg:gt≠D:=by have:=HG.out;omega
 have M9:=aH (show Mine ((v1.setCell ⟨gt,k*2,none⟩ (.int .i64 p1)).setCell ⟨gt,k*2+1,none⟩ (.int .i64 p2)) B D {s with tl:=s.tl.set k (p1,p2)}from M8.out.putT k hk gt HET.out (p1,p2) HP.out);have T9:=aH ((T8.out.off (g:=gt) (o:=k*2) (.inl hDg) (.int .i64 p1)).off (g:=gt) (o:=k*2+1) (.inl hDg) (.int .i64 p2));have B9:=aH (show Below D V ((v1.setCell ⟨gt,k*2,none⟩ (.int .i64 p1)).setCell ⟨gt,k*2+1,none⟩ (.int .i64 p2))from(B8.out.setCell (by show D≤gt;have:=HG.out;omega) _).setCell (by show D≤gt;have:=HG.out;omega) _);have st2:∀a u,v1.cell? a=some u→gt≠a.block→((v1.setCell ⟨gt,k*2,none⟩ (.int .i64 p1)).setCell ⟨gt,k*2+1,none⟩ (.int .i64 p2)).cell? a=some u:=fun a u h hne=>sO (sO h (fun e=>hne (by rw[←e]))) (fun e=>hne (by rw[←e]));obtain⟨f1,f2⟩:=hHeld;have hH2:=aI (st2 _ _ f1 hDg) (st2 _ _ f2 hDg);clear f1 f2;refine hK.out _ _ hH2 (fun hHeld=>?_);clear hK K;clear hH2 st2 hDg M8 T8 B8;try simp only[sp]
 refine wk [.k 27 7] (fun _ _ _ _ _ h=>h) hHeld ?_ (by kernel_rfl);repeat (refine .k (v:=?_) rfl (by kernel_rfl) ?_ ?_;rotate_left 1;(intro w h;go_simp<;>try rfl);try simp only[sp])
 refine .nil ?_;refine wD (by kernel_rfl) ?_;clear hHeld;go_wp2;refine bP (v:=.int .i64 er) ?_ rfl ⟨rfl,M9.out,T9.out,B9.out⟩;simp[results,Tryz.results188,go_sem]
theorem rg_ab (d:Dk) (a:Ab) (h:rgS d a=true):(0≤a.inn∧a.inn≤1152921504606846976)∧(0≤a.out∧a.out≤1152921504606846976)∧(∀k,k<a.c.length→(a.c.getD k ce0).Right)∧dchk d=0∧a.c.length=wellN d∧a.l.length=wellN d∧a.t.length=tipN d:=by
 unfold rgS at h;rw[Bool.and_eq_true,Bool.and_eq_true,Bool.and_eq_true,Bool.and_eq_true,decide_eq_true_eq,decide_eq_true_eq]at h;obtain⟨hz,⟨⟨h1,h2⟩,_⟩,rs⟩:=h;obtain⟨n1,n2,n3,n4,n5⟩:=newA_len d hz;obtain⟨l1,l2⟩:=rw_len h1;unfold rsB at rs;rw[Bool.and_eq_true,Bool.and_eq_true,Bool.and_eq_true]at rs;obtain⟨⟨⟨_,f1⟩,f2⟩,_⟩:=rs;unfold flowB at f1 f2;rw[Bool.and_eq_true,decide_eq_true_eq,decide_eq_true_eq]at f1 f2;refine⟨f1,f2,fun k hk=>?_,zchk_d d hz,by omega,by omega,by omega⟩;unfold rwB at h1;rw[Bool.and_eq_true,List.all_eq_true]at h1;have:=h1.2 k (List.mem_range.2 hk);unfold okW at this;rw[Bool.and_eq_true,Bool.and_eq_true]at this;exact of_decide_eq_true this.1.1
def hdF (a:Ab) (b':Int):Int×Bool:=Tp.fstV (Tp.hdP a.t b' 0) a.t.length
theorem hdF_at (a:Ab) (b':Int) (h:(hdF a b').2=true):∃k:Nat,(hdF a b').1=k∧k<a.t.length:=by
 unfold hdF Tp.fstV at h⊢
 cases e:(List.range a.t.length).find? (Tp.hdP a.t b' 0)with
 |none=>rw[e]at h;cases h
 |some i=>exact⟨i,rfl,List.mem_range.1 (List.mem_of_find?_eq_some e)⟩
def tiK (a:Ab) (id:Int):Nat:=(id-a.c.length).toNat
noncomputable def taE (d:Dk) (a:Ab) (b' id:Int):Int:=if isP d 2 id=true then(if (hdF a b').2=true then 131 else Tp.tkE (a.t.getD (tiK a id) (0,0)).1 (a.t.getD (tiK a id) (0,0)).2 b')else 3
def taA (a:Ab) (b' id:Int):Ab:={a with t:=a.t.set (tiK a id) (Tp.tkV (a.t.getD (tiK a id) (0,0)).1 (a.t.getD (tiK a id) (0,0)).2 b')}
theorem tkV_fit (x y b':Int) (hb:fits b'):fits (Tp.tkV x y b').1∧fits (Tp.tkV x y b').2:=by
 unfold Tp.tkV
 split
 ·exact⟨by show fits 2;decide,hb⟩
 ·exact⟨by decide,by decide⟩
theorem take1_any (d:Dk) (t:Stk) (b':Int) (V:World) (B D pd pi pb:Nat) (id:Int) (hrg:rgS d t.ab=true) (hM:Mine V B D t) (hT:Tl V D d b') (hd:d.In V D) (hid:fits id) (hb':fits b') (hpd:DkAt V pd d) (hpi:V.cell? ⟨pi,0,none⟩=some (.int .i64 id)) (hpb:V.cell? ⟨pb,0,none⟩=some (.int .i64 b')) (hli:pi<D):
  Calls Tryz.prog 186 #[.pointer (some ⟨D,0,none⟩),.pointer (some ⟨pd,0,none⟩),.pointer (some ⟨pi,0,none⟩),.pointer (some ⟨pb,0,none⟩)] V fun e V'=>e=.returned (.int .i64 (taE d t.ab b' id))∧
   (taE d t.ab b' id=0→∃t':Stk,Mine V' B D t'∧t'.ab=taA t.ab b' id∧t'.cl.length≤100000∧t'.ll.length≤100000∧t'.tl.length≤100000)∧Below D V V':=by
 have hab:=rg_ab d t.ab hrg;have hlens:=rg_lens d t hrg;have hdc:=hab.2.2.2.1;have r5:=hab.2.2.2.2.1;have r7:=hab.2.2.2.2.2.2;have l1:=hlens.1;have l2:=hlens.2.1;have l3:=hlens.2.2.1;have hln:t.cl.length=wellN d:=r5;have hlt:t.tl.length=tipN d:=r7;have HDL:=aH (show D<V.heap.size from hT.2.2.2.2.2);have HL:=aH (aI l1 (aI l2 l3));have HM:=aH hM;have HT:=aH hT;have HIP:=aH (isPart_any d 2 id hid V (hd.more (Nat.le_of_lt HDL.out)));have HBX:=aH (aI hpi hpb);have HE:=aH (show taE d t.ab b' id=(if isP d 2 id=true then(if (hdF t.ab b').2=true then 131 else Tp.tkE (t.tl.getD (tiK t.ab id) (0,0)).1 (t.tl.getD (tiK t.ab id) (0,0)).2 b')else 3)from rfl);have HPI:=aH (isP_eq d hdc id).2;generalize taE d t.ab b' id=E at *;obtain⟨d0,d1,d2,d3,_⟩:=hpd;by_cases hP:isP d 2 id=true
 case neg=>
  have hEE:E=3:=by rw[HE.out,if_neg hP]
  subst hEE;have hP:isP d 2 id=false:=by simpa using hP
  rw[hP]at HIP;clear hrg hM hT hd hid hb' hli hpb l1 l2 l3 r5 r7 hln hlt hab hlens hdc;go_enter Tryz.func186,Tryz.ntmps186;go_wp2_with fail;refine HIP.out.mono ?_;rintro e w1 ⟨rfl,hb1⟩;have HB1:=aH (hb1.mono (Nat.le_of_lt HDL.out));clear hb1;go_wp2;refine bP (v:=.int .i64 3) ?_ rfl ⟨rfl,fun h=>absurd h (by decide),HB1.out⟩;simp[results,Tryz.results186,go_sem]
 rw[if_pos hP]at HE;have hin:(wellN d:Int)≤id∧id<wellN d+tipN d:=by
  have h:=HPI.out;rw[hP]at h;exact of_decide_eq_true h.symm
 obtain⟨k,hk⟩:∃k,tiK t.ab id=k:=⟨_,rfl⟩;have hkk:id-(t.cl.length:Int)=k:=by
  have e:tiK t.ab id=(id-(t.cl.length:Int)).toNat:=rfl;omega
 have hkl:k<t.tl.length:=by omega
 have HK:=aH (aI hk hkl);have HKK:=aH (show IntKind.i64.wrap (id-(t.cl.length:Int))=(k:Int)by rw[wrap_fits _ (by rw[hkk];unfold fits;omega)];exact hkk);have HV:=aH (tkV_fit (t.tl.getD k (0,0)).1 (t.tl.getD k (0,0)).2 b' hb');rw[hk]at HE;have HTA:=aH (show taA t.ab b' id={t.ab with t:=t.tl.set k (Tp.tkV (t.tl.getD k (0,0)).1 (t.tl.getD k (0,0)).2 b')}by unfold taA;rw[hk];rfl);have HLB:=aH hli;rw[hP]at HIP;have HHF:=aH (show Tp.fstV (Tp.hdP t.tl b' 0) t.tl.length=hdF t.ab b' from rfl);obtain⟨⟨f1,f2⟩,hf⟩:∃x,hdF t.ab b'=x:=⟨_,rfl⟩;rw[hf]at HE HHF;dsimp only at HE;clear hrg hM hT hd hid hb' hli l1 l2 l3 r5 r7 hln hlt hab hlens hdc hk hkk hkl hin hf;go_enter Tryz.func186,Tryz.ntmps186;go_wp2_with fail;refine HIP.out.mono ?_;rintro e w1 ⟨rfl,hb1⟩;have HB1:=aH (hb1.mono (Nat.le_of_lt HDL.out));have M1:=aH (HM.out.below hb1);have T1:=aH (HT.out.below hb1);have X1:=aH (aI (kK hb1 HBX.out.1) (kK hb1 HBX.out.2));clear hb1 d0 d1 d2 d3 hpi hpb
 go_upto_region 3 with fail
 obtain⟨e1,e2⟩:w1.drew.cell? ⟨D,2,none⟩=some (.slice t.tA t.tl.length t.tc)∧w1.drew.cell? ⟨pb,0,none⟩=some (.int .i64 b'):=⟨M1.out.at'.2.2.1,X1.out.2⟩;refine wp_region_held_drew (S:=fun w'=>w'.cell? ⟨D,2,none⟩=some (.slice t.tA t.tl.length t.tc)∧w'.cell? ⟨pb,0,none⟩=some (.int .i64 b')) (by kernel_rfl) ?_ (fun hHeld=>?_)
 ·exact⟨e1,e2⟩
 clear e1 e2;have bw:=(bR w1.heap.size w1).drew;have M2:=aH (M1.out.below bw);have T2:=aH (T1.out.below bw);have X2:=aH (aI (kK bw X1.out.1) (kK bw X1.out.2));have HB2:=aH (Below.drew HB1.out);clear bw M1 T1 X1 HB1;generalize w1.drew=w2 at *;refine wk [.k 0 13,.k 1 14,.k 2 15,.k 3 16,.k 4 17,.k 5 18,.k 6 19] (fun _ _ _ _ _ h=>h) hHeld ?_ (by kernel_rfl);repeat (refine .k (v:=?_) rfl (by kernel_rfl) ?_ ?_;rotate_left 1;(intro w h;go_simp<;>try rfl);try simp only[sp])
 refine .nil ?_;refine wQ 7 (some 20) rfl (fun K hK=>?_) (by kernel_rfl);go_simp;refine(Tp.held_any (.slice t.tA t.tl.length t.tc) t.tl b' w2 (M2.out.inn (by have:=HL.out;omega) (by have:=HL.out;omega) (by have:=HL.out;omega)).t).mono ?_;rintro e w3 ⟨rfl,hb⟩;rw[HHF.out];have M3:=aH (M2.out.below hb);have T3:=aH (T2.out.below hb);have X3:=aH (aI (kK hb X2.out.1) (kK hb X2.out.2));have HB3:=aH (HB2.out.trans (hb.mono (by have:=T2.out.2.2.2.2.2;omega)));obtain⟨h1,h2⟩:=hHeld;have hH:=aI (kK hb h1) (kK hb h2);clear h1 h2 hb M2 T2 X2 HB2;go_wp2_with fail;refine hK.out _ _ hH (fun hHeld=>?_);clear hK K;clear hH;try simp only[sp]
 refine wk [.k 8 12,.k 9 21,.k 10 22,.k 11 6,.k 12 7] (fun _ _ _ _ _ h=>h) hHeld ?_ (by kernel_rfl);repeat (refine .k (v:=?_) rfl (by kernel_rfl) ?_ ?_;rotate_left 1;(intro w h;go_simp<;>try rfl);try simp only[sp])
 refine .nil ?_;refine wD (by kernel_rfl) ?_;clear hHeld
 cases f2
 case true=>
  have hEE:E=131:=by rw[HE.out];rfl
  subst hEE;go_wp2;refine bP (v:=.int .i64 131) ?_ rfl (by first|exact⟨rfl,HB3.out⟩|exact⟨rfl,fun h=>absurd h (by decide),HB3.out⟩);simp[results,Tryz.results186,go_sem]
 have hEE:E=Tp.tkE (t.tl.getD k (0,0)).1 (t.tl.getD k (0,0)).2 b':=by rw[HE.out];rfl
 have HEE:=aH hEE;clear hEE
 go_upto_region 6 with fail
 obtain⟨e1,e2⟩:w3.drew.cell? ⟨D,0,none⟩=some (.slice t.cA t.cl.length t.cc)∧w3.drew.cell? ⟨pi,0,none⟩=some (.int .i64 id):=⟨M3.out.at'.1,X3.out.1⟩;refine wp_region_held_drew (S:=fun w'=>w'.cell? ⟨D,0,none⟩=some (.slice t.cA t.cl.length t.cc)∧w'.cell? ⟨pi,0,none⟩=some (.int .i64 id)) (by kernel_rfl) ?_ (fun hHeld=>?_)
 ·exact⟨e1,e2⟩
 clear e1 e2;have bw:=(bR w3.heap.size w3).drew;have M4:=aH (M3.out.below bw);have T4:=aH (T3.out.below bw);have HB4:=aH (Below.drew HB3.out);have hen:=enters_of (P:=Tryz.prog) (f:=189) Tryz.func189 (by kernel_rfl) rfl;have HH:=aH (handle_any t d b' w3.drew B D k 189 (Tp.tkV (t.tl.getD k (0,0)).1 (t.tl.getD k (0,0)).2 b') (Tp.tkE (t.tl.getD k (0,0)).1 (t.tl.getD k (0,0)).2 b') M4.out T4.out HK.out.2 HV.out (by have:=HL.out;omega) hen (fun W=>Tp.take_any _ _ b' W));clear bw M3 T3 HB3 hen;have hX:=X3.out.1;clear X3;rw[←HEE.out]at HH;generalize w3.drew=w4 at *;refine wk [.k 0 24,.k 1 25,.k 2 26,.k 3 27,.k 4 28,.k 5 29,.k 6 30,.k 7 31,.k 8 32,.k 9 33] (fun _ _ _ _ _ h=>h) hHeld ?_ (by kernel_rfl);repeat (refine .k (v:=?_) rfl (by kernel_rfl) ?_ ?_;rotate_left 1;(intro w h;go_simp<;>try rfl);try simp only[sp])
 refine .nil ?_;rw[HKK.out];refine wQ 10 (some 34) rfl (fun K hK=>?_) (by kernel_rfl);go_simp;refine HH.out.mono ?_;rintro e w5 ⟨rfl,hM5,hT5,hb5⟩;have M7:=aH hM5;have HB7:=aH (HB4.out.trans hb5);obtain⟨h1,h2⟩:=hHeld;have hH:=aI (show w5.cell? ⟨D,0,none⟩=some (.slice t.cA t.cl.length t.cc)from hM5.at'.1) ((hb5.cell (p:=⟨pi,0,none⟩) HLB.out).trans h2);clear h1 h2 hM5 hT5 hb5 M4 T4 HB4;go_wp2_with fail;refine hK.out _ _ hH (fun hHeld=>?_);clear hK K;clear hH;try simp only[sp]
 refine wk [.k 11 5] (fun _ _ _ _ _ h=>h) hHeld ?_ (by kernel_rfl);repeat (refine .k (v:=?_) rfl (by kernel_rfl) ?_ ?_;rotate_left 1;(intro w h;go_simp<;>try rfl);try simp only[sp])
 refine .nil ?_;refine wD (by kernel_rfl) ?_;clear hHeld;go_wp2;refine bP (v:=.int .i64 E) ?_ rfl ⟨rfl,fun _=>⟨_,M7.out,?_,by show t.cl.length≤_;have:=HL.out;omega,by show t.ll.length≤_;have:=HL.out;omega,by show(t.tl.set _ _).length≤_;rw[List.length_set];have:=HL.out;omega⟩,HB7.out⟩
 ·simp[results,Tryz.results186,go_sem]
 ·rw[HTA.out];rfl
theorem take_any (d:Dk) (s:Stk) (b' id:Int) (w:World) (hd:d.In w w.heap.size) (hs:s.In w w.heap.size) (hid:fits id):
  Calls Tryz.prog 126 #[d.v,s.v,.int .i64 b',.int .i64 id] w fun e w'=>∃t:Stk,e=.returned (.tuple #[t.v,.int .i64 (cgE d s.ab b' (taE d s.ab b' id))])∧t.In w' w'.heap.size∧t.ab=(if cgE d s.ab b' (taE d s.ab b' id)=0 then taA s.ab b' id else ab0)∧Below w.heap.size w w':=by
 obtain⟨w0,hw0⟩:∃w0,w0=(((((w.alloc d.ob).alloc s.ob).alloc (.cells #[.int .i64 b'] 3)).alloc (.cells #[.int .i64 id] 3)).alloc zo):=⟨_,rfl⟩;have HB0:=aH (show Below w.heap.size w w0 by rw[hw0];exact bL (bL (bL (bL (bL (bR _ _) _) _) _) _) _);have HD0:=aH (hd.then HB0.out);have HS0:=aH (hs.then HB0.out);have HK0:=aH (show DkAt w0 w.heap.size d by rw[hw0];exact((((Cells4.new w _ _ _ _ _).below (bL (bR _ _) _)).below (bL (bR _ _) _)).below (bL (bR _ _) _)).below (bL (bR _ _) _));have HT0:=aH (show SkAt w0 (w.heap.size+1) s by
  have e:(w.alloc d.ob).heap.size=w.heap.size+1:=by simp
  rw[hw0,←e];exact(((Cells6.new (w.alloc d.ob) 41 _ _ _ _ _ _).below (bL (bR _ _) _)).below (bL (bR _ _) _)).below (bL (bR _ _) _))
 have HI0:=aH (show w0.cell? ⟨w.heap.size+2,0,none⟩=some (.int .i64 b')∧w0.cell? ⟨w.heap.size+3,0,none⟩=some (.int .i64 id)∧w0.heap.size=w.heap.size+5 by
  rw[hw0];refine⟨?_,?_,by simp⟩
  ·have h:((w.alloc d.ob).alloc s.ob).heap.size=w.heap.size+2:=(by simp);refine kK (bL (bR _ _) _) (kK (bL (bR _ _) _) (?_));rw[←h,alloc_at];rfl
  ·have h:(((w.alloc d.ob).alloc s.ob).alloc (.cells #[.int .i64 b'] 3)).heap.size=w.heap.size+3:=(by simp);refine kK (bL (bR _ _) _) (?_);rw[←h,alloc_at];rfl)
 have HR0:=aH (show Cells6 w0 (w.heap.size+4) (.slice none 0 0) (.slice none 0 0) (.slice none 0 0) (.int .i64 0) (.int .i64 0) (.int .i64 0)by
  have h:=Cells6.new ((((w.alloc d.ob).alloc s.ob).alloc (.cells #[.int .i64 b'] 3)).alloc (.cells #[.int .i64 id] 3)) 41 (.slice none 0 0) (.slice none 0 0) (.slice none 0 0) (.int .i64 0) (.int .i64 0) (.int .i64 0);rw[←hw0,show((((w.alloc d.ob).alloc s.ob).alloc (.cells #[.int .i64 b'] 3)).alloc (.cells #[.int .i64 id] 3)).heap.size=w.heap.size+4 by simp]at h;exact h)
 have HC:=aH (change_any d s b' 186 #[.pointer (some ⟨w.heap.size,0,none⟩),.pointer (some ⟨w.heap.size+3,0,none⟩),.pointer (some ⟨w.heap.size+2,0,none⟩)] (taE d s.ab b' id) (taA s.ab b' id) w0 HD0.out HS0.out (enters_of Tryz.func186 (by kernel_rfl) rfl) (fun hrg hb1' hb2' V B D t hM hab hT hD hb hle=>by
  have hI:=HI0.out;have hsz:w0.heap.size=w.heap.size+5:=hI.2.2;have hfb:fits b':=by have h:=hd.a;unfold fits at h⊢;omega
  have e1:s.ab=t.ab:=hab.symm;rw[e1];rw[e1]at hrg;exact take1_any d t b' V B D _ _ _ id hrg hM hT hD hid hfb (HK0.out.below hb) (kK hb hI.2.1) (kK hb hI.1) (by omega)))
 generalize taE d s.ab b' id=dE at *;generalize taA s.ab b' id=dA at *;generalize cgE d s.ab b' dE=E at *;generalize (if E=0 then dA else ab0)=dR at *;have hmf:∀(fn:Fn) (first cap:Array Value) (w:World),(Instr.makeFunc fn first cap).run Tryz.prog w=.ok (.func fn first cap) w:=fun _ _ _ _=>rfl;obtain⟨t0,t1,t2,t3,t4,t5,_⟩:=HT0.out;obtain⟨d0,d1,d2,d3,_⟩:=HK0.out;obtain⟨i0,i1,_⟩:=HI0.out;clear hd hs;go_enter Tryz.func126,Tryz.ntmps126;go_wp2_with fail;rw[←hw0];clear hw0;refine HC.out.mono ?_;rintro e w1 ⟨t,rfl,ht,hab,hfar,hb1⟩;have hR1:=HR0.out.below hb1;obtain⟨r0,r1,r2,r3,r4,r5,y0,y1,y2,y3,y4,y5,_⟩:=hR1;have HR1:=aH (HR0.out.below hb1);have HB1:=aH (bC HB0.out hb1);have HTT:=aH (aI ht (aI hab hfar));clear ht hab hfar hb1 t0 t1 t2 t3 t4 t5 d0 d1 d2 d3 hmf i0 i1;go_wp2;have hset:=HR1.out.setS t;obtain⟨q0,q1,q2,q3,q4,q5,_⟩:=hset;have hsz:w0.heap.size=w.heap.size+5:=HI0.out.2.2;refine bP (v:=.tuple #[t.v,.int .i64 E]) ?_ rfl ?_
 ·simp[results,Tryz.results126,go_sem,q0,q1,q2,q3,q4,q5]
 ·refine⟨t,rfl,?_,HTT.out.2.1,below_set6 HB1.out (by omega) _ _ _ _ _ _⟩;have:=HTT.out.1.set6 HTT.out.2.2 (D:=w.heap.size+4) (by omega) (.slice t.cA t.cl.length t.cc) (.slice t.lA t.ll.length t.lc) (.slice t.tA t.tl.length t.tc) (.int .i64 t.st) (.int .i64 t.inn) (.int .i64 t.out);simpa using this
theorem gset_eq {α:Type} (l:List α) (k:Nat) (q z:α) (h:k<l.length):(l.set k q).getD k z=q:=by rw[List.getD_eq_getElem?_getD,List.getElem?_set_self h];rfl
theorem gset_ne {α:Type} (l:List α) (k j:Nat) (q z:α) (h:k≠j):(l.set k q).getD j z=l.getD j z:=by rw[List.getD_eq_getElem?_getD,List.getElem?_set_ne h,List.getD_eq_getElem?_getD]
theorem okW_parts {a f:Ab} {i:Nat} (h:okW a f i=true):(a.c.getD i ce0).Right∧(a.c.getD i ce0).a=(f.c.getD i ce0).a∧Lg.rgB (a.l.getD i (0,0,[])).1 (a.l.getD i (0,0,[])).2.1 (a.l.getD i (0,0,[])).2.2=true∧(a.l.getD i (0,0,[])).1=(f.l.getD i (0,0,[])).1∧(a.l.getD i (0,0,[])).2.1=(a.c.getD i ce0).c:=by
 unfold okW at h;rw[Bool.and_eq_true,Bool.and_eq_true,Bool.and_eq_true,Bool.and_eq_true,decide_eq_true_eq,decide_eq_true_eq,decide_eq_true_eq,decide_eq_true_eq]at h;exact⟨h.1.1,h.1.2,h.2.1.1,h.2.1.2,h.2.2⟩
theorem okW_mk {a f:Ab} {i:Nat} (h1:(a.c.getD i ce0).Right) (h2:(a.c.getD i ce0).a=(f.c.getD i ce0).a) (h3:Lg.rgB (a.l.getD i (0,0,[])).1 (a.l.getD i (0,0,[])).2.1 (a.l.getD i (0,0,[])).2.2=true) (h4:(a.l.getD i (0,0,[])).1=(f.l.getD i (0,0,[])).1) (h5:(a.l.getD i (0,0,[])).2.1=(a.c.getD i ce0).c):okW a f i=true:=by
 unfold okW;rw[Bool.and_eq_true,Bool.and_eq_true,Bool.and_eq_true,Bool.and_eq_true,decide_eq_true_eq,decide_eq_true_eq,decide_eq_true_eq,decide_eq_true_eq];exact⟨⟨h1,h2⟩,⟨h3,h4⟩,h5⟩
theorem rw_parts {a f:Ab} (h:rwB a f=true):a.c.length=f.c.length∧a.l.length=f.l.length∧∀i,i<a.c.length→okW a f i=true:=by
 unfold rwB at h;rw[Bool.and_eq_true,Bool.and_eq_true,decide_eq_true_eq,decide_eq_true_eq,List.all_eq_true]at h;exact⟨h.1.1,h.1.2,fun i hi=>h.2 i (List.mem_range.2 hi)⟩
theorem rw_mk {a f:Ab} (h1:a.c.length=f.c.length) (h2:a.l.length=f.l.length) (h3:∀i,i<a.c.length→okW a f i=true):rwB a f=true:=by
 unfold rwB;rw[Bool.and_eq_true,Bool.and_eq_true,decide_eq_true_eq,decide_eq_true_eq,List.all_eq_true];exact⟨⟨h1,h2⟩,fun i hi=>h3 i (List.mem_range.1 hi)⟩
structure RgP (d:Dk) (a:Ab):Prop where
 z:zchk d=0
 w:rwB a (newA d)=true
 t:a.t.length=(newA d).t.length
 r:rtB a.t d.arms=true
 st:a.st=(newA d).st
 i:0≤a.inn∧a.inn≤1152921504606846976
 o:0≤a.out∧a.out≤1152921504606846976
 s:Two.sumL (volS a.c)=a.st+a.inn-a.out
theorem rw_all {a f:Ab} (h:rwB a f=true):∀q∈a.c,q.Right:=fun q hq=>by
 obtain⟨j,hj,rfl⟩:=List.getElem_of_mem hq;have:=(okW_parts ((rw_parts h).2.2 j hj)).1;rw[List.getD_eq_getElem?_getD,List.getElem?_eq_getElem hj]at this;exact this
theorem new_right (d:Dk) (h:zchk d=0):(∀q∈(newA d).c,q.Right)∧(newA d).c.length≤384:=by
 have hok:=dchk_ok d (zchk_d d h);exact⟨newC_right d.pl hok.pl d.pl.length (nR _),by have:=newA_len d h;omega⟩
theorem sum_small {l:List Cel.Ce} (h:∀q∈l,q.Right) (hl:l.length≤384):0≤Two.sumL (volS l)∧Two.sumL (volS l)≤422212465065984:=by
 have:=sumL_bd l h;omega
theorem rg_P (d:Dk) (a:Ab) (h:rgS d a=true):RgP d a:=by
 unfold rgS at h;rw[Bool.and_eq_true,Bool.and_eq_true,Bool.and_eq_true,Bool.and_eq_true,decide_eq_true_eq,decide_eq_true_eq]at h;obtain⟨hz,⟨⟨h1,h2⟩,h3⟩,h4⟩:=h;unfold rsB flowB at h4;rw[Bool.and_eq_true,Bool.and_eq_true,Bool.and_eq_true,decide_eq_true_eq,decide_eq_true_eq,Bool.and_eq_true,Bool.and_eq_true,decide_eq_true_eq,decide_eq_true_eq,decide_eq_true_eq,decide_eq_true_eq]at h4;obtain⟨⟨⟨k1,k2⟩,k3⟩,k4⟩:=h4;have hl:=newA_len d hz;have hr:=rw_len h1;have hs:=sum_small (rw_all h1) (by omega);have hn:=sum_small (new_right d hz).1 (new_right d hz).2;have hst:(newA d).st=Two.sumL (volS (newA d).c):=rfl;rw[fitV,if_pos (by unfold fits;omega),←w64,←w64]at k4;rw[wrap_fits (a.st+a.inn) (by unfold fits;omega)]at k4;rw[wrap_fits _ (by unfold fits;omega)]at k4;exact⟨hz,h1,h2,h3,k1,k2,k3,k4⟩
theorem P_rg (d:Dk) (a:Ab) (h:RgP d a):rgS d a=true:=by
 obtain⟨hz,h1,h2,h3,k1,k2,k3,k4⟩:=h;have hl:=newA_len d hz;have hr:=rw_len h1;have hs:=sum_small (rw_all h1) (by omega);have hn:=sum_small (new_right d hz).1 (new_right d hz).2;have hst:(newA d).st=Two.sumL (volS (newA d).c):=rfl;unfold rgS rsB flowB;rw[Bool.and_eq_true,Bool.and_eq_true,Bool.and_eq_true,Bool.and_eq_true,decide_eq_true_eq,decide_eq_true_eq,Bool.and_eq_true,Bool.and_eq_true,Bool.and_eq_true,decide_eq_true_eq,decide_eq_true_eq,Bool.and_eq_true,Bool.and_eq_true,decide_eq_true_eq,decide_eq_true_eq,decide_eq_true_eq,decide_eq_true_eq];refine⟨hz,⟨⟨h1,h2⟩,h3⟩,⟨⟨k1,k2⟩,k3⟩,?_⟩;rw[fitV,if_pos (by unfold fits;omega),←w64,←w64];rw[wrap_fits (a.st+a.inn) (by unfold fits;omega)];rw[wrap_fits _ (by unfold fits;omega)];exact k4
theorem rg_new (d:Dk) (hz:zchk d=0):rgS d (newA d)=true:=by
 have hok:=dchk_ok d (zchk_d d hz);have ha:0≤d.arms:=by have:=hok.arm;omega
 obtain⟨l1,l2,l3,l4,l5⟩:=newA_len d hz;refine P_rg d _ ⟨hz,?_,rfl,?_,rfl,(show(0:Int)≤0∧(0:Int)≤1152921504606846976 by decide),(show(0:Int)≤0∧(0:Int)≤1152921504606846976 by decide),?_⟩
 ·refine rw_mk rfl rfl (fun i hi=>?_);have hc:=(new_right d hz).1 _ (getD_mem' (newA d).c i ce0 hi);have hl:(newA d).l.getD i (0,0,[])=(8,0,[]):=by
   show(List.replicate (wellN d) ((8,0,[]):Int×Int×List Ch)).getD i (0,0,[])=(8,0,[]);rw[List.getD_eq_getElem?_getD,List.getElem?_replicate,if_pos (by omega)];rfl
  have hcc:((newA d).c.getD i ce0).c=0:=by
   have:∀n,∀q∈newCn d.pl n,q.c=0:=fun n q hq=>by
    unfold newCn plC at hq;rw[List.mem_flatMap]at hq;obtain⟨j,_,hq⟩:=hq;rw[List.mem_map]at hq;obtain⟨i,_,rfl⟩:=hq;rfl
   exact this _ _ (getD_mem' (newA d).c i ce0 hi)
  exact okW_mk hc rfl (by rw[hl];rfl) rfl (by rw[hl,hcc])
 ·refine rt_yes (fun k hk=>?_);have hg:∀j,j<(newA d).t.length→(newA d).t.getD j (0,0)=(1,0):=fun j hj=>by
   show(List.replicate (tipN d) ((1,0):Int×Int)).getD j (0,0)=(1,0);rw[List.getD_eq_getElem?_getD,List.getElem?_replicate,if_pos (by omega)];rfl
  have hb:hbB (newA d).t k 0=false:=by
   unfold hbB;rw[List.any_eq_false];intro q hq;have:q=(1,0):=by
    have h1:q∈List.replicate (tipN d) ((1,0):Int×Int):=List.mem_of_mem_take hq;exact List.eq_of_mem_replicate h1
   rw[this];decide
  unfold okT;rw[hg k hk];dsimp only;rw[hb,dT ha];decide
 ·show Two.sumL (volS (newA d).c)=Two.sumL (volS (newA d).c)+0-0;omega
theorem arms_ok {d:Dk} (hz:zchk d=0):1≤d.arms∧d.arms≤8:=(dchk_ok d (zchk_d d hz)).arm
theorem rt_iff (xs:List (Int×Int)) (arms:Int):rtB xs arms=true↔∀i,i<xs.length→Tp.ofV (xs.getD i (0,0)).1 (xs.getD i (0,0)).2≠0∧(xs.getD i (0,0)).2≤arms∧∀j,j<i→¬((xs.getD j (0,0)).1=2∧(xs.getD j (0,0)).2=(xs.getD i (0,0)).2):=by
 have hb:∀i,i<xs.length→∀b,(hbB xs i b=false↔∀j,j<i→¬((xs.getD j (0,0)).1=2∧(xs.getD j (0,0)).2=b)):=by
  intro i hi b
  induction i with
  |zero=>exact⟨fun _ j hj=>absurd hj (by omega),fun _=>by unfold hbB;simp⟩
  |succ i ih=>
   rw[hb_snoc xs i (by omega),Bool.or_eq_false_iff,ih (by omega)];constructor
   ·rintro⟨h1,h2⟩ j hj ⟨g1,g2⟩;rcases Nat.lt_succ_iff_lt_or_eq.1 hj with h|rfl
    ·exact h1 j h ⟨g1,g2⟩
    ·rw[g1,g2]at h2;simp at h2
   ·intro h;refine⟨fun j hj=>h j (by omega),?_⟩;have:=h i (by omega);by_cases h1:(xs.getD i (0,0)).1=2
    ·rw[h1];by_cases h2:(xs.getD i (0,0)).2=b
     ·exact absurd ⟨h1,h2⟩ this
     ·simp only[beq_self_eq_true,Bool.true_and];exact beq_eq_false_iff_ne.2 h2
    ·rw[beq_eq_false_iff_ne.2 h1,Bool.false_and]
 constructor
 ·intro h i hi;unfold rtB at h;rw[List.all_eq_true]at h;have:=h i (List.mem_range.2 hi);unfold okT at this;rw[Bool.and_eq_true,Bool.and_eq_true,Bool.not_eq_true',Bool.not_eq_true',decide_eq_true_eq,hb i hi]at this;exact⟨by simpa using this.1.1,this.1.2,this.2⟩
 ·intro h;refine rt_yes (fun i hi=>?_);obtain⟨h1,h2,h3⟩:=h i hi;unfold okT;rw[Bool.and_eq_true,Bool.and_eq_true,Bool.not_eq_true',Bool.not_eq_true',decide_eq_true_eq,hb i hi];exact⟨⟨by simpa using h1,h2⟩,h3⟩
theorem ofV_2 (s b:Int):(Tp.ofV s b==2)=true↔s=2∧1≤b∧b≤8:=by
 unfold Tp.ofV
 split
 ·rename_i h
  constructor
  ·intro h2;have:=(beq_iff_eq).1 h2;omega
  ·intro h2;omega
 ·split
  ·rename_i h;exact⟨fun _=>h,fun _=>rfl⟩
  ·rename_i h
   constructor
   ·intro h2;exact absurd h2 (by decide)
   ·intro h2;exact absurd h2 h
theorem hd_no {a:Ab} {b':Int} (h1:1≤b') (h8:b'≤8) (h:(hdF a b').2≠true):∀j,j<a.t.length→¬((a.t.getD j (0,0)).1=2∧(a.t.getD j (0,0)).2=b'):=by
 intro j hj ⟨g1,g2⟩;apply h;unfold hdF Tp.fstV
 cases e:(List.range a.t.length).find? (Tp.hdP a.t b' 0)with
 |some i=>rfl
 |none=>
  exfalso;rw[List.find?_range_eq_none]at e;have:=e j hj;unfold Tp.hdP at this;rw[(ofV_2 _ _).2 ⟨g1,by omega,by omega⟩,g2]at this;simp at this
theorem ofV_nz {s b:Int} (h:Tp.ofV s b≠0):((s=1∨s=3)∧b=0)∨(s=2∧1≤b∧b≤8):=by
 unfold Tp.ofV at h
 split at h
 ·left;assumption
 ·split at h
  ·right;assumption
  ·exact absurd rfl h
theorem ta_ok {d:Dk} {a:Ab} {b' id:Int} (hd:dchk d=0) (h:taE d a b' id=0):(wellN d≤id∧id<wellN d+tipN d)∧(hdF a b').2≠true∧Tp.tkE (a.t.getD (tiK a id) (0,0)).1 (a.t.getD (tiK a id) (0,0)).2 b'=0:=by
 unfold taE at h;by_cases hP:isP d 2 id=true
 case neg=>rw[if_neg hP]at h;cases h
 rw[if_pos hP]at h;by_cases hf:(hdF a b').2=true
 ·rw[if_pos hf]at h;cases h
 rw[if_neg hf]at h;rw[(isP_eq d hd id).2]at hP;exact⟨of_decide_eq_true hP,hf,h⟩
theorem rg_take {d:Dk} {a:Ab} {b' id:Int} (hr:rgS d a=true) (h1:1≤b') (h2:b'≤d.arms) (h:taE d a b' id=0):rgS d (taA a b' id)=true:=by
 have P:=rg_P d a hr;obtain⟨h3,h4,h5⟩:=ta_ok (zchk_d d P.z) h;have hl:=newA_len d P.z;have hw:=rw_len P.w;have ht:=P.t;have h8:=(arms_ok P.z).2;have hk:tiK a id<a.t.length:=by unfold tiK;omega
 obtain⟨k,ek⟩:∃k,tiK a id=k:=⟨_,rfl⟩;have hv:Tp.tkV (a.t.getD (tiK a id) (0,0)).1 (a.t.getD (tiK a id) (0,0)).2 b'=(2,b'):=by unfold Tp.tkV;rw[if_pos h5]
 refine P_rg d _ ⟨P.z,P.w,by show(a.t.set _ _).length=_;rw[List.length_set];exact ht,?_,P.st,P.i,P.o,P.s⟩;have hR:=(rt_iff _ _).1 P.r;have hN:=hd_no h1 (by omega) h4;show rtB (a.t.set (tiK a id) (Tp.tkV (a.t.getD (tiK a id) (0,0)).1 (a.t.getD (tiK a id) (0,0)).2 b')) d.arms=true;rw[hv];rw[ek]at hk⊢;refine(rt_iff _ _).2 (fun i hi=>?_);rw[List.length_set]at hi;obtain⟨r1,r2,r3⟩:=hR i hi;by_cases hik:k=i
 ·subst hik;rw[gset_eq _ _ _ _ hk];refine⟨?_,h2,fun j hj=>?_⟩
  ·have:=(ofV_2 2 b').2 ⟨rfl,h1,by omega⟩;intro h0;rw[h0]at this
   cases this
  ·rw[gset_ne _ _ _ _ _ (by omega)];exact hN j (by omega)
 ·rw[gset_ne _ _ _ _ _ hik];refine⟨r1,r2,fun j hj=>?_⟩;by_cases hjk:k=j
  ·subst hjk;rw[gset_eq _ _ _ _ hk];rintro⟨_,g⟩;dsimp only at g;have:=hN i hi;rcases ofV_nz r1 with q|q
   ·omega
   ·exact this ⟨q.1,g.symm⟩
  ·rw[gset_ne _ _ _ _ _ hjk];exact r3 j hj
end Go.Proofs.YtmecohdedghiaaaGreatDoor
