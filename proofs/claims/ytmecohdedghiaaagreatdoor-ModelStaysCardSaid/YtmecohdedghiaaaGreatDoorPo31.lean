/- Stocks: is one a deck's, by the reference? -/
import Derived.Test.YtmecohdedghiaaaGreatDoorPo21
import Derived.Test.YtmecohdedghiaaaGreatDoorPo30
import Derived.Deep.CutRange
set_option maxRecDepth 100000
set_option maxHeartbeats 8000000
open Go.Proofs.Tryz
namespace Go.Proofs.YtmecohdedghiaaaGreatDoor
open Go.RowKit
def jG (xs:List (Int×Int)) (k:Nat):List Int:=(xs.take k).filterMap fun q=>if q.1=2 then some q.2 else none
theorem uf (xs:List (Int×Int)) (k:Nat) (h:k<xs.length):jG xs (k+1)=jG xs k++(if (xs.getD k (0,0)).1=2 then [(xs.getD k (0,0)).2]else []):=by
 unfold jG;rw[List.take_succ_eq_append_getElem h,List.filterMap_append]
 congr 1
 rw[List.getD_eq_getElem?_getD,List.getElem?_eq_getElem h,Option.getD_some];by_cases h2:(xs[k]).1=2
 ·rw[if_pos h2];simp[h2]
 ·rw[if_neg h2];simp[h2]
theorem xo (xs:List (Int×Int)) (k:Nat):(jG xs k).length≤k:=by
 unfold jG;exact Nat.le_trans (List.length_filterMap_le _ _) (by rw[List.length_take];omega)
theorem zm (xs:List (Int×Int)) (k:Nat) (b:Int):hbB xs k b=(jG xs k).any (fun x=>x==b):=by
 unfold hbB jG;generalize xs.take k=l
 induction l with
 |nil=>rfl
 |cons q l ih=>
  rw[List.any_cons,ih,List.filterMap_cons];by_cases h2:q.1=2
  ·rw[if_pos h2,show(q.1==2)=true by simpa using h2,Bool.true_and];rfl
  ·rw[if_neg h2,show(q.1==2)=false by simpa using h2,Bool.false_and,Bool.false_or]
def Ak (s f:Stk) (k:Nat):Bool:=decide (s.cl.getD k aM).Right&&decide ((s.cl.getD k aM).a=(f.cl.getD k aM).a)&&Lg.rgB (s.ll.getD k av).r (s.ll.getD k av).l (s.ll.getD k av).xs&&decide ((s.ll.getD k av).r=8)&&decide ((s.ll.getD k av).l=(s.cl.getD k aM).c)
structure RF (s f:Stk) (arms:Int) (R:Bool):Prop where
 n1:s.cl.length≠f.cl.length→R=false
 n2:s.ll.length≠f.ll.length→R=false
 n3:s.tl.length≠f.tl.length→R=false
 nw:s.cl.length=f.cl.length→s.ll.length=f.ll.length→∀k,k<s.cl.length→Ak s f k=false→R=false
 nt:∀k,k<s.tl.length→jn s.tl arms k=false→R=false
 ns:s.st≠f.st∨s.inn<0∨1152921504606846976<s.inn∨s.out<0∨1152921504606846976<s.out→R=false
 y:s.cl.length=f.cl.length→s.ll.length=f.ll.length→s.tl.length=f.tl.length→(∀k,k<s.cl.length→Ak s f k=true)→(∀k,k<s.tl.length→jn s.tl arms k=true)→s.st=f.st→0≤s.inn→s.inn≤1152921504606846976→0≤s.out→s.out≤1152921504606846976→
  ae (Two.sumL (aK s.cl))∧R=decide (Two.sumL (aK s.cl)=Go.RowKit.wrap64 (Go.RowKit.wrap64 (s.st+s.inn)-s.out))
 l1:f.cl.length=f.ll.length
 l2:f.cl.length≤384
 l3:f.tl.length≤384
theorem Bm (d:Dk) (s f:Stk) (hz:aA d=0) (hf:f.ab=aB d):RF s f d.arms (cE d s.ab):=by
 obtain⟨l1,l2,l3,l4,l5⟩:=bF d hz;have e0:f.ab.c=f.cl:=rfl;have e1:f.ab.l.length=f.ll.length:=by show(f.ll.map Lo.ab).length=_;rw[List.length_map]
 have e2:f.ab.t=f.tl:=rfl;have e3:s.ab.l.length=s.ll.length:=by show(s.ll.map Lo.ab).length=_;rw[List.length_map]
 have hE:cE d s.ab=(hJ s.ab f.ab&&decide (s.tl.length=f.tl.length)&&qS s.tl d.arms&&rh s.ab f.ab):=by
  unfold cE;rw[dT hz,Bool.true_and,←hf];rfl
 rw[←hf]at l1 l2 l4;rw[e0]at l1;rw[e1]at l2;rw[e2]at l4;have Sg:∀k,k<f.ll.length→(f.ab.l.getD k (0,0,[])).1=8:=fun k hk=>by
  rw[hf];show((List.replicate (au d) ((8,0,[]):Int×Int×List Ch)).getD k (0,0,[])).1=8;rw[List.getD_eq_getElem?_getD,List.getElem?_replicate,if_pos (by omega)];rfl
 have hW:s.cl.length=f.cl.length→s.ll.length=f.ll.length→∀k,k<s.cl.length→nF s.ab f.ab k=Ak s f k:=fun h1 h2 k hk=>by
  unfold nF Ak;rw[oz s k (by omega),Sg k (by omega)];show(decide (s.cl.getD k aM).Right&&decide ((s.cl.getD k aM).a=(f.cl.getD k aM).a)&&(Lg.rgB _ _ _&&decide ((s.ll.getD k av).r=8)&&decide ((s.ll.getD k av).l=(s.cl.getD k aM).c)))=_;rw[←Bool.and_assoc,←Bool.and_assoc]
 have fw:hJ s.ab f.ab=false→cE d s.ab=false:=fun h=>by rw[hE,h];rfl
 refine⟨fun h=>fw ?_,fun h=>fw ?_,fun h=>?_,fun h1 h2 k hk h=>fw ?_,fun k hk h=>?_,fun h=>?_,fun h1 h2 h3 hw ht h4 h5 h6 h7 h8=>?_,by omega,by omega,by omega⟩
 ·unfold hJ;rw[dF (show ¬s.ab.c.length=f.ab.c.length from h),Bool.false_and,Bool.false_and]
 ·unfold hJ;rw[dF (show ¬s.ab.l.length=f.ab.l.length by rw[e1,e3];exact h),Bool.and_false,Bool.false_and]
 ·rw[hE,dF h,Bool.and_false,Bool.false_and,Bool.false_and]
 ·unfold hJ;rw[show(List.range s.ab.c.length).all (nF s.ab f.ab)=false from lu s.cl.length _ k hk (by rw[hW h1 h2 k hk];exact h),Bool.and_false]
 ·rw[hE,xR k hk h,Bool.and_false,Bool.false_and]
 ·rw[hE];have:rh s.ab f.ab=false:=by
   unfold rh cz;show(decide (s.st=f.st)&&(decide (0≤s.inn)&&decide (s.inn≤1152921504606846976))&&(decide (0≤s.out)&&decide (s.out≤1152921504606846976))&&_)=false;rcases h with h|h|h|h|h
   ·rw[dF h];rfl
   ·rw[dF (show ¬ 0≤s.inn by omega)];simp
   ·rw[dF (show ¬s.inn≤1152921504606846976 by omega)];simp
   ·rw[dF (show ¬ 0≤s.out by omega)];simp
   ·rw[dF (show ¬s.out≤1152921504606846976 by omega)];simp
  rw[this,Bool.and_false]
 ·have RJ:hJ s.ab f.ab=true:=yd h1 (by rw[e1,e3];exact h2) (fun k hk=>by rw[hW h1 h2 k hk];exact hw k hk);have Rx:=dx (oi RJ) (show s.cl.length≤384 by omega);have LU:ae (Two.sumL (aK s.cl)):=by
   have:s.ab.c=s.cl:=rfl;rw[this]at Rx;unfold ae;omega
  refine⟨LU,?_⟩;rw[hE,RJ,dT h3,kd ht];unfold rh cz;show(true&&true&&true&&(decide (s.st=f.st)&&(decide (0≤s.inn)&&decide (s.inn≤1152921504606846976))&&(decide (0≤s.out)&&decide (s.out≤1152921504606846976))&&decide (bW (Two.sumL (aK s.cl))=_)))=_;rw[dT h4,dT h5,dT h6,dT h7,dT h8,bW,if_pos LU];rfl
theorem rY (d:Dk) (s:Stk) (w:World) (hd:d.In w w.heap.size) (hs:s.In w w.heap.size):Calls prog 60 #[d.v,s.v] w fun e w'=>e=.returned (.bool (cE d s.ab))∧Below w.heap.size w w':=by
 obtain⟨w0,hw0⟩:∃w0,w0=(w.alloc d.ob).alloc s.ob:=⟨_,rfl⟩;have CG:=aH (gj hw0);have CR:=aH (hd.then CG.out);have Dq:=aH (hs.then CG.out);have DO:=aH (show dv w0 w.heap.size d by rw[hw0];exact(Cells4.new w _ _ _ _ _).below (bL (bR _ _) _));obtain⟨Gs,hGs⟩:∃Gs,Gs=w.heap.size+1:=⟨_,rfl⟩;have CN:=aH (show cn w0 Gs s by
  have e:(w.alloc d.ob).heap.size=w.heap.size+1:=by simp
  rw[hw0,hGs,←e];exact Cells6.new (w.alloc d.ob) 41 _ _ _ _ _ _)
 have GX:=aH (sY d w0 CR.out);have IK:=aH (fun f h1 h2=>Bm d s f h1 h2);have K6:=aH (fun w h1 h2=>ou s w h1 h2);obtain⟨z,hz⟩:∃z,aA d=z:=⟨_,rfl⟩;have Q0:=aH (show z≠0→cE d s.ab=false from fun h=>by
  unfold cE;rw[hz,dF h];rfl)
 rw[hz]at GX IK;generalize cE d s.ab=R at *;generalize aB d=na at *;obtain⟨d0,d1,d2,d3,-⟩:=DO.out;rw[hw0]at d0 d1 d2 d3;obtain⟨t0,t1,t2,t3,t4,t5,-⟩:=CN.out;rw[hw0,hGs]at t0 t1 t2 t3 t4 t5;clear hd hs hz;go_enter func60,ntmps60;go_wp2_with fail;rw[←hw0];try rw[←hGs]
 clear hw0 hGs d0 d1 d2 d3 t0 t1 t2 t3 t4 t5;refine GX.out.mono ?_;rintro e w1 ⟨f,rfl,Oh,ha1,CE⟩;obtain⟨v1,EK⟩:∃v1,v1=w1.alloc f.ob:=⟨_,rfl⟩;have CZ:=bL (bR w1.heap.size w1) f.ob;rw[←EK]at CZ;have Fo:=aH (show Below w.heap.size w v1 from bC CG.out (bC CE CZ));have HF:=aH (Oh.then CZ);have HS:=aH (Dq.out.then (bC CE CZ));have HK:=aH (DO.out.below (bC CE CZ));have HT:=aH (CN.out.below (bC CE CZ));have HG:=aH (show cn v1 w1.heap.size f by rw[EK];exact Cells6.new w1 _ _ _ _ _ _ _);have HA:=aH ha1;have Gm:=aH (show Gs<w1.heap.size from wB _ _ (CN.out.below CE).1);clear Oh ha1 CE CZ GX CG CR Dq DO CN;obtain⟨t0,t1,t2,t3,t4,t5,-⟩:=HT.out;obtain⟨f0,f1,f2,f3,f4,f5,-⟩:=HG.out;rw[EK]at t0 t1 t2 t3 t4 t5 f0 f1 f2 f3 f4 f5;have Gj:=HS.out.c.2.2;have E8:=HS.out.l.2.2;have E6:=HS.out.t.2.2;by_cases h0:z=0
 case neg=>
  have UK:(z != 0)=true:=by simpa using h0
  have HR:=aH (Q0.out h0);clear h0;go_wp2
  go_ret
  exact⟨by rw[HR.out];rfl,by rw[←EK];exact Fo.out⟩
 have HQ:=aH (IK.out f h0 (by rw[HA.out,if_pos h0]));subst h0;clear Q0 HA IK;obtain⟨cA,cc,cl,lA,lc,ll,tA,tc,tl,st,inn,out⟩:=s;obtain⟨cA2,cc2,cl2,lA2,lc2,ll2,tA2,tc2,tl2,st2,inn2,out2⟩:=f;dsimp only at *;have OJ:=aH (fun k=>show Ak ⟨cA,cc,cl,lA,lc,ll,tA,tc,tl,st,inn,out⟩ ⟨cA2,cc2,cl2,lA2,lc2,ll2,tA2,tc2,tl2,st2,inn2,out2⟩ k=(decide (cl.getD k aM).Right&&decide ((cl.getD k aM).a=(cl2.getD k aM).a)&&Lg.rgB (ll.getD k av).r (ll.getD k av).l (ll.getD k av).xs&&decide ((ll.getD k av).r=8)&&decide ((ll.getD k av).l=(cl.getD k aM).c))from rfl);have LZ:=aH HQ.out.n1;have NZ:=aH HQ.out.n2;have Ky:=aH HQ.out.n3;have Fh:=aH HQ.out.nw;have Og:=aH HQ.out.nt;have Fc:=aH HQ.out.ns;have Jn:=aH HQ.out.y;have LT:=aH (aI HQ.out.l1 (aI HQ.out.l2 HQ.out.l3));dsimp only at LZ NZ Ky Fh Og Fc Jn LT;generalize Ak ⟨cA,cc,cl,lA,lc,ll,tA,tc,tl,st,inn,out⟩ ⟨cA2,cc2,cl2,lA2,lc2,ll2,tA2,tc2,tl2,st2,inn2,out2⟩=ok at *;clear HQ;by_cases h1:cl.length=cl2.length
 case neg=>
  have RG:((cl.length:Int) != (cl2.length:Int))=true:=by simp;omega
  have HR:=aH (LZ.out h1);clear h1;go_wp2
  go_ret
  exact⟨by rw[HR.out];rfl,by rw[←EK];exact Fo.out⟩
 have RG:((cl.length:Int) != (cl2.length:Int))=false:=by simp;omega
 by_cases h2:ll.length=ll2.length
 case neg=>
  have Ri:((ll.length:Int) != (ll2.length:Int))=true:=by simp;omega
  have HR:=aH (NZ.out h2);clear h2;go_wp2
  go_ret
  exact⟨by rw[HR.out];rfl,by rw[←EK];exact Fo.out⟩
 have Ri:((ll.length:Int) != (ll2.length:Int))=false:=by simp;omega
 by_cases h3:tl.length=tl2.length
 case neg=>
  have Q9:((tl.length:Int) != (tl2.length:Int))=true:=by simp;omega
  have HR:=aH (Ky.out h3);clear h3;go_wp2
  go_ret
  exact⟨by rw[HR.out];rfl,by rw[←EK];exact Fo.out⟩
 have Q9:((tl.length:Int) != (tl2.length:Int))=false:=by simp;omega
 have HL:=aH (aI h1 (aI h2 h3));have Fh:=aH (Fh.out h1 h2);have Jn:=aH (Jn.out h1 h2 h3);clear h1 h2 h3 LZ NZ Ky;go_wp2_with fail;rw[←EK];obtain⟨Gf,hGf⟩:∃Gf,Gf=w1.heap.size:=⟨_,rfl⟩;rw[←hGf]at HG Gm;try rw[←hGf]
 clear EK hGf t0 t1 t2 t3 t4 t5 f0 f1 f2 f3 f4 f5 RG Ri Q9
 go_loopw [7] (fun i wr=>∃k:Nat,i=.int .i64 k∧k≤cl.length∧Hid (∀j,j<k→ok j=true)∧Hid (Below v1.heap.size v1 wr)) (fun i _=>cl.length-(intOf i).toNat)
 case atStart=>exact⟨0,rfl,Nat.zero_le _,aH (fun j hj=>absurd hj (Nat.not_lt_zero _)),aH (bR _ _)⟩
 case round=>
  obtain⟨k,rfl,hk,Dj,hb⟩:=hrel;have Dh:=aH Dj.out;have Df:=aH hb.out;clear Dj hb;obtain⟨t0,t1,t2,t3,t4,t5,-⟩:=HT.out.below Df.out;try dsimp only at t0 t1 t2 t3 t4 t5
  by_cases CI:k<cl.length
  ·obtain⟨b,off,rfl,hb,hbc,CD⟩:=bt (HS.out.then Df.out).c (by dsimp only;omega);obtain⟨c0,c1,c2⟩:=CD k CI;obtain⟨bf,of,rfl,hbf,hbcf,hcellf⟩:=bt (HF.out.then Df.out).c (by have:=HL.out;dsimp only;omega);obtain⟨cf,-,-⟩:=hcellf k (by have:=HL.out;dsimp only;omega);have Ft:k<ll.length:=(by have:=HL.out;have:=LT.out;omega);have ST:k<cl2.length:=(by have:=HL.out;omega);obtain⟨bl,ol,rfl,CP,hbcl,hcelll⟩:=cD (HS.out.then Df.out).l (by dsimp only;omega);obtain⟨l0,l1,l2⟩:=hcelll k Ft;have Jp:=aH ((HS.out.then Df.out).x _ (af ll k av Ft));have J2:=aH (OJ.out k);have Hu:=aH (Fh.out k CI);have Hx:=aH (show ok k=true→∀j,j<k+1→ok j=true from fun h j hj=>by
    by_cases e:j=k
    ·rw[e];exact h
    ·exact Dh.out j (by omega))
   (try dsimp only at c0 c1 c2 cf l0 l1 l2 Jp hb hbf CP);clear CD hcellf hcelll;generalize cl.getD k aM=qq at *;generalize (cl2.getD k aM).a=capf at *;generalize ll.getD k av=ql' at *;obtain⟨qa,qb,qv⟩:=qq;obtain⟨qr,ql,qA,qc,qx⟩:=ql';(try dsimp only at c0 c1 c2 l0 l1 l2 Jp J2);have G2:=(HG.out.below Df.out).1;(try dsimp only at G2);have Eg:=aH (show ∀W,Below wr.heap.size wr W→W.cell? ⟨Gs,0,none⟩=some (Value.slice (some ⟨b,off,none⟩) cl.length cc)∧W.cell? ⟨Gs,1,none⟩=some (Value.slice (some ⟨bl,ol,none⟩) ll.length lc)∧W.cell? ⟨b,off+k*3,none⟩=some (.int .i64 qa)∧W.cell? ⟨b,off+k*3+1,none⟩=some (.int .i64 qb)∧W.cell? ⟨b,off+k*3+2,none⟩=some (.int .i64 qv)∧W.cell? ⟨bl,ol+k*3,none⟩=some (.int .i64 qr)∧W.cell? ⟨bl,ol+k*3+1,none⟩=some (.int .i64 ql)∧W.cell? ⟨bl,ol+k*3+2,none⟩=some (.slice qA qx.length qc)from fun W h=>⟨kK h t0,kK h t1,kK h c0,kK h c1,kK h c2,kK h l0,kK h l1,kK h l2⟩);have OH:=aH (show ∀W,Below wr.heap.size wr W→W.cell? ⟨Gf,0,none⟩=some (.slice (some ⟨bf,of,none⟩) cl2.length cc2)∧W.cell? ⟨bf,of+k*3,none⟩=some (.int .i64 capf)from fun W h=>⟨kK h G2,kK h cf⟩);have CU:=aH (fun w=>Cel.rright_any ⟨qa,qb,qv⟩ w);have CT:=aH (fun w h=>Lg.rlright_any qr ql qA qc qx w h);have KO:(k:Int)<cl.length:=(by omega);have TM:(k:Int)<ll.length:=(by omega);have Ss:(k:Int)<cl2.length:=(by omega);have LM:=aH (show Cel.rightB ⟨qa,qb,qv⟩=decide (Cel.Ce.mk qa qb qv).Right from rfl)
   go_upto_region 7 with fail
   clear t0 t1 t2 t3 t4 t5 c0 c1 c2 cf l0 l1 l2 G2;go_cut [8,9]from 57 to 97 (fun t8 t9 wx=>∃ga gb:Nat,t8=.pointer (some ⟨ga,0,none⟩)∧t9=.pointer (some ⟨gb,0,none⟩)∧Hid (Cells3 wx ga (.int .i64 qa) (.int .i64 qb) (.int .i64 qv))∧Hid (Cells3 wx gb (.int .i64 qr) (.int .i64 ql) (.slice qA qx.length qc))∧Hid (Below wr.heap.size wr wx)∧Hid (wr.heap.size≤ga))
   case first=>
    clear Hx Hu J2 Jp CU CT LM OH Fh Jn OJ Og Fc K6 LT HL;refine rG Eg.out (by kernel_rfl) (fun CC=>?_);have BB0:=aH (show Below wr.heap.size wr wr.drew from(bR _ _).drew);generalize wr.drew=p0 at *;refine wk [.k 0 57,.k 1 58,.k 2 59,.k 3 60,.k 4 61,.k 5 62,.k 6 63,.k 7 64,.k 8 65,.k 9 66] (fun _ _ _ _ _ h=>h) CC ?_ (by kernel_rfl);repeat (refine .k (v:=?_) rfl (by kernel_rfl) ?_ ?_;rotate_left 1;(intro w h;go_simp<;>try rfl);try simp only[sp])
    refine .nil ?_;refine wR 10 [11] (by kernel_rfl) ?_;refine rK (some 8) rfl (fun K hK=>?_) (rK (some 9) rfl (fun K hK=>?_) rN);go_simp;have hb:=bL (bR _ p0) zc;have BB1:=aH (bC BB0.out hb);have A1:=aH (Cells3.new p0 70 (.int .i64 0) (.int .i64 0) (.int .i64 0));have gga1:=aH (show wr.heap.size≤p0.heap.size from BB0.out.size);clear hb CC BB0;generalize p0.alloc zc=p1 at *;generalize p0.heap.size=ga at *;refine hK.out _ _ (Eg.out _ BB1.out) (fun CC=>?_);clear hK K;(try simp only[sp]);refine wQ 11 (some 9) rfl (fun K hK=>?_) (by kernel_rfl);go_simp;have hb:=bL (bR _ p1) (.cells #[.int .i64 0,.int .i64 0,.slice none 0 0] 115);have BB2:=aH (bC BB1.out hb);have B2:=aH (Cells3.new p1 115 (.int .i64 0) (.int .i64 0) (.slice none 0 0));have ggb2:=aH (show wr.heap.size≤p1.heap.size from BB1.out.size);have ne2:=aH (show ga≠p1.heap.size from by obtain⟨_,_,_,_,_,_,sl⟩:=A1.out;omega);have A2:=aH (A1.out.below hb);clear hb CC BB1 A1;generalize p1.alloc (.cells #[.int .i64 0,.int .i64 0,.slice none 0 0] 115)=p2 at *;generalize p1.heap.size=gb at *;refine hK.out _ _ (Eg.out _ BB2.out) (fun CC=>?_);clear hK K;(try simp only[sp]);rotate_left 1
    go_simp;have hb:=bL (bR _ p0) (.cells #[.int .i64 0,.int .i64 0,.slice none 0 0] 115);have BB5:=aH (bC BB0.out hb);have B5:=aH (Cells3.new p0 115 (.int .i64 0) (.int .i64 0) (.slice none 0 0));have ggb2:=aH (show wr.heap.size≤p0.heap.size from BB0.out.size);clear hb CC BB0;generalize p0.alloc (.cells #[.int .i64 0,.int .i64 0,.slice none 0 0] 115)=p5 at *;generalize p0.heap.size=gb at *;refine hK.out _ _ (Eg.out _ BB5.out) (fun CC=>?_);clear hK K;(try simp only[sp]);refine wQ 10 (some 8) rfl (fun K hK=>?_) (by kernel_rfl);go_simp;have hb:=bL (bR _ p5) zc;have BB2:=aH (bC BB5.out hb);have A2:=aH (Cells3.new p5 70 (.int .i64 0) (.int .i64 0) (.int .i64 0));have gga1:=aH (show wr.heap.size≤p5.heap.size from BB5.out.size);have ne6:=aH (show gb≠p5.heap.size from by obtain⟨_,_,_,_,_,_,sl⟩:=B5.out;omega);have B2:=aH (B5.out.below hb);have ne2:=aH ne6.out.symm;clear hb CC BB5 B5 ne6;generalize p5.alloc zc=p2 at *;generalize p5.heap.size=ga at *;refine hK.out _ _ (Eg.out _ BB2.out) (fun CC=>?_);clear hK K;(try simp only[sp]);all_goals
     refine wQ 12 none rfl (fun K hK=>?_) (by kernel_rfl);obtain⟨s0,s1,s2,y0,y1,y2,sl⟩:=A2.out;go_simp;clear s0 s1 s2 y0 y1 y2 sl;have BB3:=aH (show Below wr.heap.size wr (((p2.setCell ⟨ga,0,none⟩ (.int .i64 qa)).setCell ⟨ga,1,none⟩ (.int .i64 qb)).setCell ⟨ga,2,none⟩ (.int .i64 qv))from bz BB2.out gga1.out (.int .i64 qa) (.int .i64 qb) (.int .i64 qv));have A3:=aH (show Cells3 (((p2.setCell ⟨ga,0,none⟩ (.int .i64 qa)).setCell ⟨ga,1,none⟩ (.int .i64 qb)).setCell ⟨ga,2,none⟩ (.int .i64 qv)) ga (.int .i64 qa) (.int .i64 qb) (.int .i64 qv)from A2.out.set (.int .i64 qa) (.int .i64 qb) (.int .i64 qv));have B3:=aH (show Cells3 (((p2.setCell ⟨ga,0,none⟩ (.int .i64 qa)).setCell ⟨ga,1,none⟩ (.int .i64 qb)).setCell ⟨ga,2,none⟩ (.int .i64 qv)) gb (.int .i64 0) (.int .i64 0) (.slice none 0 0)from B2.out.apart (by have h:=ne2.out;omega) (.int .i64 qa) (.int .i64 qb) (.int .i64 qv));clear CC BB2 A2 B2;generalize ((p2.setCell ⟨ga,0,none⟩ (.int .i64 qa)).setCell ⟨ga,1,none⟩ (.int .i64 qb)).setCell ⟨ga,2,none⟩ (.int .i64 qv)=p3 at *;refine hK.out _ _ (Eg.out _ BB3.out) (fun CC=>?_);clear hK K;(try simp only[sp]);refine wQ 13 none rfl (fun K hK=>?_) (by kernel_rfl);obtain⟨s0,s1,s2,y0,y1,y2,sl⟩:=B3.out;go_simp;clear s0 s1 s2 y0 y1 y2 sl;have BB4:=aH (show Below wr.heap.size wr (((p3.setCell ⟨gb,0,none⟩ (.int .i64 qr)).setCell ⟨gb,1,none⟩ (.int .i64 ql)).setCell ⟨gb,2,none⟩ (.slice qA qx.length qc))from bz BB3.out ggb2.out (.int .i64 qr) (.int .i64 ql) (.slice qA qx.length qc));have B4:=aH (show Cells3 (((p3.setCell ⟨gb,0,none⟩ (.int .i64 qr)).setCell ⟨gb,1,none⟩ (.int .i64 ql)).setCell ⟨gb,2,none⟩ (.slice qA qx.length qc)) gb (.int .i64 qr) (.int .i64 ql) (.slice qA qx.length qc)from B3.out.set (.int .i64 qr) (.int .i64 ql) (.slice qA qx.length qc))
     have A4:=aH (show Cells3 (((p3.setCell ⟨gb,0,none⟩ (.int .i64 qr)).setCell ⟨gb,1,none⟩ (.int .i64 ql)).setCell ⟨gb,2,none⟩ (.slice qA qx.length qc)) ga (.int .i64 qa) (.int .i64 qb) (.int .i64 qv)from A3.out.apart (by have h:=ne2.out;omega) (.int .i64 qr) (.int .i64 ql) (.slice qA qx.length qc));clear CC BB3 B3 A3;generalize ((p3.setCell ⟨gb,0,none⟩ (.int .i64 qr)).setCell ⟨gb,1,none⟩ (.int .i64 ql)).setCell ⟨gb,2,none⟩ (.slice qA qx.length qc)=p4 at *;refine hK.out _ _ (Eg.out _ BB4.out) (fun CC=>?_);clear hK K;(try simp only[sp]);refine wD (by kernel_rfl) ?_;go_wp2;go_meet;exact⟨ga,gb,rfl,rfl,A4,B4,BB4,gga1⟩
   case rest=>
    obtain⟨ga,gb,rfl,rfl,HA,HBx,Dt,hgx⟩:=hcut;have Fu:=aH (show ∀W,Below wc.heap.size wc W→W.cell? ⟨ga,0,none⟩=some (.int .i64 qa)∧W.cell? ⟨ga,1,none⟩=some (.int .i64 qb)∧W.cell? ⟨ga,2,none⟩=some (.int .i64 qv)∧W.cell? ⟨gb,0,none⟩=some (.int .i64 qr)∧W.cell? ⟨gb,1,none⟩=some (.int .i64 ql)∧W.cell? ⟨gb,2,none⟩=some (.slice qA qx.length qc)∧W.cell? ⟨Gf,0,none⟩=some (Value.slice (some ⟨bf,of,none⟩) cl2.length cc2)∧W.cell? ⟨bf,of+k*3,none⟩=some (.int .i64 capf)from fun W h=>by
     obtain⟨a0,a1,a2,-⟩:=HA.out.below h;obtain⟨b0,b1,b2,-⟩:=HBx.out.below h;obtain⟨c0,c1⟩:=OH.out W (bC Dt.out h);exact⟨a0,a1,a2,b0,b1,b2,c0,c1⟩)
    clear Eg OH HA HBx hgx
    go_upto_region 8 with fail
    by_cases p1:(Cel.Ce.mk qa qb qv).Right
    case neg=>
     have HR:=aH (Hu.out (by rw[J2.out,dF p1];rfl));rw[LM.out,dF p1]at CU;clear p1;refine rG Fu.out (by kernel_rfl) (fun CC=>?_);have BC0:=aH (show Below wc.heap.size wc wc.drew from(bR _ _).drew);generalize wc.drew=y0 at *;refine wk [.k 0 67] (fun _ _ _ _ _ h=>h) CC ?_ (by kernel_rfl);repeat (refine .k (v:=?_) rfl (by kernel_rfl) ?_ ?_;rotate_left 1;(intro w h;go_simp<;>try rfl);try simp only[sp])
     refine .nil ?_;refine wQ 1 (some 68) rfl (fun K hK=>?_) (by kernel_rfl);go_simp;refine(CU.out _).mono ?_;rintro e y1 ⟨rfl,hb⟩;have BC1:=aH (bC BC0.out hb);clear hb BC0 CC;go_wp2_with fail;refine hK.out _ _ (Fu.out _ BC1.out) (fun CC=>?_);clear hK K;(try simp only[sp]);refine wk [.k 2 69,.k 3 70,.u 4 71,.u 5 72,.u 6 73,.u 7 74,.u 8 75,.u 9 76,.u 10 77,.u 11 78,.u 12 79,.k 13 80,.k 14 81,.u 15 82,.u 16 83,.u 17 84,.k 18 85,.k 19 86,.u 20 87,.u 21 88,.u 22 89,.k 23 90,.k 24 91,.u 25 92,.u 26 93,.u 27 94,.u 28 95,.u 29 96,.k 30 97] (fun _ _ _ _ _ h=>h) CC ?_ (by kernel_rfl);repeat (first|(refine .k (v:=?_) rfl (by kernel_rfl) ?_ ?_;rotate_left 1;(intro w h;go_simp<;>try rfl);try simp only[sp])|(refine .u rfl (by kernel_rfl) ?_;try simp only[sp]))
     refine .nil ?_;refine wD (by kernel_rfl) ?_;clear CC;go_wp2
     go_ret
     exact⟨by rw[HR.out];rfl,bC Fo.out (bC (bC Df.out Dt.out) BC1.out)⟩
    rw[LM.out,dT p1]at CU;by_cases p2:qa=capf
    case neg=>
     have HR:=aH (Hu.out (by rw[J2.out,dT p1,dF p2];rfl));have p2b:(qa != capf)=true:=(by simpa using p2);clear p1 p2;refine rG Fu.out (by kernel_rfl) (fun CC=>?_);have BC0:=aH (show Below wc.heap.size wc wc.drew from(bR _ _).drew);generalize wc.drew=y0 at *;refine wk [.k 0 67] (fun _ _ _ _ _ h=>h) CC ?_ (by kernel_rfl);repeat (refine .k (v:=?_) rfl (by kernel_rfl) ?_ ?_;rotate_left 1;(intro w h;go_simp<;>try rfl);try simp only[sp])
     refine .nil ?_;refine wQ 1 (some 68) rfl (fun K hK=>?_) (by kernel_rfl);go_simp;refine(CU.out _).mono ?_;rintro e y1 ⟨rfl,hb⟩;have BC1:=aH (bC BC0.out hb);clear hb BC0 CC;go_wp2_with fail;refine hK.out _ _ (Fu.out _ BC1.out) (fun CC=>?_);clear hK K;(try simp only[sp]);refine wk [.k 2 69,.k 3 70,.k 4 71,.k 5 72,.k 6 73,.k 7 74,.k 8 75,.k 9 76,.k 10 77,.k 11 78,.k 12 79,.k 13 80,.k 14 81,.u 15 82,.u 16 83,.u 17 84,.k 18 85,.k 19 86,.u 20 87,.u 21 88,.u 22 89,.k 23 90,.k 24 91,.u 25 92,.u 26 93,.u 27 94,.u 28 95,.u 29 96,.k 30 97] (fun _ _ _ _ _ h=>h) CC ?_ (by kernel_rfl);repeat (first|(refine .k (v:=?_) rfl (by kernel_rfl) ?_ ?_;rotate_left 1;(intro w h;go_simp<;>try rfl);try simp only[sp])|(refine .u rfl (by kernel_rfl) ?_;try simp only[sp]))
     refine .nil ?_;refine wD (by kernel_rfl) ?_;clear CC;go_wp2
     go_ret
     exact⟨by rw[HR.out];rfl,bC Fo.out (bC (bC Df.out Dt.out) BC1.out)⟩
    have p2b:(qa != capf)=false:=(by simpa using p2);obtain⟨g3,hg3⟩:∃g3,Lg.rgB qr ql qx=g3:=⟨_,rfl⟩;rw[hg3]at J2 CT;clear hg3
    cases g3
    case false=>
     have HR:=aH (Hu.out (by rw[J2.out,dT p1,dT p2];rfl));clear p1 p2;refine rG Fu.out (by kernel_rfl) (fun CC=>?_);have BC0:=aH (show Below wc.heap.size wc wc.drew from(bR _ _).drew);generalize wc.drew=y0 at *;refine wk [.k 0 67] (fun _ _ _ _ _ h=>h) CC ?_ (by kernel_rfl);repeat (refine .k (v:=?_) rfl (by kernel_rfl) ?_ ?_;rotate_left 1;(intro w h;go_simp<;>try rfl);try simp only[sp])
     refine .nil ?_;refine wQ 1 (some 68) rfl (fun K hK=>?_) (by kernel_rfl);go_simp;refine(CU.out _).mono ?_;rintro e y1 ⟨rfl,hb⟩;have BC1:=aH (bC BC0.out hb);clear hb BC0 CC;go_wp2_with fail;refine hK.out _ _ (Fu.out _ BC1.out) (fun CC=>?_);clear hK K;(try simp only[sp]);refine wk [.k 2 69,.k 3 70,.k 4 71,.k 5 72,.k 6 73,.k 7 74,.k 8 75,.k 9 76,.k 10 77,.k 11 78,.k 12 79,.k 13 80,.k 14 81,.k 15 82] (fun _ _ _ _ _ h=>h) CC ?_ (by kernel_rfl);repeat (refine .k (v:=?_) rfl (by kernel_rfl) ?_ ?_;rotate_left 1;(intro w h;go_simp<;>try rfl);try simp only[sp])
     refine .nil ?_;refine wQ 16 (some 83) rfl (fun K hK=>?_) (by kernel_rfl);go_simp;refine(CT.out _ (Jp.out.then (Dt.out.trans (BC1.out.mono Dt.out.size)))).mono ?_;rintro e y2 ⟨rfl,hb⟩;have BC2:=aH (bC BC1.out hb);clear hb BC1 CC;go_wp2_with fail;refine hK.out _ _ (Fu.out _ BC2.out) (fun CC=>?_);clear hK K;(try simp only[sp]);refine wk [.k 17 84,.k 18 85,.k 19 86,.u 20 87,.u 21 88,.u 22 89,.k 23 90,.k 24 91,.u 25 92,.u 26 93,.u 27 94,.u 28 95,.u 29 96,.k 30 97] (fun _ _ _ _ _ h=>h) CC ?_ (by kernel_rfl);repeat (first|(refine .k (v:=?_) rfl (by kernel_rfl) ?_ ?_;rotate_left 1;(intro w h;go_simp<;>try rfl);try simp only[sp])|(refine .u rfl (by kernel_rfl) ?_;try simp only[sp]))
     refine .nil ?_;refine wD (by kernel_rfl) ?_;clear CC;go_wp2
     go_ret
     exact⟨by rw[HR.out];rfl,bC Fo.out (bC (bC Df.out Dt.out) BC2.out)⟩
    by_cases p4:qr=8
    case neg=>
     have HR:=aH (Hu.out (by rw[J2.out,dT p1,dT p2,dF p4];rfl));have p4b:(qr != 8)=true:=(by simpa using p4);clear p1 p2 p4;refine rG Fu.out (by kernel_rfl) (fun CC=>?_);have BC0:=aH (show Below wc.heap.size wc wc.drew from(bR _ _).drew);generalize wc.drew=y0 at *;refine wk [.k 0 67] (fun _ _ _ _ _ h=>h) CC ?_ (by kernel_rfl);repeat (refine .k (v:=?_) rfl (by kernel_rfl) ?_ ?_;rotate_left 1;(intro w h;go_simp<;>try rfl);try simp only[sp])
     refine .nil ?_;refine wQ 1 (some 68) rfl (fun K hK=>?_) (by kernel_rfl);go_simp;refine(CU.out _).mono ?_;rintro e y1 ⟨rfl,hb⟩;have BC1:=aH (bC BC0.out hb);clear hb BC0 CC;go_wp2_with fail;refine hK.out _ _ (Fu.out _ BC1.out) (fun CC=>?_);clear hK K;(try simp only[sp]);refine wk [.k 2 69,.k 3 70,.k 4 71,.k 5 72,.k 6 73,.k 7 74,.k 8 75,.k 9 76,.k 10 77,.k 11 78,.k 12 79,.k 13 80,.k 14 81,.k 15 82] (fun _ _ _ _ _ h=>h) CC ?_ (by kernel_rfl);repeat (refine .k (v:=?_) rfl (by kernel_rfl) ?_ ?_;rotate_left 1;(intro w h;go_simp<;>try rfl);try simp only[sp])
     refine .nil ?_;refine wQ 16 (some 83) rfl (fun K hK=>?_) (by kernel_rfl);go_simp;refine(CT.out _ (Jp.out.then (Dt.out.trans (BC1.out.mono Dt.out.size)))).mono ?_;rintro e y2 ⟨rfl,hb⟩;have BC2:=aH (bC BC1.out hb);clear hb BC1 CC;go_wp2_with fail;refine hK.out _ _ (Fu.out _ BC2.out) (fun CC=>?_);clear hK K;(try simp only[sp]);refine wk [.k 17 84,.k 18 85,.k 19 86,.k 20 87,.k 21 88,.k 22 89,.k 23 90,.k 24 91,.u 25 92,.u 26 93,.u 27 94,.u 28 95,.u 29 96,.k 30 97] (fun _ _ _ _ _ h=>h) CC ?_ (by kernel_rfl);repeat (first|(refine .k (v:=?_) rfl (by kernel_rfl) ?_ ?_;rotate_left 1;(intro w h;go_simp<;>try rfl);try simp only[sp])|(refine .u rfl (by kernel_rfl) ?_;try simp only[sp]))
     refine .nil ?_;refine wD (by kernel_rfl) ?_;clear CC;go_wp2
     go_ret
     exact⟨by rw[HR.out];rfl,bC Fo.out (bC (bC Df.out Dt.out) BC2.out)⟩
    have p4b:(qr != 8)=false:=(by simpa using p4);by_cases p5:ql=qv
    case neg=>
     have HR:=aH (Hu.out (by rw[J2.out,dT p1,dT p2,dT p4,dF p5];rfl));have p5b:(ql != qv)=true:=(by simpa using p5);clear p1 p2 p4 p5;refine rG Fu.out (by kernel_rfl) (fun CC=>?_);have BC0:=aH (show Below wc.heap.size wc wc.drew from(bR _ _).drew);generalize wc.drew=y0 at *;refine wk [.k 0 67] (fun _ _ _ _ _ h=>h) CC ?_ (by kernel_rfl);repeat (refine .k (v:=?_) rfl (by kernel_rfl) ?_ ?_;rotate_left 1;(intro w h;go_simp<;>try rfl);try simp only[sp])
     refine .nil ?_;refine wQ 1 (some 68) rfl (fun K hK=>?_) (by kernel_rfl);go_simp;refine(CU.out _).mono ?_;rintro e y1 ⟨rfl,hb⟩;have BC1:=aH (bC BC0.out hb);clear hb BC0 CC;go_wp2_with fail;refine hK.out _ _ (Fu.out _ BC1.out) (fun CC=>?_);clear hK K;(try simp only[sp]);refine wk [.k 2 69,.k 3 70,.k 4 71,.k 5 72,.k 6 73,.k 7 74,.k 8 75,.k 9 76,.k 10 77,.k 11 78,.k 12 79,.k 13 80,.k 14 81,.k 15 82] (fun _ _ _ _ _ h=>h) CC ?_ (by kernel_rfl);repeat (refine .k (v:=?_) rfl (by kernel_rfl) ?_ ?_;rotate_left 1;(intro w h;go_simp<;>try rfl);try simp only[sp])
     refine .nil ?_;refine wQ 16 (some 83) rfl (fun K hK=>?_) (by kernel_rfl);go_simp;refine(CT.out _ (Jp.out.then (Dt.out.trans (BC1.out.mono Dt.out.size)))).mono ?_;rintro e y2 ⟨rfl,hb⟩;have BC2:=aH (bC BC1.out hb);clear hb BC1 CC;go_wp2_with fail;refine hK.out _ _ (Fu.out _ BC2.out) (fun CC=>?_);clear hK K;(try simp only[sp]);refine wk [.k 17 84,.k 18 85,.k 19 86,.k 20 87,.k 21 88,.k 22 89,.k 23 90,.k 24 91,.k 25 92,.k 26 93,.k 27 94,.k 28 95,.k 29 96,.k 30 97] (fun _ _ _ _ _ h=>h) CC ?_ (by kernel_rfl);repeat (refine .k (v:=?_) rfl (by kernel_rfl) ?_ ?_;rotate_left 1;(intro w h;go_simp<;>try rfl);try simp only[sp])
     refine .nil ?_;refine wD (by kernel_rfl) ?_;clear CC;go_wp2
     go_ret
     exact⟨by rw[HR.out];rfl,bC Fo.out (bC (bC Df.out Dt.out) BC2.out)⟩
    have Hx:=aH (Hx.out (by rw[J2.out,dT p1,dT p2,dT p4,dT p5];rfl));have p5b:(ql != qv)=false:=(by simpa using p5);clear p1 p2 p4 p5;refine rG Fu.out (by kernel_rfl) (fun CC=>?_);have BC0:=aH (show Below wc.heap.size wc wc.drew from(bR _ _).drew);generalize wc.drew=y0 at *;refine wk [.k 0 67] (fun _ _ _ _ _ h=>h) CC ?_ (by kernel_rfl);repeat (refine .k (v:=?_) rfl (by kernel_rfl) ?_ ?_;rotate_left 1;(intro w h;go_simp<;>try rfl);try simp only[sp])
    refine .nil ?_;refine wQ 1 (some 68) rfl (fun K hK=>?_) (by kernel_rfl);go_simp;refine(CU.out _).mono ?_;rintro e y1 ⟨rfl,hb⟩;have BC1:=aH (bC BC0.out hb);clear hb BC0 CC;go_wp2_with fail;refine hK.out _ _ (Fu.out _ BC1.out) (fun CC=>?_);clear hK K;(try simp only[sp]);refine wk [.k 2 69,.k 3 70,.k 4 71,.k 5 72,.k 6 73,.k 7 74,.k 8 75,.k 9 76,.k 10 77,.k 11 78,.k 12 79,.k 13 80,.k 14 81,.k 15 82] (fun _ _ _ _ _ h=>h) CC ?_ (by kernel_rfl);repeat (refine .k (v:=?_) rfl (by kernel_rfl) ?_ ?_;rotate_left 1;(intro w h;go_simp<;>try rfl);try simp only[sp])
    refine .nil ?_;refine wQ 16 (some 83) rfl (fun K hK=>?_) (by kernel_rfl);go_simp;refine(CT.out _ (Jp.out.then (Dt.out.trans (BC1.out.mono Dt.out.size)))).mono ?_;rintro e y2 ⟨rfl,hb⟩;have BC2:=aH (bC BC1.out hb);clear hb BC1 CC;go_wp2_with fail;refine hK.out _ _ (Fu.out _ BC2.out) (fun CC=>?_);clear hK K;(try simp only[sp]);refine wk [.k 17 84,.k 18 85,.k 19 86,.k 20 87,.k 21 88,.k 22 89,.k 23 90,.k 24 91,.k 25 92,.k 26 93,.k 27 94,.k 28 95,.k 29 96,.k 30 97] (fun _ _ _ _ _ h=>h) CC ?_ (by kernel_rfl);repeat (refine .k (v:=?_) rfl (by kernel_rfl) ?_ ?_;rotate_left 1;(intro w h;go_simp<;>try rfl);try simp only[sp])
    refine .nil ?_;refine wD (by kernel_rfl) ?_;clear CC;go_wp2
    go_roundw
    case rel=>exact⟨k+1,ai (by omega),by omega,aH Hx.out,aH (bC (bC Df.out Dt.out) BC2.out)⟩
    case measure=>simp[intOf];omega
  ·obtain rfl:k=cl.length:=(by omega);have Jn:=aH (Jn.out Dh.out);clear OJ Fh Dh;obtain⟨v2,hv2⟩:∃v2,v2=wr:=⟨_,rfl⟩;have CL:=aH (show Below v1.heap.size v1 v2 by rw[hv2];exact Df.out);go_wp2_with fail;rw[←hv2];clear hv2 Df t0 t1 t2 t3 t4 t5 hk CI;have EG:=aH (HS.out.then CL.out);have Er:=aH (HT.out.below CL.out);have FY:=aH (HK.out.below CL.out);have Ji:=aH (HG.out.below CL.out);have EI:=aH (bC Fo.out CL.out);clear HS HT HK HG HF Fo CL
   go_loopw [10,11] (fun hv i wr=>∃k:Nat,i=.int .i64 k∧k≤tl.length∧Hid (KI.Own wr v2.heap.size hv (jG tl k))∧Hid (∀j,j<k→jn tl d.arms j=true)∧Hid (Below v2.heap.size v2 wr)) (fun _ i _=>tl.length-(intOf i).toNat)
   case atStart=>exact⟨0,rfl,Nat.zero_le _,aH (show KI.Own v2 v2.heap.size (.slice none 0 0) (jG tl 0)from Lk.Own.nil _ _),aH (fun j hj=>absurd hj (Nat.not_lt_zero _)),aH (bR _ _)⟩
   case round=>
    obtain⟨k,rfl,hk,CF,Dj,hb⟩:=hrel;have HO:=aH CF.out;have Dh:=aH Dj.out;have Df:=aH hb.out;clear CF Dj hb;obtain⟨t0,t1,t2,t3,t4,t5,-⟩:=Er.out.below Df.out;obtain⟨-,-,-,d3,-⟩:=FY.out.below Df.out;(try dsimp only at t0 t1 t2 t3 t4 t5);by_cases CI:k<tl.length
    ·obtain⟨b,off,rfl,hb,hbc,CD⟩:=dk (EG.out.then Df.out).t (by dsimp only;omega);obtain⟨e1,e2⟩:=CD k CI;have Ec:=aH (uf tl k CI);have RH:=aH (fun b=>zm tl k b);have Gp:=aH (show jn tl d.arms k=(!(Tp.ofV (tl.getD k (0,0)).1 (tl.getD k (0,0)).2==0)&&decide ((tl.getD k (0,0)).2≤d.arms)&& !hbB tl k (tl.getD k (0,0)).2)from rfl);have Hu:=aH (Og.out k CI);have Hx:=aH (show jn tl d.arms k=true→∀j,j<k+1→jn tl d.arms j=true from fun h j hj=>by
      by_cases e:j=k
      ·rw[e];exact h
      ·exact Dh.out j (by omega))
     have Jf:=aH ((EG.out.t).2.1 _ (af tl k (0,0) CI));have Nf:=aH (xo tl k);(try dsimp only at e1 e2);clear CD;generalize tl.getD k (0,0)=t at *;obtain⟨a1,a2⟩:=t;dsimp only at e1 e2 Ec Gp;have G4:=aH (fun w=>Tp.rright_any a1 a2 w);obtain⟨v3,hv3⟩:∃v3,v3=wr.alloc (.cells #[.int .i64 a1,.int .i64 a2] 146):=⟨_,rfl⟩;have CZ:=bL (bR wr.heap.size wr) (.cells #[.int .i64 a1,.int .i64 a2] 146);rw[←hv3]at CZ;have LV:=aH (show v3.cell? ⟨wr.heap.size,0,none⟩=some (.int .i64 a1)∧v3.cell? ⟨wr.heap.size,1,none⟩=some (.int .i64 a2)from by rw[hv3];exact⟨by simp[go_sem],by simp[go_sem]⟩);have Eo:=aH (HO.out.below CZ);have CS:=aH (bC Df.out CZ);have KO:(k:Int)<tl.length:=(by omega);go_wp2_with fail;rw[←hv3];obtain⟨Gt,hGt⟩:∃Gt,Gt=wr.heap.size:=⟨_,rfl⟩;rw[←hGt]at LV;(try rw[←hGt]);clear hv3 CZ t0 t1 t2 t3 t4 t5 d3 e1 e2 HO Df KO;refine(G4.out v3).mono ?_;rintro e v4 ⟨rfl,Do⟩;have PY:=aH (show v4.cell? ⟨Gt,0,none⟩=some (.int .i64 a1)∧v4.cell? ⟨Gt,1,none⟩=some (.int .i64 a2)from⟨kK Do LV.out.1,kK Do LV.out.2⟩);have DB:=aH (Eo.out.below Do);have CW:=aH (bC CS.out Do);obtain⟨c1,c2⟩:=PY.out;obtain⟨-,-,-,d3,-⟩:=FY.out.below CW.out;clear Do LV Eo CS hGt;by_cases p1:Tp.ofV a1 a2=0
     ·have HR:=aH (Hu.out (by rw[Gp.out,show(Tp.ofV a1 a2==0)=true by simpa using p1];rfl));have p1b:(Tp.ofV a1 a2==0)=true:=(by simpa using p1);rw[p1b];clear p1;go_wp2
      go_ret
      exact⟨by rw[HR.out];rfl,bC EI.out CW.out⟩
     have p1b:(Tp.ofV a1 a2==0)=false:=(by simpa using p1);rw[p1b]at Gp⊢;by_cases p2:d.arms<a2
     ·have HR:=aH (Hu.out (by rw[Gp.out,dF (show ¬a2≤d.arms by omega)];rfl));clear p1;go_wp2
      go_ret
      exact⟨by rw[HR.out];rfl,bC EI.out CW.out⟩
     have Gp:=aH (show jn tl d.arms k= !hbB tl k a2 from by rw[Gp.out,dT (show a2≤d.arms by omega)];simp);rw[RH.out]at Gp;clear p1 RH G4;go_wp2_with fail;have HI:=aH (DB.out.isL (by have:=Nf.out;have:=LT.out;have:=HL.out;omega));obtain⟨hA,hc,rfl,-⟩:=HI.out.shape;clear c1 c2 d3
     go_loopw [13] (fun i wr=>∃m:Nat,i=.int .i64 m∧m≤(jG tl k).length∧Hid (∀j,j<m→(jG tl k).getD j 0≠a2)∧Hid (Below v4.heap.size v4 wr)) (fun i _=>(jG tl k).length-(intOf i).toNat)
     case atStart=>exact⟨0,rfl,Nat.zero_le _,aH (fun j hj=>absurd hj (Nat.not_lt_zero _)),aH (bR _ _)⟩
     case round=>
      obtain⟨m,rfl,hm,EQ,hb⟩:=hrel;have Ir:=aH EQ.out;have Ie:=aH hb.out;clear EQ hb;have c1:=kK Ie.out PY.out.1;have c2:=kK Ie.out PY.out.2;by_cases EF:m<(jG tl k).length
      ·obtain⟨b2,off2,cap2,e2,CM,EA,-,hcell2,-⟩:=KI.cells (HI.out.then Ie.out) (by omega);have hx:=hcell2 m EF;have HX:=aH (show(jG tl k).getD m 0=a2→(jG tl k).any (fun x=>x==a2)=true from fun h=>kk _ 0 _ m EF (by simpa using h));simp only[Value.slice.injEq]at e2;obtain⟨rfl,-,rfl⟩:=e2;clear hcell2;generalize hq:(jG tl k).getD m 0=q at *;by_cases p3:q=a2
       ·have HR:=aH (Hu.out (by rw[Gp.out,HX.out p3];rfl));have p3b:(q==a2)=true:=(by simpa using p3);clear p3 hq;go_wp2_with fail;go_quiet (fail);go_wp2
        go_ret
        exact⟨by rw[HR.out];rfl,bC EI.out (bC CW.out (aa Ie.out _))⟩
       ·have Pm:=aH (show ∀j,j<m+1→(jG tl k).getD j 0≠a2 from fun j hj=>by
         by_cases e:j=m
         ·rw[e,hq];exact p3
         ·exact Ir.out j (by omega))
        have p3b:(q==a2)=false:=(by simpa using p3);have UQ:=Nf.out;clear p3 hq;go_wp2_with fail;go_quiet (fail);go_wp2
        go_roundw
        case rel=>
         have:=Nf.out;exact⟨m+1,ai (by omega),by omega,aH Pm.out,aH (aa Ie.out _)⟩
        case measure=>have:=Nf.out;simp[intOf];omega
      ·obtain rfl:m=(jG tl k).length:=(by omega);have En:=aH (Hx.out (by
        rw[Gp.out];have:(jG tl k).any (fun x=>x==a2)=false:=by
         rw[List.any_eq_false];intro x hx;obtain⟨j,hj,rfl⟩:=List.getElem_of_mem hx;have:=Ir.out j hj;rw[List.getD_eq_getElem?_getD,List.getElem?_eq_getElem hj]at this;simpa using this
        rw[this];rfl))
       by_cases p4:a1=2
       ·have p4b:(a1==2)=true:=(by simpa using p4);rw[if_pos p4]at Ec;clear p4;go_wp2_with (at_builtin;refine Lk.wpList_app (K:=KI) _ rfl _ _ rfl rfl v2.heap.size (wr.heap.size+1) _ _ (jG tl k) [a2] rfl rfl ((DB.out.below Ie.out).alloc _) (Lk.IsL.lit (K:=KI) _ a2 _ Jf.out.2 rfl wr.heap.size rfl) ?c1 ?c2 ?_)
        case c1=>have:=Nf.out;have:=LT.out;have:=HL.out;simp;omega
        case c2=>have:=(bC CW.out Ie.out).size;simp;omega
        intro va w5 CF hgrow _;have DH:=aH (Lk.Own.grow' ((DB.out.below Ie.out).alloc _) (bL (bC CW.out Ie.out) _) (by have:=(bC CW.out Ie.out).size;simp;omega) hgrow);have Hp:=aH CF;clear CF hgrow c1 c2;go_wp2
        go_roundw
        case rel=>exact⟨k+1,ai (by omega),by omega,aH (by rw[Ec.out];exact Hp.out),aH En.out,aH DH.out⟩
        case measure=>simp[intOf];omega
       ·have p4b:(a1==2)=false:=(by simpa using p4);rw[if_neg p4,List.append_nil]at Ec;clear p4;go_wp2
        go_roundw
        case rel=>exact⟨k+1,ai (by omega),by omega,aH (by rw[Ec.out];exact DB.out.below Ie.out),aH En.out,aH (bC CW.out Ie.out)⟩
        case measure=>simp[intOf];omega
    ·obtain rfl:k=tl.length:=(by omega);have Jn:=aH (Jn.out Dh.out);obtain⟨-,-,-,f3,-⟩:=Ji.out.below Df.out;(try dsimp only at f3);have FM:=aH (bC EI.out Df.out);clear Og Dh HO;by_cases r1:st=st2
     case neg=>
      have r1b:(st != st2)=true:=(by simpa using r1);have HR:=aH (Fc.out (.inl r1));clear r1;go_wp2
      go_ret
      exact⟨by rw[HR.out];rfl,FM.out⟩
     have r1b:(st != st2)=false:=(by simpa using r1);by_cases r2:inn<0
     ·have HR:=aH (Fc.out (.inr (.inl r2)));clear r1;go_wp2
      go_ret
      exact⟨by rw[HR.out];rfl,FM.out⟩
     by_cases r3:1152921504606846976<inn
     ·have HR:=aH (Fc.out (.inr (.inr (.inl r3))));clear r1;go_wp2
      go_ret
      exact⟨by rw[HR.out];rfl,FM.out⟩
     by_cases r4:out<0
     ·have HR:=aH (Fc.out (.inr (.inr (.inr (.inl r4)))));clear r1;go_wp2
      go_ret
      exact⟨by rw[HR.out];rfl,FM.out⟩
     by_cases r5:1152921504606846976<out
     ·have HR:=aH (Fc.out (.inr (.inr (.inr (.inr r5)))));clear r1;go_wp2
      go_ret
      exact⟨by rw[HR.out];rfl,FM.out⟩
     obtain⟨LU,hRR⟩:=Jn.out r1 (by omega) (by omega) (by omega) (by omega);have Of:=aH hRR;have Iu:=aH (K6.out wr (EG.out.then Df.out) (by have:=LT.out;have:=HL.out;show cl.length≤100000;omega));unfold qy at Iu;(try dsimp only at Iu);rw[bW,if_pos LU,cj,if_pos LU]at Iu;clear r1 LU hRR K6 Jn Fc;generalize Two.sumL (aK cl)=sum at *;go_wp2_with fail;refine Iu.out.mono ?_;rintro e w9 ⟨rfl,hb9⟩;obtain⟨-,-,-,t3,t4,t5,-⟩:=Er.out.below (bC Df.out hb9);(try dsimp only at t3 t4 t5);have Lv:=aH (bC FM.out hb9);clear hb9;go_wp2
     go_ret
     exact⟨by rw[Of.out];rfl,Lv.out⟩
end Go.Proofs.YtmecohdedghiaaaGreatDoor
