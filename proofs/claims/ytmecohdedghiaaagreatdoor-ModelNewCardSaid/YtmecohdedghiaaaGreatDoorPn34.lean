/- Stocks: is one a deck's, by the reference? -/
import Derived.Test.YtmecohdedghiaaaGreatDoorPn00
import Derived.Test.YtmecohdedghiaaaGreatDoorPn23
import Derived.Test.YtmecohdedghiaaaGreatDoorPn33
import Derived.Test.YtmecohdedghiaaaGreatDoorPn08
import Derived.Deep.CutRange
set_option maxRecDepth 100000
set_option maxHeartbeats 8000000
namespace Go.Proofs.YtmecohdedghiaaaGreatDoor
open Go.RowKit
def heL (xs:List (Int×Int)) (k:Nat):List Int:=(xs.take k).filterMap fun q=>if q.1=2 then some q.2 else none
theorem heL_snoc (xs:List (Int×Int)) (k:Nat) (h:k<xs.length):heL xs (k+1)=heL xs k++(if (xs.getD k (0,0)).1=2 then [(xs.getD k (0,0)).2]else []):=by
 unfold heL;rw[List.take_succ_eq_append_getElem h,List.filterMap_append]
 congr 1
 rw[List.getD_eq_getElem?_getD,List.getElem?_eq_getElem h,Option.getD_some];by_cases h2:(xs[k]).1=2
 ·rw[if_pos h2];simp[h2]
 ·rw[if_neg h2];simp[h2]
theorem heL_len (xs:List (Int×Int)) (k:Nat):(heL xs k).length≤k:=by
 unfold heL;exact Nat.le_trans (List.length_filterMap_le _ _) (by rw[List.length_take];omega)
theorem heL_hb (xs:List (Int×Int)) (k:Nat) (b:Int):hbB xs k b=(heL xs k).any (fun x=>x==b):=by
 unfold hbB heL;generalize xs.take k=l
 induction l with
 |nil=>rfl
 |cons q l ih=>
  rw[List.any_cons,ih,List.filterMap_cons];by_cases h2:q.1=2
  ·rw[if_pos h2,show(q.1==2)=true by simpa using h2,Bool.true_and];rfl
  ·rw[if_neg h2,show(q.1==2)=false by simpa using h2,Bool.false_and,Bool.false_or]
def wkB (s f:Stk) (k:Nat):Bool:=decide (s.cl.getD k ce0).Right&&decide ((s.cl.getD k ce0).a=(f.cl.getD k ce0).a)&&Lg.rgB (s.ll.getD k lo0).r (s.ll.getD k lo0).l (s.ll.getD k lo0).xs&&decide ((s.ll.getD k lo0).r=8)&&decide ((s.ll.getD k lo0).l=(s.cl.getD k ce0).c)
structure RF (s f:Stk) (arms:Int) (R:Bool):Prop where
 n1:s.cl.length≠f.cl.length→R=false
 n2:s.ll.length≠f.ll.length→R=false
 n3:s.tl.length≠f.tl.length→R=false
 nw:s.cl.length=f.cl.length→s.ll.length=f.ll.length→∀k,k<s.cl.length→wkB s f k=false→R=false
 nt:∀k,k<s.tl.length→okT s.tl arms k=false→R=false
 ns:s.st≠f.st∨s.inn<0∨1152921504606846976<s.inn∨s.out<0∨1152921504606846976<s.out→R=false
 y:s.cl.length=f.cl.length→s.ll.length=f.ll.length→s.tl.length=f.tl.length→(∀k,k<s.cl.length→wkB s f k=true)→(∀k,k<s.tl.length→okT s.tl arms k=true)→s.st=f.st→0≤s.inn→s.inn≤1152921504606846976→0≤s.out→s.out≤1152921504606846976→
  fits (Two.sumL (volS s.cl))∧R=decide (Two.sumL (volS s.cl)=Go.RowKit.wrap64 (Go.RowKit.wrap64 (s.st+s.inn)-s.out))
 l1:f.cl.length=f.ll.length
 l2:f.cl.length≤384
 l3:f.tl.length≤384
theorem rf_mk (d:Dk) (s f:Stk) (hz:zchk d=0) (hf:f.ab=newA d):RF s f d.arms (rgS d s.ab):=by
 obtain⟨l1,l2,l3,l4,l5⟩:=newA_len d hz;have e0:f.ab.c=f.cl:=rfl;have e1:f.ab.l.length=f.ll.length:=by show(f.ll.map Lo.ab).length=_;rw[List.length_map]
 have e2:f.ab.t=f.tl:=rfl;have e3:s.ab.l.length=s.ll.length:=by show(s.ll.map Lo.ab).length=_;rw[List.length_map]
 have hE:rgS d s.ab=(rwB s.ab f.ab&&decide (s.tl.length=f.tl.length)&&rtB s.tl d.arms&&rsB s.ab f.ab):=by
  unfold rgS;rw[dT hz,Bool.true_and,←hf];rfl
 rw[←hf]at l1 l2 l4;rw[e0]at l1;rw[e1]at l2;rw[e2]at l4;have hNL:∀k,k<f.ll.length→(f.ab.l.getD k (0,0,[])).1=8:=fun k hk=>by
  rw[hf];show((List.replicate (wellN d) ((8,0,[]):Int×Int×List Ch)).getD k (0,0,[])).1=8;rw[List.getD_eq_getElem?_getD,List.getElem?_replicate,if_pos (by omega)];rfl
 have hW:s.cl.length=f.cl.length→s.ll.length=f.ll.length→∀k,k<s.cl.length→okW s.ab f.ab k=wkB s f k:=fun h1 h2 k hk=>by
  unfold okW wkB;rw[ab_l s k (by omega),hNL k (by omega)];show(decide (s.cl.getD k ce0).Right&&decide ((s.cl.getD k ce0).a=(f.cl.getD k ce0).a)&&(Lg.rgB _ _ _&&decide ((s.ll.getD k lo0).r=8)&&decide ((s.ll.getD k lo0).l=(s.cl.getD k ce0).c)))=_;rw[←Bool.and_assoc,←Bool.and_assoc]
 have fw:rwB s.ab f.ab=false→rgS d s.ab=false:=fun h=>by rw[hE,h];rfl
 refine⟨fun h=>fw ?_,fun h=>fw ?_,fun h=>?_,fun h1 h2 k hk h=>fw ?_,fun k hk h=>?_,fun h=>?_,fun h1 h2 h3 hw ht h4 h5 h6 h7 h8=>?_,by omega,by omega,by omega⟩
 ·unfold rwB;rw[dF (show ¬s.ab.c.length=f.ab.c.length from h),Bool.false_and,Bool.false_and]
 ·unfold rwB;rw[dF (show ¬s.ab.l.length=f.ab.l.length by rw[e1,e3];exact h),Bool.and_false,Bool.false_and]
 ·rw[hE,dF h,Bool.and_false,Bool.false_and,Bool.false_and]
 ·unfold rwB;rw[show(List.range s.ab.c.length).all (okW s.ab f.ab)=false from all_no'' s.cl.length _ k hk (by rw[hW h1 h2 k hk];exact h),Bool.and_false]
 ·rw[hE,rt_no k hk h,Bool.and_false,Bool.false_and]
 ·rw[hE];have:rsB s.ab f.ab=false:=by
   unfold rsB flowB;show(decide (s.st=f.st)&&(decide (0≤s.inn)&&decide (s.inn≤1152921504606846976))&&(decide (0≤s.out)&&decide (s.out≤1152921504606846976))&&_)=false;rcases h with h|h|h|h|h
   ·rw[dF h];rfl
   ·rw[dF (show ¬ 0≤s.inn by omega)];simp
   ·rw[dF (show ¬s.inn≤1152921504606846976 by omega)];simp
   ·rw[dF (show ¬ 0≤s.out by omega)];simp
   ·rw[dF (show ¬s.out≤1152921504606846976 by omega)];simp
  rw[this,Bool.and_false]
 ·have hrw:rwB s.ab f.ab=true:=rw_mk h1 (by rw[e1,e3];exact h2) (fun k hk=>by rw[hW h1 h2 k hk];exact hw k hk);have hsm:=sum_small (rw_all hrw) (show s.cl.length≤384 by omega);have hft:fits (Two.sumL (volS s.cl)):=by
   have:s.ab.c=s.cl:=rfl;rw[this]at hsm;unfold fits;omega
  refine⟨hft,?_⟩;rw[hE,hrw,dT h3,rt_yes ht];unfold rsB flowB;show(true&&true&&true&&(decide (s.st=f.st)&&(decide (0≤s.inn)&&decide (s.inn≤1152921504606846976))&&(decide (0≤s.out)&&decide (s.out≤1152921504606846976))&&decide (fitV (Two.sumL (volS s.cl))=_)))=_;rw[dT h4,dT h5,dT h6,dT h7,dT h8,fitV,if_pos hft];rfl
theorem rright_s (d:Dk) (s:Stk) (w:World) (hd:d.In w w.heap.size) (hs:s.In w w.heap.size):Calls Tryz.prog 60 #[d.v,s.v] w fun e w'=>e=.returned (.bool (rgS d s.ab))∧Below w.heap.size w w':=by
 obtain⟨w0,hw0⟩:∃w0,w0=(w.alloc d.ob).alloc s.ob:=⟨_,rfl⟩;have HB0:=aH (show Below w.heap.size w w0 by rw[hw0];exact bL (bL (bR _ _) _) _);have HD0:=aH (hd.then HB0.out);have HS0:=aH (hs.then HB0.out);have HK0:=aH (show DkAt w0 w.heap.size d by rw[hw0];exact(Cells4.new w _ _ _ _ _).below (bL (bR _ _) _));obtain⟨Gs,hGs⟩:∃Gs,Gs=w.heap.size+1:=⟨_,rfl⟩;have HT0:=aH (show SkAt w0 Gs s by
  have e:(w.alloc d.ob).heap.size=w.heap.size+1:=by simp
  rw[hw0,hGs,←e];exact Cells6.new (w.alloc d.ob) 41 _ _ _ _ _ _)
 have HRN:=aH (rnew_any d w0 HD0.out);have HRF:=aH (fun f h1 h2=>rf_mk d s f h1 h2);have HTOT:=aH (fun w h1 h2=>rtotal_any s w h1 h2);obtain⟨z,hz⟩:∃z,zchk d=z:=⟨_,rfl⟩;have HNZ:=aH (show z≠0→rgS d s.ab=false from fun h=>by
  unfold rgS;rw[hz,dF h];rfl)
 rw[hz]at HRN HRF;generalize rgS d s.ab=R at *;generalize newA d=na at *;obtain⟨d0,d1,d2,d3,-⟩:=HK0.out;rw[hw0]at d0 d1 d2 d3;obtain⟨t0,t1,t2,t3,t4,t5,-⟩:=HT0.out;rw[hw0,hGs]at t0 t1 t2 t3 t4 t5;clear hd hs hz;go_enter Tryz.func60,Tryz.ntmps60;go_wp2_with fail;rw[←hw0];try rw[←hGs]
 clear hw0 hGs d0 d1 d2 d3 t0 t1 t2 t3 t4 t5;refine HRN.out.mono ?_;rintro e w1 ⟨f,rfl,hi1,ha1,hb1⟩;obtain⟨v1,hv1⟩:∃v1,v1=w1.alloc f.ob:=⟨_,rfl⟩;have hba:=bL (bR w1.heap.size w1) f.ob;rw[←hv1]at hba;have HBV:=aH (show Below w.heap.size w v1 from bC HB0.out (bC hb1 hba));have HF:=aH (hi1.then hba);have HS:=aH (HS0.out.then (bC hb1 hba));have HK:=aH (HK0.out.below (bC hb1 hba));have HT:=aH (HT0.out.below (bC hb1 hba));have HG:=aH (show SkAt v1 w1.heap.size f by rw[hv1];exact Cells6.new w1 _ _ _ _ _ _ _);have HA:=aH ha1;have HGL:=aH (show Gs<w1.heap.size from wB _ _ (HT0.out.below hb1).1);clear hi1 ha1 hb1 hba HRN HB0 HD0 HS0 HK0 HT0;obtain⟨t0,t1,t2,t3,t4,t5,-⟩:=HT.out;obtain⟨f0,f1,f2,f3,f4,f5,-⟩:=HG.out;rw[hv1]at t0 t1 t2 t3 t4 t5 f0 f1 f2 f3 f4 f5;have hl1:=HS.out.c.2.2;have hl2:=HS.out.l.2.2;have hl3:=HS.out.t.2.2;by_cases h0:z=0
 case neg=>
  have h0b:(z != 0)=true:=by simpa using h0
  have HR:=aH (HNZ.out h0);clear h0;go_wp2
  go_ret
  exact⟨by rw[HR.out];rfl,by rw[←hv1];exact HBV.out⟩
 have HQ:=aH (HRF.out f h0 (by rw[HA.out,if_pos h0]));subst h0;clear HNZ HA HRF;obtain⟨cA,cc,cl,lA,lc,ll,tA,tc,tl,st,inn,out⟩:=s;obtain⟨cA2,cc2,cl2,lA2,lc2,ll2,tA2,tc2,tl2,st2,inn2,out2⟩:=f;dsimp only at *;have HWK:=aH (fun k=>show wkB ⟨cA,cc,cl,lA,lc,ll,tA,tc,tl,st,inn,out⟩ ⟨cA2,cc2,cl2,lA2,lc2,ll2,tA2,tc2,tl2,st2,inn2,out2⟩ k=(decide (cl.getD k ce0).Right&&decide ((cl.getD k ce0).a=(cl2.getD k ce0).a)&&Lg.rgB (ll.getD k lo0).r (ll.getD k lo0).l (ll.getD k lo0).xs&&decide ((ll.getD k lo0).r=8)&&decide ((ll.getD k lo0).l=(cl.getD k ce0).c))from rfl);have HN1:=aH HQ.out.n1;have HN2:=aH HQ.out.n2;have HN3:=aH HQ.out.n3;have HNW:=aH HQ.out.nw;have HNT:=aH HQ.out.nt;have HNS:=aH HQ.out.ns;have HQY:=aH HQ.out.y;have HQL:=aH (aI HQ.out.l1 (aI HQ.out.l2 HQ.out.l3));dsimp only at HN1 HN2 HN3 HNW HNT HNS HQY HQL;generalize wkB ⟨cA,cc,cl,lA,lc,ll,tA,tc,tl,st,inn,out⟩ ⟨cA2,cc2,cl2,lA2,lc2,ll2,tA2,tc2,tl2,st2,inn2,out2⟩=ok at *;clear HQ;by_cases h1:cl.length=cl2.length
 case neg=>
  have h1b:((cl.length:Int) != (cl2.length:Int))=true:=by simp;omega
  have HR:=aH (HN1.out h1);clear h1;go_wp2
  go_ret
  exact⟨by rw[HR.out];rfl,by rw[←hv1];exact HBV.out⟩
 have h1b:((cl.length:Int) != (cl2.length:Int))=false:=by simp;omega
 by_cases h2:ll.length=ll2.length
 case neg=>
  have h2b:((ll.length:Int) != (ll2.length:Int))=true:=by simp;omega
  have HR:=aH (HN2.out h2);clear h2;go_wp2
  go_ret
  exact⟨by rw[HR.out];rfl,by rw[←hv1];exact HBV.out⟩
 have h2b:((ll.length:Int) != (ll2.length:Int))=false:=by simp;omega
 by_cases h3:tl.length=tl2.length
 case neg=>
  have h3b:((tl.length:Int) != (tl2.length:Int))=true:=by simp;omega
  have HR:=aH (HN3.out h3);clear h3;go_wp2
  go_ret
  exact⟨by rw[HR.out];rfl,by rw[←hv1];exact HBV.out⟩
 have h3b:((tl.length:Int) != (tl2.length:Int))=false:=by simp;omega
 have HL:=aH (aI h1 (aI h2 h3));have HNW:=aH (HNW.out h1 h2);have HQY:=aH (HQY.out h1 h2 h3);clear h1 h2 h3 HN1 HN2 HN3;go_wp2_with fail;rw[←hv1];obtain⟨Gf,hGf⟩:∃Gf,Gf=w1.heap.size:=⟨_,rfl⟩;rw[←hGf]at HG HGL;try rw[←hGf]
 clear hv1 hGf t0 t1 t2 t3 t4 t5 f0 f1 f2 f3 f4 f5 h1b h2b h3b
 go_loopw [7] (fun i wr=>∃k:Nat,i=.int .i64 k∧k≤cl.length∧Hid (∀j,j<k→ok j=true)∧Hid (Below v1.heap.size v1 wr)) (fun i _=>cl.length-(intOf i).toNat)
 case atStart=>exact⟨0,rfl,Nat.zero_le _,aH (fun j hj=>absurd hj (Nat.not_lt_zero _)),aH (bR _ _)⟩
 case round=>
  obtain⟨k,rfl,hk,hok,hb⟩:=hrel;have HOK:=aH hok.out;have HBR:=aH hb.out;clear hok hb;obtain⟨t0,t1,t2,t3,t4,t5,-⟩:=HT.out.below HBR.out;try dsimp only at t0 t1 t2 t3 t4 t5
  by_cases hlt:k<cl.length
  ·obtain⟨b,off,rfl,hb,hbc,hcell⟩:=ce_cells (HS.out.then HBR.out).c (by dsimp only;omega);obtain⟨c0,c1,c2⟩:=hcell k hlt;obtain⟨bf,of,rfl,hbf,hbcf,hcellf⟩:=ce_cells (HF.out.then HBR.out).c (by have:=HL.out;dsimp only;omega);obtain⟨cf,-,-⟩:=hcellf k (by have:=HL.out;dsimp only;omega);have hkl:k<ll.length:=(by have:=HL.out;have:=HQL.out;omega);have hkf:k<cl2.length:=(by have:=HL.out;omega);obtain⟨bl,ol,rfl,hbl,hbcl,hcelll⟩:=lo_cells (HS.out.then HBR.out).l (by dsimp only;omega);obtain⟨l0,l1,l2⟩:=hcelll k hkl;have HLX:=aH ((HS.out.then HBR.out).x _ (getD_mem' ll k lo0 hkl));have HWk:=aH (HWK.out k);have HNk:=aH (HNW.out k hlt);have HOK':=aH (show ok k=true→∀j,j<k+1→ok j=true from fun h j hj=>by
    by_cases e:j=k
    ·rw[e];exact h
    ·exact HOK.out j (by omega))
   (try dsimp only at c0 c1 c2 cf l0 l1 l2 HLX hb hbf hbl);clear hcell hcellf hcelll;generalize cl.getD k ce0=qq at *;generalize (cl2.getD k ce0).a=capf at *;generalize ll.getD k lo0=ql' at *;obtain⟨qa,qb,qv⟩:=qq;obtain⟨qr,ql,qA,qc,qx⟩:=ql';(try dsimp only at c0 c1 c2 l0 l1 l2 HLX HWk);have G2:=(HG.out.below HBR.out).1;(try dsimp only at G2);have HS7:=aH (show ∀W,Below wr.heap.size wr W→W.cell? ⟨Gs,0,none⟩=some (Value.slice (some ⟨b,off,none⟩) cl.length cc)∧W.cell? ⟨Gs,1,none⟩=some (Value.slice (some ⟨bl,ol,none⟩) ll.length lc)∧W.cell? ⟨b,off+k*3,none⟩=some (.int .i64 qa)∧W.cell? ⟨b,off+k*3+1,none⟩=some (.int .i64 qb)∧W.cell? ⟨b,off+k*3+2,none⟩=some (.int .i64 qv)∧W.cell? ⟨bl,ol+k*3,none⟩=some (.int .i64 qr)∧W.cell? ⟨bl,ol+k*3+1,none⟩=some (.int .i64 ql)∧W.cell? ⟨bl,ol+k*3+2,none⟩=some (.slice qA qx.length qc)from fun W h=>⟨kK h t0,kK h t1,kK h c0,kK h c1,kK h c2,kK h l0,kK h l1,kK h l2⟩);have HC8:=aH (show ∀W,Below wr.heap.size wr W→W.cell? ⟨Gf,0,none⟩=some (.slice (some ⟨bf,of,none⟩) cl2.length cc2)∧W.cell? ⟨bf,of+k*3,none⟩=some (.int .i64 capf)from fun W h=>⟨kK h G2,kK h cf⟩);have HR1:=aH (fun w=>Cel.rright_any ⟨qa,qb,qv⟩ w);have HR2:=aH (fun w h=>Lg.rlright_any qr ql qA qc qx w h);have hki:(k:Int)<cl.length:=(by omega);have hkli:(k:Int)<ll.length:=(by omega);have hkfi:(k:Int)<cl2.length:=(by omega);have HPR:=aH (show Cel.rightB ⟨qa,qb,qv⟩=decide (Cel.Ce.mk qa qb qv).Right from rfl)
   go_upto_region 7 with fail
   clear t0 t1 t2 t3 t4 t5 c0 c1 c2 cf l0 l1 l2 G2;go_cut [8,9]from 57 to 97 (fun t8 t9 wx=>∃ga gb:Nat,t8=.pointer (some ⟨ga,0,none⟩)∧t9=.pointer (some ⟨gb,0,none⟩)∧Hid (Cells3 wx ga (.int .i64 qa) (.int .i64 qb) (.int .i64 qv))∧Hid (Cells3 wx gb (.int .i64 qr) (.int .i64 ql) (.slice qA qx.length qc))∧Hid (Below wr.heap.size wr wx)∧Hid (wr.heap.size≤ga))
   case first=>
    clear HOK' HNk HWk HLX HR1 HR2 HPR HC8 HNW HQY HWK HNT HNS HTOT HQL HL;refine rG HS7.out (by kernel_rfl) (fun hHeld=>?_);have BB0:=aH (show Below wr.heap.size wr wr.drew from(bR _ _).drew);generalize wr.drew=p0 at *;refine wk [.k 0 57,.k 1 58,.k 2 59,.k 3 60,.k 4 61,.k 5 62,.k 6 63,.k 7 64,.k 8 65,.k 9 66] (fun _ _ _ _ _ h=>h) hHeld ?_ (by kernel_rfl);repeat (refine .k (v:=?_) rfl (by kernel_rfl) ?_ ?_;rotate_left 1;(intro w h;go_simp<;>try rfl);try simp only[sp])
    refine .nil ?_;refine wR 10 [11] (by kernel_rfl) ?_;refine rK (some 8) rfl (fun K hK=>?_) (rK (some 9) rfl (fun K hK=>?_) rN);go_simp;have hb:=bL (bR _ p0) zc;have BB1:=aH (bC BB0.out hb);have A1:=aH (Cells3.new p0 70 (.int .i64 0) (.int .i64 0) (.int .i64 0));have gga1:=aH (show wr.heap.size≤p0.heap.size from BB0.out.size);clear hb hHeld BB0;generalize p0.alloc zc=p1 at *;generalize p0.heap.size=ga at *;refine hK.out _ _ (HS7.out _ BB1.out) (fun hHeld=>?_);clear hK K;(try simp only[sp]);refine wQ 11 (some 9) rfl (fun K hK=>?_) (by kernel_rfl);go_simp;have hb:=bL (bR _ p1) (.cells #[.int .i64 0,.int .i64 0,.slice none 0 0] 115);have BB2:=aH (bC BB1.out hb);have B2:=aH (Cells3.new p1 115 (.int .i64 0) (.int .i64 0) (.slice none 0 0));have ggb2:=aH (show wr.heap.size≤p1.heap.size from BB1.out.size);have ne2:=aH (show ga≠p1.heap.size from by obtain⟨_,_,_,_,_,_,sl⟩:=A1.out;omega);have A2:=aH (A1.out.below hb);clear hb hHeld BB1 A1;generalize p1.alloc (.cells #[.int .i64 0,.int .i64 0,.slice none 0 0] 115)=p2 at *;generalize p1.heap.size=gb at *;refine hK.out _ _ (HS7.out _ BB2.out) (fun hHeld=>?_);clear hK K;(try simp only[sp]);rotate_left 1
    go_simp;have hb:=bL (bR _ p0) (.cells #[.int .i64 0,.int .i64 0,.slice none 0 0] 115);have BB5:=aH (bC BB0.out hb);have B5:=aH (Cells3.new p0 115 (.int .i64 0) (.int .i64 0) (.slice none 0 0));have ggb2:=aH (show wr.heap.size≤p0.heap.size from BB0.out.size);clear hb hHeld BB0;generalize p0.alloc (.cells #[.int .i64 0,.int .i64 0,.slice none 0 0] 115)=p5 at *;generalize p0.heap.size=gb at *;refine hK.out _ _ (HS7.out _ BB5.out) (fun hHeld=>?_);clear hK K;(try simp only[sp]);refine wQ 10 (some 8) rfl (fun K hK=>?_) (by kernel_rfl);go_simp;have hb:=bL (bR _ p5) zc;have BB2:=aH (bC BB5.out hb);have A2:=aH (Cells3.new p5 70 (.int .i64 0) (.int .i64 0) (.int .i64 0));have gga1:=aH (show wr.heap.size≤p5.heap.size from BB5.out.size);have ne6:=aH (show gb≠p5.heap.size from by obtain⟨_,_,_,_,_,_,sl⟩:=B5.out;omega);have B2:=aH (B5.out.below hb);have ne2:=aH ne6.out.symm;clear hb hHeld BB5 B5 ne6;generalize p5.alloc zc=p2 at *;generalize p5.heap.size=ga at *;refine hK.out _ _ (HS7.out _ BB2.out) (fun hHeld=>?_);clear hK K;(try simp only[sp]);all_goals
     refine wQ 12 none rfl (fun K hK=>?_) (by kernel_rfl);obtain⟨s0,s1,s2,y0,y1,y2,sl⟩:=A2.out;go_simp;clear s0 s1 s2 y0 y1 y2 sl;have BB3:=aH (show Below wr.heap.size wr (((p2.setCell ⟨ga,0,none⟩ (.int .i64 qa)).setCell ⟨ga,1,none⟩ (.int .i64 qb)).setCell ⟨ga,2,none⟩ (.int .i64 qv))from below_set3 BB2.out gga1.out (.int .i64 qa) (.int .i64 qb) (.int .i64 qv));have A3:=aH (show Cells3 (((p2.setCell ⟨ga,0,none⟩ (.int .i64 qa)).setCell ⟨ga,1,none⟩ (.int .i64 qb)).setCell ⟨ga,2,none⟩ (.int .i64 qv)) ga (.int .i64 qa) (.int .i64 qb) (.int .i64 qv)from A2.out.set (.int .i64 qa) (.int .i64 qb) (.int .i64 qv));have B3:=aH (show Cells3 (((p2.setCell ⟨ga,0,none⟩ (.int .i64 qa)).setCell ⟨ga,1,none⟩ (.int .i64 qb)).setCell ⟨ga,2,none⟩ (.int .i64 qv)) gb (.int .i64 0) (.int .i64 0) (.slice none 0 0)from B2.out.apart (by have h:=ne2.out;omega) (.int .i64 qa) (.int .i64 qb) (.int .i64 qv));clear hHeld BB2 A2 B2;generalize ((p2.setCell ⟨ga,0,none⟩ (.int .i64 qa)).setCell ⟨ga,1,none⟩ (.int .i64 qb)).setCell ⟨ga,2,none⟩ (.int .i64 qv)=p3 at *;refine hK.out _ _ (HS7.out _ BB3.out) (fun hHeld=>?_);clear hK K;(try simp only[sp]);refine wQ 13 none rfl (fun K hK=>?_) (by kernel_rfl);obtain⟨s0,s1,s2,y0,y1,y2,sl⟩:=B3.out;go_simp;clear s0 s1 s2 y0 y1 y2 sl;have BB4:=aH (show Below wr.heap.size wr (((p3.setCell ⟨gb,0,none⟩ (.int .i64 qr)).setCell ⟨gb,1,none⟩ (.int .i64 ql)).setCell ⟨gb,2,none⟩ (.slice qA qx.length qc))from below_set3 BB3.out ggb2.out (.int .i64 qr) (.int .i64 ql) (.slice qA qx.length qc));have B4:=aH (show Cells3 (((p3.setCell ⟨gb,0,none⟩ (.int .i64 qr)).setCell ⟨gb,1,none⟩ (.int .i64 ql)).setCell ⟨gb,2,none⟩ (.slice qA qx.length qc)) gb (.int .i64 qr) (.int .i64 ql) (.slice qA qx.length qc)from B3.out.set (.int .i64 qr) (.int .i64 ql) (.slice qA qx.length qc))
     have A4:=aH (show Cells3 (((p3.setCell ⟨gb,0,none⟩ (.int .i64 qr)).setCell ⟨gb,1,none⟩ (.int .i64 ql)).setCell ⟨gb,2,none⟩ (.slice qA qx.length qc)) ga (.int .i64 qa) (.int .i64 qb) (.int .i64 qv)from A3.out.apart (by have h:=ne2.out;omega) (.int .i64 qr) (.int .i64 ql) (.slice qA qx.length qc));clear hHeld BB3 B3 A3;generalize ((p3.setCell ⟨gb,0,none⟩ (.int .i64 qr)).setCell ⟨gb,1,none⟩ (.int .i64 ql)).setCell ⟨gb,2,none⟩ (.slice qA qx.length qc)=p4 at *;refine hK.out _ _ (HS7.out _ BB4.out) (fun hHeld=>?_);clear hK K;(try simp only[sp]);refine wD (by kernel_rfl) ?_;go_wp2;go_meet;exact⟨ga,gb,rfl,rfl,A4,B4,BB4,gga1⟩
   case rest=>
    obtain⟨ga,gb,rfl,rfl,HA,HBx,HBW,hgx⟩:=hcut;have HS8:=aH (show ∀W,Below wc.heap.size wc W→W.cell? ⟨ga,0,none⟩=some (.int .i64 qa)∧W.cell? ⟨ga,1,none⟩=some (.int .i64 qb)∧W.cell? ⟨ga,2,none⟩=some (.int .i64 qv)∧W.cell? ⟨gb,0,none⟩=some (.int .i64 qr)∧W.cell? ⟨gb,1,none⟩=some (.int .i64 ql)∧W.cell? ⟨gb,2,none⟩=some (.slice qA qx.length qc)∧W.cell? ⟨Gf,0,none⟩=some (Value.slice (some ⟨bf,of,none⟩) cl2.length cc2)∧W.cell? ⟨bf,of+k*3,none⟩=some (.int .i64 capf)from fun W h=>by
     obtain⟨a0,a1,a2,-⟩:=HA.out.below h;obtain⟨b0,b1,b2,-⟩:=HBx.out.below h;obtain⟨c0,c1⟩:=HC8.out W (bC HBW.out h);exact⟨a0,a1,a2,b0,b1,b2,c0,c1⟩)
    clear HS7 HC8 HA HBx hgx
    go_upto_region 8 with fail
    by_cases p1:(Cel.Ce.mk qa qb qv).Right
    case neg=>
     have HR:=aH (HNk.out (by rw[HWk.out,dF p1];rfl));rw[HPR.out,dF p1]at HR1;clear p1;refine rG HS8.out (by kernel_rfl) (fun hHeld=>?_);have BC0:=aH (show Below wc.heap.size wc wc.drew from(bR _ _).drew);generalize wc.drew=y0 at *;refine wk [.k 0 67] (fun _ _ _ _ _ h=>h) hHeld ?_ (by kernel_rfl);repeat (refine .k (v:=?_) rfl (by kernel_rfl) ?_ ?_;rotate_left 1;(intro w h;go_simp<;>try rfl);try simp only[sp])
     refine .nil ?_;refine wQ 1 (some 68) rfl (fun K hK=>?_) (by kernel_rfl);go_simp;refine(HR1.out _).mono ?_;rintro e y1 ⟨rfl,hb⟩;have BC1:=aH (bC BC0.out hb);clear hb BC0 hHeld;go_wp2_with fail;refine hK.out _ _ (HS8.out _ BC1.out) (fun hHeld=>?_);clear hK K;(try simp only[sp]);refine wk [.k 2 69,.k 3 70,.u 4 71,.u 5 72,.u 6 73,.u 7 74,.u 8 75,.u 9 76,.u 10 77,.u 11 78,.u 12 79,.k 13 80,.k 14 81,.u 15 82,.u 16 83,.u 17 84,.k 18 85,.k 19 86,.u 20 87,.u 21 88,.u 22 89,.k 23 90,.k 24 91,.u 25 92,.u 26 93,.u 27 94,.u 28 95,.u 29 96,.k 30 97] (fun _ _ _ _ _ h=>h) hHeld ?_ (by kernel_rfl);repeat (first|(refine .k (v:=?_) rfl (by kernel_rfl) ?_ ?_;rotate_left 1;(intro w h;go_simp<;>try rfl);try simp only[sp])|(refine .u rfl (by kernel_rfl) ?_;try simp only[sp]))
     refine .nil ?_;refine wD (by kernel_rfl) ?_;clear hHeld;go_wp2
     go_ret
     exact⟨by rw[HR.out];rfl,bC HBV.out (bC (bC HBR.out HBW.out) BC1.out)⟩
    rw[HPR.out,dT p1]at HR1;by_cases p2:qa=capf
    case neg=>
     have HR:=aH (HNk.out (by rw[HWk.out,dT p1,dF p2];rfl));have p2b:(qa != capf)=true:=(by simpa using p2);clear p1 p2;refine rG HS8.out (by kernel_rfl) (fun hHeld=>?_);have BC0:=aH (show Below wc.heap.size wc wc.drew from(bR _ _).drew);generalize wc.drew=y0 at *;refine wk [.k 0 67] (fun _ _ _ _ _ h=>h) hHeld ?_ (by kernel_rfl);repeat (refine .k (v:=?_) rfl (by kernel_rfl) ?_ ?_;rotate_left 1;(intro w h;go_simp<;>try rfl);try simp only[sp])
     refine .nil ?_;refine wQ 1 (some 68) rfl (fun K hK=>?_) (by kernel_rfl);go_simp;refine(HR1.out _).mono ?_;rintro e y1 ⟨rfl,hb⟩;have BC1:=aH (bC BC0.out hb);clear hb BC0 hHeld;go_wp2_with fail;refine hK.out _ _ (HS8.out _ BC1.out) (fun hHeld=>?_);clear hK K;(try simp only[sp]);refine wk [.k 2 69,.k 3 70,.k 4 71,.k 5 72,.k 6 73,.k 7 74,.k 8 75,.k 9 76,.k 10 77,.k 11 78,.k 12 79,.k 13 80,.k 14 81,.u 15 82,.u 16 83,.u 17 84,.k 18 85,.k 19 86,.u 20 87,.u 21 88,.u 22 89,.k 23 90,.k 24 91,.u 25 92,.u 26 93,.u 27 94,.u 28 95,.u 29 96,.k 30 97] (fun _ _ _ _ _ h=>h) hHeld ?_ (by kernel_rfl);repeat (first|(refine .k (v:=?_) rfl (by kernel_rfl) ?_ ?_;rotate_left 1;(intro w h;go_simp<;>try rfl);try simp only[sp])|(refine .u rfl (by kernel_rfl) ?_;try simp only[sp]))
     refine .nil ?_;refine wD (by kernel_rfl) ?_;clear hHeld;go_wp2
     go_ret
     exact⟨by rw[HR.out];rfl,bC HBV.out (bC (bC HBR.out HBW.out) BC1.out)⟩
    have p2b:(qa != capf)=false:=(by simpa using p2);obtain⟨g3,hg3⟩:∃g3,Lg.rgB qr ql qx=g3:=⟨_,rfl⟩;rw[hg3]at HWk HR2;clear hg3
    cases g3
    case false=>
     have HR:=aH (HNk.out (by rw[HWk.out,dT p1,dT p2];rfl));clear p1 p2;refine rG HS8.out (by kernel_rfl) (fun hHeld=>?_);have BC0:=aH (show Below wc.heap.size wc wc.drew from(bR _ _).drew);generalize wc.drew=y0 at *;refine wk [.k 0 67] (fun _ _ _ _ _ h=>h) hHeld ?_ (by kernel_rfl);repeat (refine .k (v:=?_) rfl (by kernel_rfl) ?_ ?_;rotate_left 1;(intro w h;go_simp<;>try rfl);try simp only[sp])
     refine .nil ?_;refine wQ 1 (some 68) rfl (fun K hK=>?_) (by kernel_rfl);go_simp;refine(HR1.out _).mono ?_;rintro e y1 ⟨rfl,hb⟩;have BC1:=aH (bC BC0.out hb);clear hb BC0 hHeld;go_wp2_with fail;refine hK.out _ _ (HS8.out _ BC1.out) (fun hHeld=>?_);clear hK K;(try simp only[sp]);refine wk [.k 2 69,.k 3 70,.k 4 71,.k 5 72,.k 6 73,.k 7 74,.k 8 75,.k 9 76,.k 10 77,.k 11 78,.k 12 79,.k 13 80,.k 14 81,.k 15 82] (fun _ _ _ _ _ h=>h) hHeld ?_ (by kernel_rfl);repeat (refine .k (v:=?_) rfl (by kernel_rfl) ?_ ?_;rotate_left 1;(intro w h;go_simp<;>try rfl);try simp only[sp])
     refine .nil ?_;refine wQ 16 (some 83) rfl (fun K hK=>?_) (by kernel_rfl);go_simp;refine(HR2.out _ (HLX.out.then (HBW.out.trans (BC1.out.mono HBW.out.size)))).mono ?_;rintro e y2 ⟨rfl,hb⟩;have BC2:=aH (bC BC1.out hb);clear hb BC1 hHeld;go_wp2_with fail;refine hK.out _ _ (HS8.out _ BC2.out) (fun hHeld=>?_);clear hK K;(try simp only[sp]);refine wk [.k 17 84,.k 18 85,.k 19 86,.u 20 87,.u 21 88,.u 22 89,.k 23 90,.k 24 91,.u 25 92,.u 26 93,.u 27 94,.u 28 95,.u 29 96,.k 30 97] (fun _ _ _ _ _ h=>h) hHeld ?_ (by kernel_rfl);repeat (first|(refine .k (v:=?_) rfl (by kernel_rfl) ?_ ?_;rotate_left 1;(intro w h;go_simp<;>try rfl);try simp only[sp])|(refine .u rfl (by kernel_rfl) ?_;try simp only[sp]))
     refine .nil ?_;refine wD (by kernel_rfl) ?_;clear hHeld;go_wp2
     go_ret
     exact⟨by rw[HR.out];rfl,bC HBV.out (bC (bC HBR.out HBW.out) BC2.out)⟩
    by_cases p4:qr=8
    case neg=>
     have HR:=aH (HNk.out (by rw[HWk.out,dT p1,dT p2,dF p4];rfl));have p4b:(qr != 8)=true:=(by simpa using p4);clear p1 p2 p4;refine rG HS8.out (by kernel_rfl) (fun hHeld=>?_);have BC0:=aH (show Below wc.heap.size wc wc.drew from(bR _ _).drew);generalize wc.drew=y0 at *;refine wk [.k 0 67] (fun _ _ _ _ _ h=>h) hHeld ?_ (by kernel_rfl);repeat (refine .k (v:=?_) rfl (by kernel_rfl) ?_ ?_;rotate_left 1;(intro w h;go_simp<;>try rfl);try simp only[sp])
     refine .nil ?_;refine wQ 1 (some 68) rfl (fun K hK=>?_) (by kernel_rfl);go_simp;refine(HR1.out _).mono ?_;rintro e y1 ⟨rfl,hb⟩;have BC1:=aH (bC BC0.out hb);clear hb BC0 hHeld;go_wp2_with fail;refine hK.out _ _ (HS8.out _ BC1.out) (fun hHeld=>?_);clear hK K;(try simp only[sp]);refine wk [.k 2 69,.k 3 70,.k 4 71,.k 5 72,.k 6 73,.k 7 74,.k 8 75,.k 9 76,.k 10 77,.k 11 78,.k 12 79,.k 13 80,.k 14 81,.k 15 82] (fun _ _ _ _ _ h=>h) hHeld ?_ (by kernel_rfl);repeat (refine .k (v:=?_) rfl (by kernel_rfl) ?_ ?_;rotate_left 1;(intro w h;go_simp<;>try rfl);try simp only[sp])
     refine .nil ?_;refine wQ 16 (some 83) rfl (fun K hK=>?_) (by kernel_rfl);go_simp;refine(HR2.out _ (HLX.out.then (HBW.out.trans (BC1.out.mono HBW.out.size)))).mono ?_;rintro e y2 ⟨rfl,hb⟩;have BC2:=aH (bC BC1.out hb);clear hb BC1 hHeld;go_wp2_with fail;refine hK.out _ _ (HS8.out _ BC2.out) (fun hHeld=>?_);clear hK K;(try simp only[sp]);refine wk [.k 17 84,.k 18 85,.k 19 86,.k 20 87,.k 21 88,.k 22 89,.k 23 90,.k 24 91,.u 25 92,.u 26 93,.u 27 94,.u 28 95,.u 29 96,.k 30 97] (fun _ _ _ _ _ h=>h) hHeld ?_ (by kernel_rfl);repeat (first|(refine .k (v:=?_) rfl (by kernel_rfl) ?_ ?_;rotate_left 1;(intro w h;go_simp<;>try rfl);try simp only[sp])|(refine .u rfl (by kernel_rfl) ?_;try simp only[sp]))
     refine .nil ?_;refine wD (by kernel_rfl) ?_;clear hHeld;go_wp2
     go_ret
     exact⟨by rw[HR.out];rfl,bC HBV.out (bC (bC HBR.out HBW.out) BC2.out)⟩
    have p4b:(qr != 8)=false:=(by simpa using p4);by_cases p5:ql=qv
    case neg=>
     have HR:=aH (HNk.out (by rw[HWk.out,dT p1,dT p2,dT p4,dF p5];rfl));have p5b:(ql != qv)=true:=(by simpa using p5);clear p1 p2 p4 p5;refine rG HS8.out (by kernel_rfl) (fun hHeld=>?_);have BC0:=aH (show Below wc.heap.size wc wc.drew from(bR _ _).drew);generalize wc.drew=y0 at *;refine wk [.k 0 67] (fun _ _ _ _ _ h=>h) hHeld ?_ (by kernel_rfl);repeat (refine .k (v:=?_) rfl (by kernel_rfl) ?_ ?_;rotate_left 1;(intro w h;go_simp<;>try rfl);try simp only[sp])
     refine .nil ?_;refine wQ 1 (some 68) rfl (fun K hK=>?_) (by kernel_rfl);go_simp;refine(HR1.out _).mono ?_;rintro e y1 ⟨rfl,hb⟩;have BC1:=aH (bC BC0.out hb);clear hb BC0 hHeld;go_wp2_with fail;refine hK.out _ _ (HS8.out _ BC1.out) (fun hHeld=>?_);clear hK K;(try simp only[sp]);refine wk [.k 2 69,.k 3 70,.k 4 71,.k 5 72,.k 6 73,.k 7 74,.k 8 75,.k 9 76,.k 10 77,.k 11 78,.k 12 79,.k 13 80,.k 14 81,.k 15 82] (fun _ _ _ _ _ h=>h) hHeld ?_ (by kernel_rfl);repeat (refine .k (v:=?_) rfl (by kernel_rfl) ?_ ?_;rotate_left 1;(intro w h;go_simp<;>try rfl);try simp only[sp])
     refine .nil ?_;refine wQ 16 (some 83) rfl (fun K hK=>?_) (by kernel_rfl);go_simp;refine(HR2.out _ (HLX.out.then (HBW.out.trans (BC1.out.mono HBW.out.size)))).mono ?_;rintro e y2 ⟨rfl,hb⟩;have BC2:=aH (bC BC1.out hb);clear hb BC1 hHeld;go_wp2_with fail;refine hK.out _ _ (HS8.out _ BC2.out) (fun hHeld=>?_);clear hK K;(try simp only[sp]);refine wk [.k 17 84,.k 18 85,.k 19 86,.k 20 87,.k 21 88,.k 22 89,.k 23 90,.k 24 91,.k 25 92,.k 26 93,.k 27 94,.k 28 95,.k 29 96,.k 30 97] (fun _ _ _ _ _ h=>h) hHeld ?_ (by kernel_rfl);repeat (refine .k (v:=?_) rfl (by kernel_rfl) ?_ ?_;rotate_left 1;(intro w h;go_simp<;>try rfl);try simp only[sp])
     refine .nil ?_;refine wD (by kernel_rfl) ?_;clear hHeld;go_wp2
     go_ret
     exact⟨by rw[HR.out];rfl,bC HBV.out (bC (bC HBR.out HBW.out) BC2.out)⟩
    have HOK':=aH (HOK'.out (by rw[HWk.out,dT p1,dT p2,dT p4,dT p5];rfl));have p5b:(ql != qv)=false:=(by simpa using p5);clear p1 p2 p4 p5;refine rG HS8.out (by kernel_rfl) (fun hHeld=>?_);have BC0:=aH (show Below wc.heap.size wc wc.drew from(bR _ _).drew);generalize wc.drew=y0 at *;refine wk [.k 0 67] (fun _ _ _ _ _ h=>h) hHeld ?_ (by kernel_rfl);repeat (refine .k (v:=?_) rfl (by kernel_rfl) ?_ ?_;rotate_left 1;(intro w h;go_simp<;>try rfl);try simp only[sp])
    refine .nil ?_;refine wQ 1 (some 68) rfl (fun K hK=>?_) (by kernel_rfl);go_simp;refine(HR1.out _).mono ?_;rintro e y1 ⟨rfl,hb⟩;have BC1:=aH (bC BC0.out hb);clear hb BC0 hHeld;go_wp2_with fail;refine hK.out _ _ (HS8.out _ BC1.out) (fun hHeld=>?_);clear hK K;(try simp only[sp]);refine wk [.k 2 69,.k 3 70,.k 4 71,.k 5 72,.k 6 73,.k 7 74,.k 8 75,.k 9 76,.k 10 77,.k 11 78,.k 12 79,.k 13 80,.k 14 81,.k 15 82] (fun _ _ _ _ _ h=>h) hHeld ?_ (by kernel_rfl);repeat (refine .k (v:=?_) rfl (by kernel_rfl) ?_ ?_;rotate_left 1;(intro w h;go_simp<;>try rfl);try simp only[sp])
    refine .nil ?_;refine wQ 16 (some 83) rfl (fun K hK=>?_) (by kernel_rfl);go_simp;refine(HR2.out _ (HLX.out.then (HBW.out.trans (BC1.out.mono HBW.out.size)))).mono ?_;rintro e y2 ⟨rfl,hb⟩;have BC2:=aH (bC BC1.out hb);clear hb BC1 hHeld;go_wp2_with fail;refine hK.out _ _ (HS8.out _ BC2.out) (fun hHeld=>?_);clear hK K;(try simp only[sp]);refine wk [.k 17 84,.k 18 85,.k 19 86,.k 20 87,.k 21 88,.k 22 89,.k 23 90,.k 24 91,.k 25 92,.k 26 93,.k 27 94,.k 28 95,.k 29 96,.k 30 97] (fun _ _ _ _ _ h=>h) hHeld ?_ (by kernel_rfl);repeat (refine .k (v:=?_) rfl (by kernel_rfl) ?_ ?_;rotate_left 1;(intro w h;go_simp<;>try rfl);try simp only[sp])
    refine .nil ?_;refine wD (by kernel_rfl) ?_;clear hHeld;go_wp2
    go_roundw
    case rel=>exact⟨k+1,num_i (by omega),by omega,aH HOK'.out,aH (bC (bC HBR.out HBW.out) BC2.out)⟩
    case measure=>simp[intOf];omega
  ·obtain rfl:k=cl.length:=(by omega);have HQY:=aH (HQY.out HOK.out);clear HWK HNW HOK;obtain⟨v2,hv2⟩:∃v2,v2=wr:=⟨_,rfl⟩;have HB2:=aH (show Below v1.heap.size v1 v2 by rw[hv2];exact HBR.out);go_wp2_with fail;rw[←hv2];clear hv2 HBR t0 t1 t2 t3 t4 t5 hk hlt;have HS2:=aH (HS.out.then HB2.out);have HT2:=aH (HT.out.below HB2.out);have HK2:=aH (HK.out.below HB2.out);have HG2:=aH (HG.out.below HB2.out);have HBV2:=aH (bC HBV.out HB2.out);clear HS HT HK HG HF HBV HB2
   go_loopw [10,11] (fun hv i wr=>∃k:Nat,i=.int .i64 k∧k≤tl.length∧Hid (KI.Own wr v2.heap.size hv (heL tl k))∧Hid (∀j,j<k→okT tl d.arms j=true)∧Hid (Below v2.heap.size v2 wr)) (fun _ i _=>tl.length-(intOf i).toNat)
   case atStart=>exact⟨0,rfl,Nat.zero_le _,aH (show KI.Own v2 v2.heap.size (.slice none 0 0) (heL tl 0)from Lk.Own.nil _ _),aH (fun j hj=>absurd hj (Nat.not_lt_zero _)),aH (bR _ _)⟩
   case round=>
    obtain⟨k,rfl,hk,hown,hok,hb⟩:=hrel;have HO:=aH hown.out;have HOK:=aH hok.out;have HBR:=aH hb.out;clear hown hok hb;obtain⟨t0,t1,t2,t3,t4,t5,-⟩:=HT2.out.below HBR.out;obtain⟨-,-,-,d3,-⟩:=HK2.out.below HBR.out;(try dsimp only at t0 t1 t2 t3 t4 t5);by_cases hlt:k<tl.length
    ·obtain⟨b,off,rfl,hb,hbc,hcell⟩:=tip_cells (HS2.out.then HBR.out).t (by dsimp only;omega);obtain⟨e1,e2⟩:=hcell k hlt;have HSN:=aH (heL_snoc tl k hlt);have HHB:=aH (fun b=>heL_hb tl k b);have HKO:=aH (show okT tl d.arms k=(!(Tp.ofV (tl.getD k (0,0)).1 (tl.getD k (0,0)).2==0)&&decide ((tl.getD k (0,0)).2≤d.arms)&& !hbB tl k (tl.getD k (0,0)).2)from rfl);have HNk:=aH (HNT.out k hlt);have HOK':=aH (show okT tl d.arms k=true→∀j,j<k+1→okT tl d.arms j=true from fun h j hj=>by
      by_cases e:j=k
      ·rw[e];exact h
      ·exact HOK.out j (by omega))
     have HTF:=aH ((HS2.out.t).2.1 _ (getD_mem' tl k (0,0) hlt));have HHL:=aH (heL_len tl k);(try dsimp only at e1 e2);clear hcell;generalize tl.getD k (0,0)=t at *;obtain⟨a1,a2⟩:=t;dsimp only at e1 e2 HSN HKO;have HRT:=aH (fun w=>Tp.rright_any a1 a2 w);obtain⟨v3,hv3⟩:∃v3,v3=wr.alloc (.cells #[.int .i64 a1,.int .i64 a2] 146):=⟨_,rfl⟩;have hba:=bL (bR wr.heap.size wr) (.cells #[.int .i64 a1,.int .i64 a2] 146);rw[←hv3]at hba;have HC3:=aH (show v3.cell? ⟨wr.heap.size,0,none⟩=some (.int .i64 a1)∧v3.cell? ⟨wr.heap.size,1,none⟩=some (.int .i64 a2)from by rw[hv3];exact⟨by simp[go_sem],by simp[go_sem]⟩);have HO3:=aH (HO.out.below hba);have HB3:=aH (bC HBR.out hba);have hki:(k:Int)<tl.length:=(by omega);go_wp2_with fail;rw[←hv3];obtain⟨Gt,hGt⟩:∃Gt,Gt=wr.heap.size:=⟨_,rfl⟩;rw[←hGt]at HC3;(try rw[←hGt]);clear hv3 hba t0 t1 t2 t3 t4 t5 d3 e1 e2 HO HBR hki;refine(HRT.out v3).mono ?_;rintro e v4 ⟨rfl,hb4⟩;have HC4:=aH (show v4.cell? ⟨Gt,0,none⟩=some (.int .i64 a1)∧v4.cell? ⟨Gt,1,none⟩=some (.int .i64 a2)from⟨kK hb4 HC3.out.1,kK hb4 HC3.out.2⟩);have HO4:=aH (HO3.out.below hb4);have HB4:=aH (bC HB3.out hb4);obtain⟨c1,c2⟩:=HC4.out;obtain⟨-,-,-,d3,-⟩:=HK2.out.below HB4.out;clear hb4 HC3 HO3 HB3 hGt;by_cases p1:Tp.ofV a1 a2=0
     ·have HR:=aH (HNk.out (by rw[HKO.out,show(Tp.ofV a1 a2==0)=true by simpa using p1];rfl));have p1b:(Tp.ofV a1 a2==0)=true:=(by simpa using p1);rw[p1b];clear p1;go_wp2
      go_ret
      exact⟨by rw[HR.out];rfl,bC HBV2.out HB4.out⟩
     have p1b:(Tp.ofV a1 a2==0)=false:=(by simpa using p1);rw[p1b]at HKO⊢;by_cases p2:d.arms<a2
     ·have HR:=aH (HNk.out (by rw[HKO.out,dF (show ¬a2≤d.arms by omega)];rfl));clear p1;go_wp2
      go_ret
      exact⟨by rw[HR.out];rfl,bC HBV2.out HB4.out⟩
     have HKO:=aH (show okT tl d.arms k= !hbB tl k a2 from by rw[HKO.out,dT (show a2≤d.arms by omega)];simp);rw[HHB.out]at HKO;clear p1 HHB HRT;go_wp2_with fail;have HI:=aH (HO4.out.isL (by have:=HHL.out;have:=HQL.out;have:=HL.out;omega));obtain⟨hA,hc,rfl,-⟩:=HI.out.shape;clear c1 c2 d3
     go_loopw [13] (fun i wr=>∃m:Nat,i=.int .i64 m∧m≤(heL tl k).length∧Hid (∀j,j<m→(heL tl k).getD j 0≠a2)∧Hid (Below v4.heap.size v4 wr)) (fun i _=>(heL tl k).length-(intOf i).toNat)
     case atStart=>exact⟨0,rfl,Nat.zero_le _,aH (fun j hj=>absurd hj (Nat.not_lt_zero _)),aH (bR _ _)⟩
     case round=>
      obtain⟨m,rfl,hm,hno,hb⟩:=hrel;have HNO:=aH hno.out;have HBM:=aH hb.out;clear hno hb;have c1:=kK HBM.out HC4.out.1;have c2:=kK HBM.out HC4.out.2;by_cases hlt2:m<(heL tl k).length
      ·obtain⟨b2,off2,cap2,e2,hb2,hc2,-,hcell2,-⟩:=KI.cells (HI.out.then HBM.out) (by omega);have hx:=hcell2 m hlt2;have HX:=aH (show(heL tl k).getD m 0=a2→(heL tl k).any (fun x=>x==a2)=true from fun h=>any_yes _ 0 _ m hlt2 (by simpa using h));simp only[Value.slice.injEq]at e2;obtain⟨rfl,-,rfl⟩:=e2;clear hcell2;generalize hq:(heL tl k).getD m 0=q at *;by_cases p3:q=a2
       ·have HR:=aH (HNk.out (by rw[HKO.out,HX.out p3];rfl));have p3b:(q==a2)=true:=(by simpa using p3);clear p3 hq;go_wp2_with fail;go_quiet (fail);go_wp2
        go_ret
        exact⟨by rw[HR.out];rfl,bC HBV2.out (bC HB4.out (below_drewN HBM.out _))⟩
       ·have HNO':=aH (show ∀j,j<m+1→(heL tl k).getD j 0≠a2 from fun j hj=>by
         by_cases e:j=m
         ·rw[e,hq];exact p3
         ·exact HNO.out j (by omega))
        have p3b:(q==a2)=false:=(by simpa using p3);have hm8:=HHL.out;clear p3 hq;go_wp2_with fail;go_quiet (fail);go_wp2
        go_roundw
        case rel=>
         have:=HHL.out;exact⟨m+1,num_i (by omega),by omega,aH HNO'.out,aH (below_drewN HBM.out _)⟩
        case measure=>have:=HHL.out;simp[intOf];omega
      ·obtain rfl:m=(heL tl k).length:=(by omega);have HOKk:=aH (HOK'.out (by
        rw[HKO.out];have:(heL tl k).any (fun x=>x==a2)=false:=by
         rw[List.any_eq_false];intro x hx;obtain⟨j,hj,rfl⟩:=List.getElem_of_mem hx;have:=HNO.out j hj;rw[List.getD_eq_getElem?_getD,List.getElem?_eq_getElem hj]at this;simpa using this
        rw[this];rfl))
       by_cases p4:a1=2
       ·have p4b:(a1==2)=true:=(by simpa using p4);rw[if_pos p4]at HSN;clear p4;go_wp2_with (at_builtin;refine Lk.wpList_app (K:=KI) _ rfl _ _ rfl rfl v2.heap.size (wr.heap.size+1) _ _ (heL tl k) [a2] rfl rfl ((HO4.out.below HBM.out).alloc _) (Lk.IsL.lit (K:=KI) _ a2 _ HTF.out.2 rfl wr.heap.size rfl) ?c1 ?c2 ?_)
        case c1=>have:=HHL.out;have:=HQL.out;have:=HL.out;simp;omega
        case c2=>have:=(bC HB4.out HBM.out).size;simp;omega
        intro va w5 hown hgrow _;have HB5:=aH (Lk.Own.grow' ((HO4.out.below HBM.out).alloc _) (bL (bC HB4.out HBM.out) _) (by have:=(bC HB4.out HBM.out).size;simp;omega) hgrow);have HO5:=aH hown;clear hown hgrow c1 c2;go_wp2
        go_roundw
        case rel=>exact⟨k+1,num_i (by omega),by omega,aH (by rw[HSN.out];exact HO5.out),aH HOKk.out,aH HB5.out⟩
        case measure=>simp[intOf];omega
       ·have p4b:(a1==2)=false:=(by simpa using p4);rw[if_neg p4,List.append_nil]at HSN;clear p4;go_wp2
        go_roundw
        case rel=>exact⟨k+1,num_i (by omega),by omega,aH (by rw[HSN.out];exact HO4.out.below HBM.out),aH HOKk.out,aH (bC HB4.out HBM.out)⟩
        case measure=>simp[intOf];omega
    ·obtain rfl:k=tl.length:=(by omega);have HQY:=aH (HQY.out HOK.out);obtain⟨-,-,-,f3,-⟩:=HG2.out.below HBR.out;(try dsimp only at f3);have HBF:=aH (bC HBV2.out HBR.out);clear HNT HOK HO;by_cases r1:st=st2
     case neg=>
      have r1b:(st != st2)=true:=(by simpa using r1);have HR:=aH (HNS.out (.inl r1));clear r1;go_wp2
      go_ret
      exact⟨by rw[HR.out];rfl,HBF.out⟩
     have r1b:(st != st2)=false:=(by simpa using r1);by_cases r2:inn<0
     ·have HR:=aH (HNS.out (.inr (.inl r2)));clear r1;go_wp2
      go_ret
      exact⟨by rw[HR.out];rfl,HBF.out⟩
     by_cases r3:1152921504606846976<inn
     ·have HR:=aH (HNS.out (.inr (.inr (.inl r3))));clear r1;go_wp2
      go_ret
      exact⟨by rw[HR.out];rfl,HBF.out⟩
     by_cases r4:out<0
     ·have HR:=aH (HNS.out (.inr (.inr (.inr (.inl r4)))));clear r1;go_wp2
      go_ret
      exact⟨by rw[HR.out];rfl,HBF.out⟩
     by_cases r5:1152921504606846976<out
     ·have HR:=aH (HNS.out (.inr (.inr (.inr (.inr r5)))));clear r1;go_wp2
      go_ret
      exact⟨by rw[HR.out];rfl,HBF.out⟩
     obtain⟨hft,hRR⟩:=HQY.out r1 (by omega) (by omega) (by omega) (by omega);have HRR:=aH hRR;have HTO:=aH (HTOT.out wr (HS2.out.then HBR.out) (by have:=HQL.out;have:=HL.out;show cl.length≤100000;omega));unfold totV at HTO;(try dsimp only at HTO);rw[fitV,if_pos hft,fitE,if_pos hft]at HTO;clear r1 hft hRR HTOT HQY HNS;generalize Two.sumL (volS cl)=sum at *;go_wp2_with fail;refine HTO.out.mono ?_;rintro e w9 ⟨rfl,hb9⟩;obtain⟨-,-,-,t3,t4,t5,-⟩:=HT2.out.below (bC HBR.out hb9);(try dsimp only at t3 t4 t5);have HB9:=aH (bC HBF.out hb9);clear hb9;go_wp2
     go_ret
     exact⟨by rw[HRR.out];rfl,HB9.out⟩
end Go.Proofs.YtmecohdedghiaaaGreatDoor
