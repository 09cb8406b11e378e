/- The parts of a unit in a row: what the reference answers. -/
import Derived.Test.YtmecohdedghiaaaGreatDoorPo00
import Derived.Test.YtmecohdedghiaaaGreatDoorPo05
import Derived.RegionTactic
import Derived.ChangeAlike
set_option maxRecDepth 100000
set_option maxHeartbeats 8000000
open Go.Proofs.Tryz
namespace Go.Proofs.YtmecohdedghiaaaGreatDoor
open Go.RowKit
theorem bQ {α:Type} (f:Nat→α) (k:Nat):(List.range (k+1)).map f=(List.range k).map f++[f k]:=by
 rw[List.range_succ,List.map_append];rfl
theorem qp (d:Dk) (w:World) (hd:d.In w w.heap.size) (hp:d.pl.length≤4) (hr:d.rl.length≤4) (CE:2≤d.bl.length) (CM:d.bl.length≤25):
  Calls prog 241 #[d.v] w fun e w'=>∃v,e=.returned v∧KU.Own w' w.heap.size v (bD d)∧Bw w w':=by
 have HD:=aH hd;have e0:=hd.b.len;have e1:=hd.p.len;have e2:=hd.r.len;have HU:=aH (show bD d=(List.range d.pl.length).map (aE d.pl)++(List.range d.rl.length).map (ba d.rl)++(List.range (d.bl.length-1)).map bT from rfl);obtain⟨U,hU⟩:∃U,U=bD d:=⟨_,rfl⟩;rw[←hU]at HU⊢;clear hU;obtain⟨bA,bn,bc,bl,pA,pn,pc,pl,rA,rn,rc,rl,arms⟩:=d;dsimp only at *;subst e0 e1 e2;clear hd;have G5:=fun(w:World) (a:Addr) (m:Mode) (b:Nat)=>aq (P:=prog) (w:=w) (a:=a) (m:=m) .f64 b;obtain⟨w0,hw0⟩:∃w0,w0=w.alloc (.cells #[.slice bA bl.length bc,.slice pA pl.length pc,.slice rA rl.length rc,.int .i64 arms] 26):=⟨_,rfl⟩;have f0:w0.cell? ⟨w.heap.size,0,none⟩=some (.slice bA bl.length bc):=by rw[hw0];exact ap _ _ _ _ _ rfl
 have f1:w0.cell? ⟨w.heap.size,1,none⟩=some (.slice pA pl.length pc):=by rw[hw0];exact ap _ _ _ _ _ rfl
 have f2:w0.cell? ⟨w.heap.size,2,none⟩=some (.slice rA rl.length rc):=by rw[hw0];exact ap _ _ _ _ _ rfl
 have CG:=aH (cI hw0);have CR:=aH (HD.out.then CG.out);obtain⟨i0,hi,D9,DZ,hz2⟩:=info_parts KU.info;obtain⟨w1,hmk,CF,Ez⟩:=run_make_own (P:=prog) w0 w0.heap.size 255 258 i0 _ 4 underlying255 hi D9 DZ .i64 .i64 32 (by rw[hz2];decide) (by decide) (nR _);have D8:w0.heap.size=w.heap.size+1:=by rw[hw0];simp
 rw[show(Value.slice (some ⟨w0.heap.size,0,none⟩) 0 32)=Value.slice (some ⟨w.heap.size+1,0,none⟩) 0 32 by rw[D8]]at CF hmk;have Fy:=aH (show KU.Own w1 w0.heap.size (.slice (some ⟨w.heap.size+1,0,none⟩) 0 32) []from⟨CF,fun x hx=>by simp at hx⟩);have CH:=aH (show Bw w0 w1 from(bR _ _).grown Ez (nR _) (fun k hk=>by cases hk));have GQ:=aH (CR.out.then CH.out);have HF:=aH (show ∀w2,Bw w0 w2→w2.cell? ⟨w.heap.size,0,none⟩=some (.slice bA bl.length bc)∧w2.cell? ⟨w.heap.size,1,none⟩=some (.slice pA pl.length pc)∧w2.cell? ⟨w.heap.size,2,none⟩=some (.slice rA rl.length rc)from
  fun w2 hb=>⟨kK hb f0,kK hb f1,kK hb f2⟩)
 clear CF Ez hi D9 DZ hz2 f0 f1 f2;obtain⟨h0,h1,h2⟩:=HF.out w1 CH.out;rw[hw0]at hmk;have KK:(Instr.makeSlice 255 (.int .i64 0) (.int .i64 32)).run prog (w.alloc (.cells #[.slice bA bl.length bc,.slice pA pl.length pc,.slice rA rl.length rc,.int .i64 arms] 26))=.ok (.slice (some ⟨w.heap.size+1,0,none⟩) 0 32) w1:=hmk;clear hmk;go_enter func241,ntmps241;go_wp2;clear KK h0 h1 h2 hw0 D8;obtain⟨v0,FP⟩:∃v,v=Value.slice (some ⟨w.heap.size+1,0,none⟩) 0 32:=⟨_,rfl⟩;rw[←FP]at Fy
 go_loopw [3,13] (fun v i wr=>∃k:Nat,k≤pl.length∧i=.int .i64 k∧KU.Own wr w0.heap.size v ((List.range k).map (aE pl))∧Bw w0 wr) (fun _ i _=>pl.length-(intOf i).toNat)
 case atStart=>exact⟨0,Nat.zero_le _,rfl,by rw[←FP];exact Fy.out,CH.out⟩
 case round=>
  obtain⟨k,hk,rfl,CF,CP⟩:=hrel;have HO:=aH CF;have HB:=aH CP;clear CF CP;by_cases CI:k<pl.length
  ·obtain⟨b,off,rfl,hb,hc,CD⟩:=aQ (CR.out.p.below HB.out) (by dsimp only;omega);obtain⟨c0,c1,c2,c3,c4,c5,c6⟩:=CD k CI;have HS:=aH (bQ (aE pl) k);obtain⟨o1,o2,_⟩:=CR.out.p.okAt k CI;have Dh:=aH (show KU.ok (aE pl k)from⟨(by decide:ae 1),(show ae (k:Int)by unfold ae;omega),o1,o2⟩);have CV:=aH (show((List.range k).map (aE pl)).length=k by simp);have hu:aE pl k=⟨1,k,(pl.getD k KP.dflt).rows,(pl.getD k KP.dflt).cols⟩:=rfl;rw[hu]at HS Dh;clear CD hu o1 o2;dsimp only at *;generalize pl.getD k KP.dflt=q at *;generalize (List.range k).map (aE pl)=L at *;go_wp2_with (at_builtin;refine Lk.wpList_app (K:=KU) _ rfl _ _ rfl rfl w0.heap.size (wr.heap.size+1+1) _ _ L [⟨1,k,q.rows,q.cols⟩] rfl rfl ((HO.out.alloc _).alloc _) (Lk.IsL.lit (K:=KU) _ ⟨1,k,q.rows,q.cols⟩ _ Dh.out rfl (wr.heap.size+1) (by simp)) ?c1 ?c2 ?_)
   case c1=>have:=CV.out;simp;omega
   case c2=>have:=HB.out.size;simp;omega
   intro v1 w2 CF hgrow _;have CL:=aH (Lk.Own.grow' ((HO.out.alloc _).alloc _) (bL (bL HB.out _) _) (by have:=HB.out.size;simp;omega) hgrow);have F8:=aH CF;clear CF hgrow;go_wp2
   go_roundw
   case rel=>exact⟨k+1,by omega,ai (by omega),by rw[HS.out];exact F8.out,CL.out⟩
   case measure=>simp[intOf];omega
  ·obtain rfl:k=pl.length:=(by omega);obtain⟨w2,F6⟩:∃w2,w2=wr:=⟨_,rfl⟩;subst F6;obtain⟨q0,q1,q2⟩:=HF.out w2 HB.out;obtain⟨L1,hL1⟩:∃L1,L1=(List.range pl.length).map (aE pl):=⟨_,rfl⟩;have DJ:=aH (show L1.length=pl.length by rw[hL1];simp);rw[←hL1]at HO HU;clear hL1;go_wp2;clear q0 q1 q2;obtain⟨va,hva⟩:∃v,v=u3:=⟨_,rfl⟩;rw[←hva]at HO
   go_loopw [3,31] (fun v i wr=>∃k:Nat,k≤rl.length∧i=.int .i64 k∧KU.Own wr w0.heap.size v (L1++(List.range k).map (ba rl))∧Bw w0 wr) (fun _ i _=>rl.length-(intOf i).toNat)
   case atStart=>exact⟨0,Nat.zero_le _,rfl,by rw[←hva];simpa using HO.out,HB.out⟩
   case round=>
    clear HO;obtain⟨k,hk,rfl,CF,CP⟩:=hrel;have HO:=aH CF;have CL:=aH CP;clear CF CP;by_cases CI:k<rl.length
    ·obtain⟨b,off,rfl,hb,hc,CD⟩:=bu (CR.out.r.below CL.out) (by dsimp only;omega);obtain⟨c0,c1,c2,c3,c4⟩:=CD k CI;have HS:=aH (bQ (ba rl) k);obtain⟨o1,o2,_⟩:=CR.out.r.okAt k CI;have Dh:=aH (show KU.ok (ba rl k)from⟨(by decide:ae 2),(show ae (k:Int)by unfold ae;omega),o1,o2⟩);have CV:=aH (show(L1++(List.range k).map (ba rl)).length=pl.length+k by rw[List.length_append,DJ.out];simp);have hu:ba rl k=⟨2,k,(rl.getD k KR.dflt).rows,(rl.getD k KR.dflt).cols⟩:=rfl;rw[hu]at HS Dh;clear CD hu o1 o2;dsimp only at *;generalize rl.getD k KR.dflt=q at *;have EG:=aH (show L1++(List.range (k+1)).map (ba rl)=(L1++(List.range k).map (ba rl))++[⟨2,k,q.rows,q.cols⟩]by rw[HS.out,List.append_assoc]);clear HS;generalize L1++(List.range k).map (ba rl)=L at *;go_wp2_with (at_builtin;refine Lk.wpList_app (K:=KU) _ rfl _ _ rfl rfl w0.heap.size (wr.heap.size+1+1) _ _ L [⟨2,k,q.rows,q.cols⟩] rfl rfl ((HO.out.alloc _).alloc _) (Lk.IsL.lit (K:=KU) _ ⟨2,k,q.rows,q.cols⟩ _ Dh.out rfl (wr.heap.size+1) (by simp)) ?c1 ?c2 ?_)
     case c1=>have:=CV.out;simp;omega
     case c2=>have:=CL.out.size;simp;omega
     intro v1 w3 CF hgrow _;have CS:=aH (Lk.Own.grow' ((HO.out.alloc _).alloc _) (bL (bL CL.out _) _) (by have:=CL.out.size;simp;omega) hgrow);have Eo:=aH CF;clear CF hgrow;go_wp2
     go_roundw
     case rel=>exact⟨k+1,by omega,ai (by omega),by rw[EG.out];exact Eo.out,CS.out⟩
     case measure=>simp[intOf];omega
    ·obtain rfl:k=rl.length:=(by omega);obtain⟨w3,hw3⟩:∃w3,w3=wr:=⟨_,rfl⟩;subst hw3;obtain⟨q0,q1,q2⟩:=HF.out w3 CL.out;obtain⟨L2,hL2⟩:∃L2,L2=L1++(List.range rl.length).map (ba rl):=⟨_,rfl⟩;have Pg:=aH (show L2.length=pl.length+rl.length by rw[hL2,List.length_append,DJ.out];simp);rw[←hL2]at HO HU;clear hL2;obtain⟨nb,hnb⟩:∃nb,bl.length=nb+1:=⟨bl.length-1,by omega⟩;rw[hnb]at q0 CE CM;rw[show bl.length-1=nb by omega]at HU;clear hnb;go_wp2;clear q0 q1 q2;obtain⟨vb,hvb⟩:∃v,v=u3:=⟨_,rfl⟩;rw[←hvb]at HO
     go_loopw [3,50] (fun v i wr=>∃k:Nat,k≤nb∧i=.int .i64 k∧KU.Own wr w0.heap.size v (L2++(List.range k).map bT)∧Bw w0 wr) (fun _ i _=>nb-(intOf i).toNat)
     case atStart=>exact⟨0,Nat.zero_le _,rfl,by rw[←hvb];simpa using HO.out,CL.out⟩
     case round=>
      clear HO;obtain⟨k,hk,rfl,CF,CP⟩:=hrel;have HO:=aH CF;have CS:=aH CP;clear CF CP;by_cases CI:k<nb
      ·have HS:=aH (bQ bT k);have Dh:=aH (show KU.ok (bT k)from⟨(by decide:ae 3),(show ae (k:Int)by unfold ae;omega),(by decide:ae 1),(by decide:ae 1)⟩);have CV:=aH (show(L2++(List.range k).map bT).length=pl.length+rl.length+k by rw[List.length_append,Pg.out];simp);have hu:bT k=⟨3,k,1,1⟩:=rfl;rw[hu]at HS Dh;clear hu;have EG:=aH (show L2++(List.range (k+1)).map bT=(L2++(List.range k).map bT)++[⟨3,k,1,1⟩]by rw[HS.out,List.append_assoc]);clear HS;generalize L2++(List.range k).map bT=L at *;go_wp2_with (at_builtin;refine Lk.wpList_app (K:=KU) _ rfl _ _ rfl rfl w0.heap.size (wr.heap.size+1) _ _ L [⟨3,k,1,1⟩] rfl rfl (HO.out.alloc _) (Lk.IsL.lit (K:=KU) _ ⟨3,k,1,1⟩ _ Dh.out rfl wr.heap.size rfl) ?c1 ?c2 ?_)
       case c1=>have:=CV.out;simp;omega
       case c2=>have:=CS.out.size;simp;omega
       intro v1 w4 CF hgrow _;have CW:=aH (Lk.Own.grow' (HO.out.alloc _) (bL CS.out _) (by have:=CS.out.size;simp;omega) hgrow);have DB:=aH CF;clear CF hgrow;go_wp2
       go_roundw
       case rel=>exact⟨k+1,by omega,ai (by omega),by rw[EG.out];exact DB.out,CW.out⟩
       case measure=>simp[intOf];omega
      ·obtain rfl:k=nb:=(by omega);go_wp2
       go_ret
       exact⟨_,rfl,by rw[HU.out];exact HO.out.mono CG.out.size,bC CG.out CS.out⟩
structure OkD (d:Dk):Prop where
 rise:Rise d.bl
 p4:d.pl.length≤4
 r4:d.rl.length≤4
 arm:1≤d.arms∧d.arms≤8
 pl:∀i,i<d.pl.length→az (d.pl.getD i KP.dflt)=true
 rl:∀i,i<d.rl.length→cF (d.rl.getD i KR.dflt)=true
 wells:aC d.pl≤384
 tips:bj d.rl≤384
theorem aU (d:Dk) (h:aJ d=0):OkD d:=by
 by_cases hz:aZ d.bl=0
 ·by_cases h1:1≤d.arms∧d.arms≤8
  ·by_cases h2:4<d.pl.length∨4<d.rl.length
   ·rw[nz d hz h1 h2]at h;cases h
   ·rcases h3:d.pl.all az with _|_
    ·rw[nY d hz h1 h2 h3]at h;cases h
    ·rcases h4:d.rl.all cF with _|_
     ·rw[nP d hz h1 h2 h3 h4]at h;cases h
     ·rw[np d hz h1 h2 h3 h4]at h;have h5:¬(384<aC d.pl∨384<bj d.rl):=fun hh=>(by rw[if_pos hh]at h;cases h);exact⟨kw _ hz,by omega,by omega,h1,fun i hi=>List.all_eq_true.1 h3 _ (af _ i _ hi),fun i hi=>List.all_eq_true.1 h4 _ (af _ i _ hi),by omega,by omega⟩
  ·rw[oj d hz h1]at h;cases h
 ·rw[n8 d hz]at h;exact absurd h hz
theorem ff (d:Dk) (h:OkD d):∀u∈bD d,pg u:=by
 intro u hu;have h2:=h.rise.most;have h3:=h.p4;have h4:=h.r4;unfold bD at hu;rcases List.mem_append.1 hu with hu|hu
 ·rcases List.mem_append.1 hu with hu|hu
  ·obtain⟨i,hi,rfl⟩:=List.mem_map.1 hu;have hi:=List.mem_range.1 hi;exact⟨.inl rfl,show(0:Int)≤(i:Int)by omega,show(i:Int)≤23 by omega,bi (h.pl i hi)⟩
  ·obtain⟨i,hi,rfl⟩:=List.mem_map.1 hu;have hi:=List.mem_range.1 hi;exact⟨.inr (.inl rfl),show(0:Int)≤(i:Int)by omega,show(i:Int)≤23 by omega,h.rl i hi⟩
 ·obtain⟨i,hi,rfl⟩:=List.mem_map.1 hu;have hi:=List.mem_range.1 hi;exact⟨.inr (.inr rfl),show(0:Int)≤(i:Int)by omega,show(i:Int)≤23 by omega,(by decide:bG 1 1=true)⟩
theorem j5 (d:Dk) (h:OkD d):(bD d).length≤32:=by
 have h2:=h.rise.most;have h3:=h.p4;have h4:=h.r4;unfold bD;simp;omega
noncomputable def bh (d:Dk) (id:Int):Q4×Int:=if aJ d=0 then eK (bM d) id else(⟨0,0,0,0⟩,aJ d)
def ft (t:Q4×Int):Value:=.tuple #[.agg #[.int .i64 t.1.a,.int .i64 t.1.b,.int .i64 t.1.c,.int .i64 t.1.d],.int .i64 t.2]
theorem At {w:World} {b:Nat} {u0 u1 u2 u3:Value} (x0 x1 x2 x3:Value) (h0:w.cell? ⟨b,0,none⟩=some u0) (h1:w.cell? ⟨b,1,none⟩=some u1) (h2:w.cell? ⟨b,2,none⟩=some u2) (h3:w.cell? ⟨b,3,none⟩=some u3):
  ((((w.setCell ⟨b,0,none⟩ x0).setCell ⟨b,1,none⟩ x1).setCell ⟨b,2,none⟩ x2).setCell ⟨b,3,none⟩ x3).cell? ⟨b,0,none⟩=some x0∧((((w.setCell ⟨b,0,none⟩ x0).setCell ⟨b,1,none⟩ x1).setCell ⟨b,2,none⟩ x2).setCell ⟨b,3,none⟩ x3).cell? ⟨b,1,none⟩=some x1∧
  ((((w.setCell ⟨b,0,none⟩ x0).setCell ⟨b,1,none⟩ x1).setCell ⟨b,2,none⟩ x2).setCell ⟨b,3,none⟩ x3).cell? ⟨b,2,none⟩=some x2∧((((w.setCell ⟨b,0,none⟩ x0).setCell ⟨b,1,none⟩ x1).setCell ⟨b,2,none⟩ x2).setCell ⟨b,3,none⟩ x3).cell? ⟨b,3,none⟩=some x3:=
 ⟨sO (sO (sO (ag h0) (by simp)) (by simp)) (by simp),sO (sO (ag (sO h1 (by simp))) (by simp)) (by simp),
  sO (ag (sO (sO h2 (by simp)) (by simp))) (by simp),ag (sO (sO (sO h3 (by simp)) (by simp)) (by simp))⟩
theorem dt {W w:World} {b:Nat} (x0 x1 x2 x3:Value) (h:Bw W w) (hb:W.heap.size≤b):Bw W ((((w.setCell ⟨b,0,none⟩ x0).setCell ⟨b,1,none⟩ x1).setCell ⟨b,2,none⟩ x2).setCell ⟨b,3,none⟩ x3):=
 bS (bS (bS (bS h hb) hb) hb) hb
theorem gO {w:World} {b b2 i:Nat} {u x0 x1 x2 x3:Value} (h:w.cell? ⟨b2,i,none⟩=some u) (CJ:b≠b2):((((w.setCell ⟨b,0,none⟩ x0).setCell ⟨b,1,none⟩ x1).setCell ⟨b,2,none⟩ x2).setCell ⟨b,3,none⟩ x3).cell? ⟨b2,i,none⟩=some u:=
 sO (sO (sO (sO h (fun e=>CJ (by injection e))) (fun e=>CJ (by injection e))) (fun e=>CJ (by injection e))) (fun e=>CJ (by injection e))
theorem kP {w:World} {b b2 i:Nat} {x0 x1 x2 x3:Value} (h:w.frozen? ⟨b2,i,none⟩=false):((((w.setCell ⟨b,0,none⟩ x0).setCell ⟨b,1,none⟩ x1).setCell ⟨b,2,none⟩ x2).setCell ⟨b,3,none⟩ x3).frozen? ⟨b2,i,none⟩=false:=sF (sF (sF (sF h)))
theorem iY (d:Dk) (id:Int) (DU:ae id) (w:World) (hd:d.In w w.heap.size):Calls prog 205 #[d.v,.int .i64 id] w fun e w'=>e=.returned (ft (bh d id))∧Bw w w':=by
 have HC:=aH (fun w h=>eT d w h);have HD:=aH hd;have HU:=aH (fun w h a b c e=>qp d w h a b c e);obtain⟨w0,hw0⟩:∃w0,w0=(w.alloc d.ob).alloc (.cells #[.int .i64 0,.int .i64 0,.int .i64 0,.int .i64 0] 153):=⟨_,rfl⟩;have CG:=aH (gj hw0);have CR:=aH (HD.out.then CG.out);have D7:=aH (show w.heap.size+1<w0.heap.size by rw[hw0];simp);have HF:=aH (show ∀w1,Bw w0 w1→(w1.cell? ⟨w.heap.size,0,none⟩=some (.slice d.bA d.bn d.bc)∧w1.cell? ⟨w.heap.size,1,none⟩=some (.slice d.pA d.pn d.pc)∧w1.cell? ⟨w.heap.size,2,none⟩=some (.slice d.rA d.rn d.rc)∧w1.cell? ⟨w.heap.size,3,none⟩=some (.int .i64 d.arms))∧
  (w1.cell? ⟨w.heap.size+1,0,none⟩=some (.int .i64 0)∧w1.cell? ⟨w.heap.size+1,1,none⟩=some (.int .i64 0)∧w1.cell? ⟨w.heap.size+1,2,none⟩=some (.int .i64 0)∧w1.cell? ⟨w.heap.size+1,3,none⟩=some (.int .i64 0))∧
  (w1.frozen? ⟨w.heap.size+1,0,none⟩=false∧w1.frozen? ⟨w.heap.size+1,1,none⟩=false∧w1.frozen? ⟨w.heap.size+1,2,none⟩=false∧w1.frozen? ⟨w.heap.size+1,3,none⟩=false)from by
   intro w1 hb;have hs:w.heap.size+1<w0.heap.size:=(by rw[hw0];simp);refine⟨⟨kK hb ?_,kK hb ?_,kK hb ?_,kK hb ?_⟩,⟨kK hb ?_,kK hb ?_,kK hb ?_,kK hb ?_⟩,(hb.frozen (p:=⟨_,0,none⟩) hs).trans ?_,(hb.frozen (p:=⟨_,1,none⟩) hs).trans ?_,(hb.frozen (p:=⟨_,2,none⟩) hs).trans ?_,(hb.frozen (p:=⟨_,3,none⟩) hs).trans ?_⟩;all_goals (rw[hw0];simp))
 by_cases hz:aJ d=0
 ·have Dj:=aU d hz;have HP:=aH (show bh d id=fB (bD d) id by unfold bh bM;rw[if_pos hz,vT _ (ff d Dj)]);have Dh:=aH Dj;have JD:=aH (ff d Dj);have JN:=aH (j5 d Dj);rw[HP.out];rw[hz]at HC;clear hz HP Dj hd;obtain⟨us,hus⟩:∃us,us=bD d:=⟨_,rfl⟩;rw[←hus]at JD JN HU⊢;clear hus;go_enter func205,ntmps205;go_wp2_with fail
  go_step3
  go_wp2_with fail;rw[←hw0];clear hw0;refine(HC.out _ CR.out).mono ?_;rintro e w1 ⟨rfl,CE⟩;obtain⟨⟨d0,d1,d2,d3⟩,_,_⟩:=HF.out w1 CE;have CH:=aH CE;have DZ:w.heap.size+1<w1.heap.size:=nL D7.out CE.size;have D9:w.heap.size<w1.heap.size:=by omega
  clear CE;go_wp2_with fail
  go_step3
  go_wp2_with fail;clear d0 d1 d2 d3;have p0:(w1.alloc (.cells #[.int .i64 0,.int .i64 0,.int .i64 0,.int .i64 0] 153)).cell? ⟨w1.heap.size,0,none⟩=some (.int .i64 0):=ap _ _ _ _ _ rfl;have p1:(w1.alloc (.cells #[.int .i64 0,.int .i64 0,.int .i64 0,.int .i64 0] 153)).cell? ⟨w1.heap.size,1,none⟩=some (.int .i64 0):=ap _ _ _ _ _ rfl;have p2:(w1.alloc (.cells #[.int .i64 0,.int .i64 0,.int .i64 0,.int .i64 0] 153)).cell? ⟨w1.heap.size,2,none⟩=some (.int .i64 0):=ap _ _ _ _ _ rfl;have p3:(w1.alloc (.cells #[.int .i64 0,.int .i64 0,.int .i64 0,.int .i64 0] 153)).cell? ⟨w1.heap.size,3,none⟩=some (.int .i64 0):=ap _ _ _ _ _ rfl;have z0:(w1.alloc (.cells #[.int .i64 0,.int .i64 0,.int .i64 0,.int .i64 0] 153)).frozen? ⟨w1.heap.size,0,none⟩=false:=by simp
  have z1:(w1.alloc (.cells #[.int .i64 0,.int .i64 0,.int .i64 0,.int .i64 0] 153)).frozen? ⟨w1.heap.size,1,none⟩=false:=by simp
  have z2:(w1.alloc (.cells #[.int .i64 0,.int .i64 0,.int .i64 0,.int .i64 0] 153)).frozen? ⟨w1.heap.size,2,none⟩=false:=by simp
  have z3:(w1.alloc (.cells #[.int .i64 0,.int .i64 0,.int .i64 0,.int .i64 0] 153)).frozen? ⟨w1.heap.size,3,none⟩=false:=by simp
  have OZ:=bL CH.out (.cells #[.int .i64 0,.int .i64 0,.int .i64 0,.int .i64 0] 153);have Dz:w1.heap.size<(w1.alloc (.cells #[.int .i64 0,.int .i64 0,.int .i64 0,.int .i64 0] 153)).heap.size:=by simp
  generalize w1.alloc (.cells #[.int .i64 0,.int .i64 0,.int .i64 0,.int .i64 0] 153)=w2 at p0 p1 p2 p3 z0 z1 z2 z3 OZ Dz⊢;have hg:w0.heap.size≤w1.heap.size:=CH.out.size;generalize w1.heap.size=g at p0 p1 p2 p3 z0 z1 z2 z3 Dz hg D9 DZ⊢;have CL:=aH OZ;clear OZ CH;refine(HU.out w2 (CR.out.then CL.out) Dh.out.p4 Dh.out.r4 Dh.out.rise.two Dh.out.rise.most).mono ?_;rintro e w3 ⟨v,rfl,CF,CO⟩;have HG:=aH (show ∀w4,Bw w3 w4→(w4.cell? ⟨g,0,none⟩=some (.int .i64 0)∧w4.cell? ⟨g,1,none⟩=some (.int .i64 0)∧w4.cell? ⟨g,2,none⟩=some (.int .i64 0)∧w4.cell? ⟨g,3,none⟩=some (.int .i64 0))∧
   (w4.frozen? ⟨g,0,none⟩=false∧w4.frozen? ⟨g,1,none⟩=false∧w4.frozen? ⟨g,2,none⟩=false∧w4.frozen? ⟨g,3,none⟩=false)from fun w4 hb=>
    have Do:=bC CO hb
    ⟨⟨kK Do p0,kK Do p1,kK Do p2,kK Do p3⟩,(Do.frozen (p:=⟨_,0,none⟩) Dz).trans z0,(Do.frozen (p:=⟨_,1,none⟩) Dz).trans z1,(Do.frozen (p:=⟨_,2,none⟩) Dz).trans z2,(Do.frozen (p:=⟨_,3,none⟩) Dz).trans z3⟩)
  have CS:=aH (bC CL.out CO);have K0:g<w3.heap.size:=nL Dz CO.size;have HL:=aH (CF.isL (by have:=JN.out;omega));obtain⟨⟨A,cap,rfl,hcap,_⟩,_,_⟩:=HL.out;have Ur:us.length≤32:=JN.out;clear p0 p1 p2 p3 z0 z1 z2 z3 CF CO Dz;go_wp2
  go_loopw [8,9,23] (fun e l i wr=>∃(k:Nat) (left:Int),k≤us.length∧i=.int .i64 k∧l=.int .i64 left∧e=.int .i64 3∧ae left∧fB (us.drop k) left=fB us id∧Bw w3 wr) (fun _ _ i _=>us.length-(intOf i).toNat)
  case atStart=>exact⟨0,id,Nat.zero_le _,rfl,rfl,rfl,DU,rfl,bR _ _⟩
  case round=>
   obtain⟨k,left,hk,rfl,rfl,rfl,Oi,E7,CP⟩:=hrel;have HB:=aH CP;have QM:=aH E7;unfold ae at Oi;have Ez:g<wr.heap.size:=nL K0 CP.size;have Hj:w.heap.size+1<wr.heap.size:=(by omega);have HW:=aH (bC CS.out CP);clear CP E7;by_cases CI:k<us.length
   ·obtain⟨b,off,rfl,hbB,_,CD⟩:=iy (K:=KU) rfl rfl rfl (HL.out.below HB.out) (by omega);obtain⟨c0,c1,c2,c3⟩:=CD k CI;have Li:=aH (JD.out _ (af us k ⟨0,0,0,0⟩ CI));have E7:=QM.out;rw[fG us k ⟨0,0,0,0⟩ CI]at E7;clear CD;generalize us.getD k ⟨0,0,0,0⟩=u at *;obtain⟨o1,o2,o3,o4,o5,o6,o7⟩:=cK Li.out;have od:1≤u.d:=(by omega);have oc:u.c*u.d≤1536:=(by omega);have oc1:1≤u.c*u.d:=(by omega);have EZ:=aH (fQ u Li.out);clear o1 o2 o3 o4 o5 o6 o7;rw[fB]at E7;by_cases l0:left<0
    ·rw[if_pos l0]at E7;have EB:=aH E7;clear E7;obtain⟨⟨r0,r1,r2,r3⟩,_⟩:=HG.out wr HB.out;obtain⟨_,⟨q0,q1,q2,q3⟩,⟨z0,z1,z2,z3⟩⟩:=HF.out wr HW.out;go_wp2;rw[Exit.noGoto_ret];obtain⟨y0,y1,y2,y3⟩:=At (.int .i64 0) (.int .i64 0) (.int .i64 0) (.int .i64 0) q0 q1 q2 q3;have hb:=dt (.int .i64 0) (.int .i64 0) (.int .i64 0) (.int .i64 0) (bC CG.out HW.out) (show w.heap.size≤w.heap.size+1 by omega);generalize (((wr.setCell ⟨w.heap.size+1,0,none⟩ (.int .i64 0)).setCell ⟨w.heap.size+1,1,none⟩ (.int .i64 0)).setCell ⟨w.heap.size+1,2,none⟩ (.int .i64 0)).setCell ⟨w.heap.size+1,3,none⟩ (.int .i64 0)=w5 at *;have y0':=kK (bL (bR _ _) (.cells #[.int .i64 u.a,.int .i64 u.b,.int .i64 u.c,.int .i64 u.d] 258)) y0;have y1':=kK (bL (bR _ _) (.cells #[.int .i64 u.a,.int .i64 u.b,.int .i64 u.c,.int .i64 u.d] 258)) y1;have y2':=kK (bL (bR _ _) (.cells #[.int .i64 u.a,.int .i64 u.b,.int .i64 u.c,.int .i64 u.d] 258)) y2;have y3':=kK (bL (bR _ _) (.cells #[.int .i64 u.a,.int .i64 u.b,.int .i64 u.c,.int .i64 u.d] 258)) y3;exact bP (v:=.tuple #[.agg #[.int .i64 0,.int .i64 0,.int .i64 0,.int .i64 0],.int .i64 3]) (by simp[results,results205,go_sem,y0',y1',y2',y3']) rfl ⟨by rw[←EB.out];rfl,bL hb _⟩
    ·rw[if_neg l0]at E7;by_cases l1:left<u.c*u.d
     ·rw[if_pos l1]at E7;have EB:=aH E7;clear E7;go_wp2_with fail;refine(EZ.out _).mono ?_;rintro e w4 ⟨rfl,Do⟩;have y0:w4.cell? ⟨wr.heap.size,0,none⟩=some (.int .i64 u.a):=kK Do (ap _ _ _ _ _ rfl);have y1:w4.cell? ⟨wr.heap.size,1,none⟩=some (.int .i64 u.b):=kK Do (ap _ _ _ _ _ rfl);have y3:w4.cell? ⟨wr.heap.size,3,none⟩=some (.int .i64 u.d):=kK Do (ap _ _ _ _ _ rfl);have CW:=aH (bC (bL HB.out _) Do);have RR:=aH (bC (bL HW.out _) Do);obtain⟨⟨r0,r1,r2,r3⟩,⟨x0,x1,x2,x3⟩⟩:=HG.out w4 CW.out;obtain⟨_,⟨q0,q1,q2,q3⟩,⟨z0,z1,z2,z3⟩⟩:=HF.out w4 RR.out;have Uf:g<w4.heap.size:=nL K0 CW.out.size;clear Do;go_wp2
      go_region
      obtain⟨s0,s1,s2,s3⟩:=At (.int .i64 u.a) (.int .i64 u.b) (.int .i64 (left/u.d)) (.int .i64 (left%u.d)) r0 r1 r2 r3;have CJ:g≠w.heap.size+1:=(by omega);have m0:=gO (b:=g) (x0:=.int .i64 u.a) (x1:=.int .i64 u.b) (x2:=.int .i64 (left/u.d)) (x3:=.int .i64 (left%u.d)) q0 CJ;have m1:=gO (b:=g) (x0:=.int .i64 u.a) (x1:=.int .i64 u.b) (x2:=.int .i64 (left/u.d)) (x3:=.int .i64 (left%u.d)) q1 CJ;have m2:=gO (b:=g) (x0:=.int .i64 u.a) (x1:=.int .i64 u.b) (x2:=.int .i64 (left/u.d)) (x3:=.int .i64 (left%u.d)) q2 CJ;have m3:=gO (b:=g) (x0:=.int .i64 u.a) (x1:=.int .i64 u.b) (x2:=.int .i64 (left/u.d)) (x3:=.int .i64 (left%u.d)) q3 CJ;have n0:=kP (b:=g) (x0:=.int .i64 u.a) (x1:=.int .i64 u.b) (x2:=.int .i64 (left/u.d)) (x3:=.int .i64 (left%u.d)) z0;have n1:=kP (b:=g) (x0:=.int .i64 u.a) (x1:=.int .i64 u.b) (x2:=.int .i64 (left/u.d)) (x3:=.int .i64 (left%u.d)) z1;have n2:=kP (b:=g) (x0:=.int .i64 u.a) (x1:=.int .i64 u.b) (x2:=.int .i64 (left/u.d)) (x3:=.int .i64 (left%u.d)) z2;have n3:=kP (b:=g) (x0:=.int .i64 u.a) (x1:=.int .i64 u.b) (x2:=.int .i64 (left/u.d)) (x3:=.int .i64 (left%u.d)) z3;have EN:=dt (.int .i64 u.a) (.int .i64 u.b) (.int .i64 (left/u.d)) (.int .i64 (left%u.d)) RR.out hg;clear r0 r1 r2 r3 x0 x1 x2 x3 q0 q1 q2 q3 z0 z1 z2 z3 y0 y1 y3;generalize (((w4.setCell ⟨g,0,none⟩ (.int .i64 u.a)).setCell ⟨g,1,none⟩ (.int .i64 u.b)).setCell ⟨g,2,none⟩ (.int .i64 (left/u.d))).setCell ⟨g,3,none⟩ (.int .i64 (left%u.d))=w5 at *;have DH:=aH EN;clear EN;go_wp2;rw[Exit.noGoto_ret];obtain⟨y0,y1,y2,y3⟩:=At (.int .i64 u.a) (.int .i64 u.b) (.int .i64 (left/u.d)) (.int .i64 (left%u.d)) m0 m1 m2 m3
      have hb:=dt (.int .i64 u.a) (.int .i64 u.b) (.int .i64 (left/u.d)) (.int .i64 (left%u.d)) (bC CG.out DH.out) (show w.heap.size≤w.heap.size+1 by omega);exact bP (v:=.tuple #[.agg #[.int .i64 u.a,.int .i64 u.b,.int .i64 (left/u.d),.int .i64 (left%u.d)],.int .i64 0]) (by simp[results,results205,go_sem,y0,y1,y2,y3]) rfl ⟨by rw[←EB.out];rfl,Below.drew hb⟩
     ·rw[if_neg l1]at E7;have EB:=aH E7;have l2:u.c*u.d≤left:=(by omega);clear E7;go_wp2_with fail;refine(EZ.out _).mono ?_;rintro e w4 ⟨rfl,Do⟩;have y0:w4.cell? ⟨wr.heap.size,0,none⟩=some (.int .i64 u.a):=kK Do (ap _ _ _ _ _ rfl);have y1:w4.cell? ⟨wr.heap.size,1,none⟩=some (.int .i64 u.b):=kK Do (ap _ _ _ _ _ rfl);have y2:w4.cell? ⟨wr.heap.size,2,none⟩=some (.int .i64 u.c):=kK Do (ap _ _ _ _ _ rfl);have y3:w4.cell? ⟨wr.heap.size,3,none⟩=some (.int .i64 u.d):=kK Do (ap _ _ _ _ _ rfl);have CW:=aH (bC (bL HB.out _) Do);clear Do;go_wp2_with fail;refine(EZ.out _).mono ?_;rintro e w5 ⟨rfl,EN⟩;have DH:=aH (bC CW.out EN);clear EN;go_wp2
      go_roundw
      case rel=>exact⟨k+1,left-u.c*u.d,by omega,ai (by omega),ai (by omega),rfl,by unfold ae;omega,EB.out,DH.out⟩
      case measure=>simp[intOf];omega
   ·obtain rfl:k=us.length:=(by omega);have EB:=aH (show fB us id=(⟨0,0,0,0⟩,3)by rw[←QM.out,List.drop_length];rfl);obtain⟨⟨r0,r1,r2,r3⟩,_⟩:=HG.out wr HB.out;obtain⟨_,⟨q0,q1,q2,q3⟩,⟨z0,z1,z2,z3⟩⟩:=HF.out wr HW.out;go_wp2;obtain⟨y0,y1,y2,y3⟩:=At (.int .i64 0) (.int .i64 0) (.int .i64 0) (.int .i64 0) q0 q1 q2 q3;have hb:=dt (.int .i64 0) (.int .i64 0) (.int .i64 0) (.int .i64 0) (bC CG.out HW.out) (show w.heap.size≤w.heap.size+1 by omega);rw[Exit.noGoto_ret];exact bP (v:=.tuple #[.agg #[.int .i64 0,.int .i64 0,.int .i64 0,.int .i64 0],.int .i64 3]) (by simp[results,results205,go_sem,y0,y1,y2,y3]) rfl ⟨by rw[EB.out];rfl,hb⟩
 ·have HP:=aH (show ft (bh d id)=.tuple #[.agg #[.int .i64 0,.int .i64 0,.int .i64 0,.int .i64 0],.int .i64 (aJ d)]by unfold bh;rw[if_neg hz];rfl);have GB:(aJ d != 0)=true:=by rw[bne_iff_ne];exact hz
  rw[HP.out];clear hz HP;generalize aJ d=c at *;go_enter func205,ntmps205;go_wp2_with fail
  go_step3
  go_wp2_with fail;rw[←hw0];clear hw0;refine(HC.out _ CR.out).mono ?_;rintro e w1 ⟨rfl,CE⟩;obtain⟨_,⟨r0,r1,r2,r3⟩,⟨z0,z1,z2,z3⟩⟩:=HF.out w1 CE;have CH:=aH (bC CG.out CE);clear CE;go_wp2;rw[Exit.noGoto_ret];obtain⟨y0,y1,y2,y3⟩:=At (.int .i64 0) (.int .i64 0) (.int .i64 0) (.int .i64 0) r0 r1 r2 r3;exact bP (v:=.tuple #[.agg #[.int .i64 0,.int .i64 0,.int .i64 0,.int .i64 0],.int .i64 c]) (by simp[results,results205,go_sem,y0,y1,y2,y3]) rfl ⟨rfl,dt _ _ _ _ CH.out (by omega)⟩
noncomputable def ci (d:Dk):Int×Int×Int:=if aJ d=0 then(aC d.pl,bj d.rl,(d.bl.length:Int)-1)else(0,0,0)
theorem eO (d:Dk) (w:World) (hd:d.In w w.heap.size):Calls prog 94 #[d.v] w fun e w'=>e=.returned (.tuple #[.int .i64 (ci d).1,.int .i64 (ci d).2.1,.int .i64 (ci d).2.2])∧Bw w w':=by
 have HC:=aH (fun w h=>eT d w h);have HP:=aH (fun w h a b c e=>iK d w h a b c e);have HD:=aH hd;have Fd:=hd.b.len;obtain⟨w0,hw0⟩:∃w0,w0=w.alloc d.ob:=⟨_,rfl⟩;have CG:=aH (cI hw0);have CR:=aH (HD.out.then CG.out);have HF:=aH (show ∀w1,Bw w0 w1→(w1.cell? ⟨w.heap.size,0,none⟩=some (.slice d.bA d.bn d.bc)∧w1.cell? ⟨w.heap.size,1,none⟩=some (.slice d.pA d.pn d.pc)∧w1.cell? ⟨w.heap.size,2,none⟩=some (.slice d.rA d.rn d.rc)∧w1.cell? ⟨w.heap.size,3,none⟩=some (.int .i64 d.arms))from by
   intro w1 hb;refine⟨kK hb ?_,kK hb ?_,kK hb ?_,kK hb ?_⟩;all_goals (rw[hw0];simp))
 by_cases hz:aJ d=0
 ·have Dh:=aH (aU d hz);have T:ci d=(aC d.pl,bj d.rl,(d.bl.length:Int)-1):=by unfold ci;rw[if_pos hz]
  rw[T];rw[hz]at HC;have b2:=Dh.out.rise.two;have b3:=Dh.out.rise.most;clear hz T hd;dsimp only;rw[←Fd]at b2 b3⊢;clear Fd;generalize aC d.pl=s at *;generalize bj d.rl=t at *;go_enter func94,ntmps94;go_wp2_with fail;rw[←hw0];clear hw0;refine(HC.out _ CR.out).mono ?_;rintro e w1 ⟨rfl,CE⟩;obtain⟨d0,d1,d2,d3⟩:=HF.out w1 CE;have CH:=aH CE;clear CE;go_wp2_with fail;refine(HP.out w1 (CR.out.then CH.out) Dh.out.p4 Dh.out.r4 (fun i hi=>bi (Dh.out.pl i hi)) Dh.out.rl).mono ?_;rintro e w2 ⟨rfl,CM⟩;have q0:=kK CM d0;have CL:=aH (bC CH.out CM);clear CM d0 d1 d2 d3;go_wp2_with fail;go_quiet (fail);go_wp2
  go_ret3
  exact⟨rfl,aa (bC CG.out CL.out) _⟩
 ·have T:ci d=(0,0,0):=by unfold ci;rw[if_neg hz]
  rw[T];have GB:(aJ d != 0)=true:=by rw[bne_iff_ne];exact hz
  clear T hz hd Fd;generalize aJ d=c at *;go_enter func94,ntmps94;go_wp2_with fail;rw[←hw0];clear hw0;refine(HC.out _ CR.out).mono ?_;rintro e w1 ⟨rfl,CE⟩;have CH:=aH CE;clear CE;go_wp2
  go_ret3
  exact⟨rfl,bC CG.out CH.out⟩
theorem sT (u:Q4) (r c:Nat) (hc:c<u.d.toNat):cH u (r*u.d.toNat+c)=⟨u.a,u.b,r,c⟩:=by
 unfold cH;have hd:(r*u.d.toNat+c)/u.d.toNat=r:=by
  rw[Nat.mul_comm,Nat.mul_add_div (by omega),Nat.div_eq_of_lt hc,Nat.add_zero]
 have hm:(r*u.d.toNat+c)%u.d.toNat=c:=by
  rw[Nat.mul_comm,Nat.mul_add_mod,Nat.mod_eq_of_lt hc]
 rw[hd,hm]
theorem gC (u:Q4) (hu:pg u) (w:World):Calls prog 104 #[.int .i64 u.a,.int .i64 u.b,.int .i64 u.c,.int .i64 u.d] w fun e w'=>∃v,e=.returned v∧KQ.Own w' w.heap.size v (aw u)∧Bw w w':=by
 obtain⟨o1,o2,o3,o4,o5,o6,o7⟩:=cK hu;obtain⟨s1,s2,s3,s4⟩:=dP hu.2.2.2;obtain⟨k1,k2,k3,_⟩:=hu;have fa:ae u.a:=by unfold ae;omega
 have fb:ae u.b:=by unfold ae;omega
 have HU:=aH (show aw u=(List.range (u.c.toNat*u.d.toNat)).map (cH u)from rfl);have Hv:=aH (sT u);have DL:=aH fa;have Nw:=aH fb;obtain⟨P,hP⟩:∃P,P=aw u:=⟨_,rfl⟩;obtain⟨F,hF⟩:∃F,F=cH u:=⟨_,rfl⟩;rw[←hP]at HU⊢;rw[←hF]at HU Hv;clear hP hF k1 k2 k3 fa fb o5 o6 o7;obtain⟨a,b,c,d⟩:=u;dsimp only at *;obtain⟨R,rfl⟩:∃R:Nat,c=(R:Int):=⟨c.toNat,by omega⟩;obtain⟨C,rfl⟩:∃C:Nat,d=(C:Int):=⟨d.toNat,by omega⟩;simp only[Int.toNat_natCast]at *;have hR:R≤32:=by omega
 have hC:C≤48:=by omega
 have Q2:=aH (show ∀r:Nat,r≤R→r*C≤1536 from fun r hr=>by
  have:=Nat.mul_le_mul (show r≤32 by omega) hC;omega)
 clear s1 s2 s3 s4 o1 o2 o3 o4;go_enter func104,ntmps104;go_wp2
 go_loopw [9,10] (fun v i wr=>∃r:Nat,r≤R∧i=.int .i64 r∧KQ.Own wr w.heap.size v ((List.range (r*C)).map F)∧Bw w wr) (fun _ i _=>R-(intOf i).toNat)
 case atStart=>exact⟨0,Nat.zero_le _,rfl,by rw[Nat.zero_mul];exact Lk.Own.nil _ _,bR _ _⟩
 case round=>
  obtain⟨r,hr,rfl,CF,CP⟩:=hrel;have HO:=aH CF;have HB:=aH CP;clear CF CP;by_cases CI:r<R
  ·obtain⟨v1,EK⟩:∃v,v=u9:=⟨_,rfl⟩;obtain⟨w1,Fs⟩:∃w1,w1=wr:=⟨_,rfl⟩;subst Fs;rw[←EK]at HO;go_wp2
   go_loopw [9,11] (fun v i wr=>∃c:Nat,c≤C∧i=.int .i64 c∧KQ.Own wr w.heap.size v ((List.range (r*C+c)).map F)∧Bw w wr) (fun _ i _=>C-(intOf i).toNat)
   case atStart=>exact⟨0,Nat.zero_le _,rfl,by rw[←EK];exact HO.out,HB.out⟩
   case round=>
    clear HO;obtain⟨c,hc,rfl,CF,CP⟩:=hrel;have HO:=aH CF;have CL:=aH CP;clear CF CP;by_cases EF:c<C
    ·have HS:=aH (bQ F (r*C+c));rw[Hv.out r c EF]at HS;have Dh:=aH (show KQ.ok ⟨a,b,r,c⟩from⟨DL.out,Nw.out,(show ae (r:Int)by unfold ae;omega),(show ae (c:Int)by unfold ae;omega)⟩);have CV:=aH (show((List.range (r*C+c)).map F).length=r*C+c by simp);have hm:=Q2.out r hr;generalize (List.range (r*C+c)).map F=L at *;go_wp2_with (at_builtin;refine Lk.wpList_app (K:=KQ) _ rfl _ _ rfl rfl w.heap.size (wr.heap.size+1) _ _ L [⟨a,b,r,c⟩] rfl rfl (HO.out.alloc _) (Lk.IsL.lit (K:=KQ) _ ⟨a,b,r,c⟩ _ Dh.out rfl wr.heap.size rfl) ?c1 ?c2 ?_)
     case c1=>have:=CV.out;simp;omega
     case c2=>have:=CL.out.size;simp;omega
     intro v2 w3 CF hgrow _;have CS:=aH (Lk.Own.grow' (HO.out.alloc _) (bL CL.out _) (by have:=CL.out.size;simp;omega) hgrow);have Eo:=aH CF;clear CF hgrow;go_wp2
     go_roundw
     case rel=>exact⟨c+1,by omega,ai (by omega),by rw[←Nat.add_assoc,HS.out];exact Eo.out,CS.out⟩
     case measure=>simp[intOf];omega
    ·obtain rfl:c=C:=(by omega);go_wp2
     go_roundw
     case rel=>exact⟨r+1,by omega,ai (by omega),by rw[Nat.succ_mul];exact HO.out,CL.out⟩
     case measure=>simp[intOf];omega
  ·obtain rfl:r=R:=(by omega);go_wp2
   go_ret
   exact⟨_,rfl,by rw[HU.out];exact HO.out,HB.out⟩
end Go.Proofs.YtmecohdedghiaaaGreatDoor
