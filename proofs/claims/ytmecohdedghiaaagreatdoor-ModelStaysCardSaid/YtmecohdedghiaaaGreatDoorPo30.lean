/- Stocks: a deck's stock at first, as the reference tells it. -/
import Derived.Test.YtmecohdedghiaaaGreatDoorPo17
import Derived.Deep.Cut
set_option maxRecDepth 100000
set_option maxHeartbeats 8000000
open Go.Proofs.Tryz
namespace Go.Proofs.YtmecohdedghiaaaGreatDoor
open Go.RowKit
theorem tK (d:Dk) (w:World) (hd:d.In w w.heap.size):Calls prog 54 #[d.v] w fun e w'=>∃s:Stk,e=.returned (.tuple #[s.v,.int .i64 (aA d)])∧s.In w' w'.heap.size∧s.ab=(if aA d=0 then aB d else fP)∧Below w.heap.size w w'∧s.Far w.heap.size:=by
 obtain⟨w0,hw0⟩:∃w0,w0=(w.alloc d.ob).alloc zo:=⟨_,rfl⟩;have CG:=aH (gj hw0);have CR:=aH (hd.then CG.out);have DO:=aH (show dv w0 w.heap.size d by rw[hw0];exact(Cells4.new w _ _ _ _ _).below (bL (bR _ _) _));have DD:=aH (show Cells6 w0 (w.heap.size+1) (.slice none 0 0) (.slice none 0 0) (.slice none 0 0) (.int .i64 0) (.int .i64 0) (.int .i64 0)by
  have h:=Cells6.new (w.alloc d.ob) 41 (.slice none 0 0) (.slice none 0 0) (.slice none 0 0) (.int .i64 0) (.int .i64 0) (.int .i64 0);rw[←hw0,show(w.alloc d.ob).heap.size=w.heap.size+1 by simp]at h;exact h)
 have HZ:=aH (fun w h=>ls d w h);have Iy:=aH (fun w h=>mH d w h);clear hd;by_cases hz:aA d=0
 case neg=>
  rw[if_neg hz];generalize aA d=E at *;have GB:(E==0)=false:=by simpa using hz
  clear hz;go_enter func54,ntmps54;go_wp2_with fail;rw[←hw0];clear hw0;refine(HZ.out _ CR.out).mono ?_;rintro e w1 ⟨rfl,CE⟩;have CH:=aH (bC CG.out CE);have hr:=DD.out.below CE;have CU:=aH hr;obtain⟨r0,r1,r2,r3,r4,r5,y0,y1,y2,y3,y4,y5,_⟩:=hr;clear CE;go_wp2;have DA:=CU.out.set (.slice none 0 0) (.slice none 0 0) (.slice none 0 0) (.int .i64 0) (.int .i64 0) (.int .i64 0);obtain⟨q0,q1,q2,q3,q4,q5,_⟩:=DA;refine bP (v:=.tuple #[stk0.v,.int .i64 E]) ?_ rfl ?_
  ·simp[results,results54,go_sem,q0,q1,q2,q3,q4,q5,stk0]
  ·refine⟨stk0,rfl,ex _ _,rfl,?_,ee _⟩;exact aF CH.out (by omega) _ _ _ _ _ _
 rw[hz]at HZ⊢;rw[if_pos rfl];have LC:aJ d=0:=by
  unfold aA at hz;by_cases h:aJ d=0
  ·exact h
  ·rw[if_neg h]at hz;exact absurd hz h
 have Dh:=aH (aU d LC);have MH:ci d=(aC d.pl,bj d.rl,(d.bl.length:Int)-1):=by unfold ci;rw[if_pos LC]
 have Lq:=fr d Dh.out;have Jr:=ie d Dh.out;rw[MH]at Iy;dsimp only at Iy;rw[←Lq.1,←Jr.1]at Iy;have Hd:=aH Lq;have Km:=aH Jr;clear MH hz LC Lq Jr;go_enter func54,ntmps54;go_wp2_with fail;rw[←hw0];clear hw0;refine(HZ.out _ CR.out).mono ?_;rintro e w1 ⟨rfl,CE⟩;have CH:=aH (bC CG.out CE);have GC:=aH (DO.out.below CE);have CU:=aH (DD.out.below CE);have GQ:=aH (CR.out.then CE);obtain⟨d0,d1,d2,d3,_⟩:=GC.out;clear CE;obtain⟨v1,EK⟩:∃v1,v1=w1.alloc zo:=⟨_,rfl⟩;have CZ:=bL (bR w1.heap.size w1) zo;rw[←EK]at CZ;have Fo:=aH (bC CH.out CZ);have Qi:=aH (GC.out.below CZ);have G7:=aH (CU.out.below CZ);have Js:=aH (GQ.out.then CZ);have Hr:=aH (GQ.out.below CZ);have Ue:=Qi;have KM:=G7;have DM:=aH (show Cells6 v1 w1.heap.size (.slice none 0 0) (.slice none 0 0) (.slice none 0 0) (.int .i64 0) (.int .i64 0) (.int .i64 0)by rw[EK];exact Cells6.new w1 _ _ _ _ _ _ _);have Mm:=aH (show w.heap.size+1<w1.heap.size by obtain⟨_,_,_,_,_,_,_,_,_,_,_,_,h⟩:=CU.out;exact h);clear CZ CH GC CU GQ;go_wp2_with fail;rw[←EK];clear EK d0 d1 d2 d3;have Mq:=DM;obtain⟨D,hDD⟩:∃D,w1.heap.size=D:=⟨_,rfl⟩;rw[hDD]at Mq;rw[hDD]at DM Mm Hr;simp only[hDD];clear hDD;refine(Iy.out _ Js.out).mono ?_;rintro e w2 ⟨rfl,CM⟩;have CL:=aH (bC Fo.out CM);have FY:=aH (Qi.out.below CM);have CT:=aH (G7.out.below CM);have I8:=aH (Js.out.then CM);have DM:=aH (DM.out.below CM);have PM:=aH (show D≤v1.heap.size from Nat.le_of_lt (by obtain⟨_,_,_,_,_,_,_,_,_,_,_,_,h⟩:=Mq.out;exact h));have Hr:=aH (Hr.out.below (CM.mono PM.out));clear CM Qi G7 Js Fo;obtain⟨pA,hpA⟩:∃x,d.pA=x:=⟨_,rfl⟩;obtain⟨pn,Ev⟩:∃x,d.pn=x:=⟨_,rfl⟩;have EZ:=aH hpA;have GZ:=aH Ev;clear hpA Ev
 have Dv:=aH (show D<w2.heap.size by obtain⟨_,_,_,_,_,_,_,_,_,_,_,_,h⟩:=DM.out;exact h);have Ug:D<w2.heap.size:=Dv.out;obtain⟨d0,d1,d2,d3,_⟩:=FY.out;rw[EZ.out,GZ.out]at d1;have UA:=aH (fun(w:World)=>Lk.IsL.lit (K:=KL) w ⟨8,0,none,0,[]⟩ #[.int .i64 8,.int .i64 0,.slice none 0 0] ⟨by decide,by decide⟩ rfl);have Tv:=aH (show ∀(v:Value),(Value.slice none 0 0).ownBlock=some 0→False from fun _ h=>by cases h);go_wp2;clear d0 d1 d2 d3
 go_loopw [9] (fun i wr=>∃(n:Nat) (A1:Option Addr) (n1 c1:Nat) (A2:Option Addr) (n2 c2:Nat),i=.int .i64 n∧n≤d.pl.length∧Hid (Cells6 wr D (.slice A1 n1 c1) (.slice A2 n2 c2) (.slice none 0 0) (.int .i64 (Two.sumL (aK (bK d.pl n)))) (.int .i64 0) (.int .i64 0))∧Hid (KE.Own wr w2.heap.size (.slice A1 n1 c1) (bK d.pl n))∧
   Hid (KL.Own wr w2.heap.size (.slice A2 n2 c2) (List.replicate (bK d.pl n).length ⟨8,0,none,0,[]⟩))∧Hid (∀a b,(Value.slice A1 n1 c1).ownBlock=some a→(Value.slice A2 n2 c2).ownBlock=some b→a≠b)∧Hid (Below D w2 wr)) (fun i _=>d.pl.length-(intOf i).toNat)
 case atStart=>exact⟨0,none,0,0,none,0,0,rfl,Nat.zero_le _,DM,aH (Lk.Own.nil _ _),aH (Lk.Own.nil _ _),aH (fun a b h=>by cases h),aH (bR _ _)⟩
 case round=>
  obtain⟨n,A1,n1,c1,A2,n2,c2,rfl,hn,hD,hc,hl,hx,hb⟩:=hrel;have DM:=aH hD.out;have El:=aH hc.out;have DW:=aH hl.out;have HX:=aH hx.out;have Df:=aH hb.out;clear hD hc hl hx hb;have Pv:=aH (FY.out.low Df.out (by have:=Mm.out;omega));have Qa:=aH (Hr.out.below Df.out);obtain⟨d0,d1,d2,d3,_⟩:=Pv.out;rw[EZ.out,GZ.out]at d1;have Ev:=Hr.out.p.len;rw[GZ.out]at Ev;subst Ev;have TF:=Dh.out.p4;by_cases CI:n<d.pl.length
  ·obtain⟨b,off,hA,hb,hcp,CD⟩:=aQ Qa.out.p (by omega);obtain⟨p0,p1,p2,p3,p4,p5,p6⟩:=CD n CI;have Ec:=aH (eU d.pl n);have Jg:=aH (Dh.out.pl n CI);have G9:=aH (Hr.out.s _ (af d.pl n KP.dflt CI));have CV:=aH (fH d.pl Dh.out.pl n (by omega));have Nz:=aH ((fm d.pl (fun i hi=>bi (Dh.out.pl i hi)) n (by omega)).2);rw[EZ.out]at hA;subst hA;clear CD;have HR:=aH (dG d.pl Dh.out.pl n (by omega));generalize bK d.pl n=L at *;generalize hqq:d.pl.getD n KP.dflt=q at *;have IP:=aH (fN Jg.out);have Sf:=aH (j3 Jg.out);have Qu:=aH (fun i=>eb Jg.out i);have Sl:=aH (fun i=>show d8 q i=⟨q.cap,q.st.getD i 0,0⟩from rfl);have QG:=aH (show nD q=(List.range (ko q)).map (d8 q)from rfl);generalize nD q=PC at *;generalize ko q=pn at *;generalize hcA:d8 q=cA at *;clear hqq hcA;obtain⟨a1,a2,X,P,R,cap,sA,sn,sc,st⟩:=q;dsimp only at *;have Jm:b<wr.heap.size:=(by have:=Df.out.size;omega);have IO:Go.RowKit.wrap64 (a1*a2)=(pn:Int):=(by rw[←uM,bE _ (by have:=IP.out;unfold ae;omega)];exact IP.out.1.symm);have G5:=fun(w:World) (a:Addr) (m:Mode) (b:Nat)=>aq (P:=prog) (w:=w) (a:=a) (m:=m) .f64 b
   go_upto_region 10 with fail
   have JG:=bL (bR wr.heap.size wr) (.cells #[.int .i64 a1,.int .i64 a2,.float .f64 X,.float .f64 P,.float .f64 R,.int .i64 cap,.slice sA sn sc] 86);have Fa:=aH (show PlAt (wr.alloc (.cells #[.int .i64 a1,.int .i64 a2,.float .f64 X,.float .f64 P,.float .f64 R,.int .i64 cap,.slice sA sn sc] 86)) wr.heap.size a1 a2 cap (.slice sA sn sc)from⟨by simp[go_sem],by simp[go_sem],by simp[go_sem],by simp[go_sem],by simp⟩);generalize wr.alloc (.cells #[.int .i64 a1,.int .i64 a2,.float .f64 X,.float .f64 P,.float .f64 R,.int .i64 cap,.slice sA sn sc] 86)=V0 at *;obtain⟨Pb,hPb⟩:∃Pb,wr.heap.size=Pb:=⟨_,rfl⟩;have Pe:=G9.out.len;have D0:=aH (DM.out.below JG);have E0:=aH (El.out.below JG);have F0:=aH (DW.out.below JG);have B0:=aH (Df.out.trans (JG.mono (Nat.le_trans (Nat.le_of_lt Dv.out) Df.out.size)));have LY:=aH (show D≠Pb from by have:=Df.out.size;have:=Dv.out;omega);have Um:=aH (show Pb<V0.heap.size from by obtain⟨_,_,_,_,h⟩:=Fa.out;rw[←hPb];exact h);have ID:=aH (show(∀a,(Value.slice A1 n1 c1).ownBlock=some a→a≠Pb)∧(∀a,(Value.slice A2 n2 c2).ownBlock=some a→a≠Pb)from⟨fun a h=>by have:=(El.out.lt a h).2;omega,fun a h=>by have:=(DW.out.lt a h).2;omega⟩);rw[hPb]at Fa;simp only[hPb];have UH:=aH hPb;have Fo:=aH JG;subst Pe;clear JG hPb p0 p1 p2 p3 p4 p5 p6 d0 d1 d2 d3;obtain⟨t0,t1,t5,t6,tl⟩:=Fa.out;have CN:=aH (show(List.range 0).map cA=[]from rfl);go_wp2;clear t0 t1 t5 t6 tl
   go_loopw [11] (fun i wx=>∃(j:Nat) (A1:Option Addr) (n1 c1:Nat) (A2:Option Addr) (n2 c2:Nat),i=.int .i64 j∧j≤pn∧Hid (Cells6 wx D (.slice A1 n1 c1) (.slice A2 n2 c2) (.slice none 0 0) (.int .i64 (Two.sumL (aK (L++(List.range j).map cA)))) (.int .i64 0) (.int .i64 0))∧Hid (KE.Own wx w2.heap.size (.slice A1 n1 c1) (L++(List.range j).map cA))∧
     Hid (KL.Own wx w2.heap.size (.slice A2 n2 c2) (List.replicate (L.length+j) ⟨8,0,none,0,[]⟩))∧Hid (∀a b,(Value.slice A1 n1 c1).ownBlock=some a→(Value.slice A2 n2 c2).ownBlock=some b→a≠b)∧
     Hid ((∀a,(Value.slice A1 n1 c1).ownBlock=some a→a≠Pb)∧(∀a,(Value.slice A2 n2 c2).ownBlock=some a→a≠Pb))∧Hid (PlAt wx Pb a1 a2 cap (.slice sA st.length sc))∧Hid (Below D w2 wx)) (fun i _=>pn-(intOf i).toNat)
   case atStart=>exact⟨0,A1,n1,c1,A2,n2,c2,rfl,Nat.zero_le _,by rw[CN.out,List.append_nil];exact D0,by rw[CN.out,List.append_nil];exact E0,F0,HX,ID,Fa,B0⟩
   case round=>
    clear DM El DW HX Df Pv Qa D0 E0 F0 B0 ID Fa Fo;obtain⟨j,A1,n1,c1,A2,n2,c2,rfl,hj,hD,hc,hl,hx,hpo,FT,hb⟩:=hrel;have DM:=aH hD.out;have El:=aH hc.out;have DW:=aH hl.out;have HX:=aH hx.out;have ID:=aH hpo.out;have Fa:=aH FT.out;have Df:=aH hb.out;clear hD hc hl hx hpo FT hb;obtain⟨t0,t1,t5,t6,tl⟩:=Fa.out;have Uk:pn≤1536:=IP.out.2.2.1;by_cases EF:j<pn
    ·have Ek:=aH (show(List.range (j+1)).map cA=(List.range j).map cA++[cA j]by rw[List.range_succ,List.map_append];rfl);have JZ:=Sl.out j;have Fz:=aH (Qu.out j);by_cases FI:j<st.length
     ·obtain⟨b2,off2,cap',hs',_,CM,_,hcell2,_⟩:=KI.cells (G9.out.below Df.out) (by omega);simp only[Value.slice.injEq]at hs';obtain⟨rfl,_,rfl⟩:=hs';have e1:=hcell2 j FI;have TR:b2<wr.heap.size:=(by have:=Df.out.size;have:=Dv.out;omega);clear hcell2;rw[JZ]at Ek Fz;clear JZ;generalize st.getD j 0=vol at *
      go_upto_region 16 with fail
      clear t0 t1 t5 t6 tl;have CZ:=bL (bR wr.heap.size wr) (.cells #[.int .i64 cap,.int .i64 vol,.int .i64 0] 70);have CA:=aH (Cells3.new wr 70 (.int .i64 cap) (.int .i64 vol) (.int .i64 0));generalize wr.alloc (.cells #[.int .i64 cap,.int .i64 vol,.int .i64 0] 70)=V1 at *;have D1:=aH (DM.out.below CZ);have E1:=aH (El.out.below CZ);have F1:=aH (DW.out.below CZ);have P1:=aH (Fa.out.below CZ);have F6:w2.heap.size≤wr.heap.size:=Df.out.size;have B1:=aH (Df.out.trans (CZ.mono (Nat.le_trans (Nat.le_of_lt Dv.out) F6)));have S1:=aH (Nat.le_trans F6 CZ.size);obtain⟨Ab,hAb⟩:∃Ab,wr.heap.size=Ab:=⟨_,rfl⟩;have ML:Ab≠D:=(by have:=Dv.out;omega);have JL:∀a,(Value.slice A1 n1 c1).ownBlock=some a→a≠Ab:=fun a h=>(by have:=(El.out.lt a h).2;omega);have EX:∀a,(Value.slice A2 n2 c2).ownBlock=some a→a≠Ab:=fun a h=>(by have:=(DW.out.lt a h).2;omega);have JB:=aH ML;have Dl:=aH JL;have DC:=aH EX;rw[hAb]at CA;simp only[hAb];clear CZ F6 hAb ML JL EX DM El DW Fa Df;have Ns:=eZ (L++(List.range j).map cA) (fun x hx=>by
       rcases List.mem_append.1 hx with hx|hx
       ·exact HR.out x hx
       ·obtain⟨i,_,rfl⟩:=List.mem_map.1 hx;exact Qu.out i)
      have Db:(L++(List.range j).map cA).length=L.length+j:=(by simp);have PR:(L.length:Int)≤6144:=(by have:=CV.out;have:=Nz.out;omega);have Ev:=IP.out.2.2.1;have EU:=aH (show Two.sumL (aK (L++(List.range j).map cA++[⟨cap,vol,0⟩]))=Two.sumL (aK (L++(List.range j).map cA))+vol by rw[show aK (L++(List.range j).map cA++[⟨cap,vol,0⟩])=aK (L++(List.range j).map cA)++[vol]by simp[aK],Two.sumL_snoc]);have GX:=aH (show L++(List.range (j+1)).map cA=L++(List.range j).map cA++[⟨cap,vol,0⟩]by rw[Ek.out,List.append_assoc]);clear Ek;rw[Db]at Ns;have FC:(L++(List.range j).map cA).length≤8000:=(by rw[Db];omega);generalize L++(List.range j).map cA=LJ at *;generalize Two.sumL (aK LJ)=S0 at *;have De:KE.ok ⟨cap,vol,0⟩:=eB Fz.out;have Hj:Go.RowKit.wrap64 (S0+vol)=S0+vol:=(by rw[←uM];exact bE _ (by have h2:=Fz.out.2.2.1;have h3:=Fz.out.2.2.2.1;have h4:=Fz.out.2.1;dsimp only at h2 h3 h4;unfold ae;omega));have Px:=aH Hj;have Lc:=aH De;have DJ:=aH FC;have Nd:=aH (show L.length+j≤8000 by omega);clear Ns Db PR Hj De FC Ev IO;obtain⟨a0,a1',a2',_⟩:=CA.out;obtain⟨e0,e1',e2,e3,e4,e5,y0,y1,y2,y3,y4,y5,yl⟩:=D1.out;clear e1' e2 e3 e4 e5 y0 y1 y2 y3 y4 y5 yl;go_wp2_with (at_builtin;refine Lk.wpList_app (K:=KE) _ rfl _ _ rfl rfl w2.heap.size (V1.heap.size+1) _ _ LJ [⟨cap,vol,0⟩] rfl rfl (E1.out.alloc _) (Lk.IsL.lit (K:=KE) _ ⟨cap,vol,0⟩ _ Lc.out rfl V1.heap.size rfl) ?c1 ?c2 ?_)
      case c1=>have:=DJ.out;simp;omega
      case c2=>have:=S1.out;simp;omega
      intro vN V2 CF hg hnb;obtain⟨A3,c3,hv3,_⟩:=(CF.isL (by have:=DJ.out;simp;omega)).shape;obtain⟨n3,hn3⟩:∃n,(LJ++[(⟨cap,vol,0⟩:Cel.Ce)]).length=n:=⟨_,rfl⟩;rw[hn3]at hv3;subst hv3;clear hn3 e0 a0 a1' a2';have C7:=bL (bR V1.heap.size V1) (.cells #[.int .i64 cap,.int .i64 vol,.int .i64 0] 70);have Hf:D<V1.heap.size:=(by have:=Dv.out;have:=S1.out;omega);have Le:Pb<V1.heap.size:=P1.out.2.2.2.2;have Ld:Ab<V1.heap.size:=(by obtain⟨_,_,_,_,_,_,h⟩:=CA.out;exact h);have D2:=aH ((D1.out.below C7).grown hg (fun h=>by have:=(E1.out.lt D h.symm).1;have:=Dv.out;omega));have F2:=aH ((F1.out.below C7).kept hg (by
       match h:(Value.slice A2 n2 c2).ownBlock with
       |none=>exact Or.inl rfl
       |some b=>exact Or.inr (fun h2=>HX.out b b h2.symm h rfl)))
      have P2:=aH ((P1.out.below C7).grown hg (fun h=>ID.out.1 Pb h.symm rfl));have C2:=aH ((CA.out.below C7).grown hg (fun h=>Dl.out Ab h.symm rfl));have B2:=aH ((B1.out.trans (C7.mono (Nat.le_of_lt Hf))).grown hg (by have:=S1.out;simp;omega) (fun k hk=>by have:=(E1.out.lt k hk).1;have:=Dv.out;omega));have S2:=aH (Nat.le_trans S1.out (Nat.le_trans C7.size hg.size));have E2:=aH CF;have Et:=aH (show ∀a b,(Value.slice A3 n3 c3).ownBlock=some a→(Value.slice A2 n2 c2).ownBlock=some b→a≠b from fun a b h1 h2=>by
       rcases hnb with h|h
       ·exact HX.out a b (by rw[←h];exact h1) h2
       ·rw[h]at h1;cases h1;have:=(F1.out.lt b h2).2;simp;omega)
      have Ei:=aH (show ∀a,(Value.slice A3 n3 c3).ownBlock=some a→a≠Pb∧a≠Ab from fun a h1=>by
       rcases hnb with h|h
       ·exact⟨ID.out.1 a (by rw[←h];exact h1),Dl.out a (by rw[←h];exact h1)⟩
       ·rw[h]at h1;cases h1;exact⟨by simp;omega,by simp;omega⟩)
      clear CF hg hnb C7 Hf Le Ld D1 E1 F1 P1 B1 S1 CA HX Dl;obtain⟨e0,e1',e2,e3,e4,e5,y0,y1,y2,y3,y4,y5,yl⟩:=D2.out;clear e1' e2 e3 e4 e5 y1 y2 y3 y4 y5 yl
      go_upto_region 17 with fail
      clear e0 y0;have D3:=aH (D2.out.s (.slice A3 n3 c3)).1;have DR:∀a,w2.heap.size≤a→a≠D:=fun a h=>(by have:=Dv.out;omega);have E3:=aH (E2.out.far (D:=D) (fun k hk=>DR k (E2.out.lt k hk).1) 0 (.slice A3 n3 c3));have F3:=aH (F2.out.far (D:=D) (fun k hk=>DR k (F2.out.lt k hk).1) 0 (.slice A3 n3 c3));have P3:=aH (P2.out.off (o:=0) LY.out (.slice A3 n3 c3));have C3:=aH (C2.out.off (o:=0) JB.out.symm (.slice A3 n3 c3));have B3:=aH (show Below D w2 (V2.setCell ⟨D,0,none⟩ (.slice A3 n3 c3))from B2.out.setCell (nR _) _);have S3:=aH (show w2.heap.size≤(V2.setCell ⟨D,0,none⟩ (.slice A3 n3 c3)).heap.size by simpa using S2.out);clear D2 E2 F2 P2 C2 B2 S2 DR;generalize V2.setCell ⟨D,0,none⟩ (.slice A3 n3 c3)=V3 at *;obtain⟨e0,e1',e2,e3,e4,e5,y0,y1,y2,y3,y4,y5,yl⟩:=D3.out;clear e0 e2 e3 e4 e5 y0 y2 y3 y4 y5 yl;go_wp2_with (at_builtin;refine Lk.wpList_app (K:=KL) _ rfl _ _ rfl rfl w2.heap.size (V3.heap.size+1) _ _ (List.replicate (L.length+j) ⟨8,0,none,0,[]⟩) [⟨8,0,none,0,[]⟩] rfl rfl (F3.out.alloc _) (Lk.IsL.lit (K:=KL) _ ⟨8,0,none,0,[]⟩ _ ⟨by decide,by decide⟩ rfl V3.heap.size rfl) ?d1 ?d2 ?_)
      case d1=>have:=Nd.out;simp;omega
      case d2=>have:=S3.out;simp;omega
      intro vN V4 CF hg hnb;have CF:KL.Own V4 w2.heap.size vN (List.replicate (L.length+(j+1)) ⟨8,0,none,0,[]⟩):=(by rw[←Nat.add_assoc,List.replicate_succ'];exact CF);obtain⟨A4,c4,hv4,_⟩:=(CF.isL (by have:=Nd.out;simp;omega)).shape;obtain⟨n4,hn4⟩:∃n,(List.replicate (L.length+(j+1)) (⟨8,0,none,0,[]⟩:Lo)).length=n:=⟨_,rfl⟩;rw[hn4]at hv4;subst hv4;clear hn4 e1' y1;have C7:=bL (bR V3.heap.size V3) (.cells #[.int .i64 8,.int .i64 0,.slice none 0 0] 115);have Hf:D<V3.heap.size:=(by have:=Dv.out;have:=S3.out;omega);have Le:Pb<V3.heap.size:=P3.out.2.2.2.2;have Ld:Ab<V3.heap.size:=(by obtain⟨_,_,_,_,_,_,h⟩:=C3.out;exact h);have D4:=aH ((D3.out.below C7).grown hg (fun h=>by have:=(F3.out.lt D h.symm).1;have:=Dv.out;omega));have E4:=aH ((E3.out.below C7).kept hg (by
       match h:(Value.slice A3 n3 c3).ownBlock with
       |none=>exact Or.inl rfl
       |some b=>exact Or.inr (fun h2=>Et.out b b h h2.symm rfl)))
      have P4:=aH ((P3.out.below C7).grown hg (fun h=>ID.out.2 Pb h.symm rfl));have C4:=aH ((C3.out.below C7).grown hg (fun h=>DC.out Ab h.symm rfl));have B4:=aH ((B3.out.trans (C7.mono (Nat.le_of_lt Hf))).grown hg (by have:=S3.out;simp;omega) (fun k hk=>by have:=(F3.out.lt k hk).1;have:=Dv.out;omega));have F4:=aH CF;have PF:=aH (show ∀a b,(Value.slice A3 n3 c3).ownBlock=some a→(Value.slice A4 n4 c4).ownBlock=some b→a≠b from fun a b h1 h2=>by
       rcases hnb with h|h
       ·exact Et.out a b h1 (by rw[←h];exact h2)
       ·rw[h]at h2;cases h2;have:=(E3.out.lt a h1).2;simp;omega)
      have Ff:=aH (show ∀a,(Value.slice A4 n4 c4).ownBlock=some a→a≠Pb from fun a h1=>by
       rcases hnb with h|h
       ·exact ID.out.2 a (by rw[←h];exact h1)
       ·rw[h]at h1;cases h1;simp;omega)
      clear CF hg hnb C7 Hf Le Ld D3 E3 F3 P3 B3 S3 C3 Et DC;obtain⟨e0,e1',e2,e3,e4,e5,y0,y1,y2,y3,y4,y5,yl⟩:=D4.out;clear e0 e2 e3 e4 e5 y0 y2 y3 y4 y5 yl
      go_upto_region 18 with fail
      clear e1' y1;have D5:=aH (D4.out.s (.slice A4 n4 c4)).2.1;have DR:∀a,w2.heap.size≤a→a≠D:=fun a h=>(by have:=Dv.out;omega);have E5:=aH (E4.out.far (D:=D) (fun k hk=>DR k (E4.out.lt k hk).1) 1 (.slice A4 n4 c4));have F5:=aH (F4.out.far (D:=D) (fun k hk=>DR k (F4.out.lt k hk).1) 1 (.slice A4 n4 c4));have P5:=aH (P4.out.off (o:=1) LY.out (.slice A4 n4 c4));have C5:=aH (C4.out.off (o:=1) JB.out.symm (.slice A4 n4 c4));have B5:=aH (show Below D w2 (V4.setCell ⟨D,1,none⟩ (.slice A4 n4 c4))from B4.out.setCell (nR _) _);clear D4 E4 F4 P4 C4 B4;generalize V4.setCell ⟨D,1,none⟩ (.slice A4 n4 c4)=V5 at *;obtain⟨e0,e1',e2,e3,e4,e5,y0,y1,y2,y3,y4,y5,yl⟩:=D5.out;obtain⟨a0,a1',a2',_⟩:=C5.out;clear e0 e1' e2 e4 e5 y0 y1 y2 y4 y5 yl a0 a2';have Hj:=Px.out;go_wp2;clear Hj
      go_roundw
      case rel=>
       have D6:=(D5.out.s (.int .i64 (S0+vol))).2.2.2.1;refine⟨j+1,A3,n3,c3,A4,n4,c4,ai (by omega),by omega,?_,?_,?_,PF,aH ⟨fun a h=>(Ei.out a h).1,Ff.out⟩,aH (P5.out.off (o:=3) LY.out _),aH (B5.out.setCell (nR _) _)⟩
       ·rw[GX.out,EU.out];exact aH D6
       ·rw[GX.out];exact aH (E5.out.far (D:=D) (fun k hk=>DR k (E5.out.lt k hk).1) 3 _)
       ·exact aH (F5.out.far (D:=D) (fun k hk=>DR k (F5.out.lt k hk).1) 3 _)
      case measure=>simp[intOf];omega
     ·rw[JZ,jR st j FI]at Ek Fz;clear JZ
      go_upto_region 16 with fail
      clear t0 t1 t5 t6 tl;have CZ:=bL (bR wr.heap.size wr) (.cells #[.int .i64 cap,.int .i64 0,.int .i64 0] 70);have CA:=aH (Cells3.new wr 70 (.int .i64 cap) (.int .i64 0) (.int .i64 0));generalize wr.alloc (.cells #[.int .i64 cap,.int .i64 0,.int .i64 0] 70)=V1 at *;have D1:=aH (DM.out.below CZ);have E1:=aH (El.out.below CZ);have F1:=aH (DW.out.below CZ);have P1:=aH (Fa.out.below CZ);have F6:w2.heap.size≤wr.heap.size:=Df.out.size;have B1:=aH (Df.out.trans (CZ.mono (Nat.le_trans (Nat.le_of_lt Dv.out) F6)));have S1:=aH (Nat.le_trans F6 CZ.size);obtain⟨Ab,hAb⟩:∃Ab,wr.heap.size=Ab:=⟨_,rfl⟩;have ML:Ab≠D:=(by have:=Dv.out;omega);have JL:∀a,(Value.slice A1 n1 c1).ownBlock=some a→a≠Ab:=fun a h=>(by have:=(El.out.lt a h).2;omega);have EX:∀a,(Value.slice A2 n2 c2).ownBlock=some a→a≠Ab:=fun a h=>(by have:=(DW.out.lt a h).2;omega);have JB:=aH ML;have Dl:=aH JL;have DC:=aH EX;rw[hAb]at CA;simp only[hAb];clear CZ F6 hAb ML JL EX DM El DW Fa Df;have Ns:=eZ (L++(List.range j).map cA) (fun x hx=>by
       rcases List.mem_append.1 hx with hx|hx
       ·exact HR.out x hx
       ·obtain⟨i,_,rfl⟩:=List.mem_map.1 hx;exact Qu.out i)
      have Db:(L++(List.range j).map cA).length=L.length+j:=(by simp);have PR:(L.length:Int)≤6144:=(by have:=CV.out;have:=Nz.out;omega);have Ev:=IP.out.2.2.1;have EU:=aH (show Two.sumL (aK (L++(List.range j).map cA++[⟨cap,0,0⟩]))=Two.sumL (aK (L++(List.range j).map cA))by rw[show aK (L++(List.range j).map cA++[⟨cap,0,0⟩])=aK (L++(List.range j).map cA)++[0]by simp[aK],Two.sumL_snoc,Int.add_zero]);have GX:=aH (show L++(List.range (j+1)).map cA=L++(List.range j).map cA++[⟨cap,0,0⟩]by rw[Ek.out,List.append_assoc]);clear Ek;rw[Db]at Ns;have FC:(L++(List.range j).map cA).length≤8000:=(by rw[Db];omega);generalize L++(List.range j).map cA=LJ at *;generalize Two.sumL (aK LJ)=S0 at *;have De:KE.ok ⟨cap,0,0⟩:=eB Fz.out;have Hj:Go.RowKit.wrap64 (S0)=S0:=(by rw[←uM];exact bE _ (by have h2:=Fz.out.2.2.1;have h3:=Fz.out.2.2.2.1;have h4:=Fz.out.2.1;dsimp only at h2 h3 h4;unfold ae;omega));have Px:=aH Hj;have Lc:=aH De;have DJ:=aH FC;have Nd:=aH (show L.length+j≤8000 by omega);clear Ns Db PR Hj De FC Ev IO;obtain⟨a0,a1',a2',_⟩:=CA.out;obtain⟨e0,e1',e2,e3,e4,e5,y0,y1,y2,y3,y4,y5,yl⟩:=D1.out;clear e1' e2 e3 e4 e5 y0 y1 y2 y3 y4 y5 yl;go_wp2_with (at_builtin;refine Lk.wpList_app (K:=KE) _ rfl _ _ rfl rfl w2.heap.size (V1.heap.size+1) _ _ LJ [⟨cap,0,0⟩] rfl rfl (E1.out.alloc _) (Lk.IsL.lit (K:=KE) _ ⟨cap,0,0⟩ _ Lc.out rfl V1.heap.size rfl) ?c1 ?c2 ?_)
      case c1=>have:=DJ.out;simp;omega
      case c2=>have:=S1.out;simp;omega
      intro vN V2 CF hg hnb;obtain⟨A3,c3,hv3,_⟩:=(CF.isL (by have:=DJ.out;simp;omega)).shape;obtain⟨n3,hn3⟩:∃n,(LJ++[(⟨cap,0,0⟩:Cel.Ce)]).length=n:=⟨_,rfl⟩;rw[hn3]at hv3;subst hv3;clear hn3 e0 a0 a1' a2';have C7:=bL (bR V1.heap.size V1) (.cells #[.int .i64 cap,.int .i64 0,.int .i64 0] 70);have Hf:D<V1.heap.size:=(by have:=Dv.out;have:=S1.out;omega);have Le:Pb<V1.heap.size:=P1.out.2.2.2.2;have Ld:Ab<V1.heap.size:=(by obtain⟨_,_,_,_,_,_,h⟩:=CA.out;exact h);have D2:=aH ((D1.out.below C7).grown hg (fun h=>by have:=(E1.out.lt D h.symm).1;have:=Dv.out;omega));have F2:=aH ((F1.out.below C7).kept hg (by
       match h:(Value.slice A2 n2 c2).ownBlock with
       |none=>exact Or.inl rfl
       |some b=>exact Or.inr (fun h2=>HX.out b b h2.symm h rfl)))
      have P2:=aH ((P1.out.below C7).grown hg (fun h=>ID.out.1 Pb h.symm rfl));have C2:=aH ((CA.out.below C7).grown hg (fun h=>Dl.out Ab h.symm rfl));have B2:=aH ((B1.out.trans (C7.mono (Nat.le_of_lt Hf))).grown hg (by have:=S1.out;simp;omega) (fun k hk=>by have:=(E1.out.lt k hk).1;have:=Dv.out;omega));have S2:=aH (Nat.le_trans S1.out (Nat.le_trans C7.size hg.size));have E2:=aH CF;have Et:=aH (show ∀a b,(Value.slice A3 n3 c3).ownBlock=some a→(Value.slice A2 n2 c2).ownBlock=some b→a≠b from fun a b h1 h2=>by
       rcases hnb with h|h
       ·exact HX.out a b (by rw[←h];exact h1) h2
       ·rw[h]at h1;cases h1;have:=(F1.out.lt b h2).2;simp;omega)
      have Ei:=aH (show ∀a,(Value.slice A3 n3 c3).ownBlock=some a→a≠Pb∧a≠Ab from fun a h1=>by
       rcases hnb with h|h
       ·exact⟨ID.out.1 a (by rw[←h];exact h1),Dl.out a (by rw[←h];exact h1)⟩
       ·rw[h]at h1;cases h1;exact⟨by simp;omega,by simp;omega⟩)
      clear CF hg hnb C7 Hf Le Ld D1 E1 F1 P1 B1 S1 CA HX Dl;obtain⟨e0,e1',e2,e3,e4,e5,y0,y1,y2,y3,y4,y5,yl⟩:=D2.out;clear e1' e2 e3 e4 e5 y1 y2 y3 y4 y5 yl
      go_upto_region 17 with fail
      clear e0 y0;have D3:=aH (D2.out.s (.slice A3 n3 c3)).1;have DR:∀a,w2.heap.size≤a→a≠D:=fun a h=>(by have:=Dv.out;omega);have E3:=aH (E2.out.far (D:=D) (fun k hk=>DR k (E2.out.lt k hk).1) 0 (.slice A3 n3 c3));have F3:=aH (F2.out.far (D:=D) (fun k hk=>DR k (F2.out.lt k hk).1) 0 (.slice A3 n3 c3));have P3:=aH (P2.out.off (o:=0) LY.out (.slice A3 n3 c3));have C3:=aH (C2.out.off (o:=0) JB.out.symm (.slice A3 n3 c3));have B3:=aH (show Below D w2 (V2.setCell ⟨D,0,none⟩ (.slice A3 n3 c3))from B2.out.setCell (nR _) _);have S3:=aH (show w2.heap.size≤(V2.setCell ⟨D,0,none⟩ (.slice A3 n3 c3)).heap.size by simpa using S2.out);clear D2 E2 F2 P2 C2 B2 S2 DR;generalize V2.setCell ⟨D,0,none⟩ (.slice A3 n3 c3)=V3 at *;obtain⟨e0,e1',e2,e3,e4,e5,y0,y1,y2,y3,y4,y5,yl⟩:=D3.out;clear e0 e2 e3 e4 e5 y0 y2 y3 y4 y5 yl;go_wp2_with (at_builtin;refine Lk.wpList_app (K:=KL) _ rfl _ _ rfl rfl w2.heap.size (V3.heap.size+1) _ _ (List.replicate (L.length+j) ⟨8,0,none,0,[]⟩) [⟨8,0,none,0,[]⟩] rfl rfl (F3.out.alloc _) (Lk.IsL.lit (K:=KL) _ ⟨8,0,none,0,[]⟩ _ ⟨by decide,by decide⟩ rfl V3.heap.size rfl) ?d1 ?d2 ?_)
      case d1=>have:=Nd.out;simp;omega
      case d2=>have:=S3.out;simp;omega
      intro vN V4 CF hg hnb;have CF:KL.Own V4 w2.heap.size vN (List.replicate (L.length+(j+1)) ⟨8,0,none,0,[]⟩):=(by rw[←Nat.add_assoc,List.replicate_succ'];exact CF);obtain⟨A4,c4,hv4,_⟩:=(CF.isL (by have:=Nd.out;simp;omega)).shape;obtain⟨n4,hn4⟩:∃n,(List.replicate (L.length+(j+1)) (⟨8,0,none,0,[]⟩:Lo)).length=n:=⟨_,rfl⟩;rw[hn4]at hv4;subst hv4;clear hn4 e1' y1;have C7:=bL (bR V3.heap.size V3) (.cells #[.int .i64 8,.int .i64 0,.slice none 0 0] 115);have Hf:D<V3.heap.size:=(by have:=Dv.out;have:=S3.out;omega);have Le:Pb<V3.heap.size:=P3.out.2.2.2.2;have Ld:Ab<V3.heap.size:=(by obtain⟨_,_,_,_,_,_,h⟩:=C3.out;exact h);have D4:=aH ((D3.out.below C7).grown hg (fun h=>by have:=(F3.out.lt D h.symm).1;have:=Dv.out;omega));have E4:=aH ((E3.out.below C7).kept hg (by
       match h:(Value.slice A3 n3 c3).ownBlock with
       |none=>exact Or.inl rfl
       |some b=>exact Or.inr (fun h2=>Et.out b b h h2.symm rfl)))
      have P4:=aH ((P3.out.below C7).grown hg (fun h=>ID.out.2 Pb h.symm rfl));have C4:=aH ((C3.out.below C7).grown hg (fun h=>DC.out Ab h.symm rfl));have B4:=aH ((B3.out.trans (C7.mono (Nat.le_of_lt Hf))).grown hg (by have:=S3.out;simp;omega) (fun k hk=>by have:=(F3.out.lt k hk).1;have:=Dv.out;omega));have F4:=aH CF;have PF:=aH (show ∀a b,(Value.slice A3 n3 c3).ownBlock=some a→(Value.slice A4 n4 c4).ownBlock=some b→a≠b from fun a b h1 h2=>by
       rcases hnb with h|h
       ·exact Et.out a b h1 (by rw[←h];exact h2)
       ·rw[h]at h2;cases h2;have:=(E3.out.lt a h1).2;simp;omega)
      have Ff:=aH (show ∀a,(Value.slice A4 n4 c4).ownBlock=some a→a≠Pb from fun a h1=>by
       rcases hnb with h|h
       ·exact ID.out.2 a (by rw[←h];exact h1)
       ·rw[h]at h1;cases h1;simp;omega)
      clear CF hg hnb C7 Hf Le Ld D3 E3 F3 P3 B3 S3 C3 Et DC;obtain⟨e0,e1',e2,e3,e4,e5,y0,y1,y2,y3,y4,y5,yl⟩:=D4.out;clear e0 e2 e3 e4 e5 y0 y2 y3 y4 y5 yl
      go_upto_region 18 with fail
      clear e1' y1;have D5:=aH (D4.out.s (.slice A4 n4 c4)).2.1;have DR:∀a,w2.heap.size≤a→a≠D:=fun a h=>(by have:=Dv.out;omega);have E5:=aH (E4.out.far (D:=D) (fun k hk=>DR k (E4.out.lt k hk).1) 1 (.slice A4 n4 c4));have F5:=aH (F4.out.far (D:=D) (fun k hk=>DR k (F4.out.lt k hk).1) 1 (.slice A4 n4 c4));have P5:=aH (P4.out.off (o:=1) LY.out (.slice A4 n4 c4));have C5:=aH (C4.out.off (o:=1) JB.out.symm (.slice A4 n4 c4));have B5:=aH (show Below D w2 (V4.setCell ⟨D,1,none⟩ (.slice A4 n4 c4))from B4.out.setCell (nR _) _);clear D4 E4 F4 P4 C4 B4;generalize V4.setCell ⟨D,1,none⟩ (.slice A4 n4 c4)=V5 at *;obtain⟨e0,e1',e2,e3,e4,e5,y0,y1,y2,y3,y4,y5,yl⟩:=D5.out;obtain⟨a0,a1',a2',_⟩:=C5.out;clear e0 e1' e2 e4 e5 y0 y1 y2 y4 y5 yl a0 a2';have Hj:=Px.out;go_wp2;clear Hj
      go_roundw
      case rel=>
       have D6:=(D5.out.s (.int .i64 (S0))).2.2.2.1;refine⟨j+1,A3,n3,c3,A4,n4,c4,ai (by omega),by omega,?_,?_,?_,PF,aH ⟨fun a h=>(Ei.out a h).1,Ff.out⟩,aH (P5.out.off (o:=3) LY.out _),aH (B5.out.setCell (nR _) _)⟩
       ·rw[GX.out,EU.out];exact aH D6
       ·rw[GX.out];exact aH (E5.out.far (D:=D) (fun k hk=>DR k (E5.out.lt k hk).1) 3 _)
       ·exact aH (F5.out.far (D:=D) (fun k hk=>DR k (F5.out.lt k hk).1) 3 _)
      case measure=>simp[intOf];omega
    ·obtain rfl:j=pn:=(by omega);rw[←QG.out,←Ec.out]at DM El;go_wp2
     go_roundw
     case rel=>exact⟨n+1,A1,n1,c1,A2,n2,c2,ai (by omega),by omega,DM,El,by rw[Ec.out,List.length_append,QG.out,List.length_map,List.length_range];exact DW,HX,Df⟩
     case measure=>simp[intOf];omega
  ·obtain rfl:n=d.pl.length:=(by omega);have GS:=aH Hd.out.2.2;have SF:au d≤384:=Hd.out.2.1;have Sc:bm d≤384:=Km.out.2;rw[GS.out]at DW;have Hm:=aH (show aB d=⟨bK d.pl d.pl.length,List.replicate (au d) (8,0,[]),List.replicate (bm d) (1,0),Two.sumL (aK (bK d.pl d.pl.length)),0,0⟩from rfl);have LW:=aH (eZ _ (dG d.pl Dh.out.pl d.pl.length (nR _)));generalize bK d.pl d.pl.length=cl at *;generalize Two.sumL (aK cl)=S0 at *;generalize hWn:au d=WN at *;generalize hTn:bm d=TN at *;have Qz:ae S0:=(by have:=LW.out;rw[GS.out]at this;unfold ae;omega);have Nq:=aH Qz;clear hWn hTn Dh Hd Km Iy Qz LW Pv Qa FY EZ GZ;go_wp2;clear d0 d1 d2 d3
   go_loopw [13] (fun i wy=>∃(j:Nat) (A3:Option Addr) (n3 c3:Nat),i=.int .i64 j∧j≤TN∧Hid (Cells6 wy D (.slice A1 n1 c1) (.slice A2 n2 c2) (.slice A3 n3 c3) (.int .i64 S0) (.int .i64 0) (.int .i64 0))∧Hid (KE.Own wy w2.heap.size (.slice A1 n1 c1) cl)∧
     Hid (KL.Own wy w2.heap.size (.slice A2 n2 c2) (List.replicate WN ⟨8,0,none,0,[]⟩))∧Hid (KT.Own wy w2.heap.size (.slice A3 n3 c3) (List.replicate j (1,0)))∧
     Hid (∀a b,(Value.slice A3 n3 c3).ownBlock=some a→((Value.slice A1 n1 c1).ownBlock=some b∨(Value.slice A2 n2 c2).ownBlock=some b)→a≠b)∧Hid (Below D w2 wy)) (fun i _=>TN-(intOf i).toNat)
   case atStart=>exact⟨0,none,0,0,rfl,Nat.zero_le _,DM,El,DW,aH (Lk.Own.nil _ _),aH (fun a b h=>by cases h),Df⟩
   case round=>
    clear DM El DW Df;obtain⟨j,A3,n3,c3,rfl,hj,hD,hc,hl,ht,hx,hb⟩:=hrel;have D1:=aH hD.out;have E1:=aH hc.out;have F1:=aH hl.out;have G1:=aH ht.out;have X1:=aH hx.out;have B1:=aH hb.out;clear hD hc hl ht hx hb;have S1:=aH (show w2.heap.size≤wr.heap.size from B1.out.size);obtain⟨e0,e1',e2,e3,e4,e5,y0,y1,y2,y3,y4,y5,yl⟩:=D1.out;by_cases CI:j<TN
    ·clear e0 e1' e3 e4 e5 y0 y1 y2 y3 y4 y5 yl;go_wp2_with (at_builtin;refine Lk.wpList_app (K:=KT) _ rfl _ _ rfl rfl w2.heap.size (wr.heap.size+1) _ _ (List.replicate j (1,0)) [(1,0)] rfl rfl (G1.out.alloc _) (Lk.IsL.lit (K:=KT) _ (1,0) _ ⟨by decide,by decide⟩ rfl wr.heap.size rfl) ?d1 ?d2 ?_)
     case d1=>simp;omega
     case d2=>have:=S1.out;simp;omega
     intro vN V2 CF hg hnb;have CF:KT.Own V2 w2.heap.size vN (List.replicate (j+1) (1,0)):=(by rw[List.replicate_succ'];exact CF);obtain⟨A4,c4,hv4,_⟩:=(CF.isL (by simp;omega)).shape;obtain⟨n4,hn4⟩:∃n,(List.replicate (j+1) ((1:Int),(0:Int))).length=n:=⟨_,rfl⟩;rw[hn4]at hv4;subst hv4;clear hn4 e2;have C7:=bL (bR wr.heap.size wr) (.cells #[.int .i64 1,.int .i64 0] 146);have Hf:D<wr.heap.size:=(by have:=Dv.out;have:=S1.out;omega);have D2:=aH ((D1.out.below C7).grown hg (fun h=>by have:=(G1.out.lt D h.symm).1;have:=Dv.out;omega));have E2:=aH ((E1.out.below C7).kept hg (by
      match h:(Value.slice A1 n1 c1).ownBlock with
      |none=>exact Or.inl rfl
      |some b=>exact Or.inr (fun h2=>X1.out b b h2.symm (Or.inl h) rfl)))
     have F2:=aH ((F1.out.below C7).kept hg (by
      match h:(Value.slice A2 n2 c2).ownBlock with
      |none=>exact Or.inl rfl
      |some b=>exact Or.inr (fun h2=>X1.out b b h2.symm (Or.inr h) rfl)))
     have B2:=aH ((B1.out.trans (C7.mono (Nat.le_of_lt Hf))).grown hg (by have:=S1.out;simp;omega) (fun k hk=>by have:=(G1.out.lt k hk).1;have:=Dv.out;omega));have X2:=aH (show ∀a b,(Value.slice A4 n4 c4).ownBlock=some a→((Value.slice A1 n1 c1).ownBlock=some b∨(Value.slice A2 n2 c2).ownBlock=some b)→a≠b from fun a b h1 h2=>by
      rcases hnb with h|h
      ·exact X1.out a b (by rw[←h];exact h1) h2
      ·rw[h]at h1;cases h1;rcases h2 with h2|h2
       ·have:=(E1.out.lt b h2).2;simp;omega
       ·have:=(F1.out.lt b h2).2;simp;omega)
     have G2:=aH CF;clear CF hg hnb C7 Hf D1 E1 F1 G1 B1 X1;obtain⟨e0,e1',e2,e3,e4,e5,y0,y1,y2,y3,y4,y5,yl⟩:=D2.out;clear e0 e1' e3 e4 e5 y0 y1 y3 y4 y5 yl;go_wp2
     go_roundw
     case rel=>
      have DR:∀a,w2.heap.size≤a→a≠D:=fun a h=>(by have:=Dv.out;omega);exact⟨j+1,A4,n4,c4,ai (by omega),by omega,aH (D2.out.s (.slice A4 n4 c4)).2.2.1,aH (E2.out.far (D:=D) (fun k hk=>DR k (E2.out.lt k hk).1) 2 _),aH (F2.out.far (D:=D) (fun k hk=>DR k (F2.out.lt k hk).1) 2 _),aH (G2.out.far (D:=D) (fun k hk=>DR k (G2.out.lt k hk).1) 2 _),X2,aH (B2.out.setCell (nR _) _)⟩
     case measure=>simp[intOf];omega
    ·obtain rfl:j=TN:=(by omega);have NI:=KM.out;have Dp:=aH (CT.out.low B1.out Mm.out);obtain⟨r0,r1,r2,r3,r4,r5,x0,x1,x2,x3,x4,x5,xl⟩:=Dp.out;clear y0 y1 y2 y3 y4 y5 yl NI;have i1:=(E1.out.isL (by rw[GS.out];omega)).shape;have i2:=(F1.out.isL (by rw[List.length_replicate];omega)).shape;have i3:=(G1.out.isL (by rw[List.length_replicate];omega)).shape;obtain⟨_,_,q1,_⟩:=i1;obtain⟨_,_,q2,_⟩:=i2;obtain⟨_,_,q3,_⟩:=i3;simp only[Value.slice.injEq]at q1 q2 q3;have ES:=aH q1.2.1;have GM:=aH q2.2.1;have Ha:=aH q3.2.1;clear q1 q2 q3;go_wp2;have L4:w.heap.size+1<w2.heap.size:=(by have:=Mm.out;have:=Dv.out;omega);have t6:=Dp.out.set (.slice A1 n1 c1) (.slice A2 n2 c2) (.slice A3 n3 c3) (.int .i64 S0) (.int .i64 0) (.int .i64 0);obtain⟨q0,q1,q2,q3,q4,q5,_⟩:=t6;have C1:=E1.out.set6 (D:=w.heap.size+1) L4 (.slice A1 n1 c1) (.slice A2 n2 c2) (.slice A3 n3 c3) (.int .i64 S0) (.int .i64 0) (.int .i64 0);have C2:=F1.out.set6 (D:=w.heap.size+1) L4 (.slice A1 n1 c1) (.slice A2 n2 c2) (.slice A3 n3 c3) (.int .i64 S0) (.int .i64 0) (.int .i64 0);have C3:=G1.out.set6 (D:=w.heap.size+1) L4 (.slice A1 n1 c1) (.slice A2 n2 c2) (.slice A3 n3 c3) (.int .i64 S0) (.int .i64 0) (.int .i64 0);have Qe:Below w.heap.size w wr:=CL.out.trans (B1.out.mono (by have:=Mm.out;omega));have Qv:=aF (D:=w.heap.size+1) Qe (by omega) (.slice A1 n1 c1) (.slice A2 n2 c2) (.slice A3 n3 c3) (.int .i64 S0) (.int .i64 0) (.int .i64 0);have I1:=C1.isL (by rw[GS.out];omega);have I2:=C2.isL (by rw[List.length_replicate];omega);have I3:=C3.isL (by rw[List.length_replicate];omega);have z1:=ES.out;have z2:=GM.out;have z3:=Ha.out;refine bP (v:=.tuple #[.agg #[.slice A1 n1 c1,.slice A2 n2 c2,.slice A3 n3 c3,.int .i64 S0,.int .i64 0,.int .i64 0],.int .i64 0]) ?_ rfl ?_
     ·simp[results,results54,go_sem,q0,q1,q2,q3,q4,q5]
     ·subst z1;subst z2;subst z3;refine⟨⟨A1,c1,cl,A2,c2,List.replicate WN ⟨8,0,none,0,[]⟩,A3,c3,List.replicate j (1,0),S0,0,0⟩,rfl,⟨I1,I2,I3,fun q hq=>by rw[(List.mem_replicate.1 hq).2];exact Lk.IsL.nil _ _ _ _,⟨Nq.out,(show ae 0 by decide),(show ae 0 by decide)⟩⟩,?_,Qv,⟨fun a ha=>by have h1:=(C1.lt a.block (ax (by rw[show A1=some a from ha];rfl))).1;have h2:=L4;omega,fun a ha=>by have h1:=(C2.lt a.block (ax (by rw[show A2=some a from ha];rfl))).1;have h2:=L4;omega,fun a ha=>by have h1:=(C3.lt a.block (ax (by rw[show A3=some a from ha];rfl))).1;have h2:=L4;omega,fun q hq a ha=>by rw[(List.mem_replicate.1 hq).2]at ha;cases ha⟩⟩;rw[Hm.out];simp[Stk.ab,Lo.ab]
theorem sY (d:Dk) (w:World) (hd:d.In w w.heap.size):Calls prog 54 #[d.v] w fun e w'=>∃s:Stk,e=.returned (.tuple #[s.v,.int .i64 (aA d)])∧s.In w' w'.heap.size∧s.ab=(if aA d=0 then aB d else fP)∧Below w.heap.size w w':=(tK d w hd).mono fun _ _ ⟨s,h1,h2,h3,h4,_⟩=>⟨s,h1,h2,h3,h4⟩
end Go.Proofs.YtmecohdedghiaaaGreatDoor
