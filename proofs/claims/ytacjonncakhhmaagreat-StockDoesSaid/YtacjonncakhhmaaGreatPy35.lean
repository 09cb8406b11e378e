/- Stocks: a deck's stock at first, as the reference tells it. -/
import Derived.Test.YtacjonncakhhmaaGreatPy00
import Derived.Test.YtacjonncakhhmaaGreatPy23
import Derived.Test.YtacjonncakhhmaaGreatPy10
import Derived.Deep.Cut
set_option maxRecDepth 100000
set_option maxHeartbeats 8000000
namespace Go.Proofs.YtacjonncakhhmaaGreat
open Go.RowKit
theorem rnew_any (d:Dk) (w:World) (hd:d.In w w.heap.size):Calls Tryz.prog 103 #[d.v] w fun e w'=>∃s:Stk,e=.returned (.tuple #[s.v,.int .i64 (zchk d)])∧s.In w' w'.heap.size∧s.ab=(if zchk d=0 then newA d else ab0)∧Below w.heap.size w w':=by
 obtain⟨w0,hw0⟩:∃w0,w0=(w.alloc (.cells #[.slice d.bA d.bn d.bc,.slice d.pA d.pn d.pc,.slice d.rA d.rn d.rc,.int .i64 d.arms] 26)).alloc (.cells #[.slice none 0 0,.slice none 0 0,.slice none 0 0,.int .i64 0,.int .i64 0,.int .i64 0] 31):=⟨_,rfl⟩;have HB0:=aH (show Below w.heap.size w w0 by rw[hw0];exact bL (bL (bR _ _) _) _);have HD0:=aH (hd.then HB0.out);have HK0:=aH (show DkAt w0 w.heap.size d by rw[hw0];exact(Cells4.new w _ _ _ _ _).below (bL (bR _ _) _));have HR0:=aH (show Cells6 w0 (w.heap.size+1) (.slice none 0 0) (.slice none 0 0) (.slice none 0 0) (.int .i64 0) (.int .i64 0) (.int .i64 0)by
  have h:=Cells6.new (w.alloc (.cells #[.slice d.bA d.bn d.bc,.slice d.pA d.pn d.pc,.slice d.rA d.rn d.rc,.int .i64 d.arms] 26)) 31 (.slice none 0 0) (.slice none 0 0) (.slice none 0 0) (.int .i64 0) (.int .i64 0) (.int .i64 0);rw[←hw0,show(w.alloc (.cells #[.slice d.bA d.bn d.bc,.slice d.pA d.pn d.pc,.slice d.rA d.rn d.rc,.int .i64 d.arms] 26)).heap.size=w.heap.size+1 by simp]at h;exact h)
 have HZ:=aH (fun w h=>rzcheck_any d w h);have HCN:=aH (fun w h=>rcounts_any d w h);clear hd;by_cases hz:zchk d=0
 case neg=>
  rw[if_neg hz];generalize zchk d=E at *;have hz':(E==0)=false:=by simpa using hz
  clear hz;go_enter Tryz.func103,Tryz.ntmps103;go_wp2_with fail;rw[←hw0];clear hw0;refine(HZ.out _ HD0.out).mono ?_;rintro e w1 ⟨rfl,hb1⟩;have HB1:=aH (bC HB0.out hb1);have hr:=HR0.out.below hb1;have HR1:=aH hr;obtain⟨r0,r1,r2,r3,r4,r5,y0,y1,y2,y3,y4,y5,_⟩:=hr;clear hb1;go_wp2;have hset:=HR1.out.set (.slice none 0 0) (.slice none 0 0) (.slice none 0 0) (.int .i64 0) (.int .i64 0) (.int .i64 0);obtain⟨q0,q1,q2,q3,q4,q5,_⟩:=hset;refine bP (v:=.tuple #[stk0.v,.int .i64 E]) ?_ rfl ?_
  ·simp[results,Tryz.results103,go_sem,q0,q1,q2,q3,q4,q5,stk0]
  ·refine⟨stk0,rfl,stk0_in _ _,rfl,?_⟩;exact below_set6 HB1.out (by omega) _ _ _ _ _ _
 rw[hz]at HZ⊢;rw[if_pos rfl];have hdz:dchk d=0:=by
  unfold zchk at hz;by_cases h:dchk d=0
  ·exact h
  ·rw[if_neg h]at hz;exact absurd hz h
 have HOK:=aH (dchk_ok d hdz);have hcv:cntV d=(wellsV d.pl,tipsV d.rl,(d.bl.length:Int) - 1):=by unfold cntV;rw[if_pos hdz]
 have hwn:=wellN_eq d HOK.out;have htn:=tipN_eq d HOK.out;rw[hcv]at HCN;dsimp only at HCN;rw[←hwn.1,←htn.1]at HCN;have HWN:=aH hwn;have HTN:=aH htn;clear hcv hz hdz hwn htn;go_enter Tryz.func103,Tryz.ntmps103;go_wp2_with fail;rw[←hw0];clear hw0;refine(HZ.out _ HD0.out).mono ?_;rintro e w1 ⟨rfl,hb1⟩;have HB1:=aH (bC HB0.out hb1);have HK1:=aH (HK0.out.below hb1);have HR1:=aH (HR0.out.below hb1);have HD1:=aH (HD0.out.then hb1);obtain⟨d0,d1,d2,d3,_⟩:=HK1.out;clear hb1;obtain⟨v1,hv1⟩:∃v1,v1=w1.alloc (.cells #[.slice none 0 0,.slice none 0 0,.slice none 0 0,.int .i64 0,.int .i64 0,.int .i64 0] 31):=⟨_,rfl⟩;have hba:=bL (bR w1.heap.size w1) (.cells #[.slice none 0 0,.slice none 0 0,.slice none 0 0,.int .i64 0,.int .i64 0,.int .i64 0] 31);rw[←hv1]at hba;have HBV:=aH (bC HB1.out hba);have HKV:=aH (HK1.out.below hba);have HRV:=aH (HR1.out.below hba);have HDV:=aH (HD1.out.then hba);have HDW:=aH (HD1.out.below hba);have HKW:=HKV;have HRW:=HRV;have HCD:=aH (show Cells6 v1 w1.heap.size (.slice none 0 0) (.slice none 0 0) (.slice none 0 0) (.int .i64 0) (.int .i64 0) (.int .i64 0)by rw[hv1];exact Cells6.new w1 _ _ _ _ _ _ _);have HDl:=aH (show w.heap.size+1<w1.heap.size by obtain⟨_,_,_,_,_,_,_,_,_,_,_,_,h⟩:=HR1.out;exact h);clear hba HB1 HK1 HR1 HD1;go_wp2_with fail;rw[←hv1];clear hv1 d0 d1 d2 d3;have HCDv:=HCD;obtain⟨D,hDD⟩:∃D,w1.heap.size=D:=⟨_,rfl⟩;rw[hDD]at HCDv;rw[hDD]at HCD HDl HDW;simp only[hDD];clear hDD;refine(HCN.out _ HDV.out).mono ?_;rintro e w2 ⟨rfl,hb2⟩;have HB2:=aH (bC HBV.out hb2);have HK2:=aH (HKV.out.below hb2);have HR2:=aH (HRV.out.below hb2);have HD2:=aH (HDV.out.then hb2);have HCD:=aH (HCD.out.below hb2);have HDlv:=aH (show D≤v1.heap.size from Nat.le_of_lt (by obtain⟨_,_,_,_,_,_,_,_,_,_,_,_,h⟩:=HCDv.out;exact h));have HDW:=aH (HDW.out.below (hb2.mono HDlv.out))
 clear hb2 HKV HRV HDV HBV;obtain⟨pA,hpA⟩:∃x,d.pA=x:=⟨_,rfl⟩;obtain⟨pn,hpn⟩:∃x,d.pn=x:=⟨_,rfl⟩;have HPA:=aH hpA;have HPN:=aH hpn;clear hpA hpn;have HDlt:=aH (show D<w2.heap.size by obtain⟨_,_,_,_,_,_,_,_,_,_,_,_,h⟩:=HCD.out;exact h);have hDw:D<w2.heap.size:=HDlt.out;obtain⟨d0,d1,d2,d3,_⟩:=HK2.out;rw[HPA.out,HPN.out]at d1;have HL8:=aH (fun(w:World)=>Lk.IsL.lit (K:=KL) w ⟨8,0,none,0,[]⟩ #[.int .i64 8,.int .i64 0,.slice none 0 0] ⟨by decide,by decide⟩ rfl);have HNIL:=aH (show ∀(v:Value),(Value.slice none 0 0).ownBlock=some 0→False from fun _ h=>by cases h);go_wp2;clear d0 d1 d2 d3
 go_loopw [9] (fun i wr=>∃(n:Nat) (A1:Option Addr) (n1 c1:Nat) (A2:Option Addr) (n2 c2:Nat),i=.int .i64 n∧n≤d.pl.length∧Hid (Cells6 wr D (.slice A1 n1 c1) (.slice A2 n2 c2) (.slice none 0 0) (.int .i64 (Two.sumL (volS (newCn d.pl n)))) (.int .i64 0) (.int .i64 0))∧Hid (KE.Own wr w2.heap.size (.slice A1 n1 c1) (newCn d.pl n))∧
   Hid (KL.Own wr w2.heap.size (.slice A2 n2 c2) (List.replicate (newCn d.pl n).length ⟨8,0,none,0,[]⟩))∧Hid (∀a b,(Value.slice A1 n1 c1).ownBlock=some a→(Value.slice A2 n2 c2).ownBlock=some b→a≠b)∧Hid (Below D w2 wr)) (fun i _=>d.pl.length - (intOf i).toNat)
 case atStart=>exact⟨0,none,0,0,none,0,0,rfl,Nat.zero_le _,HCD,aH (Lk.Own.nil _ _),aH (Lk.Own.nil _ _),aH (fun a b h=>by cases h),aH (bR _ _)⟩
 case round=>
  obtain⟨n,A1,n1,c1,A2,n2,c2,rfl,hn,hD,hc,hl,hx,hb⟩:=hrel;have HCD:=aH hD.out;have HOC:=aH hc.out;have HOL:=aH hl.out;have HX:=aH hx.out;have HBR:=aH hb.out;clear hD hc hl hx hb;have HKR:=aH (HK2.out.low HBR.out (by have:=HDl.out;omega));have HDR:=aH (HDW.out.below HBR.out);obtain⟨d0,d1,d2,d3,_⟩:=HKR.out;rw[HPA.out,HPN.out]at d1;have hpn:=HDW.out.p.len;rw[HPN.out]at hpn;subst hpn;have hp4:=HOK.out.p4;by_cases hlt:n<d.pl.length
  ·obtain⟨b,off,hA,hb,hcp,hcell⟩:=plate_cells HDR.out.p (by omega);obtain⟨p0,p1,p2,p3,p4,p5,p6⟩:=hcell n hlt;have HSN:=aH (newCn_snoc d.pl n);have HPB:=aH (HOK.out.pl n hlt);have HPS:=aH (HDW.out.s _ (getD_mem' d.pl n KP.dflt hlt));have HLN:=aH (newCn_len d.pl HOK.out.pl n (by omega));have HLM:=aH ((wells_bd d.pl (fun i hi=>plate_size (HOK.out.pl i hi)) n (by omega)).2);rw[HPA.out]at hA;subst hA;clear hcell;have HR:=aH (newC_right d.pl HOK.out.pl n (by omega));generalize newCn d.pl n=L at *;generalize hqq:d.pl.getD n KP.dflt=q at *;have HPN1:=aH (plN_eq HPB.out);have HCAP:=aH (plate_cap HPB.out);have HCR:=aH (fun i=>cellA_right HPB.out i);have HCA:=aH (fun i=>show cellA q i=⟨q.cap,q.st.getD i 0,0⟩from rfl);have HPC:=aH (show plC q=(List.range (plN q)).map (cellA q)from rfl);generalize plC q=PC at *;generalize plN q=pn at *;generalize hcA:cellA q=cA at *;clear hqq hcA;obtain⟨a1,a2,X,P,R,cap,sA,sn,sc,st⟩:=q;dsimp only at *;have hbw:b<wr.heap.size:=by have:=HBR.out.size;omega
   have hmul2:Go.RowKit.wrap64 (a1 * a2)=(pn:Int):=by rw[←w64,wrap_fits _ (by have:=HPN1.out;unfold fits;omega)];exact HPN1.out.1.symm
   have hsf:=fun(w:World) (a:Addr) (m:Mode) (b:Nat)=>run_store_float (P:=Tryz.prog) (w:=w) (a:=a) (m:=m) .f64 b
   go_upto_region 10 with fail
   have hbV:=bL (bR wr.heap.size wr) (.cells #[.int .i64 a1,.int .i64 a2,.float .f64 X,.float .f64 P,.float .f64 R,.int .i64 cap,.slice sA sn sc] 47);have HPA1:=aH (show PlAt (wr.alloc (.cells #[.int .i64 a1,.int .i64 a2,.float .f64 X,.float .f64 P,.float .f64 R,.int .i64 cap,.slice sA sn sc] 47)) wr.heap.size a1 a2 cap (.slice sA sn sc)from⟨by simp[go_sem],by simp[go_sem],by simp[go_sem],by simp[go_sem],by simp⟩);generalize wr.alloc (.cells #[.int .i64 a1,.int .i64 a2,.float .f64 X,.float .f64 P,.float .f64 R,.int .i64 cap,.slice sA sn sc] 47)=V0 at *;obtain⟨Pb,hPb⟩:∃Pb,wr.heap.size=Pb:=⟨_,rfl⟩;have hsnl:=HPS.out.len;have D0:=aH (HCD.out.below hbV);have E0:=aH (HOC.out.below hbV);have F0:=aH (HOL.out.below hbV);have B0:=aH (HBR.out.trans (hbV.mono (Nat.le_trans (Nat.le_of_lt HDlt.out) HBR.out.size)));have HDP:=aH (show D≠Pb from by have:=HBR.out.size;have:=HDlt.out;omega);have HPl:=aH (show Pb<V0.heap.size from by obtain⟨_,_,_,_,h⟩:=HPA1.out;rw[←hPb];exact h);have HPo:=aH (show(∀a,(Value.slice A1 n1 c1).ownBlock=some a→a≠Pb)∧(∀a,(Value.slice A2 n2 c2).ownBlock=some a→a≠Pb)from⟨fun a h=>by have:=(HOC.out.lt a h).2;omega,fun a h=>by have:=(HOL.out.lt a h).2;omega⟩);rw[hPb]at HPA1;simp only[hPb];have HWP:=aH hPb;have HBV:=aH hbV;subst hsnl;clear hbV hPb p0 p1 p2 p3 p4 p5 p6 d0 d1 d2 d3;obtain⟨t0,t1,t5,t6,tl⟩:=HPA1.out;have HT0:=aH (show(List.range 0).map cA=[]from rfl);go_wp2;clear t0 t1 t5 t6 tl
   go_loopw [11] (fun i wx=>∃(j:Nat) (A1:Option Addr) (n1 c1:Nat) (A2:Option Addr) (n2 c2:Nat),i=.int .i64 j∧j≤pn∧Hid (Cells6 wx D (.slice A1 n1 c1) (.slice A2 n2 c2) (.slice none 0 0) (.int .i64 (Two.sumL (volS (L++(List.range j).map cA)))) (.int .i64 0) (.int .i64 0))∧Hid (KE.Own wx w2.heap.size (.slice A1 n1 c1) (L++(List.range j).map cA))∧
     Hid (KL.Own wx w2.heap.size (.slice A2 n2 c2) (List.replicate (L.length+j) ⟨8,0,none,0,[]⟩))∧Hid (∀a b,(Value.slice A1 n1 c1).ownBlock=some a→(Value.slice A2 n2 c2).ownBlock=some b→a≠b)∧
     Hid ((∀a,(Value.slice A1 n1 c1).ownBlock=some a→a≠Pb)∧(∀a,(Value.slice A2 n2 c2).ownBlock=some a→a≠Pb))∧Hid (PlAt wx Pb a1 a2 cap (.slice sA st.length sc))∧Hid (Below D w2 wx)) (fun i _=>pn - (intOf i).toNat)
   case atStart=>exact⟨0,A1,n1,c1,A2,n2,c2,rfl,Nat.zero_le _,by rw[HT0.out,List.append_nil];exact D0,by rw[HT0.out,List.append_nil];exact E0,F0,HX,HPo,HPA1,B0⟩
   case round=>
    clear HCD HOC HOL HX HBR HKR HDR D0 E0 F0 B0 HPo HPA1 HBV;obtain⟨j,A1,n1,c1,A2,n2,c2,rfl,hj,hD,hc,hl,hx,hpo,hpl,hb⟩:=hrel;have HCD:=aH hD.out;have HOC:=aH hc.out;have HOL:=aH hl.out;have HX:=aH hx.out;have HPo:=aH hpo.out;have HPA1:=aH hpl.out;have HBR:=aH hb.out;clear hD hc hl hx hpo hpl hb;obtain⟨t0,t1,t5,t6,tl⟩:=HPA1.out;have hjb:pn≤1536:=HPN1.out.2.2.1;by_cases hlt2:j<pn
    ·have HRS:=aH (show(List.range (j+1)).map cA=(List.range j).map cA++[cA j]by rw[List.range_succ,List.map_append];rfl);have hAk:=HCA.out j;have HRk:=aH (HCR.out j);by_cases hst:j<st.length
     ·obtain⟨b2,off2,cap',hs',_,hb2,_,hcell2,_⟩:=KI.cells (HPS.out.below HBR.out) (by omega);simp only[Value.slice.injEq]at hs';obtain⟨rfl,_,rfl⟩:=hs';have e1:=hcell2 j hst;have hb2w:b2<wr.heap.size:=by have:=HBR.out.size;have:=HDlt.out;omega
      clear hcell2;rw[hAk]at HRS HRk;clear hAk;generalize st.getD j 0=vol at *
      go_upto_region 16 with fail
      clear t0 t1 t5 t6 tl;have hba:=bL (bR wr.heap.size wr) (.cells #[.int .i64 cap,.int .i64 vol,.int .i64 0] 58);have CA:=aH (Cells3.new wr 58 (.int .i64 cap) (.int .i64 vol) (.int .i64 0));generalize wr.alloc (.cells #[.int .i64 cap,.int .i64 vol,.int .i64 0] 58)=V1 at *;have D1:=aH (HCD.out.below hba);have E1:=aH (HOC.out.below hba);have F1:=aH (HOL.out.below hba);have P1:=aH (HPA1.out.below hba);have hw2:w2.heap.size≤wr.heap.size:=HBR.out.size;have B1:=aH (HBR.out.trans (hba.mono (Nat.le_trans (Nat.le_of_lt HDlt.out) hw2)));have S1:=aH (Nat.le_trans hw2 hba.size);obtain⟨Ab,hAb⟩:∃Ab,wr.heap.size=Ab:=⟨_,rfl⟩;have hAD:Ab≠D:=by have:=HDlt.out;omega
      have hA1:∀a,(Value.slice A1 n1 c1).ownBlock=some a→a≠Ab:=fun a h=>by have:=(HOC.out.lt a h).2;omega
      have hA2:∀a,(Value.slice A2 n2 c2).ownBlock=some a→a≠Ab:=fun a h=>by have:=(HOL.out.lt a h).2;omega
      have HAD:=aH hAD;have HA1:=aH hA1;have HA2:=aH hA2;rw[hAb]at CA;simp only[hAb];clear hba hw2 hAb hAD hA1 hA2 HCD HOC HOL HPA1 HBR;have hSB:=sumL_bd (L++(List.range j).map cA) (fun x hx=>by
       rcases List.mem_append.1 hx with hx | hx
       ·exact HR.out x hx
       ·obtain⟨i,_,rfl⟩:=List.mem_map.1 hx;exact HCR.out i)
      have hlen:(L++(List.range j).map cA).length=L.length+j:=by simp
      have hL4:(L.length:Int)≤6144:=by have:=HLN.out;have:=HLM.out;omega
      have hpn:=HPN1.out.2.2.1;have HSS:=aH (show Two.sumL (volS (L++(List.range j).map cA++[⟨cap,vol,0⟩]))=Two.sumL (volS (L++(List.range j).map cA))+vol by rw[show volS (L++(List.range j).map cA++[⟨cap,vol,0⟩])=volS (L++(List.range j).map cA)++[vol]by simp[volS],Two.sumL_snoc]);have HRN:=aH (show L++(List.range (j+1)).map cA=L++(List.range j).map cA++[⟨cap,vol,0⟩]by rw[HRS.out,List.append_assoc]);clear HRS;rw[hlen]at hSB;have hLL:(L++(List.range j).map cA).length≤8000:=by rw[hlen];omega
      generalize L++(List.range j).map cA=LJ at *;generalize Two.sumL (volS LJ)=S0 at *;have hfit:KE.ok ⟨cap,vol,0⟩:=right_fit HRk.out;have hwr:Go.RowKit.wrap64 (S0+vol)=S0+vol:=by rw[←w64];exact wrap_fits _ (by have h2:=HRk.out.2.2.1;have h3:=HRk.out.2.2.2.1;have h4:=HRk.out.2.1;dsimp only at h2 h3 h4;unfold fits;omega)
      have HWR:=aH hwr;have HFIT:=aH hfit;have HLL:=aH hLL;have HJL:=aH (show L.length+j≤8000 by omega);clear hSB hlen hL4 hwr hfit hLL hpn hmul2;obtain⟨a0,a1',a2',_⟩:=CA.out;obtain⟨e0,e1',e2,e3,e4,e5,y0,y1,y2,y3,y4,y5,yl⟩:=D1.out;clear e1' e2 e3 e4 e5 y0 y1 y2 y3 y4 y5 yl;go_wp2_with (at_builtin;refine Lk.wpList_app (K:=KE) _ rfl _ _ rfl rfl w2.heap.size (V1.heap.size+1) _ _ LJ [⟨cap,vol,0⟩] rfl rfl (E1.out.alloc _) (Lk.IsL.lit (K:=KE) _ ⟨cap,vol,0⟩ _ HFIT.out rfl V1.heap.size rfl) ?c1 ?c2 ?_)
      case c1=>have:=HLL.out;simp;omega
      case c2=>have:=S1.out;simp;omega
      intro vN V2 hown hg hnb;obtain⟨A3,c3,hv3,_⟩:=(hown.isL (by have:=HLL.out;simp;omega)).shape;obtain⟨n3,hn3⟩:∃n,(LJ++[(⟨cap,vol,0⟩:Cel.Ce)]).length=n:=⟨_,rfl⟩;rw[hn3]at hv3;subst hv3;clear hn3 e0 a0 a1' a2';have hal:=bL (bR V1.heap.size V1) (.cells #[.int .i64 cap,.int .i64 vol,.int .i64 0] 58);have hDs:D<V1.heap.size:=by have:=HDlt.out;have:=S1.out;omega
      have hPs:Pb<V1.heap.size:=P1.out.2.2.2.2;have hAs:Ab<V1.heap.size:=by obtain⟨_,_,_,_,_,_,h⟩:=CA.out;exact h
      have D2:=aH ((D1.out.below hal).grown hg (fun h=>by have:=(E1.out.lt D h.symm).1;have:=HDlt.out;omega));have F2:=aH ((F1.out.below hal).kept hg (by
       match h:(Value.slice A2 n2 c2).ownBlock with
       | none=>exact Or.inl rfl
       | some b=>exact Or.inr (fun h2=>HX.out b b h2.symm h rfl)))
      have P2:=aH ((P1.out.below hal).grown hg (fun h=>HPo.out.1 Pb h.symm rfl));have C2:=aH ((CA.out.below hal).grown hg (fun h=>HA1.out Ab h.symm rfl));have B2:=aH ((B1.out.trans (hal.mono (Nat.le_of_lt hDs))).grown hg (by have:=S1.out;simp;omega) (fun k hk=>by have:=(E1.out.lt k hk).1;have:=HDlt.out;omega));have S2:=aH (Nat.le_trans S1.out (Nat.le_trans hal.size hg.size));have E2:=aH hown;have HX2:=aH (show ∀a b,(Value.slice A3 n3 c3).ownBlock=some a→(Value.slice A2 n2 c2).ownBlock=some b→a≠b from fun a b h1 h2=>by
       rcases hnb with h | h
       ·exact HX.out a b (by rw[←h];exact h1) h2
       ·rw[h]at h1;cases h1;have:=(F1.out.lt b h2).2;simp;omega)
      have HA3:=aH (show ∀a,(Value.slice A3 n3 c3).ownBlock=some a→a≠Pb∧a≠Ab from fun a h1=>by
       rcases hnb with h | h
       ·exact⟨HPo.out.1 a (by rw[←h];exact h1),HA1.out a (by rw[←h];exact h1)⟩
       ·rw[h]at h1;cases h1;exact⟨by simp;omega,by simp;omega⟩)
      clear hown hg hnb hal hDs hPs hAs D1 E1 F1 P1 B1 S1 CA HX HA1;obtain⟨e0,e1',e2,e3,e4,e5,y0,y1,y2,y3,y4,y5,yl⟩:=D2.out;clear e1' e2 e3 e4 e5 y1 y2 y3 y4 y5 yl
      go_upto_region 17 with fail
      clear e0 y0;have D3:=aH (D2.out.s (.slice A3 n3 c3)).1;have hDl2:∀a,w2.heap.size≤a→a≠D:=fun a h=>by have:=HDlt.out;omega
      have E3:=aH (E2.out.far (D:=D) (fun k hk=>hDl2 k (E2.out.lt k hk).1) 0 (.slice A3 n3 c3));have F3:=aH (F2.out.far (D:=D) (fun k hk=>hDl2 k (F2.out.lt k hk).1) 0 (.slice A3 n3 c3));have P3:=aH (P2.out.off (o:=0) HDP.out (.slice A3 n3 c3));have C3:=aH (C2.out.off (o:=0) HAD.out.symm (.slice A3 n3 c3));have B3:=aH (show Below D w2 (V2.setCell ⟨D,0,none⟩ (.slice A3 n3 c3))from B2.out.setCell (nR _) _);have S3:=aH (show w2.heap.size≤(V2.setCell ⟨D,0,none⟩ (.slice A3 n3 c3)).heap.size by simpa using S2.out);clear D2 E2 F2 P2 C2 B2 S2 hDl2;generalize V2.setCell ⟨D,0,none⟩ (.slice A3 n3 c3)=V3 at *;obtain⟨e0,e1',e2,e3,e4,e5,y0,y1,y2,y3,y4,y5,yl⟩:=D3.out;clear e0 e2 e3 e4 e5 y0 y2 y3 y4 y5 yl;go_wp2_with (at_builtin;refine Lk.wpList_app (K:=KL) _ rfl _ _ rfl rfl w2.heap.size (V3.heap.size+1) _ _ (List.replicate (L.length+j) ⟨8,0,none,0,[]⟩) [⟨8,0,none,0,[]⟩] rfl rfl (F3.out.alloc _) (Lk.IsL.lit (K:=KL) _ ⟨8,0,none,0,[]⟩ _ ⟨by decide,by decide⟩ rfl V3.heap.size rfl) ?d1 ?d2 ?_)
      case d1=>have:=HJL.out;simp;omega
      case d2=>have:=S3.out;simp;omega
      intro vN V4 hown hg hnb;have hown:KL.Own V4 w2.heap.size vN (List.replicate (L.length+(j+1)) ⟨8,0,none,0,[]⟩):=by rw[←Nat.add_assoc,List.replicate_succ'];exact hown
      obtain⟨A4,c4,hv4,_⟩:=(hown.isL (by have:=HJL.out;simp;omega)).shape;obtain⟨n4,hn4⟩:∃n,(List.replicate (L.length+(j+1)) (⟨8,0,none,0,[]⟩:Lo)).length=n:=⟨_,rfl⟩;rw[hn4]at hv4;subst hv4;clear hn4 e1' y1;have hal:=bL (bR V3.heap.size V3) (.cells #[.int .i64 8,.int .i64 0,.slice none 0 0] 50);have hDs:D<V3.heap.size:=by have:=HDlt.out;have:=S3.out;omega
      have hPs:Pb<V3.heap.size:=P3.out.2.2.2.2;have hAs:Ab<V3.heap.size:=by obtain⟨_,_,_,_,_,_,h⟩:=C3.out;exact h
      have D4:=aH ((D3.out.below hal).grown hg (fun h=>by have:=(F3.out.lt D h.symm).1;have:=HDlt.out;omega));have E4:=aH ((E3.out.below hal).kept hg (by
       match h:(Value.slice A3 n3 c3).ownBlock with
       | none=>exact Or.inl rfl
       | some b=>exact Or.inr (fun h2=>HX2.out b b h h2.symm rfl)))
      have P4:=aH ((P3.out.below hal).grown hg (fun h=>HPo.out.2 Pb h.symm rfl));have C4:=aH ((C3.out.below hal).grown hg (fun h=>HA2.out Ab h.symm rfl));have B4:=aH ((B3.out.trans (hal.mono (Nat.le_of_lt hDs))).grown hg (by have:=S3.out;simp;omega) (fun k hk=>by have:=(F3.out.lt k hk).1;have:=HDlt.out;omega));have F4:=aH hown;have HX4:=aH (show ∀a b,(Value.slice A3 n3 c3).ownBlock=some a→(Value.slice A4 n4 c4).ownBlock=some b→a≠b from fun a b h1 h2=>by
       rcases hnb with h | h
       ·exact HX2.out a b h1 (by rw[←h];exact h2)
       ·rw[h]at h2;cases h2;have:=(E3.out.lt a h1).2;simp;omega)
      have HA4:=aH (show ∀a,(Value.slice A4 n4 c4).ownBlock=some a→a≠Pb from fun a h1=>by
       rcases hnb with h | h
       ·exact HPo.out.2 a (by rw[←h];exact h1)
       ·rw[h]at h1;cases h1;simp;omega)
      clear hown hg hnb hal hDs hPs hAs D3 E3 F3 P3 B3 S3 C3 HX2 HA2;obtain⟨e0,e1',e2,e3,e4,e5,y0,y1,y2,y3,y4,y5,yl⟩:=D4.out;clear e0 e2 e3 e4 e5 y0 y2 y3 y4 y5 yl
      go_upto_region 18 with fail
      clear e1' y1;have D5:=aH (D4.out.s (.slice A4 n4 c4)).2.1;have hDl2:∀a,w2.heap.size≤a→a≠D:=fun a h=>by have:=HDlt.out;omega
      have E5:=aH (E4.out.far (D:=D) (fun k hk=>hDl2 k (E4.out.lt k hk).1) 1 (.slice A4 n4 c4));have F5:=aH (F4.out.far (D:=D) (fun k hk=>hDl2 k (F4.out.lt k hk).1) 1 (.slice A4 n4 c4));have P5:=aH (P4.out.off (o:=1) HDP.out (.slice A4 n4 c4));have C5:=aH (C4.out.off (o:=1) HAD.out.symm (.slice A4 n4 c4));have B5:=aH (show Below D w2 (V4.setCell ⟨D,1,none⟩ (.slice A4 n4 c4))from B4.out.setCell (nR _) _);clear D4 E4 F4 P4 C4 B4;generalize V4.setCell ⟨D,1,none⟩ (.slice A4 n4 c4)=V5 at *;obtain⟨e0,e1',e2,e3,e4,e5,y0,y1,y2,y3,y4,y5,yl⟩:=D5.out;obtain⟨a0,a1',a2',_⟩:=C5.out;clear e0 e1' e2 e4 e5 y0 y1 y2 y4 y5 yl a0 a2';have hwr:=HWR.out;go_wp2;clear hwr
      go_roundw
      case rel=>
       have D6:=(D5.out.s (.int .i64 (S0+vol))).2.2.2.1;refine⟨j+1,A3,n3,c3,A4,n4,c4,num_i (by omega),by omega,?_,?_,?_,HX4,aH ⟨fun a h=>(HA3.out a h).1,HA4.out⟩,aH (P5.out.off (o:=3) HDP.out _),aH (B5.out.setCell (nR _) _)⟩
       ·rw[HRN.out,HSS.out];exact aH D6
       ·rw[HRN.out];exact aH (E5.out.far (D:=D) (fun k hk=>hDl2 k (E5.out.lt k hk).1) 3 _)
       ·exact aH (F5.out.far (D:=D) (fun k hk=>hDl2 k (F5.out.lt k hk).1) 3 _)
      case measure=>simp[intOf];omega
     ·rw[hAk,getD_past st j hst]at HRS HRk;clear hAk
      go_upto_region 16 with fail
      clear t0 t1 t5 t6 tl;have hba:=bL (bR wr.heap.size wr) (.cells #[.int .i64 cap,.int .i64 0,.int .i64 0] 58);have CA:=aH (Cells3.new wr 58 (.int .i64 cap) (.int .i64 0) (.int .i64 0));generalize wr.alloc (.cells #[.int .i64 cap,.int .i64 0,.int .i64 0] 58)=V1 at *;have D1:=aH (HCD.out.below hba);have E1:=aH (HOC.out.below hba);have F1:=aH (HOL.out.below hba);have P1:=aH (HPA1.out.below hba);have hw2:w2.heap.size≤wr.heap.size:=HBR.out.size;have B1:=aH (HBR.out.trans (hba.mono (Nat.le_trans (Nat.le_of_lt HDlt.out) hw2)));have S1:=aH (Nat.le_trans hw2 hba.size);obtain⟨Ab,hAb⟩:∃Ab,wr.heap.size=Ab:=⟨_,rfl⟩;have hAD:Ab≠D:=by have:=HDlt.out;omega
      have hA1:∀a,(Value.slice A1 n1 c1).ownBlock=some a→a≠Ab:=fun a h=>by have:=(HOC.out.lt a h).2;omega
      have hA2:∀a,(Value.slice A2 n2 c2).ownBlock=some a→a≠Ab:=fun a h=>by have:=(HOL.out.lt a h).2;omega
      have HAD:=aH hAD;have HA1:=aH hA1;have HA2:=aH hA2;rw[hAb]at CA;simp only[hAb];clear hba hw2 hAb hAD hA1 hA2 HCD HOC HOL HPA1 HBR;have hSB:=sumL_bd (L++(List.range j).map cA) (fun x hx=>by
       rcases List.mem_append.1 hx with hx | hx
       ·exact HR.out x hx
       ·obtain⟨i,_,rfl⟩:=List.mem_map.1 hx;exact HCR.out i)
      have hlen:(L++(List.range j).map cA).length=L.length+j:=by simp
      have hL4:(L.length:Int)≤6144:=by have:=HLN.out;have:=HLM.out;omega
      have hpn:=HPN1.out.2.2.1;have HSS:=aH (show Two.sumL (volS (L++(List.range j).map cA++[⟨cap,0,0⟩]))=Two.sumL (volS (L++(List.range j).map cA))by rw[show volS (L++(List.range j).map cA++[⟨cap,0,0⟩])=volS (L++(List.range j).map cA)++[0]by simp[volS],Two.sumL_snoc,Int.add_zero]);have HRN:=aH (show L++(List.range (j+1)).map cA=L++(List.range j).map cA++[⟨cap,0,0⟩]by rw[HRS.out,List.append_assoc]);clear HRS;rw[hlen]at hSB;have hLL:(L++(List.range j).map cA).length≤8000:=by rw[hlen];omega
      generalize L++(List.range j).map cA=LJ at *;generalize Two.sumL (volS LJ)=S0 at *;have hfit:KE.ok ⟨cap,0,0⟩:=right_fit HRk.out;have hwr:Go.RowKit.wrap64 (S0)=S0:=by rw[←w64];exact wrap_fits _ (by have h2:=HRk.out.2.2.1;have h3:=HRk.out.2.2.2.1;have h4:=HRk.out.2.1;dsimp only at h2 h3 h4;unfold fits;omega)
      have HWR:=aH hwr;have HFIT:=aH hfit;have HLL:=aH hLL;have HJL:=aH (show L.length+j≤8000 by omega);clear hSB hlen hL4 hwr hfit hLL hpn hmul2;obtain⟨a0,a1',a2',_⟩:=CA.out;obtain⟨e0,e1',e2,e3,e4,e5,y0,y1,y2,y3,y4,y5,yl⟩:=D1.out;clear e1' e2 e3 e4 e5 y0 y1 y2 y3 y4 y5 yl;go_wp2_with (at_builtin;refine Lk.wpList_app (K:=KE) _ rfl _ _ rfl rfl w2.heap.size (V1.heap.size+1) _ _ LJ [⟨cap,0,0⟩] rfl rfl (E1.out.alloc _) (Lk.IsL.lit (K:=KE) _ ⟨cap,0,0⟩ _ HFIT.out rfl V1.heap.size rfl) ?c1 ?c2 ?_)
      case c1=>have:=HLL.out;simp;omega
      case c2=>have:=S1.out;simp;omega
      intro vN V2 hown hg hnb;obtain⟨A3,c3,hv3,_⟩:=(hown.isL (by have:=HLL.out;simp;omega)).shape;obtain⟨n3,hn3⟩:∃n,(LJ++[(⟨cap,0,0⟩:Cel.Ce)]).length=n:=⟨_,rfl⟩;rw[hn3]at hv3;subst hv3;clear hn3 e0 a0 a1' a2';have hal:=bL (bR V1.heap.size V1) (.cells #[.int .i64 cap,.int .i64 0,.int .i64 0] 58);have hDs:D<V1.heap.size:=by have:=HDlt.out;have:=S1.out;omega
      have hPs:Pb<V1.heap.size:=P1.out.2.2.2.2;have hAs:Ab<V1.heap.size:=by obtain⟨_,_,_,_,_,_,h⟩:=CA.out;exact h
      have D2:=aH ((D1.out.below hal).grown hg (fun h=>by have:=(E1.out.lt D h.symm).1;have:=HDlt.out;omega));have F2:=aH ((F1.out.below hal).kept hg (by
       match h:(Value.slice A2 n2 c2).ownBlock with
       | none=>exact Or.inl rfl
       | some b=>exact Or.inr (fun h2=>HX.out b b h2.symm h rfl)))
      have P2:=aH ((P1.out.below hal).grown hg (fun h=>HPo.out.1 Pb h.symm rfl));have C2:=aH ((CA.out.below hal).grown hg (fun h=>HA1.out Ab h.symm rfl));have B2:=aH ((B1.out.trans (hal.mono (Nat.le_of_lt hDs))).grown hg (by have:=S1.out;simp;omega) (fun k hk=>by have:=(E1.out.lt k hk).1;have:=HDlt.out;omega));have S2:=aH (Nat.le_trans S1.out (Nat.le_trans hal.size hg.size));have E2:=aH hown;have HX2:=aH (show ∀a b,(Value.slice A3 n3 c3).ownBlock=some a→(Value.slice A2 n2 c2).ownBlock=some b→a≠b from fun a b h1 h2=>by
       rcases hnb with h | h
       ·exact HX.out a b (by rw[←h];exact h1) h2
       ·rw[h]at h1;cases h1;have:=(F1.out.lt b h2).2;simp;omega)
      have HA3:=aH (show ∀a,(Value.slice A3 n3 c3).ownBlock=some a→a≠Pb∧a≠Ab from fun a h1=>by
       rcases hnb with h | h
       ·exact⟨HPo.out.1 a (by rw[←h];exact h1),HA1.out a (by rw[←h];exact h1)⟩
       ·rw[h]at h1;cases h1;exact⟨by simp;omega,by simp;omega⟩)
      clear hown hg hnb hal hDs hPs hAs D1 E1 F1 P1 B1 S1 CA HX HA1;obtain⟨e0,e1',e2,e3,e4,e5,y0,y1,y2,y3,y4,y5,yl⟩:=D2.out;clear e1' e2 e3 e4 e5 y1 y2 y3 y4 y5 yl
      go_upto_region 17 with fail
      clear e0 y0;have D3:=aH (D2.out.s (.slice A3 n3 c3)).1;have hDl2:∀a,w2.heap.size≤a→a≠D:=fun a h=>by have:=HDlt.out;omega
      have E3:=aH (E2.out.far (D:=D) (fun k hk=>hDl2 k (E2.out.lt k hk).1) 0 (.slice A3 n3 c3));have F3:=aH (F2.out.far (D:=D) (fun k hk=>hDl2 k (F2.out.lt k hk).1) 0 (.slice A3 n3 c3));have P3:=aH (P2.out.off (o:=0) HDP.out (.slice A3 n3 c3));have C3:=aH (C2.out.off (o:=0) HAD.out.symm (.slice A3 n3 c3));have B3:=aH (show Below D w2 (V2.setCell ⟨D,0,none⟩ (.slice A3 n3 c3))from B2.out.setCell (nR _) _);have S3:=aH (show w2.heap.size≤(V2.setCell ⟨D,0,none⟩ (.slice A3 n3 c3)).heap.size by simpa using S2.out);clear D2 E2 F2 P2 C2 B2 S2 hDl2;generalize V2.setCell ⟨D,0,none⟩ (.slice A3 n3 c3)=V3 at *;obtain⟨e0,e1',e2,e3,e4,e5,y0,y1,y2,y3,y4,y5,yl⟩:=D3.out;clear e0 e2 e3 e4 e5 y0 y2 y3 y4 y5 yl;go_wp2_with (at_builtin;refine Lk.wpList_app (K:=KL) _ rfl _ _ rfl rfl w2.heap.size (V3.heap.size+1) _ _ (List.replicate (L.length+j) ⟨8,0,none,0,[]⟩) [⟨8,0,none,0,[]⟩] rfl rfl (F3.out.alloc _) (Lk.IsL.lit (K:=KL) _ ⟨8,0,none,0,[]⟩ _ ⟨by decide,by decide⟩ rfl V3.heap.size rfl) ?d1 ?d2 ?_)
      case d1=>have:=HJL.out;simp;omega
      case d2=>have:=S3.out;simp;omega
      intro vN V4 hown hg hnb;have hown:KL.Own V4 w2.heap.size vN (List.replicate (L.length+(j+1)) ⟨8,0,none,0,[]⟩):=by rw[←Nat.add_assoc,List.replicate_succ'];exact hown
      obtain⟨A4,c4,hv4,_⟩:=(hown.isL (by have:=HJL.out;simp;omega)).shape;obtain⟨n4,hn4⟩:∃n,(List.replicate (L.length+(j+1)) (⟨8,0,none,0,[]⟩:Lo)).length=n:=⟨_,rfl⟩;rw[hn4]at hv4;subst hv4;clear hn4 e1' y1;have hal:=bL (bR V3.heap.size V3) (.cells #[.int .i64 8,.int .i64 0,.slice none 0 0] 50);have hDs:D<V3.heap.size:=by have:=HDlt.out;have:=S3.out;omega
      have hPs:Pb<V3.heap.size:=P3.out.2.2.2.2;have hAs:Ab<V3.heap.size:=by obtain⟨_,_,_,_,_,_,h⟩:=C3.out;exact h
      have D4:=aH ((D3.out.below hal).grown hg (fun h=>by have:=(F3.out.lt D h.symm).1;have:=HDlt.out;omega));have E4:=aH ((E3.out.below hal).kept hg (by
       match h:(Value.slice A3 n3 c3).ownBlock with
       | none=>exact Or.inl rfl
       | some b=>exact Or.inr (fun h2=>HX2.out b b h h2.symm rfl)))
      have P4:=aH ((P3.out.below hal).grown hg (fun h=>HPo.out.2 Pb h.symm rfl));have C4:=aH ((C3.out.below hal).grown hg (fun h=>HA2.out Ab h.symm rfl));have B4:=aH ((B3.out.trans (hal.mono (Nat.le_of_lt hDs))).grown hg (by have:=S3.out;simp;omega) (fun k hk=>by have:=(F3.out.lt k hk).1;have:=HDlt.out;omega));have F4:=aH hown;have HX4:=aH (show ∀a b,(Value.slice A3 n3 c3).ownBlock=some a→(Value.slice A4 n4 c4).ownBlock=some b→a≠b from fun a b h1 h2=>by
       rcases hnb with h | h
       ·exact HX2.out a b h1 (by rw[←h];exact h2)
       ·rw[h]at h2;cases h2;have:=(E3.out.lt a h1).2;simp;omega)
      have HA4:=aH (show ∀a,(Value.slice A4 n4 c4).ownBlock=some a→a≠Pb from fun a h1=>by
       rcases hnb with h | h
       ·exact HPo.out.2 a (by rw[←h];exact h1)
       ·rw[h]at h1;cases h1;simp;omega)
      clear hown hg hnb hal hDs hPs hAs D3 E3 F3 P3 B3 S3 C3 HX2 HA2;obtain⟨e0,e1',e2,e3,e4,e5,y0,y1,y2,y3,y4,y5,yl⟩:=D4.out;clear e0 e2 e3 e4 e5 y0 y2 y3 y4 y5 yl
      go_upto_region 18 with fail
      clear e1' y1;have D5:=aH (D4.out.s (.slice A4 n4 c4)).2.1;have hDl2:∀a,w2.heap.size≤a→a≠D:=fun a h=>by have:=HDlt.out;omega
      have E5:=aH (E4.out.far (D:=D) (fun k hk=>hDl2 k (E4.out.lt k hk).1) 1 (.slice A4 n4 c4));have F5:=aH (F4.out.far (D:=D) (fun k hk=>hDl2 k (F4.out.lt k hk).1) 1 (.slice A4 n4 c4));have P5:=aH (P4.out.off (o:=1) HDP.out (.slice A4 n4 c4));have C5:=aH (C4.out.off (o:=1) HAD.out.symm (.slice A4 n4 c4));have B5:=aH (show Below D w2 (V4.setCell ⟨D,1,none⟩ (.slice A4 n4 c4))from B4.out.setCell (nR _) _);clear D4 E4 F4 P4 C4 B4;generalize V4.setCell ⟨D,1,none⟩ (.slice A4 n4 c4)=V5 at *;obtain⟨e0,e1',e2,e3,e4,e5,y0,y1,y2,y3,y4,y5,yl⟩:=D5.out;obtain⟨a0,a1',a2',_⟩:=C5.out;clear e0 e1' e2 e4 e5 y0 y1 y2 y4 y5 yl a0 a2';have hwr:=HWR.out;go_wp2;clear hwr
      go_roundw
      case rel=>
       have D6:=(D5.out.s (.int .i64 (S0))).2.2.2.1;refine⟨j+1,A3,n3,c3,A4,n4,c4,num_i (by omega),by omega,?_,?_,?_,HX4,aH ⟨fun a h=>(HA3.out a h).1,HA4.out⟩,aH (P5.out.off (o:=3) HDP.out _),aH (B5.out.setCell (nR _) _)⟩
       ·rw[HRN.out,HSS.out];exact aH D6
       ·rw[HRN.out];exact aH (E5.out.far (D:=D) (fun k hk=>hDl2 k (E5.out.lt k hk).1) 3 _)
       ·exact aH (F5.out.far (D:=D) (fun k hk=>hDl2 k (F5.out.lt k hk).1) 3 _)
      case measure=>simp[intOf];omega
    ·obtain rfl:j=pn:=by omega
     rw[←HPC.out,←HSN.out]at HCD HOC;go_wp2
     go_roundw
     case rel=>exact⟨n+1,A1,n1,c1,A2,n2,c2,num_i (by omega),by omega,HCD,HOC,by rw[HSN.out,List.length_append,HPC.out,List.length_map,List.length_range];exact HOL,HX,HBR⟩
     case measure=>simp[intOf];omega
  ·obtain rfl:n=d.pl.length:=by omega
   have HWL:=aH HWN.out.2.2;have hW2:wellN d≤384:=HWN.out.2.1;have hT2:tipN d≤384:=HTN.out.2;rw[HWL.out]at HOL;have HNEW:=aH (show newA d=⟨newCn d.pl d.pl.length,List.replicate (wellN d) (8,0,[]),List.replicate (tipN d) (1,0),Two.sumL (volS (newCn d.pl d.pl.length)),0,0⟩from rfl);have HSB:=aH (sumL_bd _ (newC_right d.pl HOK.out.pl d.pl.length (nR _)));generalize newCn d.pl d.pl.length=cl at *;generalize Two.sumL (volS cl)=S0 at *;generalize hWn:wellN d=WN at *;generalize hTn:tipN d=TN at *;have hSF:fits S0:=by have:=HSB.out;rw[HWL.out]at this;unfold fits;omega
   have HSF:=aH hSF;clear hWn hTn HOK HWN HTN HCN hSF HSB HKR HDR HK2 HPA HPN;go_wp2;clear d0 d1 d2 d3
   go_loopw [13] (fun i wy=>∃(j:Nat) (A3:Option Addr) (n3 c3:Nat),i=.int .i64 j∧j≤TN∧Hid (Cells6 wy D (.slice A1 n1 c1) (.slice A2 n2 c2) (.slice A3 n3 c3) (.int .i64 S0) (.int .i64 0) (.int .i64 0))∧Hid (KE.Own wy w2.heap.size (.slice A1 n1 c1) cl)∧
     Hid (KL.Own wy w2.heap.size (.slice A2 n2 c2) (List.replicate WN ⟨8,0,none,0,[]⟩))∧Hid (KT.Own wy w2.heap.size (.slice A3 n3 c3) (List.replicate j (1,0)))∧
     Hid (∀a b,(Value.slice A3 n3 c3).ownBlock=some a→((Value.slice A1 n1 c1).ownBlock=some b∨(Value.slice A2 n2 c2).ownBlock=some b)→a≠b)∧Hid (Below D w2 wy)) (fun i _=>TN - (intOf i).toNat)
   case atStart=>exact⟨0,none,0,0,rfl,Nat.zero_le _,HCD,HOC,HOL,aH (Lk.Own.nil _ _),aH (fun a b h=>by cases h),HBR⟩
   case round=>
    clear HCD HOC HOL HBR;obtain⟨j,A3,n3,c3,rfl,hj,hD,hc,hl,ht,hx,hb⟩:=hrel;have D1:=aH hD.out;have E1:=aH hc.out;have F1:=aH hl.out;have G1:=aH ht.out;have X1:=aH hx.out;have B1:=aH hb.out;clear hD hc hl ht hx hb;have S1:=aH (show w2.heap.size≤wr.heap.size from B1.out.size);obtain⟨e0,e1',e2,e3,e4,e5,y0,y1,y2,y3,y4,y5,yl⟩:=D1.out;by_cases hlt:j<TN
    ·clear e0 e1' e3 e4 e5 y0 y1 y2 y3 y4 y5 yl;go_wp2_with (at_builtin;refine Lk.wpList_app (K:=KT) _ rfl _ _ rfl rfl w2.heap.size (wr.heap.size+1) _ _ (List.replicate j (1,0)) [(1,0)] rfl rfl (G1.out.alloc _) (Lk.IsL.lit (K:=KT) _ (1,0) _ ⟨by decide,by decide⟩ rfl wr.heap.size rfl) ?d1 ?d2 ?_)
     case d1=>simp;omega
     case d2=>have:=S1.out;simp;omega
     intro vN V2 hown hg hnb;have hown:KT.Own V2 w2.heap.size vN (List.replicate (j+1) (1,0)):=by rw[List.replicate_succ'];exact hown
     obtain⟨A4,c4,hv4,_⟩:=(hown.isL (by simp;omega)).shape;obtain⟨n4,hn4⟩:∃n,(List.replicate (j+1) ((1:Int),(0:Int))).length=n:=⟨_,rfl⟩;rw[hn4]at hv4;subst hv4;clear hn4 e2;have hal:=bL (bR wr.heap.size wr) (.cells #[.int .i64 1,.int .i64 0] 68);have hDs:D<wr.heap.size:=by have:=HDlt.out;have:=S1.out;omega
     have D2:=aH ((D1.out.below hal).grown hg (fun h=>by have:=(G1.out.lt D h.symm).1;have:=HDlt.out;omega));have E2:=aH ((E1.out.below hal).kept hg (by
      match h:(Value.slice A1 n1 c1).ownBlock with
      | none=>exact Or.inl rfl
      | some b=>exact Or.inr (fun h2=>X1.out b b h2.symm (Or.inl h) rfl)))
     have F2:=aH ((F1.out.below hal).kept hg (by
      match h:(Value.slice A2 n2 c2).ownBlock with
      | none=>exact Or.inl rfl
      | some b=>exact Or.inr (fun h2=>X1.out b b h2.symm (Or.inr h) rfl)))
     have B2:=aH ((B1.out.trans (hal.mono (Nat.le_of_lt hDs))).grown hg (by have:=S1.out;simp;omega) (fun k hk=>by have:=(G1.out.lt k hk).1;have:=HDlt.out;omega));have X2:=aH (show ∀a b,(Value.slice A4 n4 c4).ownBlock=some a→((Value.slice A1 n1 c1).ownBlock=some b∨(Value.slice A2 n2 c2).ownBlock=some b)→a≠b from fun a b h1 h2=>by
      rcases hnb with h | h
      ·exact X1.out a b (by rw[←h];exact h1) h2
      ·rw[h]at h1;cases h1;rcases h2 with h2 | h2
       ·have:=(E1.out.lt b h2).2;simp;omega
       ·have:=(F1.out.lt b h2).2;simp;omega)
     have G2:=aH hown;clear hown hg hnb hal hDs D1 E1 F1 G1 B1 X1;obtain⟨e0,e1',e2,e3,e4,e5,y0,y1,y2,y3,y4,y5,yl⟩:=D2.out;clear e0 e1' e3 e4 e5 y0 y1 y3 y4 y5 yl;go_wp2
     go_roundw
     case rel=>
      have hDl2:∀a,w2.heap.size≤a→a≠D:=fun a h=>by have:=HDlt.out;omega
      exact⟨j+1,A4,n4,c4,num_i (by omega),by omega,aH (D2.out.s (.slice A4 n4 c4)).2.2.1,aH (E2.out.far (D:=D) (fun k hk=>hDl2 k (E2.out.lt k hk).1) 2 _),aH (F2.out.far (D:=D) (fun k hk=>hDl2 k (F2.out.lt k hk).1) 2 _),aH (G2.out.far (D:=D) (fun k hk=>hDl2 k (G2.out.lt k hk).1) 2 _),X2,aH (B2.out.setCell (nR _) _)⟩
     case measure=>simp[intOf];omega
    ·obtain rfl:j=TN:=by omega
     have hR4:=HRW.out;have HR4:=aH (HR2.out.low B1.out HDl.out);obtain⟨r0,r1,r2,r3,r4,r5,x0,x1,x2,x3,x4,x5,xl⟩:=HR4.out;clear y0 y1 y2 y3 y4 y5 yl hR4;have i1:=(E1.out.isL (by rw[HWL.out];omega)).shape;have i2:=(F1.out.isL (by rw[List.length_replicate];omega)).shape;have i3:=(G1.out.isL (by rw[List.length_replicate];omega)).shape;obtain⟨_,_,q1,_⟩:=i1;obtain⟨_,_,q2,_⟩:=i2;obtain⟨_,_,q3,_⟩:=i3;simp only[Value.slice.injEq]at q1 q2 q3;have HL1:=aH q1.2.1;have HL2:=aH q2.2.1;have HL3:=aH q3.2.1;clear q1 q2 q3;go_wp2;have hRw:w.heap.size+1<w2.heap.size:=by have:=HDl.out;have:=HDlt.out;omega
     have t6:=HR4.out.set (.slice A1 n1 c1) (.slice A2 n2 c2) (.slice A3 n3 c3) (.int .i64 S0) (.int .i64 0) (.int .i64 0);obtain⟨q0,q1,q2,q3,q4,q5,_⟩:=t6;have C1:=E1.out.set6 (D:=w.heap.size+1) hRw (.slice A1 n1 c1) (.slice A2 n2 c2) (.slice A3 n3 c3) (.int .i64 S0) (.int .i64 0) (.int .i64 0);have C2:=F1.out.set6 (D:=w.heap.size+1) hRw (.slice A1 n1 c1) (.slice A2 n2 c2) (.slice A3 n3 c3) (.int .i64 S0) (.int .i64 0) (.int .i64 0);have C3:=G1.out.set6 (D:=w.heap.size+1) hRw (.slice A1 n1 c1) (.slice A2 n2 c2) (.slice A3 n3 c3) (.int .i64 S0) (.int .i64 0) (.int .i64 0);have hB5:Below w.heap.size w wr:=HB2.out.trans (B1.out.mono (by have:=HDl.out;omega));have hB6:=below_set6 (D:=w.heap.size+1) hB5 (by omega) (.slice A1 n1 c1) (.slice A2 n2 c2) (.slice A3 n3 c3) (.int .i64 S0) (.int .i64 0) (.int .i64 0);have I1:=C1.isL (by rw[HWL.out];omega);have I2:=C2.isL (by rw[List.length_replicate];omega);have I3:=C3.isL (by rw[List.length_replicate];omega);have z1:=HL1.out;have z2:=HL2.out;have z3:=HL3.out;refine bP (v:=.tuple #[.agg #[.slice A1 n1 c1,.slice A2 n2 c2,.slice A3 n3 c3,.int .i64 S0,.int .i64 0,.int .i64 0],.int .i64 0]) ?_ rfl ?_
     ·simp[results,Tryz.results103,go_sem,q0,q1,q2,q3,q4,q5]
     ·subst z1;subst z2;subst z3;refine⟨⟨A1,c1,cl,A2,c2,List.replicate WN ⟨8,0,none,0,[]⟩,A3,c3,List.replicate j (1,0),S0,0,0⟩,rfl,⟨I1,I2,I3,fun q hq=>by rw[(List.mem_replicate.1 hq).2];exact Lk.IsL.nil _ _ _ _,⟨HSF.out,(show fits 0 by decide),(show fits 0 by decide)⟩⟩,?_,hB6⟩;rw[HNEW.out];simp[Stk.ab,Lo.ab]
end Go.Proofs.YtacjonncakhhmaaGreat
