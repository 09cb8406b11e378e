/- What a deck says is not where its lists lie. -/
import Derived.Test.YtmecohdedghiaaaGreatDoorPo29
import Derived.Test.YtmecohdedghiaaaGreatDoorPo31
set_option maxRecDepth 100000
set_option maxHeartbeats 8000000
open Go.Proofs.Tryz
namespace Go.Proofs.YtmecohdedghiaaaGreatDoor
open Go.RowKit
theorem A9 {o:List Int} {arms:Int} {k:Nat} (hk:k<o.length) (h:uL arms (o.getD k 0)=true):oM o arms=false:=by
 unfold oM;rw[Bool.not_eq_false',List.any_eq_true];exact⟨_,af o k 0 hk,h⟩
theorem AU {o:List Int} {arms:Int} (h:∀j,j<o.length→uL arms (o.getD j 0)=false):oM o arms=true:=by
 unfold oM;rw[Bool.not_eq_true',List.any_eq_false];intro x hx;obtain⟨j,hj,e⟩:=List.getElem_of_mem hx;have:=h j hj;rw[List.getD_eq_getElem?_getD,List.getElem?_eq_getElem hj,Option.getD_some,e]at this;rw[this];exact Bool.false_ne_true
theorem rS (m:Md) (w:World) (hm:m.In w w.heap.size):Calls prog 23 #[m.v] w fun e w'=>e=.returned (.bool (fC m))∧Below w.heap.size w w':=by
 obtain⟨w0,hw0⟩:∃w0,w0=w.alloc (.cells m.ob 43):=⟨_,rfl⟩;have CG:=aH (cI hw0);have EJ:=aH (hm.then CG.out);have DE:=aH (show ti w0 w.heap.size m by rw[hw0];exact Cells11.new w _ _ _ _ _ _ _ _ _ _ _ _);have EV:=aH (fun V (h:Below w0.heap.size w0 V)=>rY m.d m.s V (EJ.out.d.then h) (EJ.out.s.then h));have L6:=aH (fun V (h:Below w0.heap.size w0 V)=>(dI m.d V (EJ.out.d.then h)).mono (R':=fun e w'=>∃A c,e=.returned (.slice A (ak m.d).length c)∧Below V.heap.size V w') fun e w' ⟨v,h1,h2,h3⟩=>by
  obtain⟨A,c,rfl,_⟩:=(h2.isL (by have:=eg m.d;omega)).shape;exact⟨A,c,h1,h3⟩)
 have HR:=aH (fun(k:Nat) (hk:k<m.o.length) h=>A9 (o:=m.o) (arms:=m.d.arms) hk h);have HT:=aH (fun h=>AU (o:=m.o) (arms:=m.d.arms) h);have DW:=aH EJ.out.o.2.2;have e:fC m=(cE m.d m.s.ab&&(decide ((m.o.length:Int)=((ak m.d).length:Int))&&oM m.o m.d.arms)):=rfl;rw[e];clear e hm;generalize cE m.d m.s.ab=b1 at *;generalize oM m.o m.d.arms=b3 at *;generalize (ak m.d).length=n at *
 cases b1
 ·skip
  go_enter func23,ntmps23
  go_upto_region 1 with fail
  rw[←hw0];obtain⟨g0,g1,g2,g3,g4,g5,g6,g7,g8,g9,g10,-⟩:=DE.out;clear hw0;refine ju ⟨g0,g1,g2,g3,g4,g5,g6,g7,g8,g9,g10⟩ (by kernel_rfl) (fun CC=>?_);have CQ:=aH (show Below w0.heap.size w0 w0.drew from aa (bR _ _) 1);clear g0 g1 g2 g3 g4 g5 g6 g7 g8 g9 g10;generalize w0.drew=wv at *;refine wk [.k 0 4,.k 1 5,.k 2 6,.k 3 7] (fun _ _ _ _ _ h=>h) CC ?_ (by kernel_rfl);repeat (refine .k (v:=?_) rfl (by kernel_rfl) ?_ ?_;rotate_left 1;(intro w h;go_simp<;>try rfl);try simp only[sp])
  refine .nil ?_;refine wQ 4 (some 8) rfl (fun K hK=>?_) (by kernel_rfl);go_simp;(with_reducible refine(EV.out _ CQ.out).mono ?_);rintro e wv ⟨rfl,hb⟩;obtain⟨s0,s1,s2,s3,s4,s5,s6,s7,s8,s9,s10⟩:=CC;have CQ:=aH (bC CQ.out hb);replace s0:=kK hb s0;replace s1:=kK hb s1;replace s2:=kK hb s2;replace s3:=kK hb s3;replace s4:=kK hb s4;replace s5:=kK hb s5;replace s6:=kK hb s6;replace s7:=kK hb s7;replace s8:=kK hb s8;replace s9:=kK hb s9;replace s10:=kK hb s10;clear hb;go_wp2_with fail;refine hK.out _ _ ⟨s0,s1,s2,s3,s4,s5,s6,s7,s8,s9,s10⟩ (fun CC=>?_);clear hK K s0 s1 s2 s3 s4 s5 s6 s7 s8 s9 s10;try simp only[sp]
  refine wk [.k 5 9,.k 6 10,.u 7 11,.u 8 12,.u 9 13,.u 10 14,.u 11 15,.u 12 16,.u 13 17,.u 14 18,.k 15 19] (fun _ _ _ _ _ h=>h) CC ?_ (by kernel_rfl);repeat (first|(refine .k (v:=?_) rfl (by kernel_rfl) ?_ ?_;rotate_left 1;(intro w h;go_simp<;>try rfl);try simp only[sp])|(refine .u rfl (by kernel_rfl) ?_;try simp only[sp]))
  refine .nil ?_;refine wD (by kernel_rfl) ?_;go_wp2
  go_ret
  exact⟨aj (by simp),bC CG.out CQ.out⟩
 by_cases hn:(m.o.length:Int)=(n:Int)
 case neg=>
  rw[dF hn];go_enter func23,ntmps23
  go_upto_region 1 with fail
  rw[←hw0];obtain⟨g0,g1,g2,g3,g4,g5,g6,g7,g8,g9,g10,-⟩:=DE.out;clear hw0;refine ju ⟨g0,g1,g2,g3,g4,g5,g6,g7,g8,g9,g10⟩ (by kernel_rfl) (fun CC=>?_);have CQ:=aH (show Below w0.heap.size w0 w0.drew from aa (bR _ _) 1);clear g0 g1 g2 g3 g4 g5 g6 g7 g8 g9 g10;generalize w0.drew=wv at *;refine wk [.k 0 4,.k 1 5,.k 2 6,.k 3 7] (fun _ _ _ _ _ h=>h) CC ?_ (by kernel_rfl);repeat (refine .k (v:=?_) rfl (by kernel_rfl) ?_ ?_;rotate_left 1;(intro w h;go_simp<;>try rfl);try simp only[sp])
  refine .nil ?_;refine wQ 4 (some 8) rfl (fun K hK=>?_) (by kernel_rfl);go_simp;(with_reducible refine(EV.out _ CQ.out).mono ?_);rintro e wv ⟨rfl,hb⟩;obtain⟨s0,s1,s2,s3,s4,s5,s6,s7,s8,s9,s10⟩:=CC;have CQ:=aH (bC CQ.out hb);replace s0:=kK hb s0;replace s1:=kK hb s1;replace s2:=kK hb s2;replace s3:=kK hb s3;replace s4:=kK hb s4;replace s5:=kK hb s5;replace s6:=kK hb s6;replace s7:=kK hb s7;replace s8:=kK hb s8;replace s9:=kK hb s9;replace s10:=kK hb s10;clear hb;go_wp2_with fail;refine hK.out _ _ ⟨s0,s1,s2,s3,s4,s5,s6,s7,s8,s9,s10⟩ (fun CC=>?_);clear hK K s0 s1 s2 s3 s4 s5 s6 s7 s8 s9 s10;try simp only[sp]
  refine wk [.k 5 9,.k 6 10,.k 7 11,.k 8 12,.k 9 13,.k 10 14,.k 11 15] (fun _ _ _ _ _ h=>h) CC ?_ (by kernel_rfl);repeat (refine .k (v:=?_) rfl (by kernel_rfl) ?_ ?_;rotate_left 1;(intro w h;go_simp<;>try rfl);try simp only[sp])
  refine .nil ?_;refine wQ 12 (some 16) rfl (fun K hK=>?_) (by kernel_rfl);go_simp;(with_reducible refine(L6.out _ CQ.out).mono ?_);rintro e wv ⟨pA,pc,rfl,hb⟩;obtain⟨s0,s1,s2,s3,s4,s5,s6,s7,s8,s9,s10⟩:=CC;have CQ:=aH (bC CQ.out hb);replace s0:=kK hb s0;replace s1:=kK hb s1;replace s2:=kK hb s2;replace s3:=kK hb s3;replace s4:=kK hb s4;replace s5:=kK hb s5;replace s6:=kK hb s6;replace s7:=kK hb s7;replace s8:=kK hb s8;replace s9:=kK hb s9;replace s10:=kK hb s10;clear hb;go_wp2_with fail;refine hK.out _ _ ⟨s0,s1,s2,s3,s4,s5,s6,s7,s8,s9,s10⟩ (fun CC=>?_);clear hK K s0 s1 s2 s3 s4 s5 s6 s7 s8 s9 s10;try simp only[sp]
  refine wk [.k 13 17,.k 14 18,.k 15 19] (fun _ _ _ _ _ h=>h) CC ?_ (by kernel_rfl);repeat (refine .k (v:=?_) rfl (by kernel_rfl) ?_ ?_;rotate_left 1;(intro w h;go_simp<;>try rfl);try simp only[sp])
  refine .nil ?_;refine wD (by kernel_rfl) ?_;go_wp2
  go_ret
  exact⟨aj (by simp),bC CG.out CQ.out⟩
 rw[dT hn];go_enter func23,ntmps23
 go_upto_region 1 with fail
 rw[←hw0];obtain⟨g0,g1,g2,g3,g4,g5,g6,g7,g8,g9,g10,-⟩:=DE.out;clear hw0;refine ju ⟨g0,g1,g2,g3,g4,g5,g6,g7,g8,g9,g10⟩ (by kernel_rfl) (fun CC=>?_);have CQ:=aH (show Below w0.heap.size w0 w0.drew from aa (bR _ _) 1);clear g0 g1 g2 g3 g4 g5 g6 g7 g8 g9 g10;generalize w0.drew=wv at *;refine wk [.k 0 4,.k 1 5,.k 2 6,.k 3 7] (fun _ _ _ _ _ h=>h) CC ?_ (by kernel_rfl);repeat (refine .k (v:=?_) rfl (by kernel_rfl) ?_ ?_;rotate_left 1;(intro w h;go_simp<;>try rfl);try simp only[sp])
 refine .nil ?_;refine wQ 4 (some 8) rfl (fun K hK=>?_) (by kernel_rfl);go_simp;(with_reducible refine(EV.out _ CQ.out).mono ?_);rintro e wv ⟨rfl,hb⟩;obtain⟨s0,s1,s2,s3,s4,s5,s6,s7,s8,s9,s10⟩:=CC;have CQ:=aH (bC CQ.out hb);replace s0:=kK hb s0;replace s1:=kK hb s1;replace s2:=kK hb s2;replace s3:=kK hb s3;replace s4:=kK hb s4;replace s5:=kK hb s5;replace s6:=kK hb s6;replace s7:=kK hb s7;replace s8:=kK hb s8;replace s9:=kK hb s9;replace s10:=kK hb s10;clear hb;go_wp2_with fail;refine hK.out _ _ ⟨s0,s1,s2,s3,s4,s5,s6,s7,s8,s9,s10⟩ (fun CC=>?_);clear hK K s0 s1 s2 s3 s4 s5 s6 s7 s8 s9 s10;try simp only[sp]
 refine wk [.k 5 9,.k 6 10,.k 7 11,.k 8 12,.k 9 13,.k 10 14,.k 11 15] (fun _ _ _ _ _ h=>h) CC ?_ (by kernel_rfl);repeat (refine .k (v:=?_) rfl (by kernel_rfl) ?_ ?_;rotate_left 1;(intro w h;go_simp<;>try rfl);try simp only[sp])
 refine .nil ?_;refine wQ 12 (some 16) rfl (fun K hK=>?_) (by kernel_rfl);go_simp;(with_reducible refine(L6.out _ CQ.out).mono ?_);rintro e wv ⟨pA,pc,rfl,hb⟩;obtain⟨s0,s1,s2,s3,s4,s5,s6,s7,s8,s9,s10⟩:=CC;have CQ:=aH (bC CQ.out hb);replace s0:=kK hb s0;replace s1:=kK hb s1;replace s2:=kK hb s2;replace s3:=kK hb s3;replace s4:=kK hb s4;replace s5:=kK hb s5;replace s6:=kK hb s6;replace s7:=kK hb s7;replace s8:=kK hb s8;replace s9:=kK hb s9;replace s10:=kK hb s10;clear hb;go_wp2_with fail;refine hK.out _ _ ⟨s0,s1,s2,s3,s4,s5,s6,s7,s8,s9,s10⟩ (fun CC=>?_);clear hK K s0 s1 s2 s3 s4 s5 s6 s7 s8 s9 s10;try simp only[sp]
 refine wk [.k 13 17,.k 14 18,.k 15 19] (fun _ _ _ _ _ h=>h) CC ?_ (by kernel_rfl);repeat (refine .k (v:=?_) rfl (by kernel_rfl) ?_ ?_;rotate_left 1;(intro w h;go_simp<;>try rfl);try simp only[sp])
 refine .nil ?_;refine wD (by kernel_rfl) ?_;have CH:=aH (bC CG.out CQ.out);clear CC;go_wp2
 go_loopw [3] (fun i wr=>∃k:Nat,k≤m.o.length∧i=.int .i64 k∧(∀j,j<k→uL m.d.arms (m.o.getD j 0)=false)∧Below w0.heap.size w0 wr) (fun i _=>m.o.length-(intOf i).toNat)
 case atStart=>exact⟨0,Nat.zero_le _,rfl,fun j hj=>absurd hj (Nat.not_lt_zero _),CQ.out⟩
 case round=>
  clear CQ CH;obtain⟨k,hk,rfl,hj,hb⟩:=hrel;have HJ:=aH hj;have HB:=aH hb;have QB:=DW.out;obtain⟨-,-,-,g3,-,-,-,-,-,-,g10,-⟩:=DE.out.below hb;clear hj hb;by_cases CI:k<m.o.length
  ·obtain⟨b,off,cap',hs,_,Jz,E8,CD,hf⟩:=KI.cells (EJ.out.o.then HB.out) (by omega);simp only[Value.slice.injEq]at hs;obtain⟨ho,_,hc⟩:=hs;rw[ho]at g10;have e1:=CD k CI;have HW:=aH (show uL m.d.arms (m.o.getD k 0)=(decide (m.o.getD k 0<0)||decide (m.d.arms<m.o.getD k 0))from rfl);have Fz:=aH (HR.out k CI);obtain⟨x,hx⟩:∃x,m.o.getD k 0=x:=⟨_,rfl⟩;have HX:=aH hx;rw[hx]at e1 HW Fz;clear CD hf hx;have Jm:b<wr.heap.size:=Jz;by_cases h0:x<0
   ·go_upto_region 6 with fail
    go_region
    go_wp2
    go_ret
    exact⟨aj (by have h:=Fz.out (by rw[HW.out];simp[h0]);simp[h]),bC CG.out (aa HB.out 1)⟩
   by_cases h8:m.d.arms<x
   ·go_upto_region 6 with fail
    go_region
    go_wp2
    go_ret
    exact⟨aj (by have h:=Fz.out (by rw[HW.out];simp[h8]);simp[h]),bC CG.out (aa HB.out 1)⟩
   ·go_upto_region 6 with fail
    go_region
    go_wp2
    go_roundw
    case rel=>exact⟨k+1,by omega,ai (by omega),fun j hj=>by
     by_cases h:j=k
     ·subst h;rw[HX.out,HW.out];simp[h0,h8]
     ·exact HJ.out j (by omega),aa HB.out 1⟩
    case measure=>simp[intOf];omega
  ·obtain rfl:k=m.o.length:=(by omega);go_wp2
   go_ret
   exact⟨aj (by rw[HT.out HJ.out];rfl),bC CG.out HB.out⟩
def Ac (a:Ab):Bool:=decide (400<a.c.length)||decide (400<a.l.length)||decide (400<a.t.length)||a.l.any (fun q=>decide (100<q.2.2.length))
theorem vS (s:Stk) (w:World) (hs:s.In w w.heap.size):Calls prog 49 #[s.v] w fun e w'=>e=.returned (.bool (Ac s.ab))∧Below w.heap.size w w':=by
 obtain⟨w0,hw0⟩:∃w0,w0=w.alloc s.ob:=⟨_,rfl⟩;have CG:=aH (cI hw0);have HL:=aH (hs.l.then CG.out);have Dq:=aH (show cn w0 w.heap.size s by rw[hw0];exact Cells6.new w _ _ _ _ _ _ _);have QB:=hs.l.2.2;have UL:=hs.c.2.2;have Uu:=hs.t.2.2;have HV:=aH (show Ac s.ab=(decide (400<s.cl.length)||decide (400<s.ll.length)||decide (400<s.tl.length)||s.ll.any (fun q=>decide (100<q.xs.length)))from by
  unfold Ac;show(decide (400<s.cl.length)||decide (400<(s.ll.map Lo.ab).length)||decide (400<s.tl.length)||(s.ll.map Lo.ab).any _)=_;rw[List.length_map,List.any_map];rfl)
 clear hs;generalize Ac s.ab=R at *;obtain⟨cA,cc,cl,lA,lc,ll,tA,tc,tl,st,inn,out⟩:=s;dsimp only at *;obtain⟨g0,g1,g2,-⟩:=Dq.out;dsimp only at g0 g1 g2;have IJ:=aH (fun k h1 h2=>kk ll av (fun q=>decide (100<q.xs.length)) k h1 h2);have Pa:=aH (show(∀j,j<ll.length→¬ 100<(ll.getD j av).xs.length)→ll.any (fun q=>decide (100<q.xs.length))=false from fun h=>by
  rw[List.any_eq_false];intro q hq;obtain⟨j,hj,rfl⟩:=List.getElem_of_mem hq;have:=h j hj;rw[List.getD_eq_getElem?_getD,List.getElem?_eq_getElem hj]at this;simpa using this)
 by_cases h1:400<cl.length
 ·have HR:=aH (show R=true by rw[HV.out,dT h1];rfl);go_enter func49,ntmps49;go_wp2
  go_ret
  exact⟨by rw[HR.out];rfl,by rw[←hw0];exact CG.out⟩
 by_cases h2:400<ll.length
 ·have HR:=aH (show R=true by rw[HV.out,dT h2];simp);go_enter func49,ntmps49;go_wp2
  go_ret
  exact⟨by rw[HR.out];rfl,by rw[←hw0];exact CG.out⟩
 by_cases h3:400<tl.length
 ·have HR:=aH (show R=true by rw[HV.out,dT h3];simp);go_enter func49,ntmps49;go_wp2
  go_ret
  exact⟨by rw[HR.out];rfl,by rw[←hw0];exact CG.out⟩
 rw[dF h1,dF h2,dF h3]at HV;have Oh:¬(400:Int)<cl.length:=by omega
 have JA:¬(400:Int)<ll.length:=by omega
 have Uw:¬(400:Int)<tl.length:=by omega
 clear h1 h2 h3;go_enter func49,ntmps49;go_wp2_with fail;rw[←hw0];clear hw0
 go_loopw [3] (fun i wr=>∃k:Nat,k≤ll.length∧i=.int .i64 k∧Hid (∀j,j<k→¬ 100<(ll.getD j av).xs.length)∧wr=w0) (fun i _=>ll.length-(intOf i).toNat)
 case atStart=>exact⟨0,Nat.zero_le _,rfl,aH (fun j hj=>absurd hj (Nat.not_lt_zero _)),rfl⟩
 case round=>
  obtain⟨k,hk,rfl,EQ,rfl⟩:=hrel;have Ir:=aH EQ.out;clear EQ;by_cases CI:k<ll.length
  ·obtain⟨b,off,rfl,hb,hbc,CD⟩:=cD HL.out (by omega);obtain⟨e1,e2,e3⟩:=CD k CI;have Oe:=aH (IJ.out k CI);have Hu:=aH (show ¬ 100<(ll.getD k av).xs.length→∀j,j<k+1→¬ 100<(ll.getD j av).xs.length from fun h j hj=>by
    by_cases e:j=k
    ·rw[e];exact h
    ·exact Ir.out j (by omega))
   have R6:(ll.getD k av).xs.length≤9223372036854775807∨True:=.inr trivial;clear CD e1 e2 R6;obtain⟨n,hn⟩:∃n,(ll.getD k av).xs.length=n:=⟨_,rfl⟩;rw[hn]at e3 Oe Hu;generalize (ll.getD k av).A=qA at *;generalize (ll.getD k av).c=qc at *;clear hn;by_cases h1:100<n
   ·have HR:=aH (show R=true by rw[HV.out,Oe.out (dT h1)];rfl);have TL:(100:Int)<n:=(by omega);clear h1;go_wp2
    go_ret
    exact⟨by rw[HR.out];rfl,CG.out⟩
   ·have Jk:=aH (Hu.out h1);have TL:¬(100:Int)<n:=(by omega);clear h1;go_wp2
    go_roundw
    case rel=>exact⟨k+1,by omega,ai (by omega),aH Jk.out,by trivial⟩
    case measure=>simp[intOf];omega
  ·obtain rfl:k=ll.length:=(by omega);have HR:=aH (show R=false by rw[HV.out,Pa.out Ir.out];rfl);go_wp2
   go_ret
   exact⟨by rw[HR.out];rfl,CG.out⟩
noncomputable def Ag (m:Md) (who:Int):Int:=if fC m=true then(cG m.d m.s.ab who).1 else -1
theorem sm (m:Md) (who:Int) (w:World) (hm:m.In w w.heap.size):Calls prog 24 #[m.v,.int .i64 who] w fun e w'=>e=.returned (.int .i64 (Ag m who))∧Below w.heap.size w w':=by
 obtain⟨w0,hw0⟩:∃w0,w0=w.alloc (.cells m.ob 43):=⟨_,rfl⟩;have CG:=aH (cI hw0);have EJ:=aH (hm.then CG.out);have DE:=aH (show ti w0 w.heap.size m by rw[hw0];exact Cells11.new w _ _ _ _ _ _ _ _ _ _ _ _);have EV:=aH (fun V (h:Below w0.heap.size w0 V)=>kr m V (EJ.out.then h));have PI:=aH (fun V (h:Below w0.heap.size w0 V)=>lq m.d m.s who V (EJ.out.d.then h) (EJ.out.s.then h));have e:Ag m who=if fC m=true then(cG m.d m.s.ab who).1 else -1:=rfl
 rw[e];clear e hm;generalize fC m=b1 at *;generalize cG m.d m.s.ab who=h1 at *;obtain⟨h1,h2⟩:=h1;obtain⟨g0,g1,g2,g3,g4,g5,g6,g7,g8,g9,g10,-⟩:=DE.out;have Dl:=DE;rw[hw0]at g0 g1 g2 g3 g4 g5 g6 g7 g8 g9 g10
 cases b1
 ·go_enter func24,ntmps24;go_wp2_with fail;try rw[←hw0]
  refine(EV.out _ (bR _ _)).mono ?_;rintro e w1 ⟨rfl,hb⟩;go_wp2
  go_ret
  exact⟨rfl,bC CG.out hb⟩
 ·go_enter func24,ntmps24;go_wp2_with fail;try rw[←hw0]
  refine(EV.out _ (bR _ _)).mono ?_;rintro e w1 ⟨rfl,hb⟩;clear g0 g1 g2 g3 g4 g5 g6 g7 g8 g9 g10;obtain⟨g0,g1,g2,g3,g4,g5,g6,g7,g8,g9,g10,-⟩:=DE.out.below hb;go_wp2_with fail;refine(PI.out _ hb).mono ?_;rintro e w2 ⟨rfl,CM⟩;go_wp2
  go_ret
  exact⟨rfl,bC CG.out (bC hb CM)⟩
def BL (m:Md):Bool:=dB m.d||(Ac m.s.ab||decide (1000<m.o.length))
theorem xM (m:Md) (w:World) (hm:m.In w w.heap.size):Calls prog 17 #[m.v] w fun e w'=>e=.returned (.bool (BL m))∧Below w.heap.size w w':=by
 obtain⟨w0,hw0⟩:∃w0,w0=w.alloc (.cells m.ob 43):=⟨_,rfl⟩;have CG:=aH (cI hw0);have EJ:=aH (hm.then CG.out);have DE:=aH (show ti w0 w.heap.size m by rw[hw0];exact Cells11.new w _ _ _ _ _ _ _ _ _ _ _ _);have ES:=aH (fun V (h:Below w0.heap.size w0 V)=>qR m.d V (EJ.out.d.then h));have GM:=aH (fun V (h:Below w0.heap.size w0 V)=>vS m.s V (EJ.out.s.then h));have e:BL m=(dB m.d||(Ac m.s.ab||decide (1000<m.o.length))):=rfl;rw[e];clear e hm;generalize dB m.d=b1 at *;generalize Ac m.s.ab=b2 at *;obtain⟨g0,g1,g2,g3,g4,g5,g6,g7,g8,g9,g10,-⟩:=DE.out;rw[hw0]at g0 g1 g2 g3 g4 g5 g6 g7 g8 g9 g10;go_enter func17,ntmps17;go_wp2_with fail;try rw[←hw0]
 refine(ES.out _ (bR _ _)).mono ?_;rintro e w1 ⟨rfl,hb⟩;clear g0 g1 g2 g3 g4 g5 g6 g7 g8 g9 g10;obtain⟨g0,g1,g2,g3,g4,g5,g6,g7,g8,g9,g10,-⟩:=DE.out.below hb
 cases b1
 ·go_wp2_with fail;refine(GM.out _ hb).mono ?_;rintro e w2 ⟨rfl,CM⟩;clear g0 g1 g2 g3 g4 g5 g6 g7 g8 g9 g10;obtain⟨g0,g1,g2,g3,g4,g5,g6,g7,g8,g9,g10,-⟩:=DE.out.below (bC hb CM)
  cases b2
  all_goals
   by_cases hn:1000<m.o.length;all_goals
    go_wp2
    go_ret
    exact⟨aj (by simp[hn];try omega),bC CG.out (bC hb CM)⟩
 ·go_wp2
  go_ret
  exact⟨aj (by simp),bC CG.out hb⟩
theorem lX (d:Dk):d.ab.bl=d.bl:=rfl
theorem jJ (d:Dk):d.ab.rl=d.rl:=rfl
theorem gZ (d:Dk):d.ab.arms=d.arms:=rfl
theorem iT (d:Dk):d.ab.pl=d.pl.map Pl.ab:=rfl
theorem yH (d:Dk):d.ab.pl.length=d.pl.length:=by rw[iT,List.length_map]
theorem fi (l:List Pl) (i:Nat):(l.map Pl.ab).getD i KP.dflt=(l.getD i KP.dflt).ab:=by
 rw[List.getD_eq_getElem?_getD,List.getD_eq_getElem?_getD,List.getElem?_map]
 cases l[i]? <;>rfl
theorem iM (l:List Pl):aC (l.map Pl.ab)=aC l:=by unfold aC;rw[List.map_map];rfl
theorem zy (l:List Pl):(l.map Pl.ab).all az=l.all az:=by rw[List.all_map];rfl
theorem gU (d:Dk):aJ d.ab=aJ d:=by
 unfold aJ;simp only[lX,jJ,gZ,iT,List.length_map,iM,zy]
theorem rX (d:Dk):bD d.ab=bD d:=by
 unfold bD;have h:aE d.ab.pl=aE d.pl:=by
  funext i
  unfold aE;rw[iT,fi];rfl
 rw[h,yH,jJ,lX]
theorem fD (d:Dk):bM d.ab=bM d:=by unfold bM;rw[rX]
theorem ln (d:Dk) (id:Int):bh d.ab id=bh d id:=by unfold bh;rw[gU,fD]
theorem eD (d:Dk):ak d.ab=ak d:=by unfold ak;rw[gU,fD]
theorem vd (d:Dk):ci d.ab=ci d:=by unfold ci;rw[gU,iT,iM,jJ,lX]
theorem ut (d:Dk):bU d.ab=bU d:=by unfold bU;rw[iT,List.map_map,jJ];rfl
theorem Bp (d:Dk):zE d.ab=zE d:=by unfold zE;rw[ut,lX]
theorem gW (d:Dk):aA d.ab=aA d:=by unfold aA;rw[gU,Bp]
theorem vp (d:Dk) (p:Q4):bs d.ab p=bs d p:=by unfold bs;rw[iT,fi,jJ];rfl
theorem wt (d:Dk):cr d.ab=cr d:=by funext p;unfold cr;rw[vp,lX]
theorem vI (d:Dk):bV d.ab=bV d:=by unfold bV;rw[fD,wt]
theorem pw (d:Dk):eY d.ab=eY d:=by unfold eY;rw[gW,vI]
theorem yF (d:Dk):jH d.ab=jH d:=by funext i;unfold jH;rw[pw]
theorem tC (d:Dk):dg d.ab=dg d:=by funext i;unfold dg;rw[pw]
theorem oI (d:Dk) (ids:List Int):cS d.ab ids=cS d ids:=by unfold cS;rw[gW,yF]
theorem vQ (d:Dk) (ids:List Int):dr d.ab ids=dr d ids:=by unfold dr;rw[oI,tC]
theorem px (d:Dk):de d.ab=de d:=by unfold de;rw[vd]
theorem uV (d:Dk) (p:Int×Int):ke d.ab p=ke d p:=by unfold ke;rw[px]
theorem sx (d:Dk) (l:List (Int×Int)):cy d.ab l=cy d l:=by unfold cy;simp only[uV]
theorem xN (d:Dk) (ids:List Int):fU d.ab ids=fU d ids:=by unfold fU;rw[sx,vQ]
theorem tH (d:Dk) (a b:Int):dp d.ab a b=dp d a b:=by unfold dp;rw[oI,px,tC]
theorem yX (d:Dk) (k id:Int):gi d.ab k id=gi d k id:=by unfold gi;rw[ln]
theorem ze (d:Dk) (r:Rq):jz d.ab r=jz d r:=by unfold jz;simp only[yX]
theorem ce (d:Dk) (r:Rq):bI d.ab r=bI d r:=by unfold bI;rw[gW,ze]
theorem zk (d:Dk) (r:Rq):uH d.ab r=uH d r:=by unfold uH;rw[tH,xN]
theorem yT (d:Dk) (r:Rq):lj d.ab r=lj d r:=by unfold lj;rw[ce,zk]
theorem yL (q:Pl):nD q.ab=nD q:=rfl
theorem tR (l:List Pl) (n:Nat):bK (l.map Pl.ab) n=bK l n:=by unfold bK;simp only[fi,yL]
theorem ld (d:Dk):aB d.ab=aB d:=by
 unfold aB au bm;rw[iT,List.length_map,tR,iM,jJ]
theorem kO (d:Dk) (k id:Int):dJ d.ab k id=dJ d k id:=by unfold dJ;rw[ln]
theorem kY (d:Dk) (a:Ab):cE d.ab a=cE d a:=by unfold cE;rw[gW,ld,gZ]
theorem tq (d:Dk) (a:Ab) (b E:Int):br d.ab a b E=br d a b E:=by unfold br;rw[kY,gZ]
theorem yP (d:Dk) (id er f:Int):rE d.ab id er f=rE d id er f:=by unfold rE;rw[kO]
theorem tM (d:Dk) (a:Ab) (id m f:Int):cL d.ab a id m f=cL d a id m f:=by unfold cL;rw[yP]
theorem sy (d:Dk) (a:Ab) (b id:Int):eL d.ab a b id=eL d a b id:=by unfold eL;rw[kO]
theorem sE (d:Dk) (a:Ab) (x y n:Int):gA d.ab a x y n=gA d a x y n:=by unfold gA;rw[kO,kO]
theorem ue (d:Dk) (a:Ab) (b:Int):cG d.ab a b=cG d a b:=by unfold cG;rw[kY]
structure Md.Sm (m n:Md):Prop where
 d:m.d.ab=n.d.ab
 s:m.s.ab=n.s.ab
 o:m.o=n.o
end Go.Proofs.YtmecohdedghiaaaGreatDoor
