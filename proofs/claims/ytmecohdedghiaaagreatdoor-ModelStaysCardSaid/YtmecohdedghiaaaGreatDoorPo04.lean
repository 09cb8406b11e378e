/- The lanes that a tool touches: the reference's walk. -/
import Derived.Test.YtmecohdedghiaaaGreatDoorPo00
import Derived.Test.YtmecohdedghiaaaGreatDoorPo03
import Derived.Deep.LoopGhost
import Derived.RegionTactic
import Derived.ChangeAlike
set_option maxRecDepth 100000
set_option maxHeartbeats 8000000
open Go.Proofs.Tryz
namespace Go.Proofs.YtmecohdedghiaaaGreatDoor
open Go.RowKit
theorem Lk.IsL.shape {P:Program} {α:Type} {K:Lk P α} {w:World} {B:Nat} {v:Value} {xs:List α} (h:K.IsL w B v xs):∃A c,v=.slice A xs.length c∧xs.length≤c:=by
 obtain⟨⟨A,cap,rfl,hc,hA⟩,_,_⟩:=h;exact⟨A,cap,rfl,hc⟩
def kQ (q:Int×Int):List Value:=[.int .i64 q.1,.int .i64 q.2]
noncomputable def KT:Lk prog (Int×Int) where
 S:=39
 E:=146
 n:=2
 zero:=.agg #[.int .i64 0,.int .i64 0]
 bytes:=16
 cells:=kQ
 dflt:=(0,0)
 ok:=fun q=>ae q.1∧ae q.2
 und:=underlying39
 info:=by kernel_rfl
 zs:=rfl
 pos:=by decide
 small:=by decide
 len _:=rfl
 one x u hu:=by
  simp only[kQ,List.mem_cons,List.not_mem_nil,or_false]at hu;rcases hu with rfl|rfl<;>rfl
theorem dk {w:World} {B:Nat} {A:Option Addr} {n c:Nat} {xs:List (Int×Int)} (h:KT.IsL w B (.slice A n c) xs) (h0:0<xs.length):∃b off,A=some ⟨b,off,none⟩∧b<B∧xs.length≤c∧
  ∀i,i<xs.length→w.cell? ⟨b,off+i*2,none⟩=some (.int .i64 (xs.getD i (0,0)).1)∧w.cell? ⟨b,off+i*2+1,none⟩=some (.int .i64 (xs.getD i (0,0)).2):=by
 obtain⟨b,off,e,hb,hc,CD⟩:=h.elem h0;refine⟨b,off,e,hb,hc,fun i hi=>?_⟩;have q:=fun j u hu=>CD i hi j u hu;have hn:KT.n=2:=rfl;simp only[hn,←Nat.add_assoc]at q;exact⟨q 0 _ rfl,q 1 _ rfl⟩
structure Ch where
 a:Int
 b:Int
 c:Int
def kS (q:Ch):List Value:=[.int .i64 q.a,.int .i64 q.b,.int .i64 q.c]
def mS:Ch:=⟨0,0,0⟩
noncomputable def KC:Lk prog (Ch) where
 S:=54
 E:=177
 n:=3
 zero:=.agg #[.int .i64 0,.int .i64 0,.int .i64 0]
 bytes:=24
 cells:=kS
 dflt:=mS
 ok:=fun q=>ae q.a∧ae q.b∧ae q.c
 und:=underlying54
 info:=by kernel_rfl
 zs:=rfl
 pos:=by decide
 small:=by decide
 len _:=rfl
 one x u hu:=by
  simp only[kS,List.mem_cons,List.not_mem_nil,or_false]at hu;rcases hu with rfl|rfl|rfl<;>rfl
theorem fy {w:World} {B:Nat} {A:Option Addr} {n c:Nat} {xs:List Ch} (h:KC.IsL w B (.slice A n c) xs) (h0:0<xs.length):∃b off,A=some ⟨b,off,none⟩∧b<B∧xs.length≤c∧
  ∀i,i<xs.length→w.cell? ⟨b,off+i*3,none⟩=some (.int .i64 (xs.getD i mS).a)∧w.cell? ⟨b,off+i*3+1,none⟩=some (.int .i64 (xs.getD i mS).b)∧w.cell? ⟨b,off+i*3+2,none⟩=some (.int .i64 (xs.getD i mS).c):=by
 obtain⟨b,off,e,hb,hc,CD⟩:=h.elem h0;refine⟨b,off,e,hb,hc,fun i hi=>?_⟩;have q:=fun j u hu=>CD i hi j u hu;have hn:KC.n=3:=rfl;simp only[hn,←Nat.add_assoc]at q;exact⟨q 0 _ rfl,q 1 _ rfl,q 2 _ rfl⟩
theorem aN {a b c d:Nat} (h:a≠c∨b≠d):(⟨a,b,none⟩:Addr)≠⟨c,d,none⟩:=by
 intro e;injection e with e1 e2
 rcases h with h|h
 ·exact h e1
 ·exact h e2
def Cells2 (V:World) (D:Nat) (x0 x1:Value):Prop:=
 V.cell? ⟨D,0,none⟩=some x0∧V.cell? ⟨D,1,none⟩=some x1∧
 V.frozen? ⟨D,0,none⟩=false∧V.frozen? ⟨D,1,none⟩=false∧D<V.heap.size
abbrev xU (V:World) (D:Nat) (p0 p1:Value):World:=(V.setCell ⟨D,0,none⟩ p0).setCell ⟨D,1,none⟩ p1
theorem Cells2.new (V:World) (t:TypeId) (x0 x1:Value):Cells2 (V.alloc (.cells #[x0,x1] t)) V.heap.size x0 x1:=
 ⟨by rw[ah];rfl,by rw[ah];rfl,by simp,by simp,by simp⟩
theorem Cells2.below {V V':World} {D:Nat} {x0 x1:Value} (h:Cells2 V D x0 x1) (hb:Bw V V'):Cells2 V' D x0 x1:=by
 obtain⟨h0,h1,z0,z1,hs⟩:=h;refine⟨kK hb h0,kK hb h1,?_,?_,nL hs hb.size⟩
 ·rw[hb.frozen (p:=⟨D,0,none⟩) hs];exact z0
 ·rw[hb.frozen (p:=⟨D,1,none⟩) hs];exact z1
theorem Cells2.set {V:World} {D:Nat} {x0 x1:Value} (h:Cells2 V D x0 x1) (p0 p1:Value):Cells2 (xU V D p0 p1) D p0 p1:=by
 obtain⟨h0,h1,z0,z1,hs⟩:=h;refine⟨sO (ag (h0)) (aN (.inr (by decide))),ag (sO (h1) (aN (.inr (by decide)))),sF (sF (z0)),sF (sF (z1)),?_⟩;simpa using hs
theorem Cells2.apart {V:World} {D G:Nat} {x0 x1:Value} (h:Cells2 V G x0 x1) (CJ:D≠G) (p0 p1:Value):Cells2 (xU V D p0 p1) G x0 x1:=by
 obtain⟨h0,h1,z0,z1,hs⟩:=h;refine⟨sO (sO (h0) (aN (.inl CJ))) (aN (.inl CJ)),sO (sO (h1) (aN (.inl CJ))) (aN (.inl CJ)),sF (sF (z0)),sF (sF (z1)),?_⟩;simpa using hs
def Cells3 (V:World) (D:Nat) (x0 x1 x2:Value):Prop:=
 V.cell? ⟨D,0,none⟩=some x0∧V.cell? ⟨D,1,none⟩=some x1∧V.cell? ⟨D,2,none⟩=some x2∧
 V.frozen? ⟨D,0,none⟩=false∧V.frozen? ⟨D,1,none⟩=false∧V.frozen? ⟨D,2,none⟩=false∧D<V.heap.size
abbrev lG (V:World) (D:Nat) (p0 p1 p2:Value):World:=((V.setCell ⟨D,0,none⟩ p0).setCell ⟨D,1,none⟩ p1).setCell ⟨D,2,none⟩ p2
theorem Cells3.new (V:World) (t:TypeId) (x0 x1 x2:Value):Cells3 (V.alloc (.cells #[x0,x1,x2] t)) V.heap.size x0 x1 x2:=
 ⟨by rw[ah];rfl,by rw[ah];rfl,by rw[ah];rfl,by simp,by simp,by simp,by simp⟩
theorem Cells3.below {V V':World} {D:Nat} {x0 x1 x2:Value} (h:Cells3 V D x0 x1 x2) (hb:Bw V V'):Cells3 V' D x0 x1 x2:=by
 obtain⟨h0,h1,h2,z0,z1,z2,hs⟩:=h;refine⟨kK hb h0,kK hb h1,kK hb h2,?_,?_,?_,nL hs hb.size⟩
 ·rw[hb.frozen (p:=⟨D,0,none⟩) hs];exact z0
 ·rw[hb.frozen (p:=⟨D,1,none⟩) hs];exact z1
 ·rw[hb.frozen (p:=⟨D,2,none⟩) hs];exact z2
theorem Cells3.set {V:World} {D:Nat} {x0 x1 x2:Value} (h:Cells3 V D x0 x1 x2) (p0 p1 p2:Value):Cells3 (lG V D p0 p1 p2) D p0 p1 p2:=by
 obtain⟨h0,h1,h2,z0,z1,z2,hs⟩:=h;refine⟨sO (sO (ag (h0)) (aN (.inr (by decide)))) (aN (.inr (by decide))),sO (ag (sO (h1) (aN (.inr (by decide))))) (aN (.inr (by decide))),ag (sO (sO (h2) (aN (.inr (by decide)))) (aN (.inr (by decide)))),sF (sF (sF (z0))),sF (sF (sF (z1))),sF (sF (sF (z2))),?_⟩;simpa using hs
theorem Cells3.apart {V:World} {D G:Nat} {x0 x1 x2:Value} (h:Cells3 V G x0 x1 x2) (CJ:D≠G) (p0 p1 p2:Value):Cells3 (lG V D p0 p1 p2) G x0 x1 x2:=by
 obtain⟨h0,h1,h2,z0,z1,z2,hs⟩:=h;refine⟨sO (sO (sO (h0) (aN (.inl CJ))) (aN (.inl CJ))) (aN (.inl CJ)),sO (sO (sO (h1) (aN (.inl CJ))) (aN (.inl CJ))) (aN (.inl CJ)),sO (sO (sO (h2) (aN (.inl CJ))) (aN (.inl CJ))) (aN (.inl CJ)),sF (sF (sF (z0))),sF (sF (sF (z1))),sF (sF (sF (z2))),?_⟩;simpa using hs
theorem bz {V w:World} {B D:Nat} (h:Below B w V) (hB:B≤D) (p0 p1 p2:Value):Below B w (lG V D p0 p1 p2):=(((h.setCell hB _).setCell hB _).setCell hB _)
def jy (l:List Nat) (a b:Nat):Nat:=if eJ l a b=true then 0 else loV l a 0
def ji (l:List Nat) (a b:Nat):Nat:=if eJ l a b=true then 0 else hiV l b (l.length-2)
def jK (l:List Nat) (a b:Nat):Int:=if eJ l a b=true then 71 else 0
theorem l9 (b off cap n:Nat) (xs:List Nat) (hn:xs.length=n+2) (hm:n≤23) (w:World) (hb:b<w.heap.size) (CD:∀i,i<xs.length→w.cell? ⟨b,off+i,none⟩=some (.float .f64 (xs.getD i 0)))
  (p q:Nat):
  Calls prog 248 #[.slice (some ⟨b,off,none⟩) xs.length cap,.float .f64 p,.float .f64 q] w fun e w'=>e=.returned (.tuple #[.agg #[.int .i64 (jy xs p q),.int .i64 (ji xs p q)],.int .i64 (jK xs p q)])∧Bw w w':=by
 have olt:∀a b,(FloatKind.f64.format.order a b==some .lt)=ey a b:=fun _ _=>rfl;have ogt:∀a b,(FloatKind.f64.format.order a b==some .gt)=uK a b:=fun _ _=>rfl;have oge:∀a b,(uK a b||FloatKind.f64.format.order a b==some .eq)=qo a b:=fun _ _=>rfl;have HC:=aH CD;have c0:=CD 0 (by omega);have c1:=CD (n+1) (by omega);rw[Nat.add_zero]at c0;have HO:=aH (show eJ xs p q=(uK p (xs.getD (n+1) 0)||ey q (xs.getD 0 0))by unfold eJ;rw[hn];rfl);have HN:=aH (vJ xs q);have HE:=aH (yG xs q);have CV:=aH (u6 xs p);have NQ:=aH (zH xs p);have Er:=aH (show ji xs p q=if eJ xs p q=true then 0 else hiV xs q n by unfold ji;rw[hn];rfl);rw[hn]at *;clear hn;clear CD;rcases Bool.eq_false_or_eq_true (uK p (xs.getD (n+1) 0))with g1|g1
 ·have ho:=HO.out;rw[g1,Bool.true_or]at ho;have T1:jy xs p q=0:=by unfold jy;rw[if_pos ho]
  have T2:ji xs p q=0:=by unfold ji;rw[if_pos ho]
  have T3:jK xs p q=71:=by unfold jK;rw[if_pos ho]
  rw[T1,T2,T3];clear ho T1 T2 T3;generalize xs.getD (n+1) 0=f1 at *;generalize xs.getD 0 0=f0 at *;go_enter func248,ntmps248;go_wp2;exact bP (v:=.tuple #[.agg #[.int .i64 0,.int .i64 0],.int .i64 71]) (by simp[results,results248,go_sem]) rfl ⟨rfl,bL (bR _ _) _⟩
 ·rcases Bool.eq_false_or_eq_true (ey q (xs.getD 0 0))with g2|g2
  ·have ho:=HO.out;rw[g1,g2,Bool.false_or]at ho;have T1:jy xs p q=0:=(by unfold jy;rw[if_pos ho]);have T2:ji xs p q=0:=(by unfold ji;rw[if_pos ho]);have T3:jK xs p q=71:=(by unfold jK;rw[if_pos ho]);rw[T1,T2,T3];clear ho T1 T2 T3;generalize xs.getD (n+1) 0=f1 at *;generalize xs.getD 0 0=f0 at *;go_enter func248,ntmps248;go_wp2;exact bP (v:=.tuple #[.agg #[.int .i64 0,.int .i64 0],.int .i64 71]) (by simp[results,results248,go_sem]) rfl ⟨rfl,bL (bR _ _) _⟩
  ·have ho:=HO.out;rw[g1,g2,Bool.false_or]at ho;have T1:jy xs p q=loV xs p 0:=(by unfold jy;rw[if_neg (by rw[ho];simp)]);have T2:ji xs p q=hiV xs q n:=(by rw[Er.out,if_neg (by rw[ho];simp)]);have T3:jK xs p q=0:=(by unfold jK;rw[if_neg (by rw[ho];simp)]);rw[T1,T2,T3];have G2:=aH g2;clear ho T1 T2 T3 HO;generalize xs.getD (n+1) 0=f1 at c1 g1;generalize xs.getD 0 0=f0 at c0 g2;go_enter func248,ntmps248;go_wp2;clear c0 c1 g1 g2
   go_loopg [46] n (fun gk _ wr=>∃k:Nat,gk+k=n∧loV xs p k=loV xs p 0∧Bw w wr∧
    wr.cell? ⟨w.heap.size,0,none⟩=some (.int .i64 0)∧wr.cell? ⟨w.heap.size,1,none⟩=some (.int .i64 0)∧wr.cell? ⟨w.heap.size+1,0,none⟩=some (.int .i64 k)∧wr.cell? ⟨w.heap.size+1,1,none⟩=some (.int .i64 n)∧
    wr.frozen? ⟨w.heap.size,0,none⟩=false∧wr.frozen? ⟨w.heap.size,1,none⟩=false∧wr.frozen? ⟨w.heap.size+1,0,none⟩=false∧wr.frozen? ⟨w.heap.size+1,1,none⟩=false)
   case atStart=>
    refine⟨0,rfl,rfl,?_,by simp,by simp,by simp,by simp,by simp,by simp,by simp,by simp⟩;(repeat (first|exact bR _ _|(with_reducible refine bS ?_ (by simp<;>omega))|(with_reducible refine bL ?_ _)))
   case round=>
    obtain⟨k,hk,E7,CP,r0,r1,s0,s1,z0,z1,z2,z3⟩:=hrel;have HG:=aH E7;have HB:=aH CP;clear E7;obtain⟨w1,Fs⟩:∃w1,w1=wr:=⟨_,rfl⟩;subst Fs;by_cases hkn:k<n
    ·have Ls:=(CP.cell (p:=⟨b,off+(k+1),none⟩) hb).trans (HC.out (k+1) (by omega));have Jk:=aH (CV.out k (by omega));have TQ:=aH (fun h=>NQ.out k (.inr h));clear CP;generalize xs.getD (k+1) 0=f at *;rcases Bool.eq_false_or_eq_true (qo p f)with g|g
     ·have HR:=aH (Jk.out g);go_wp2
      go_roundg (gk-1)
      case measure=>omega
      case rel=>
       refine⟨k+1,by omega,by rw[HR.out,HG.out],?_,sO r0 (by simp),sO r1 (by simp),(ag s0).trans (congrArg some (ai (by omega))),sO s1 (by simp),sF z0,sF z1,sF z2,sF z3⟩;exact bS HB.out (by simp)
     ·have HR:=aH (TQ.out g);go_wp2;clear oge ogt
      go_loopg [58] n (fun gk _ wr=>∃j:Nat,gk=j∧j≤n∧hiV xs q j=hiV xs q n∧Bw w wr∧
       wr.cell? ⟨w.heap.size,0,none⟩=some (.int .i64 0)∧wr.cell? ⟨w.heap.size,1,none⟩=some (.int .i64 0)∧wr.cell? ⟨w.heap.size+1,0,none⟩=some (.int .i64 k)∧wr.cell? ⟨w.heap.size+1,1,none⟩=some (.int .i64 j)∧
       wr.frozen? ⟨w.heap.size,0,none⟩=false∧wr.frozen? ⟨w.heap.size,1,none⟩=false∧wr.frozen? ⟨w.heap.size+1,0,none⟩=false∧wr.frozen? ⟨w.heap.size+1,1,none⟩=false)
      case atStart=>exact⟨n,rfl,nR _,rfl,HB.out,r0,r1,s0,s1,z0,z1,z2,z3⟩
      case round=>
       clear r0 r1 s0 s1 z0 z1 z2 z3;obtain⟨j,rfl,hj,hgo2,CP,r0,r1,s0,s1,z0,z1,z2,z3⟩:=hrel;have Ji:=aH hgo2;have Ls:=(CP.cell (p:=⟨b,off+gk,none⟩) hb).trans (HC.out gk (by omega));have CL:=aH CP;have KH:=aH (fun h=>HN.out gk h G2.out);have KX:=aH (HE.out gk);clear CP hgo2;generalize xs.getD gk 0=f2 at *;rcases Bool.eq_false_or_eq_true (ey q f2)with g2|g2
       ·obtain⟨hp,hh⟩:=KH.out g2;have CT:=aH hh;clear hh;go_wp2
        go_roundg (gk-1)
        case measure=>omega
        case rel=>
         refine⟨gk-1,rfl,by omega,by rw[CT.out,Ji.out],?_,sO r0 (by simp),sO r1 (by simp),sO s0 (by simp),(ag s1).trans (congrArg some (ai (by omega))),sF z0,sF z1,sF z2,sF z3⟩;exact bS CL.out (by simp)
       ·have CT:=aH (KX.out g2);go_wp2;have e1:loV xs p 0=k:=(by rw[←HG.out,HR.out]);have e2:hiV xs q n=gk:=(by rw[←Ji.out,CT.out]);rw[e1,e2];have q0:((wr.setCell ⟨w.heap.size,0,none⟩ (.int .i64 k)).setCell ⟨w.heap.size,1,none⟩ (.int .i64 gk)).cell? ⟨w.heap.size,0,none⟩=some (.int .i64 k):=sO (ag r0) (by simp);have q1:((wr.setCell ⟨w.heap.size,0,none⟩ (.int .i64 k)).setCell ⟨w.heap.size,1,none⟩ (.int .i64 gk)).cell? ⟨w.heap.size,1,none⟩=some (.int .i64 gk):=ag (sO r1 (by simp));exact bP (v:=.tuple #[.agg #[.int .i64 k,.int .i64 gk],.int .i64 0]) (by simp[results,results248,go_sem,q0,q1]) rfl ⟨rfl,bS (bS CL.out (by simp)) (by simp)⟩
    ·obtain rfl:k=n:=(by omega);clear CP;have HR:=aH (NQ.out k (.inl (by omega)));go_wp2;clear oge ogt
     go_loopg [58] k (fun gk _ wr=>∃j:Nat,gk=j∧j≤k∧hiV xs q j=hiV xs q k∧Bw w wr∧
      wr.cell? ⟨w.heap.size,0,none⟩=some (.int .i64 0)∧wr.cell? ⟨w.heap.size,1,none⟩=some (.int .i64 0)∧wr.cell? ⟨w.heap.size+1,0,none⟩=some (.int .i64 k)∧wr.cell? ⟨w.heap.size+1,1,none⟩=some (.int .i64 j)∧
      wr.frozen? ⟨w.heap.size,0,none⟩=false∧wr.frozen? ⟨w.heap.size,1,none⟩=false∧wr.frozen? ⟨w.heap.size+1,0,none⟩=false∧wr.frozen? ⟨w.heap.size+1,1,none⟩=false)
     case atStart=>exact⟨k,rfl,nR _,rfl,HB.out,r0,r1,s0,s1,z0,z1,z2,z3⟩
     case round=>
      clear r0 r1 s0 s1 z0 z1 z2 z3;obtain⟨j,rfl,hj,hgo2,CP,r0,r1,s0,s1,z0,z1,z2,z3⟩:=hrel;have Ji:=aH hgo2;have Ls:=(CP.cell (p:=⟨b,off+gk,none⟩) hb).trans (HC.out gk (by omega));have CL:=aH CP;have KH:=aH (fun h=>HN.out gk h G2.out);have KX:=aH (HE.out gk);clear CP hgo2;generalize xs.getD gk 0=f2 at *;rcases Bool.eq_false_or_eq_true (ey q f2)with g2|g2
      ·obtain⟨hp,hh⟩:=KH.out g2;have CT:=aH hh;clear hh;go_wp2
       go_roundg (gk-1)
       case measure=>omega
       case rel=>
        refine⟨gk-1,rfl,by omega,by rw[CT.out,Ji.out],?_,sO r0 (by simp),sO r1 (by simp),sO s0 (by simp),(ag s1).trans (congrArg some (ai (by omega))),sF z0,sF z1,sF z2,sF z3⟩;exact bS CL.out (by simp)
      ·have CT:=aH (KX.out g2);go_wp2;have e1:loV xs p 0=k:=(by rw[←HG.out,HR.out]);have e2:hiV xs q k=gk:=(by rw[←Ji.out,CT.out]);rw[e1,e2];have q0:((wr.setCell ⟨w.heap.size,0,none⟩ (.int .i64 k)).setCell ⟨w.heap.size,1,none⟩ (.int .i64 gk)).cell? ⟨w.heap.size,0,none⟩=some (.int .i64 k):=sO (ag r0) (by simp);have q1:((wr.setCell ⟨w.heap.size,0,none⟩ (.int .i64 k)).setCell ⟨w.heap.size,1,none⟩ (.int .i64 gk)).cell? ⟨w.heap.size,1,none⟩=some (.int .i64 gk):=ag (sO r1 (by simp));exact bP (v:=.tuple #[.agg #[.int .i64 k,.int .i64 gk],.int .i64 0]) (by simp[results,results248,go_sem,q0,q1]) rfl ⟨rfl,bS (bS CL.out (by simp)) (by simp)⟩
theorem io {w:World} {B:Nat} {v:Value} {xs:List Nat} (h:KF.IsL w B v xs) (hz:aZ xs=0):Rise xs∧∃b off cap n,v=.slice (some ⟨b,off,none⟩) xs.length cap∧xs.length=n+2∧n≤23∧b<B∧
  (∀i,i<xs.length→w.cell? ⟨b,off+i,none⟩=some (.float .f64 (xs.getD i 0)))∧(∀i,i<xs.length→xs.getD i 0<18446744073709551616):=by
 have hr:=kw xs hz;have h2:=hr.two;have h3:=hr.most;obtain⟨b,off,cap,rfl,hc,hb,hl,CD,CI⟩:=KF.cells h (by omega);exact⟨hr,b,off,cap,xs.length-2,rfl,by omega,by omega,hb,CD,CI⟩
theorem ei {x:Nat} (h:aR x=false):¬nan x:=by unfold aR at h;simpa using h
theorem mM (b off cap n:Nat) (xs:List Nat) (hn:xs.length=n+2) (hm:n≤23) (w:World) (CD:∀i,i<xs.length→w.cell? ⟨b,off+i,none⟩=some (.float .f64 (xs.getD i 0))) (k:Nat) (hk:k≤n) (p q:Nat):
  Calls prog 263 #[.slice (some ⟨b,off,none⟩) xs.length cap,.int .i64 k,.float .f64 p,.float .f64 q] w fun e w'=>e=.returned (.bool (gJ xs p q k))∧w=w':=by
 have olt:∀a b,(FloatKind.f64.format.order a b==some .lt)=ey a b:=fun _ _=>rfl;have ogt:∀a b,(FloatKind.f64.format.order a b==some .gt)=uK a b:=fun _ _=>rfl;have oge:∀a b,(uK a b||FloatKind.f64.format.order a b==some .eq)=qo a b:=fun _ _=>rfl;have ole:∀a b,(ey a b||FloatKind.f64.format.order a b==some .eq)=mT a b:=fun _ _=>rfl;have c0:=CD k (by omega);have c1:=CD (k+1) (by omega);have HT:=aH (show gJ xs p q k=((if k+2=xs.length then mT p (xs.getD (k+1) 0)else ey p (xs.getD (k+1) 0))&&qo q (xs.getD k 0))from rfl);clear CD;by_cases he:k=n
 ·subst he;rw[HT.out,if_pos hn.symm];clear HT;rw[hn];clear hn;generalize xs.getD (k+1) 0=f1 at *;generalize xs.getD k 0=f0 at *;rcases Bool.eq_false_or_eq_true (mT p f1)with g|g
  all_goals
   rw[g];go_enter func263,ntmps263;go_wp2
   go_ret
   exact⟨aj (by simp),rfl⟩
 ·rw[HT.out,if_neg (by omega)];clear HT;rw[hn];clear hn;generalize xs.getD (k+1) 0=f1 at *;generalize xs.getD k 0=f0 at *;rcases Bool.eq_false_or_eq_true (ey p f1)with g|g
  all_goals
   rw[g];go_enter func263,ntmps263;go_wp2
   go_ret
   exact⟨aj (by simp),rfl⟩
def nd (x y:Nat) (w:World):Nat:=Question.cut (.nanBits .f64 x y) (w.tape w.drawn (.nanBits .f64 x y))
theorem iO (x y:Nat) (w:World):aR (nd x y w)=true:=by
 apply dT;unfold nd;generalize w.tape w.drawn (.nanBits .f64 x y)=t;show 9218868437227405312<Question.cut (.nanBits .f64 x y) t%9223372036854775808;simp only[Question.cut,Nat.reducePow,Nat.reduceSub];have h1:t%2=0∨t%2=1:=by omega
 have h2:t/2%4503599627370495<4503599627370495:=Nat.mod_lt _ (by decide);generalize t/2%4503599627370495=c at *;rcases h1 with h1|h1
 ·rw[h1];omega
 ·rw[h1];omega
theorem oJ (x y:Nat) (h64:y<18446744073709551616):∃(d:Nat) (s:World→Nat),(∀w,(binOp .sub 84 (.float .f64 x) (.float .f64 y)).run prog w=.ok (.float .f64 (s w)) (w.drewN d))∧
  ((Ieee.double.sub x y=none∧∀w,aR (s w)=true)∨∃p,Ieee.double.sub x y=some p∧aR p=false∧s=fun _=>p):=by
 rcases he:Ieee.double.sub x y with _|p
 ·refine⟨1,nd x y,fun w=>?_,.inl ⟨rfl,iO x y⟩⟩;have Lx:FloatKind.f64.format.sub x y=none:=he;simp[binOp,Op.floatArith,Lx,Question.forced];exact⟨rfl,rfl⟩
 ·refine⟨0,fun _=>p,fun w=>run_float_arith (P:=prog) w .sub 84 .f64 _ _ _ he,.inr ⟨p,rfl,?_,rfl⟩⟩;unfold aR;rw[decide_eq_false_iff_not];have hc:¬(nan x∨nan y∨gh x y):=fun h=>by rw[mj x y h64 h]at he;cases he
  obtain⟨q,hq,hn,_⟩:=lI x y h64 (fun h=>hc (.inl h)) (fun h=>hc (.inr (.inl h))) (fun h=>hc (.inr (.inr h)));rw[he]at hq
  cases hq
  exact hn
theorem pT (x y:Nat):∃(d:Nat) (s:World→Nat),(∀w,(binOp .add 84 (.float .f64 x) (.float .f64 y)).run prog w=.ok (.float .f64 (s w)) (w.drewN d))∧
  ((Ieee.double.add x y=none∧∀w,aR (s w)=true)∨∃p,Ieee.double.add x y=some p∧aR p=false∧s=fun _=>p):=by
 rcases he:Ieee.double.add x y with _|p
 ·refine⟨1,nd x y,fun w=>?_,.inl ⟨rfl,iO x y⟩⟩;have Lx:FloatKind.f64.format.add x y=none:=he;simp[binOp,Op.floatArith,Lx,Question.forced];exact⟨rfl,rfl⟩
 ·refine⟨0,fun _=>p,fun w=>run_float_arith (P:=prog) w .add 84 .f64 _ _ _ he,.inr ⟨p,rfl,?_,rfl⟩⟩;unfold aR;rw[decide_eq_false_iff_not];have hc:¬(nan x∨nan y∨jX x y):=fun h=>by rw[fo x y h]at he;cases he
  obtain⟨q,hq,hn,_⟩:=iw x y (fun h=>hc (.inl h)) (fun h=>hc (.inr (.inl h))) (fun h=>hc (.inr (.inr h)));rw[he]at hq
  cases hq
  exact hn
def dQ (l:List Nat) (x r:Nat):Nat×Nat×Int:=
 if aZ l=0 then
  (if aR x=true∨aR r=true then(0,0,20)
  else if ey r 0=true then(0,0,22)
  else match Ieee.double.sub x r,Ieee.double.add x r with
   |some a,some b=>(jy l a b,ji l a b,jK l a b)
   |_,_=>(0,0,20))
 else(0,0,aZ l)
def aG (t:Nat×Nat×Int):Value:=.tuple #[.agg #[.int .i64 t.1,.int .i64 t.2.1],.int .i64 t.2.2]
theorem rz (v:Value) (xs:List Nat) (x r:Nat) (h64:r<18446744073709551616) (w:World) (h:KF.IsL w w.heap.size v xs):Calls prog 218 #[v,.float .f64 x,.float .f64 r] w fun e w'=>e=.returned (aG (dQ xs x r))∧Bw w w':=by
 have olt:∀a b,(FloatKind.f64.format.order a b==some .lt)=ey a b:=fun _ _=>rfl;have h1:KF.IsL (w.alloc (.cells #[.int .i64 0,.int .i64 0] 134)) (w.alloc (.cells #[.int .i64 0,.int .i64 0] 134)).heap.size v xs:=h.then (bL (bR _ _) _);have HK:=aH (jU v xs _ h1);have CG:=aH (bL (bR w.heap.size w) (.cells #[.int .i64 0,.int .i64 0] 134));by_cases hz:aZ xs=0
 ·obtain⟨hr,b,off,cap,n,rfl,hn,hm,hb,CD,CI⟩:=io h1 hz;rw[hz]at HK;obtain⟨ds,sV,hs,Dz⟩:=oJ x r h64;obtain⟨da,aV,ha,Gh⟩:=pT x r;have HR:=aH (show dQ xs x r=(if aR x=true∨aR r=true then(0,0,20)else if ey r 0=true then(0,0,22)else match Ieee.double.sub x r,Ieee.double.add x r with
   |some a,some b=>(jy xs a b,ji xs a b,jK xs a b)
   |_,_=>(0,0,20))by unfold dQ;rw[if_pos hz])
  rcases Bool.eq_false_or_eq_true (aR x)with hx|hx
  ·have T:dQ xs x r=(0,0,20):=(by rw[HR.out,if_pos (.inl hx)]);rw[T];clear T HR hr CD CI hz h h1 Dz Gh hn;unfold aG;go_enter func218,ntmps218;go_wp2_with fail;refine HK.out.mono ?_;rintro e w' ⟨rfl,rfl⟩;go_wp2_with fail;refine(aY _ _).mono ?_;rintro e w' ⟨rfl,rfl⟩;go_wp2_with (go_at_call 247;refine(aY _ _).mono ?_;rintro e w' ⟨rfl,rfl⟩);exact bP (v:=.tuple #[.agg #[.int .i64 0,.int .i64 0],.int .i64 20]) (by simp[results,results218,go_sem]) rfl ⟨rfl,bS (bS (aa CG.out _) (nR _)) (nR _)⟩
  ·rcases Bool.eq_false_or_eq_true (aR r)with hy|hy
   ·have T:dQ xs x r=(0,0,20):=(by rw[HR.out,if_pos (.inr hy)]);rw[T];clear T HR hr CD CI hz h h1 Dz Gh hn;unfold aG;go_enter func218,ntmps218;go_wp2_with fail;refine HK.out.mono ?_;rintro e w' ⟨rfl,rfl⟩;go_wp2_with (go_at_call 247;refine(aY _ _).mono ?_;rintro e w' ⟨rfl,rfl⟩);exact bP (v:=.tuple #[.agg #[.int .i64 0,.int .i64 0],.int .i64 20]) (by simp[results,results218,go_sem]) rfl ⟨rfl,bS (bS (aa CG.out _) (nR _)) (nR _)⟩
   ·have Qx:¬(aR x=true∨aR r=true):=(by rw[hx,hy];simp);have CT:=aH (HR.out.trans (if_neg Qx));clear HR Qx;rcases Bool.eq_false_or_eq_true (ey r 0)with hl|hl
    ·have T:dQ xs x r=(0,0,22):=(by rw[CT.out,if_pos hl]);rw[T];clear T CT hr CD CI hz h h1 Dz Gh hn;unfold aG;go_enter func218,ntmps218;go_wp2_with fail;refine HK.out.mono ?_;rintro e w' ⟨rfl,rfl⟩;go_wp2_with (go_at_call 247;refine(aY _ _).mono ?_;rintro e w' ⟨rfl,rfl⟩);exact bP (v:=.tuple #[.agg #[.int .i64 0,.int .i64 0],.int .i64 22]) (by simp[results,results218,go_sem]) rfl ⟨rfl,bS (bS (aa CG.out _) (nR _)) (nR _)⟩
    ·have Di:=aH (CT.out.trans (if_neg (by rw[hl];simp)));clear CT;rcases Dz with ⟨es,Dz⟩|⟨a,es,Dz,rfl⟩
     ·have T:dQ xs x r=(0,0,20):=(by rw[Di.out,es]);rw[T];clear T Di hr CD CI hz h h1 Gh hn es;unfold aG;go_enter func218,ntmps218;go_wp2_with fail;refine HK.out.mono ?_;rintro e w' ⟨rfl,rfl⟩;go_wp2_with (go_at_call 247;refine(aY _ _).mono ?_;rintro e w' ⟨rfl,rfl⟩);exact bP (v:=.tuple #[.agg #[.int .i64 0,.int .i64 0],.int .i64 20]) (by simp[results,results218,go_sem]) rfl ⟨rfl,bS (bS (aa CG.out _) (nR _)) (nR _)⟩
     ·rcases Gh with ⟨ea,Gh⟩|⟨q,ea,Gh,rfl⟩
      ·have T:dQ xs x r=(0,0,20):=(by rw[Di.out,es,ea]);rw[T];clear T Di hr CD CI hz h h1 hn es ea;unfold aG;go_enter func218,ntmps218;go_wp2_with fail;refine HK.out.mono ?_;rintro e w' ⟨rfl,rfl⟩;go_wp2_with (go_at_call 247;refine(aY _ _).mono ?_;rintro e w' ⟨rfl,rfl⟩);exact bP (v:=.tuple #[.agg #[.int .i64 0,.int .i64 0],.int .i64 20]) (by simp[results,results218,go_sem]) rfl ⟨rfl,bS (bS (aa CG.out _) (nR _)) (nR _)⟩
      ·have T:dQ xs x r=(jy xs a q,ji xs a q,jK xs a q):=(by rw[Di.out,es,ea]);have HT:=aH (fun d=>l9 b off cap n xs hn hm ((w.alloc (.cells #[.int .i64 0,.int .i64 0] 134)).drewN d) hb CD a q);rw[T];clear T Di hr CD CI hz h h1 hn es ea;generalize jy xs a q=A at *;generalize ji xs a q=B at *;generalize jK xs a q=C at *;unfold aG;dsimp only;go_enter func218,ntmps218;go_wp2_with fail;refine HK.out.mono ?_;rintro e w' ⟨rfl,rfl⟩;go_wp2_with (first|(go_at_call 247;refine(aY _ _).mono ?_;rintro e w' ⟨rfl,rfl⟩)|(go_at_call 248;refine(HT.out _).mono ?_;rintro e w2 ⟨rfl,CM⟩;have r0:w2.cell? ⟨w.heap.size,0,none⟩=some (.int .i64 0):=kK CM (by simp);have r1:w2.cell? ⟨w.heap.size,1,none⟩=some (.int .i64 0):=kK CM (by simp);have z0:w2.frozen? ⟨w.heap.size,0,none⟩=false:=(CM.frozen (p:=⟨w.heap.size,0,none⟩) (by simp)).trans (by simp);have z1:w2.frozen? ⟨w.heap.size,1,none⟩=false:=(CM.frozen (p:=⟨w.heap.size,1,none⟩) (by simp)).trans (by simp);have CL:=aH (bC (aa CG.out _) CM);clear CM));exact bP (v:=.tuple #[.agg #[.int .i64 A,.int .i64 B],.int .i64 C]) (by simp[results,results218,go_sem,r0,r1]) rfl ⟨rfl,bS (bS CL.out (nR _)) (nR _)⟩
 ·have T:dQ xs x r=(0,0,aZ xs):=by unfold dQ;rw[if_neg hz]
  rw[T];have GB:(aZ xs != 0)=true:=by rw[bne_iff_ne];exact hz
  clear T h h1 hz;generalize aZ xs=c at *;unfold aG;go_enter func218,ntmps218;go_wp2_with fail;refine HK.out.mono ?_;rintro e w' ⟨rfl,rfl⟩;go_wp2;exact bP (v:=.tuple #[.agg #[.int .i64 0,.int .i64 0],.int .i64 c]) (by simp[results,results218,go_sem]) rfl ⟨rfl,CG.out⟩
def eI (l:List Nat):List Int:=l.map Int.ofNat
theorem qH (l:List Nat) (a b k:Nat):eI (fZ l a b (k+1))=eI (fZ l a b k)++(if gJ l a b k=true then [(k:Int)]else []):=by
 unfold fZ eI;rw[List.range_succ,List.filter_append,List.map_append]
 congr 1
 by_cases h:gJ l a b k=true
 ·rw[if_pos h];simp[h]
 ·rw[if_neg h];simp[h]
theorem tB (l:List Nat) (a b k:Nat):(eI (fZ l a b k)).length≤k:=by
 unfold fZ eI;rw[List.length_map];have:=List.length_filter_le (gJ l a b) (List.range k);rw[List.length_range]at this;exact this
theorem iF (x r a q:Nat) (h64:r<18446744073709551616) (hx:¬nan x) (hr:¬nan r) (h0:0≤vf r) (es:Ieee.double.sub x r=some a) (ea:Ieee.double.add x r=some q):¬nan a∧¬nan q∧vf a≤vf x∧vf x≤vf q:=by
 have h1:¬gh x r:=fun h=>by rw[mj x r h64 (.inr (.inr h))]at es;cases es
 have h2:¬jX x r:=fun h=>by rw[fo x r (.inr (.inr h))]at ea;cases ea
 obtain⟨p,e1,n1,_,v1⟩:=lI x r h64 hx hr h1;obtain⟨p2,e2,n2,_,v2⟩:=iw x r hx hr h2;rw[es]at e1;rw[ea]at e2
 cases e1
 cases e2
 have hz:xv 0=0:=by
  unfold xv;have:rg 0=0:=rfl;rw[this,Am];unfold sg
  split<;>rfl
 have n0:¬nan 0:=by unfold nan;omega
 have v0:vf 0=0:=by
  have:=ym 0 n0;rw[hz]at this;rw[←this];unfold RI sg;rw[if_neg (by decide)];exact congrArg _ Af
 have hp:0≤xv r:=by
  have:=vu n0 hr (by rw[v0];exact h0);rw[hz]at this;exact this
 have Kn:=ym x hx;refine⟨n1,n2,?_,?_⟩
 ·rw[v1,←Kn];exact oW (by omega)
 ·rw[v2,←Kn];exact oW (by omega)
theorem BH:vf 0=0:=by
 unfold vf sg rg sb;rfl
theorem yn (r:Nat) (hr:¬nan r) (h:ey r 0=false):0≤vf r:=by
 have n0:¬nan 0:=by unfold nan;omega
 rw[dN hr n0,BH,decide_eq_false_iff_not]at h;omega
theorem oU (l:List Nat) (x r:Nat) (hz:aZ l≠0):dQ l x r=(0,0,aZ l):=by unfold dQ;rw[if_neg hz]
theorem gX (l:List Nat) (x r:Nat) (hz:aZ l=0) (h:aR x=true∨aR r=true):dQ l x r=(0,0,20):=by unfold dQ;rw[if_pos hz,if_pos h]
theorem o9 (l:List Nat) (x r:Nat) (hz:aZ l=0) (hx:aR x=false) (hy:aR r=false) (hl:ey r 0=true):dQ l x r=(0,0,22):=by unfold dQ;rw[if_pos hz,if_neg (by rw[hx,hy];simp),if_pos hl]
theorem fu (l:List Nat) (x r:Nat) (hz:aZ l=0) (hx:aR x=false) (hy:aR r=false) (hl:ey r 0=false) (h:Ieee.double.sub x r=none∨Ieee.double.add x r=none):dQ l x r=(0,0,20):=by
 unfold dQ;rw[if_pos hz,if_neg (by rw[hx,hy];simp),if_neg (by rw[hl];simp)];rcases h with h|h
 ·rw[h]
 ·rw[h]
  cases Ieee.double.sub x r<;>rfl
theorem lU (l:List Nat) (x r a b:Nat) (hz:aZ l=0) (hx:aR x=false) (hy:aR r=false) (hl:ey r 0=false) (h1:Ieee.double.sub x r=some a) (h2:Ieee.double.add x r=some b):dQ l x r=(jy l a b,ji l a b,jK l a b):=by
 unfold dQ;rw[if_pos hz,if_neg (by rw[hx,hy];simp),if_neg (by rw[hl];simp),h1,h2]
theorem dj (v:Value) (xs:List Nat) (x r:Nat) (h64:r<18446744073709551616) (w:World) (h:KF.IsL w w.heap.size v xs) (EQ:aZ xs≠0∨aR x=true∨aR r=true∨ey r 0=true∨Ieee.double.sub x r=none∨Ieee.double.add x r=none):Calls prog 246 #[v,.float .f64 x,.float .f64 r] w fun e w'=>e=.returned (aG (dQ xs x r))∧Bw w w':=by
 have olt:∀a b,(FloatKind.f64.format.order a b==some .lt)=ey a b:=fun _ _=>rfl;have h1:KF.IsL (w.alloc (.cells #[.int .i64 0,.int .i64 0] 134)) (w.alloc (.cells #[.int .i64 0,.int .i64 0] 134)).heap.size v xs:=h.then (bL (bR _ _) _);have HK:=aH (eQ v xs _ h1);have CG:=aH (bL (bR w.heap.size w) (.cells #[.int .i64 0,.int .i64 0] 134));by_cases hz:aZ xs=0
 ·rw[hz]at HK;clear h h1;obtain⟨ds,sV,hs,Dz⟩:=oJ x r h64;obtain⟨da,aV,ha,Gh⟩:=pT x r;rcases Bool.eq_false_or_eq_true (aR x)with hx|hx
  ·have T:dQ xs x r=(0,0,20):=gX xs x r hz (.inl hx);rw[T];clear T hz Dz Gh EQ hs ha;unfold aG;go_enter func246,ntmps246;go_wp2_with fail;refine HK.out.mono ?_;rintro e w' ⟨rfl,d,rfl⟩;go_wp2_with (go_at_call 223;refine(bH _ _).mono ?_;rintro e w' ⟨rfl,rfl⟩);exact bP (v:=.tuple #[.agg #[.int .i64 0,.int .i64 0],.int .i64 20]) (by simp[results,results246,go_sem]) rfl ⟨rfl,bS (bS (aa CG.out _) (nR _)) (nR _)⟩
  ·rcases Bool.eq_false_or_eq_true (aR r)with hy|hy
   ·have T:dQ xs x r=(0,0,20):=gX xs x r hz (.inr hy);rw[T];clear T hz Dz Gh EQ hs ha;unfold aG;go_enter func246,ntmps246;go_wp2_with fail;refine HK.out.mono ?_;rintro e w' ⟨rfl,d,rfl⟩;go_wp2_with (go_at_call 223;refine(bH _ _).mono ?_;rintro e w' ⟨rfl,rfl⟩);exact bP (v:=.tuple #[.agg #[.int .i64 0,.int .i64 0],.int .i64 20]) (by simp[results,results246,go_sem]) rfl ⟨rfl,bS (bS (aa CG.out _) (nR _)) (nR _)⟩
   ·rcases Bool.eq_false_or_eq_true (ey r 0)with hl|hl
    ·have T:dQ xs x r=(0,0,22):=o9 xs x r hz hx hy hl;rw[T];clear T hz Dz Gh EQ hs ha;unfold aG;go_enter func246,ntmps246;go_wp2_with fail;refine HK.out.mono ?_;rintro e w' ⟨rfl,d,rfl⟩;go_wp2_with (go_at_call 223;refine(bH _ _).mono ?_;rintro e w' ⟨rfl,rfl⟩);exact bP (v:=.tuple #[.agg #[.int .i64 0,.int .i64 0],.int .i64 22]) (by simp[results,results246,go_sem]) rfl ⟨rfl,bS (bS (aa CG.out _) (nR _)) (nR _)⟩
    ·rcases Dz with ⟨es,Dz⟩|⟨a,es,Dz,rfl⟩
     ·have T:dQ xs x r=(0,0,20):=fu xs x r hz hx hy hl (.inl es);rw[T];clear T hz Gh EQ es;unfold aG;go_enter func246,ntmps246;go_wp2_with fail;refine HK.out.mono ?_;rintro e w' ⟨rfl,d,rfl⟩;go_wp2_with (go_at_call 223;refine(bH _ _).mono ?_;rintro e w' ⟨rfl,rfl⟩);exact bP (v:=.tuple #[.agg #[.int .i64 0,.int .i64 0],.int .i64 20]) (by simp[results,results246,go_sem]) rfl ⟨rfl,bS (bS (aa CG.out _) (nR _)) (nR _)⟩
     ·rcases Gh with ⟨ea,Gh⟩|⟨q,ea,Gh,rfl⟩
      ·have T:dQ xs x r=(0,0,20):=fu xs x r hz hx hy hl (.inr ea);rw[T];clear T hz EQ es ea;unfold aG;go_enter func246,ntmps246;go_wp2_with fail;refine HK.out.mono ?_;rintro e w' ⟨rfl,d,rfl⟩;go_wp2_with (go_at_call 223;refine(bH _ _).mono ?_;rintro e w' ⟨rfl,rfl⟩);exact bP (v:=.tuple #[.agg #[.int .i64 0,.int .i64 0],.int .i64 20]) (by simp[results,results246,go_sem]) rfl ⟨rfl,bS (bS (aa CG.out _) (nR _)) (nR _)⟩
      ·exfalso;rcases EQ with h|h|h|h|h|h
       ·exact h hz
       ·rw[hx]at h;cases h
       ·rw[hy]at h;cases h
       ·rw[hl]at h;cases h
       ·rw[es]at h;cases h
       ·rw[ea]at h;cases h
 ·have T:dQ xs x r=(0,0,aZ xs):=oU xs x r hz;rw[T];have GB:(aZ xs != 0)=true:=by rw[bne_iff_ne];exact hz
  clear T h h1 hz EQ;generalize aZ xs=c at *;unfold aG;go_enter func246,ntmps246;go_wp2_with fail;refine HK.out.mono ?_;rintro e w' ⟨rfl,d,rfl⟩;go_wp2;exact bP (v:=.tuple #[.agg #[.int .i64 0,.int .i64 0],.int .i64 c]) (by simp[results,results246,go_sem]) rfl ⟨rfl,bS (bS (aa CG.out _) (nR _)) (nR _)⟩
theorem uj (v:Value) (xs:List Nat) (x r a q:Nat) (h64:r<18446744073709551616) (w:World) (h:KF.IsL w w.heap.size v xs) (hz:aZ xs=0) (hx:aR x=false) (hy:aR r=false) (hl:ey r 0=false) (es:Ieee.double.sub x r=some a) (ea:Ieee.double.add x r=some q):
  Calls prog 246 #[v,.float .f64 x,.float .f64 r] w fun e w'=>e=.returned (aG (jy xs a q,ji xs a q,jK xs a q))∧Bw w w':=by
 have olt:∀a b,(FloatKind.f64.format.order a b==some .lt)=ey a b:=fun _ _=>rfl;have h1:KF.IsL (w.alloc (.cells #[.int .i64 0,.int .i64 0] 134)) (w.alloc (.cells #[.int .i64 0,.int .i64 0] 134)).heap.size v xs:=h.then (bL (bR _ _) _);have HK:=aH (eQ v xs _ h1);have CG:=aH (bL (bR w.heap.size w) (.cells #[.int .i64 0,.int .i64 0] 134));rw[hz]at HK;obtain⟨hr,b,off,cap,n,rfl,hn,hm,hb,CD,CI⟩:=io h1 hz;obtain⟨na,nq,s1,s2⟩:=iF x r a q h64 (ei hx) (ei hy) (yn r (ei hy) hl) es ea;have hs:=fun w=>run_float_arith (P:=prog) w .sub 84 .f64 _ _ _ es;have ha:=fun w=>run_float_arith (P:=prog) w .add 84 .f64 _ _ _ ea;have Gh:aR a=false:=by unfold aR;exact dF na
 have KB:aR q=false:=by unfold aR;exact dF nq
 have HI:=aH (wJ xs hr a q na nq (Int.le_trans s1 s2));have HO:=aH (te xs hr a q na nq);have Il:=aH (fun ho=>(dC xs hr a q na nq (Int.le_trans s1 s2) ho));have HT:=aH (fun(w':World) hc k hk=>mM b off cap n xs hn hm w' hc k hk a q);have HN:=aH (qH xs a q);have HL:=aH (tB xs a q);have HC:=aH CD;have Gw:b<w.heap.size+1:=by simpa using hb
 have en:n+2-1=n+1:=by omega
 have en2:n+2-2=n:=by omega
 rw[hn]at HK HC HI HO Il;rw[en]at HI HO Il;rw[en2]at HI Il;have SN:=aH (show ji xs a q=if eJ xs a q=true then 0 else hiV xs q n by unfold ji;rw[hn,en2]);rw[hn];simp only[hn]at HT;clear h h1 hz hr CD CI hn hb es ea na nq s1 s2 en en2;go_enter func246,ntmps246;go_wp2_with fail;refine HK.out.mono ?_;rintro e w' ⟨rfl,d,rfl⟩;go_wp2_with (go_at_call 223;refine(bH _ _).mono ?_;rintro e w' ⟨rfl,rfl⟩);obtain⟨w0,hw0⟩:∃w0,w0=(w.alloc (.cells #[.int .i64 0,.int .i64 0] 134)).drewN d:=⟨_,rfl⟩;rw[←hw0];have D8:w0.heap.size=w.heap.size+1:=by rw[hw0];simp
 have r0:w0.cell? ⟨w.heap.size,0,none⟩=some (.int .i64 0):=by rw[hw0];simp
 have r1:w0.cell? ⟨w.heap.size,1,none⟩=some (.int .i64 0):=by rw[hw0];simp
 have z0:w0.frozen? ⟨w.heap.size,0,none⟩=false:=by rw[hw0];simp
 have z1:w0.frozen? ⟨w.heap.size,1,none⟩=false:=by rw[hw0];simp
 have Ib:=aH (show ∀i,i<n+2→w0.cell? ⟨b,off+i,none⟩=some (.float .f64 (xs.getD i 0))from fun i hi=>by rw[hw0];exact HC.out i hi);have CH:=aH (show Bw w w0 by rw[hw0];exact aa CG.out _);have R0:=aH r0;have R1:=aH r1;have Z0:=aH z0;have Z1:=aH z1;have D7:=aH D8;clear r0 r1 z0 z1 hw0 CG HC HK D8 hs ha Gh KB
 go_loopw [11,12] (fun v i wr=>∃k:Nat,k≤n+1∧i=.int .i64 k∧KI.Own wr w0.heap.size v (eI (fZ xs a q k))∧Bw w0 wr) (fun _ i _=>n+1-(intOf i).toNat)
 case atStart=>exact⟨0,Nat.zero_le _,rfl,Lk.Own.nil _ _,bR _ _⟩
 case round=>
  obtain⟨k,hk,rfl,CF,CP⟩:=hrel;have FF:=aH CF;have HB:=aH CP;clear CF CP;by_cases CI:k<n+1
  ·have FU:=aH (HT.out wr (fun i hi=>(HB.out.cell (p:=⟨b,off+i,none⟩) (by have:=D7.out;show b<_;omega)).trans (Ib.out i hi)) k (by omega));have Lh:=aH (HN.out k);have MR:=aH (HL.out k);generalize eI (fZ xs a q k)=L at *;rcases Bool.eq_false_or_eq_true (gJ xs a q k)with g|g
   ·rw[g]at FU Lh;go_wp2_with fail;refine FU.out.mono ?_;rintro e w' ⟨rfl,rfl⟩;go_wp2_with (at_builtin;go_loud (refine Lk.wpList_app (K:=KI) _ rfl _ _ rfl rfl w0.heap.size (wr.heap.size+1) _ _ L [(k:Int)] rfl rfl (FF.out.alloc _) (Lk.IsL.lit (K:=KI) wr (k:Int) _ (show ae _ by unfold ae;omega) rfl _ rfl) ?c1 ?c2 ?_))
    case c1=>have:=MR.out;simp;omega
    case c2=>have:=HB.out.size;simp;omega
    intro v1 w1 CF hgrow _;have CL:=aH (Lk.Own.grow' (FF.out.alloc (.cells #[.int .i64 k] 3)) (bL HB.out _) (by have:=HB.out.size;simp;omega) hgrow);have F8:=aH CF;clear CF hgrow;go_wp2
    go_roundw
    case rel=>exact⟨k+1,by omega,ai (by omega),by rw[Lh.out];exact F8.out,CL.out⟩
    case measure=>simp[intOf];omega
   ·rw[g]at FU Lh;go_wp2_with (go_at_call 263;refine FU.out.mono ?_;rintro e w' ⟨rfl,rfl⟩)
    go_roundw
    case rel=>exact⟨k+1,by omega,ai (by omega),by rw[Lh.out];simpa using FF.out,HB.out⟩
    case measure=>simp[intOf];omega
  ·obtain rfl:k=n+1:=(by omega);have Uz:=aH (HL.out (n+1));rcases Bool.eq_false_or_eq_true (eJ xs a q)with ho|ho
   ·have T1:jy xs a q=0:=(by unfold jy;rw[if_pos ho]);have T2:ji xs a q=0:=(by unfold ji;rw[if_pos ho]);have T3:jK xs a q=71:=(by unfold jK;rw[if_pos ho]);have e:eI (fZ xs a q (n+1))=[]:=(by rw[HO.out ho];rfl);rw[e]at FF;obtain⟨A,cap2,rfl⟩:∃A cap,u11=.slice A 0 cap:=by
     obtain⟨⟨A,cap,h,_⟩,_⟩:=FF.out.isL (by simp);exact⟨A,cap,h⟩
    have r0:=(HB.out.cell (p:=⟨w.heap.size,0,none⟩) (by have:=D7.out;show w.heap.size<_;omega)).trans R0.out;have r1:=(HB.out.cell (p:=⟨w.heap.size,1,none⟩) (by have:=D7.out;show w.heap.size<_;omega)).trans R1.out;have z0:=(HB.out.frozen (p:=⟨w.heap.size,0,none⟩) (by have:=D7.out;show w.heap.size<_;omega)).trans Z0.out;have z1:=(HB.out.frozen (p:=⟨w.heap.size,1,none⟩) (by have:=D7.out;show w.heap.size<_;omega)).trans Z1.out;have TT:=aH (show aG (jy xs a q,ji xs a q,jK xs a q)=.tuple #[.agg #[.int .i64 0,.int .i64 0],.int .i64 71]by rw[T1,T2,T3];rfl);clear T1 T2 T3 e ho;go_wp2;exact bP (v:=.tuple #[.agg #[.int .i64 0,.int .i64 0],.int .i64 71]) (by simp[results,results246,go_sem,r0,r1]) rfl ⟨by rw[TT.out],bS (bS (CH.out.trans (HB.out.mono CH.out.size)) (nR _)) (nR _)⟩
   ·have LX:=Il.out ho;have T1:jy xs a q=loV xs a 0:=(by unfold jy;rw[ho,if_neg (by simp)]);have T2:ji xs a q=hiV xs q n:=(by rw[SN.out,ho,if_neg (by simp)]);have T3:jK xs a q=0:=(by unfold jK;rw[ho,if_neg (by simp)]);have e:eI (fZ xs a q (n+1))=eI (List.range' (loV xs a 0) (hiV xs q n-loV xs a 0+1)):=(by rw[HI.out ho]);rw[e]at FF;obtain⟨LX,hhi,_⟩:=LX;generalize loV xs a 0=lo at *;generalize hiV xs q n=hi at *;obtain⟨m,rfl⟩:∃m,hi=lo+m:=⟨hi-lo,by omega⟩;rw[show lo+m-lo+1=m+1 by omega]at FF;have Db:(eI (List.range' lo (m+1))).length=m+1:=(by simp[eI]);obtain⟨g,of2,cap2,rfl,EA,hg,_,hcell2,_⟩:=KI.cells (FF.out.isL (by rw[Db];omega)) (by rw[Db];omega);rw[Db]at hcell2 EA⊢;have q0:=hcell2 0 (by omega);have q1:=hcell2 m (by omega);have g0:(eI (List.range' lo (m+1))).getD 0 0=(lo:Int):=(by simp[eI,List.range'_succ]);have g1:(eI (List.range' lo (m+1))).getD m 0=((lo+m:Nat):Int):=by
     rw[List.getD_eq_getElem?_getD];simp[eI]
    rw[g0,Nat.add_zero]at q0;rw[g1]at q1;have r0:=(HB.out.cell (p:=⟨w.heap.size,0,none⟩) (by have:=D7.out;show w.heap.size<_;omega)).trans R0.out;have r1:=(HB.out.cell (p:=⟨w.heap.size,1,none⟩) (by have:=D7.out;show w.heap.size<_;omega)).trans R1.out;have z0:=(HB.out.frozen (p:=⟨w.heap.size,0,none⟩) (by have:=D7.out;show w.heap.size<_;omega)).trans Z0.out;have z1:=(HB.out.frozen (p:=⟨w.heap.size,1,none⟩) (by have:=D7.out;show w.heap.size<_;omega)).trans Z1.out;have TT:=aH (show aG (jy xs a q,ji xs a q,jK xs a q)=.tuple #[.agg #[.int .i64 lo,.int .i64 ((lo+m:Nat):Int)],.int .i64 0]by rw[T1,T2,T3];rfl);clear T1 T2 T3 e ho hcell2 Db g0 g1;go_wp2
    go_region
    go_wp2;have p0:((wr.setCell ⟨w.heap.size,0,none⟩ (.int .i64 lo)).setCell ⟨w.heap.size,1,none⟩ (.int .i64 ((lo:Int)+m))).cell? ⟨w.heap.size,0,none⟩=some (.int .i64 lo):=sO (ag r0) (by simp);have p1:((wr.setCell ⟨w.heap.size,0,none⟩ (.int .i64 lo)).setCell ⟨w.heap.size,1,none⟩ (.int .i64 ((lo:Int)+m))).cell? ⟨w.heap.size,1,none⟩=some (.int .i64 ((lo:Int)+m)):=ag (sO r1 (by simp));exact bP (v:=.tuple #[.agg #[.int .i64 lo,.int .i64 ((lo:Int)+m)],.int .i64 0]) (by simp[results,results246,go_sem,p0,p1]) rfl ⟨by rw[TT.out,Int.natCast_add],Below.drew (bS (bS (CH.out.trans (HB.out.mono CH.out.size)) (nR _)) (nR _))⟩
theorem m9 (v:Value) (xs:List Nat) (x r:Nat) (h64:r<18446744073709551616) (w:World) (h:KF.IsL w w.heap.size v xs):Calls prog 246 #[v,.float .f64 x,.float .f64 r] w fun e w'=>e=.returned (aG (dQ xs x r))∧Bw w w':=by
 by_cases hz:aZ xs=0
 ·rcases hx:aR x with _|_
  ·rcases hy:aR r with _|_
   ·rcases hl:ey r 0 with _|_
    ·rcases es:Ieee.double.sub x r with _|a
     ·exact dj v xs x r h64 w h (.inr (.inr (.inr (.inr (.inl es)))))
     ·rcases ea:Ieee.double.add x r with _|q
      ·exact dj v xs x r h64 w h (.inr (.inr (.inr (.inr (.inr ea)))))
      ·rw[lU xs x r a q hz hx hy hl es ea];exact uj v xs x r a q h64 w h hz hx hy hl es ea
    ·exact dj v xs x r h64 w h (.inr (.inr (.inr (.inl hl))))
   ·exact dj v xs x r h64 w h (.inr (.inr (.inl hy)))
  ·exact dj v xs x r h64 w h (.inr (.inl hx))
 ·exact dj v xs x r h64 w h (.inl hz)
end Go.Proofs.YtmecohdedghiaaaGreatDoor
