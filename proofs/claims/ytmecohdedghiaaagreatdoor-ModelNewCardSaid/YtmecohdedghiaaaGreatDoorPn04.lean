/- The lanes that a tool touches: what the reference answers. -/
import Derived.Test.YtmecohdedghiaaaGreatDoorPn00
import Derived.Test.YtmecohdedghiaaaGreatDoorPn03
import Derived.Deep.LoopGhost
set_option maxRecDepth 100000
set_option maxHeartbeats 8000000
namespace Go.Proofs.YtmecohdedghiaaaGreatDoor
open Go.RowKit
def tLo (l:List Nat) (a b:Nat):Nat:=if outB l a b=true then 0 else loV l a 0
def tHi (l:List Nat) (a b:Nat):Nat:=if outB l a b=true then 0 else hiV l b (l.length-2)
def tEr (l:List Nat) (a b:Nat):Int:=if outB l a b=true then 71 else 0
theorem touched_any (b off cap n:Nat) (xs:List Nat) (hn:xs.length=n+2) (hm:n≤23) (w:World) (hb:b<w.heap.size) (hcell:∀i,i<xs.length→w.cell? ⟨b,off+i,none⟩=some (.float .f64 (xs.getD i 0)))
  (p q:Nat):
  Calls Tryz.prog 248 #[.slice (some ⟨b,off,none⟩) xs.length cap,.float .f64 p,.float .f64 q] w fun e w'=>e=.returned (.tuple #[.agg #[.int .i64 (tLo xs p q),.int .i64 (tHi xs p q)],.int .i64 (tEr xs p q)])∧Below w.heap.size w w':=by
 have olt:∀a b,(FloatKind.f64.format.order a b==some .lt)=ltb a b:=fun _ _=>rfl;have ogt:∀a b,(FloatKind.f64.format.order a b==some .gt)=gtb a b:=fun _ _=>rfl;have oge:∀a b,(gtb a b||FloatKind.f64.format.order a b==some .eq)=geb a b:=fun _ _=>rfl;have HC:=aH hcell;have c0:=hcell 0 (by omega);have c1:=hcell (n+1) (by omega);rw[Nat.add_zero]at c0;have HO:=aH (show outB xs p q=(gtb p (xs.getD (n+1) 0)||ltb q (xs.getD 0 0))by unfold outB;rw[hn];rfl);have HN:=aH (hi_next xs q);have HE:=aH (hi_end xs q);have HLN:=aH (lo_next xs p);have HLE:=aH (lo_end xs p);have HT2:=aH (show tHi xs p q=if outB xs p q=true then 0 else hiV xs q n by unfold tHi;rw[hn];rfl);rw[hn]at *;clear hn;clear hcell;rcases Bool.eq_false_or_eq_true (gtb p (xs.getD (n+1) 0))with g1|g1
 ·have ho:=HO.out;rw[g1,Bool.true_or]at ho;have T1:tLo xs p q=0:=by unfold tLo;rw[if_pos ho]
  have T2:tHi xs p q=0:=by unfold tHi;rw[if_pos ho]
  have T3:tEr xs p q=71:=by unfold tEr;rw[if_pos ho]
  rw[T1,T2,T3];clear ho T1 T2 T3;generalize xs.getD (n+1) 0=f1 at *;generalize xs.getD 0 0=f0 at *;go_enter Tryz.func248,Tryz.ntmps248;go_wp2;exact bP (v:=.tuple #[.agg #[.int .i64 0,.int .i64 0],.int .i64 71]) (by simp[results,Tryz.results248,go_sem]) rfl ⟨rfl,bL (bR _ _) _⟩
 ·rcases Bool.eq_false_or_eq_true (ltb q (xs.getD 0 0))with g2|g2
  ·have ho:=HO.out;rw[g1,g2,Bool.false_or]at ho;have T1:tLo xs p q=0:=(by unfold tLo;rw[if_pos ho]);have T2:tHi xs p q=0:=(by unfold tHi;rw[if_pos ho]);have T3:tEr xs p q=71:=(by unfold tEr;rw[if_pos ho]);rw[T1,T2,T3];clear ho T1 T2 T3;generalize xs.getD (n+1) 0=f1 at *;generalize xs.getD 0 0=f0 at *;go_enter Tryz.func248,Tryz.ntmps248;go_wp2;exact bP (v:=.tuple #[.agg #[.int .i64 0,.int .i64 0],.int .i64 71]) (by simp[results,Tryz.results248,go_sem]) rfl ⟨rfl,bL (bR _ _) _⟩
  ·have ho:=HO.out;rw[g1,g2,Bool.false_or]at ho;have T1:tLo xs p q=loV xs p 0:=(by unfold tLo;rw[if_neg (by rw[ho];simp)]);have T2:tHi xs p q=hiV xs q n:=(by rw[HT2.out,if_neg (by rw[ho];simp)]);have T3:tEr xs p q=0:=(by unfold tEr;rw[if_neg (by rw[ho];simp)]);rw[T1,T2,T3];have G2:=aH g2;clear ho T1 T2 T3 HO;generalize xs.getD (n+1) 0=f1 at c1 g1;generalize xs.getD 0 0=f0 at c0 g2;go_enter Tryz.func248,Tryz.ntmps248;go_wp2;clear c0 c1 g1 g2
   go_loopg [46] n (fun gk _ wr=>∃k:Nat,gk+k=n∧loV xs p k=loV xs p 0∧Below w.heap.size w wr∧
    wr.cell? ⟨w.heap.size,0,none⟩=some (.int .i64 0)∧wr.cell? ⟨w.heap.size,1,none⟩=some (.int .i64 0)∧wr.cell? ⟨w.heap.size+1,0,none⟩=some (.int .i64 k)∧wr.cell? ⟨w.heap.size+1,1,none⟩=some (.int .i64 n)∧
    wr.frozen? ⟨w.heap.size,0,none⟩=false∧wr.frozen? ⟨w.heap.size,1,none⟩=false∧wr.frozen? ⟨w.heap.size+1,0,none⟩=false∧wr.frozen? ⟨w.heap.size+1,1,none⟩=false)
   case atStart=>
    refine⟨0,rfl,rfl,?_,by simp,by simp,by simp,by simp,by simp,by simp,by simp,by simp⟩;(repeat (first|exact bR _ _|(with_reducible refine bS ?_ (by simp<;>omega))|(with_reducible refine bL ?_ _)))
   case round=>
    obtain⟨k,hk,hgo,hbl,r0,r1,s0,s1,z0,z1,z2,z3⟩:=hrel;have HG:=aH hgo;have HB:=aH hbl;clear hgo;obtain⟨w1,hw1⟩:∃w1,w1=wr:=⟨_,rfl⟩;subst hw1;by_cases hkn:k<n
    ·have hcl:=(hbl.cell (p:=⟨b,off+(k+1),none⟩) hb).trans (HC.out (k+1) (by omega));have HNX:=aH (HLN.out k (by omega));have HEX:=aH (fun h=>HLE.out k (.inr h));clear hbl;generalize xs.getD (k+1) 0=f at *;rcases Bool.eq_false_or_eq_true (geb p f)with g|g
     ·have HR:=aH (HNX.out g);go_wp2
      go_roundg (gk-1)
      case measure=>omega
      case rel=>
       refine⟨k+1,by omega,by rw[HR.out,HG.out],?_,sO r0 (by simp),sO r1 (by simp),(st_same s0).trans (congrArg some (num_i (by omega))),sO s1 (by simp),sF z0,sF z1,sF z2,sF z3⟩;exact bS HB.out (by simp)
     ·have HR:=aH (HEX.out g);go_wp2;clear oge ogt
      go_loopg [58] n (fun gk _ wr=>∃j:Nat,gk=j∧j≤n∧hiV xs q j=hiV xs q n∧Below w.heap.size w wr∧
       wr.cell? ⟨w.heap.size,0,none⟩=some (.int .i64 0)∧wr.cell? ⟨w.heap.size,1,none⟩=some (.int .i64 0)∧wr.cell? ⟨w.heap.size+1,0,none⟩=some (.int .i64 k)∧wr.cell? ⟨w.heap.size+1,1,none⟩=some (.int .i64 j)∧
       wr.frozen? ⟨w.heap.size,0,none⟩=false∧wr.frozen? ⟨w.heap.size,1,none⟩=false∧wr.frozen? ⟨w.heap.size+1,0,none⟩=false∧wr.frozen? ⟨w.heap.size+1,1,none⟩=false)
      case atStart=>exact⟨n,rfl,nR _,rfl,HB.out,r0,r1,s0,s1,z0,z1,z2,z3⟩
      case round=>
       clear r0 r1 s0 s1 z0 z1 z2 z3;obtain⟨j,rfl,hj,hgo2,hbl,r0,r1,s0,s1,z0,z1,z2,z3⟩:=hrel;have HG2:=aH hgo2;have hcl:=(hbl.cell (p:=⟨b,off+gk,none⟩) hb).trans (HC.out gk (by omega));have HB2:=aH hbl;have HNX2:=aH (fun h=>HN.out gk h G2.out);have HEX2:=aH (HE.out gk);clear hbl hgo2;generalize xs.getD gk 0=f2 at *;rcases Bool.eq_false_or_eq_true (ltb q f2)with g2|g2
       ·obtain⟨hp,hh⟩:=HNX2.out g2;have HR2:=aH hh;clear hh;go_wp2
        go_roundg (gk-1)
        case measure=>omega
        case rel=>
         refine⟨gk-1,rfl,by omega,by rw[HR2.out,HG2.out],?_,sO r0 (by simp),sO r1 (by simp),sO s0 (by simp),(st_same s1).trans (congrArg some (num_i (by omega))),sF z0,sF z1,sF z2,sF z3⟩;exact bS HB2.out (by simp)
       ·have HR2:=aH (HEX2.out g2);go_wp2;have e1:loV xs p 0=k:=(by rw[←HG.out,HR.out]);have e2:hiV xs q n=gk:=(by rw[←HG2.out,HR2.out]);rw[e1,e2];have q0:((wr.setCell ⟨w.heap.size,0,none⟩ (.int .i64 k)).setCell ⟨w.heap.size,1,none⟩ (.int .i64 gk)).cell? ⟨w.heap.size,0,none⟩=some (.int .i64 k):=sO (st_same r0) (by simp);have q1:((wr.setCell ⟨w.heap.size,0,none⟩ (.int .i64 k)).setCell ⟨w.heap.size,1,none⟩ (.int .i64 gk)).cell? ⟨w.heap.size,1,none⟩=some (.int .i64 gk):=st_same (sO r1 (by simp));exact bP (v:=.tuple #[.agg #[.int .i64 k,.int .i64 gk],.int .i64 0]) (by simp[results,Tryz.results248,go_sem,q0,q1]) rfl ⟨rfl,bS (bS HB2.out (by simp)) (by simp)⟩
    ·obtain rfl:k=n:=(by omega);clear hbl;have HR:=aH (HLE.out k (.inl (by omega)));go_wp2;clear oge ogt
     go_loopg [58] k (fun gk _ wr=>∃j:Nat,gk=j∧j≤k∧hiV xs q j=hiV xs q k∧Below w.heap.size w wr∧
      wr.cell? ⟨w.heap.size,0,none⟩=some (.int .i64 0)∧wr.cell? ⟨w.heap.size,1,none⟩=some (.int .i64 0)∧wr.cell? ⟨w.heap.size+1,0,none⟩=some (.int .i64 k)∧wr.cell? ⟨w.heap.size+1,1,none⟩=some (.int .i64 j)∧
      wr.frozen? ⟨w.heap.size,0,none⟩=false∧wr.frozen? ⟨w.heap.size,1,none⟩=false∧wr.frozen? ⟨w.heap.size+1,0,none⟩=false∧wr.frozen? ⟨w.heap.size+1,1,none⟩=false)
     case atStart=>exact⟨k,rfl,nR _,rfl,HB.out,r0,r1,s0,s1,z0,z1,z2,z3⟩
     case round=>
      clear r0 r1 s0 s1 z0 z1 z2 z3;obtain⟨j,rfl,hj,hgo2,hbl,r0,r1,s0,s1,z0,z1,z2,z3⟩:=hrel;have HG2:=aH hgo2;have hcl:=(hbl.cell (p:=⟨b,off+gk,none⟩) hb).trans (HC.out gk (by omega));have HB2:=aH hbl;have HNX2:=aH (fun h=>HN.out gk h G2.out);have HEX2:=aH (HE.out gk);clear hbl hgo2;generalize xs.getD gk 0=f2 at *;rcases Bool.eq_false_or_eq_true (ltb q f2)with g2|g2
      ·obtain⟨hp,hh⟩:=HNX2.out g2;have HR2:=aH hh;clear hh;go_wp2
       go_roundg (gk-1)
       case measure=>omega
       case rel=>
        refine⟨gk-1,rfl,by omega,by rw[HR2.out,HG2.out],?_,sO r0 (by simp),sO r1 (by simp),sO s0 (by simp),(st_same s1).trans (congrArg some (num_i (by omega))),sF z0,sF z1,sF z2,sF z3⟩;exact bS HB2.out (by simp)
      ·have HR2:=aH (HEX2.out g2);go_wp2;have e1:loV xs p 0=k:=(by rw[←HG.out,HR.out]);have e2:hiV xs q k=gk:=(by rw[←HG2.out,HR2.out]);rw[e1,e2];have q0:((wr.setCell ⟨w.heap.size,0,none⟩ (.int .i64 k)).setCell ⟨w.heap.size,1,none⟩ (.int .i64 gk)).cell? ⟨w.heap.size,0,none⟩=some (.int .i64 k):=sO (st_same r0) (by simp);have q1:((wr.setCell ⟨w.heap.size,0,none⟩ (.int .i64 k)).setCell ⟨w.heap.size,1,none⟩ (.int .i64 gk)).cell? ⟨w.heap.size,1,none⟩=some (.int .i64 gk):=st_same (sO r1 (by simp));exact bP (v:=.tuple #[.agg #[.int .i64 k,.int .i64 gk],.int .i64 0]) (by simp[results,Tryz.results248,go_sem,q0,q1]) rfl ⟨rfl,bS (bS HB2.out (by simp)) (by simp)⟩
theorem rise_cells {w:World} {B:Nat} {v:Value} {xs:List Nat} (h:KF.IsL w B v xs) (hz:chkE xs=0):Rise xs∧∃b off cap n,v=.slice (some ⟨b,off,none⟩) xs.length cap∧xs.length=n+2∧n≤23∧b<B∧
  (∀i,i<xs.length→w.cell? ⟨b,off+i,none⟩=some (.float .f64 (xs.getD i 0)))∧(∀i,i<xs.length→xs.getD i 0<18446744073709551616):=by
 have hr:=rise_of xs hz;have h2:=hr.two;have h3:=hr.most;obtain⟨b,off,cap,rfl,hc,hb,hl,hcell,hlt⟩:=KF.cells h (by omega);exact⟨hr,b,off,cap,xs.length-2,rfl,by omega,by omega,hb,hcell,hlt⟩
theorem nanb_of {x:Nat} (h:nanb x=false):¬nan x:=by unfold nanb at h;simpa using h
theorem touches_any (b off cap n:Nat) (xs:List Nat) (hn:xs.length=n+2) (hm:n≤23) (w:World) (hcell:∀i,i<xs.length→w.cell? ⟨b,off+i,none⟩=some (.float .f64 (xs.getD i 0))) (k:Nat) (hk:k≤n) (p q:Nat):
  Calls Tryz.prog 263 #[.slice (some ⟨b,off,none⟩) xs.length cap,.int .i64 k,.float .f64 p,.float .f64 q] w fun e w'=>e=.returned (.bool (tchB xs p q k))∧w=w':=by
 have olt:∀a b,(FloatKind.f64.format.order a b==some .lt)=ltb a b:=fun _ _=>rfl;have ogt:∀a b,(FloatKind.f64.format.order a b==some .gt)=gtb a b:=fun _ _=>rfl;have oge:∀a b,(gtb a b||FloatKind.f64.format.order a b==some .eq)=geb a b:=fun _ _=>rfl;have ole:∀a b,(ltb a b||FloatKind.f64.format.order a b==some .eq)=leb a b:=fun _ _=>rfl;have c0:=hcell k (by omega);have c1:=hcell (k+1) (by omega);have HT:=aH (show tchB xs p q k=((if k+2=xs.length then leb p (xs.getD (k+1) 0)else ltb p (xs.getD (k+1) 0))&&geb q (xs.getD k 0))from rfl);clear hcell;by_cases he:k=n
 ·subst he;rw[HT.out,if_pos hn.symm];clear HT;rw[hn];clear hn;generalize xs.getD (k+1) 0=f1 at *;generalize xs.getD k 0=f0 at *;rcases Bool.eq_false_or_eq_true (leb p f1)with g|g
  all_goals
   rw[g];go_enter Tryz.func263,Tryz.ntmps263;go_wp2
   go_ret
   exact⟨ret_b (by simp),rfl⟩
 ·rw[HT.out,if_neg (by omega)];clear HT;rw[hn];clear hn;generalize xs.getD (k+1) 0=f1 at *;generalize xs.getD k 0=f0 at *;rcases Bool.eq_false_or_eq_true (ltb p f1)with g|g
  all_goals
   rw[g];go_enter Tryz.func263,Tryz.ntmps263;go_wp2
   go_ret
   exact⟨ret_b (by simp),rfl⟩
def nd (x y:Nat) (w:World):Nat:=Question.cut (.nanBits .f64 x y) (w.tape w.drawn (.nanBits .f64 x y))
theorem nd_nan (x y:Nat) (w:World):nanb (nd x y w)=true:=by
 apply dT;unfold nd;generalize w.tape w.drawn (.nanBits .f64 x y)=t;show 9218868437227405312<Question.cut (.nanBits .f64 x y) t%9223372036854775808;simp only[Question.cut,Nat.reducePow,Nat.reduceSub];have h1:t%2=0∨t%2=1:=by omega
 have h2:t/2%4503599627370495<4503599627370495:=Nat.mod_lt _ (by decide);generalize t/2%4503599627370495=c at *;rcases h1 with h1|h1
 ·rw[h1];omega
 ·rw[h1];omega
theorem sub_run (x y:Nat) (h64:y<18446744073709551616):∃(d:Nat) (s:World→Nat),(∀w,(binOp .sub 84 (.float .f64 x) (.float .f64 y)).run Tryz.prog w=.ok (.float .f64 (s w)) (w.drewN d))∧
  ((Ieee.double.sub x y=none∧∀w,nanb (s w)=true)∨∃p,Ieee.double.sub x y=some p∧nanb p=false∧s=fun _=>p):=by
 rcases he:Ieee.double.sub x y with _|p
 ·refine⟨1,nd x y,fun w=>?_,.inl ⟨rfl,nd_nan x y⟩⟩;have he':FloatKind.f64.format.sub x y=none:=he;simp[binOp,Op.floatArith,he',Question.forced];exact⟨rfl,rfl⟩
 ·refine⟨0,fun _=>p,fun w=>run_float_arith (P:=Tryz.prog) w .sub 84 .f64 _ _ _ he,.inr ⟨p,rfl,?_,rfl⟩⟩;unfold nanb;rw[decide_eq_false_iff_not];have hc:¬(nan x∨nan y∨clashS x y):=fun h=>by rw[sub_none x y h64 h]at he;cases he
  obtain⟨q,hq,hn,_⟩:=sub_some x y h64 (fun h=>hc (.inl h)) (fun h=>hc (.inr (.inl h))) (fun h=>hc (.inr (.inr h)));rw[he]at hq
  cases hq
  exact hn
theorem add_run (x y:Nat):∃(d:Nat) (s:World→Nat),(∀w,(binOp .add 84 (.float .f64 x) (.float .f64 y)).run Tryz.prog w=.ok (.float .f64 (s w)) (w.drewN d))∧
  ((Ieee.double.add x y=none∧∀w,nanb (s w)=true)∨∃p,Ieee.double.add x y=some p∧nanb p=false∧s=fun _=>p):=by
 rcases he:Ieee.double.add x y with _|p
 ·refine⟨1,nd x y,fun w=>?_,.inl ⟨rfl,nd_nan x y⟩⟩;have he':FloatKind.f64.format.add x y=none:=he;simp[binOp,Op.floatArith,he',Question.forced];exact⟨rfl,rfl⟩
 ·refine⟨0,fun _=>p,fun w=>run_float_arith (P:=Tryz.prog) w .add 84 .f64 _ _ _ he,.inr ⟨p,rfl,?_,rfl⟩⟩;unfold nanb;rw[decide_eq_false_iff_not];have hc:¬(nan x∨nan y∨clash x y):=fun h=>by rw[add_none x y h]at he;cases he
  obtain⟨q,hq,hn,_⟩:=add_some x y (fun h=>hc (.inl h)) (fun h=>hc (.inr (.inl h))) (fun h=>hc (.inr (.inr h)));rw[he]at hq
  cases hq
  exact hn
def rch (l:List Nat) (x r:Nat):Nat×Nat×Int:=
 if chkE l=0 then
  (if nanb x=true∨nanb r=true then(0,0,20)
  else if ltb r 0=true then(0,0,22)
  else match Ieee.double.sub x r,Ieee.double.add x r with
   |some a,some b=>(tLo l a b,tHi l a b,tEr l a b)
   |_,_=>(0,0,20))
 else(0,0,chkE l)
def rchVal (t:Nat×Nat×Int):Value:=.tuple #[.agg #[.int .i64 t.1,.int .i64 t.2.1],.int .i64 t.2.2]
theorem reach_any (v:Value) (xs:List Nat) (x r:Nat) (h64:r<18446744073709551616) (w:World) (h:KF.IsL w w.heap.size v xs):Calls Tryz.prog 218 #[v,.float .f64 x,.float .f64 r] w fun e w'=>e=.returned (rchVal (rch xs x r))∧Below w.heap.size w w':=by
 have olt:∀a b,(FloatKind.f64.format.order a b==some .lt)=ltb a b:=fun _ _=>rfl;have h1:KF.IsL (w.alloc (.cells #[.int .i64 0,.int .i64 0] 134)) (w.alloc (.cells #[.int .i64 0,.int .i64 0] 134)).heap.size v xs:=h.then (bL (bR _ _) _);have HK:=aH (check_any v xs _ h1);have HB0:=aH (bL (bR w.heap.size w) (.cells #[.int .i64 0,.int .i64 0] 134));by_cases hz:chkE xs=0
 ·obtain⟨hr,b,off,cap,n,rfl,hn,hm,hb,hcell,hlt⟩:=rise_cells h1 hz;rw[hz]at HK;obtain⟨ds,sV,hs,hs2⟩:=sub_run x r h64;obtain⟨da,aV,ha,ha2⟩:=add_run x r;have HR:=aH (show rch xs x r=(if nanb x=true∨nanb r=true then(0,0,20)else if ltb r 0=true then(0,0,22)else match Ieee.double.sub x r,Ieee.double.add x r with
   |some a,some b=>(tLo xs a b,tHi xs a b,tEr xs a b)
   |_,_=>(0,0,20))by unfold rch;rw[if_pos hz])
  rcases Bool.eq_false_or_eq_true (nanb x)with hx|hx
  ·have T:rch xs x r=(0,0,20):=(by rw[HR.out,if_pos (.inl hx)]);rw[T];clear T HR hr hcell hlt hz h h1 hs2 ha2 hn;unfold rchVal;go_enter Tryz.func218,Tryz.ntmps218;go_wp2_with fail;refine HK.out.mono ?_;rintro e w' ⟨rfl,rfl⟩;go_wp2_with fail;refine(isNone_any _ _).mono ?_;rintro e w' ⟨rfl,rfl⟩;go_wp2_with (go_at_call 247;refine(isNone_any _ _).mono ?_;rintro e w' ⟨rfl,rfl⟩);exact bP (v:=.tuple #[.agg #[.int .i64 0,.int .i64 0],.int .i64 20]) (by simp[results,Tryz.results218,go_sem]) rfl ⟨rfl,bS (bS (below_drewN HB0.out _) (nR _)) (nR _)⟩
  ·rcases Bool.eq_false_or_eq_true (nanb r)with hy|hy
   ·have T:rch xs x r=(0,0,20):=(by rw[HR.out,if_pos (.inr hy)]);rw[T];clear T HR hr hcell hlt hz h h1 hs2 ha2 hn;unfold rchVal;go_enter Tryz.func218,Tryz.ntmps218;go_wp2_with fail;refine HK.out.mono ?_;rintro e w' ⟨rfl,rfl⟩;go_wp2_with (go_at_call 247;refine(isNone_any _ _).mono ?_;rintro e w' ⟨rfl,rfl⟩);exact bP (v:=.tuple #[.agg #[.int .i64 0,.int .i64 0],.int .i64 20]) (by simp[results,Tryz.results218,go_sem]) rfl ⟨rfl,bS (bS (below_drewN HB0.out _) (nR _)) (nR _)⟩
   ·have hor:¬(nanb x=true∨nanb r=true):=(by rw[hx,hy];simp);have HR2:=aH (HR.out.trans (if_neg hor));clear HR hor;rcases Bool.eq_false_or_eq_true (ltb r 0)with hl|hl
    ·have T:rch xs x r=(0,0,22):=(by rw[HR2.out,if_pos hl]);rw[T];clear T HR2 hr hcell hlt hz h h1 hs2 ha2 hn;unfold rchVal;go_enter Tryz.func218,Tryz.ntmps218;go_wp2_with fail;refine HK.out.mono ?_;rintro e w' ⟨rfl,rfl⟩;go_wp2_with (go_at_call 247;refine(isNone_any _ _).mono ?_;rintro e w' ⟨rfl,rfl⟩);exact bP (v:=.tuple #[.agg #[.int .i64 0,.int .i64 0],.int .i64 22]) (by simp[results,Tryz.results218,go_sem]) rfl ⟨rfl,bS (bS (below_drewN HB0.out _) (nR _)) (nR _)⟩
    ·have HR3:=aH (HR2.out.trans (if_neg (by rw[hl];simp)));clear HR2;rcases hs2 with ⟨es,hs2⟩|⟨a,es,hs2,rfl⟩
     ·have T:rch xs x r=(0,0,20):=(by rw[HR3.out,es]);rw[T];clear T HR3 hr hcell hlt hz h h1 ha2 hn es;unfold rchVal;go_enter Tryz.func218,Tryz.ntmps218;go_wp2_with fail;refine HK.out.mono ?_;rintro e w' ⟨rfl,rfl⟩;go_wp2_with (go_at_call 247;refine(isNone_any _ _).mono ?_;rintro e w' ⟨rfl,rfl⟩);exact bP (v:=.tuple #[.agg #[.int .i64 0,.int .i64 0],.int .i64 20]) (by simp[results,Tryz.results218,go_sem]) rfl ⟨rfl,bS (bS (below_drewN HB0.out _) (nR _)) (nR _)⟩
     ·rcases ha2 with ⟨ea,ha2⟩|⟨q,ea,ha2,rfl⟩
      ·have T:rch xs x r=(0,0,20):=(by rw[HR3.out,es,ea]);rw[T];clear T HR3 hr hcell hlt hz h h1 hn es ea;unfold rchVal;go_enter Tryz.func218,Tryz.ntmps218;go_wp2_with fail;refine HK.out.mono ?_;rintro e w' ⟨rfl,rfl⟩;go_wp2_with (go_at_call 247;refine(isNone_any _ _).mono ?_;rintro e w' ⟨rfl,rfl⟩);exact bP (v:=.tuple #[.agg #[.int .i64 0,.int .i64 0],.int .i64 20]) (by simp[results,Tryz.results218,go_sem]) rfl ⟨rfl,bS (bS (below_drewN HB0.out _) (nR _)) (nR _)⟩
      ·have T:rch xs x r=(tLo xs a q,tHi xs a q,tEr xs a q):=(by rw[HR3.out,es,ea]);have HT:=aH (fun d=>touched_any b off cap n xs hn hm ((w.alloc (.cells #[.int .i64 0,.int .i64 0] 134)).drewN d) hb hcell a q);rw[T];clear T HR3 hr hcell hlt hz h h1 hn es ea;generalize tLo xs a q=A at *;generalize tHi xs a q=B at *;generalize tEr xs a q=C at *;unfold rchVal;dsimp only;go_enter Tryz.func218,Tryz.ntmps218;go_wp2_with fail;refine HK.out.mono ?_;rintro e w' ⟨rfl,rfl⟩;go_wp2_with (first|(go_at_call 247;refine(isNone_any _ _).mono ?_;rintro e w' ⟨rfl,rfl⟩)|(go_at_call 248;refine(HT.out _).mono ?_;rintro e w2 ⟨rfl,hb2⟩;have r0:w2.cell? ⟨w.heap.size,0,none⟩=some (.int .i64 0):=kK hb2 (by simp);have r1:w2.cell? ⟨w.heap.size,1,none⟩=some (.int .i64 0):=kK hb2 (by simp);have z0:w2.frozen? ⟨w.heap.size,0,none⟩=false:=(hb2.frozen (p:=⟨w.heap.size,0,none⟩) (by simp)).trans (by simp);have z1:w2.frozen? ⟨w.heap.size,1,none⟩=false:=(hb2.frozen (p:=⟨w.heap.size,1,none⟩) (by simp)).trans (by simp);have HB2:=aH (bC (below_drewN HB0.out _) hb2);clear hb2));exact bP (v:=.tuple #[.agg #[.int .i64 A,.int .i64 B],.int .i64 C]) (by simp[results,Tryz.results218,go_sem,r0,r1]) rfl ⟨rfl,bS (bS HB2.out (nR _)) (nR _)⟩
 ·have T:rch xs x r=(0,0,chkE xs):=by unfold rch;rw[if_neg hz]
  rw[T];have hz':(chkE xs != 0)=true:=by rw[bne_iff_ne];exact hz
  clear T h h1 hz;generalize chkE xs=c at *;unfold rchVal;go_enter Tryz.func218,Tryz.ntmps218;go_wp2_with fail;refine HK.out.mono ?_;rintro e w' ⟨rfl,rfl⟩;go_wp2;exact bP (v:=.tuple #[.agg #[.int .i64 0,.int .i64 0],.int .i64 c]) (by simp[results,Tryz.results218,go_sem]) rfl ⟨rfl,HB0.out⟩
def ints (l:List Nat):List Int:=l.map Int.ofNat
theorem tchs_next (l:List Nat) (a b k:Nat):ints (tchs l a b (k+1))=ints (tchs l a b k)++(if tchB l a b k=true then [(k:Int)]else []):=by
 unfold tchs ints;rw[List.range_succ,List.filter_append,List.map_append]
 congr 1
 by_cases h:tchB l a b k=true
 ·rw[if_pos h];simp[h]
 ·rw[if_neg h];simp[h]
theorem tchs_len (l:List Nat) (a b k:Nat):(ints (tchs l a b k)).length≤k:=by
 unfold tchs ints;rw[List.length_map];have:=List.length_filter_le (tchB l a b) (List.range k);rw[List.length_range]at this;exact this
theorem sub_le_add (x r a q:Nat) (h64:r<18446744073709551616) (hx:¬nan x) (hr:¬nan r) (h0:0≤vf r) (es:Ieee.double.sub x r=some a) (ea:Ieee.double.add x r=some q):¬nan a∧¬nan q∧vf a≤vf x∧vf x≤vf q:=by
 have h1:¬clashS x r:=fun h=>by rw[sub_none x r h64 (.inr (.inr h))]at es;cases es
 have h2:¬clash x r:=fun h=>by rw[add_none x r (.inr (.inr h))]at ea;cases ea
 obtain⟨p,e1,n1,_,v1⟩:=sub_some x r h64 hx hr h1;obtain⟨p2,e2,n2,_,v2⟩:=add_some x r hx hr h2;rw[es]at e1;rw[ea]at e2
 cases e1
 cases e2
 have hz:xv 0=0:=by
  unfold xv;have:rg 0=0:=rfl;rw[this,rw_0];unfold sg
  split<;>rfl
 have n0:¬nan 0:=by unfold nan;omega
 have v0:vf 0=0:=by
  have:=RI_xv 0 n0;rw[hz]at this;rw[←this];unfold RI sg;rw[if_neg (by decide)];exact congrArg _ R_0
 have hp:0≤xv r:=by
  have:=xv_mono n0 hr (by rw[v0];exact h0);rw[hz]at this;exact this
 have hxx:=RI_xv x hx;refine⟨n1,n2,?_,?_⟩
 ·rw[v1,←hxx];exact RI_mono (by omega)
 ·rw[v2,←hxx];exact RI_mono (by omega)
theorem vf_0:vf 0=0:=by
 unfold vf sg rg sb;rfl
theorem ltb_0 (r:Nat) (hr:¬nan r) (h:ltb r 0=false):0≤vf r:=by
 have n0:¬nan 0:=by unfold nan;omega
 rw[ltb_num hr n0,vf_0,decide_eq_false_iff_not]at h;omega
theorem rch_bad (l:List Nat) (x r:Nat) (hz:chkE l≠0):rch l x r=(0,0,chkE l):=by unfold rch;rw[if_neg hz]
theorem rch_nan (l:List Nat) (x r:Nat) (hz:chkE l=0) (h:nanb x=true∨nanb r=true):rch l x r=(0,0,20):=by unfold rch;rw[if_pos hz,if_pos h]
theorem rch_neg (l:List Nat) (x r:Nat) (hz:chkE l=0) (hx:nanb x=false) (hy:nanb r=false) (hl:ltb r 0=true):rch l x r=(0,0,22):=by unfold rch;rw[if_pos hz,if_neg (by rw[hx,hy];simp),if_pos hl]
theorem rch_none (l:List Nat) (x r:Nat) (hz:chkE l=0) (hx:nanb x=false) (hy:nanb r=false) (hl:ltb r 0=false) (h:Ieee.double.sub x r=none∨Ieee.double.add x r=none):rch l x r=(0,0,20):=by
 unfold rch;rw[if_pos hz,if_neg (by rw[hx,hy];simp),if_neg (by rw[hl];simp)];rcases h with h|h
 ·rw[h]
 ·rw[h]
  cases Ieee.double.sub x r<;>rfl
theorem rch_some (l:List Nat) (x r a b:Nat) (hz:chkE l=0) (hx:nanb x=false) (hy:nanb r=false) (hl:ltb r 0=false) (h1:Ieee.double.sub x r=some a) (h2:Ieee.double.add x r=some b):rch l x r=(tLo l a b,tHi l a b,tEr l a b):=by
 unfold rch;rw[if_pos hz,if_neg (by rw[hx,hy];simp),if_neg (by rw[hl];simp),h1,h2]
end Go.Proofs.YtmecohdedghiaaaGreatDoor
