/- Two parts that may have no number, spans, and where a part lies: what the program and the reference answer. -/
import Derived.Test.YtacjonncakhhmaaGreatPv00
import Derived.Test.YtacjonncakhhmaaGreatPv13
import Derived.RegionTactic
import Derived.ChangeAlike
import Derived.Test.YtacjonncakhhmaaGreatPv12
import Derived.Deep.Cut
set_option maxRecDepth 100000
set_option maxHeartbeats 8000000
namespace Go.Proofs.YtacjonncakhhmaaGreat
open Go.RowKit
theorem rreach_0 (v:Value) (xs:List Nat) (x r:Nat) (h64:r<18446744073709551616) (w:World) (h:KF.IsL w w.heap.size v xs) (hno:chkE xs≠0∨nanb x=true∨nanb r=true∨ltb r 0=true∨Ieee.double.sub x r=none∨Ieee.double.add x r=none):Calls Tryz.prog 123 #[v,.float .f64 x,.float .f64 r] w fun e w'=>e=.returned (rchVal (rch xs x r))∧Below w.heap.size w w':=by
 have olt:∀a b,(FloatKind.f64.format.order a b==some .lt)=ltb a b:=fun _ _=>rfl;have h1:KF.IsL (w.alloc (.cells #[.int .i64 0,.int .i64 0] 107)) (w.alloc (.cells #[.int .i64 0,.int .i64 0] 107)).heap.size v xs:=h.then (bL (bR _ _) _);have HK:=aH (rcheck_any v xs _ h1);have HB0:=aH (bL (bR w.heap.size w) (.cells #[.int .i64 0,.int .i64 0] 107));by_cases hz:chkE xs=0
 ·rw[hz]at HK;clear h h1;obtain⟨ds,sV,hs,hs2⟩:=sub_run x r h64;obtain⟨da,aV,ha,ha2⟩:=add_run x r;rcases Bool.eq_false_or_eq_true (nanb x)with hx|hx
  ·have T:rch xs x r=(0,0,20):=rch_nan xs x r hz (.inl hx);rw[T];clear T hz hs2 ha2 hno hs ha;unfold rchVal;go_enter Tryz.func123,Tryz.ntmps123;go_wp2_with fail;refine HK.out.mono ?_;rintro e w' ⟨rfl,d,rfl⟩;go_wp2_with (go_at_call 124;refine(rnone_any _ _).mono ?_;rintro e w' ⟨rfl,rfl⟩);exact bP (v:=.tuple #[.agg #[.int .i64 0,.int .i64 0],.int .i64 20]) (by simp[results,Tryz.results123,go_sem]) rfl ⟨rfl,bS (bS (below_drewN HB0.out _) (nR _)) (nR _)⟩
  ·rcases Bool.eq_false_or_eq_true (nanb r)with hy|hy
   ·have T:rch xs x r=(0,0,20):=rch_nan xs x r hz (.inr hy);rw[T];clear T hz hs2 ha2 hno hs ha;unfold rchVal;go_enter Tryz.func123,Tryz.ntmps123;go_wp2_with fail;refine HK.out.mono ?_;rintro e w' ⟨rfl,d,rfl⟩;go_wp2_with (go_at_call 124;refine(rnone_any _ _).mono ?_;rintro e w' ⟨rfl,rfl⟩);exact bP (v:=.tuple #[.agg #[.int .i64 0,.int .i64 0],.int .i64 20]) (by simp[results,Tryz.results123,go_sem]) rfl ⟨rfl,bS (bS (below_drewN HB0.out _) (nR _)) (nR _)⟩
   ·rcases Bool.eq_false_or_eq_true (ltb r 0)with hl|hl
    ·have T:rch xs x r=(0,0,22):=rch_neg xs x r hz hx hy hl;rw[T];clear T hz hs2 ha2 hno hs ha;unfold rchVal;go_enter Tryz.func123,Tryz.ntmps123;go_wp2_with fail;refine HK.out.mono ?_;rintro e w' ⟨rfl,d,rfl⟩;go_wp2_with (go_at_call 124;refine(rnone_any _ _).mono ?_;rintro e w' ⟨rfl,rfl⟩);exact bP (v:=.tuple #[.agg #[.int .i64 0,.int .i64 0],.int .i64 22]) (by simp[results,Tryz.results123,go_sem]) rfl ⟨rfl,bS (bS (below_drewN HB0.out _) (nR _)) (nR _)⟩
    ·rcases hs2 with ⟨es,hs2⟩|⟨a,es,hs2,rfl⟩
     ·have T:rch xs x r=(0,0,20):=rch_none xs x r hz hx hy hl (.inl es);rw[T];clear T hz ha2 hno es;unfold rchVal;go_enter Tryz.func123,Tryz.ntmps123;go_wp2_with fail;refine HK.out.mono ?_;rintro e w' ⟨rfl,d,rfl⟩;go_wp2_with (go_at_call 124;refine(rnone_any _ _).mono ?_;rintro e w' ⟨rfl,rfl⟩);exact bP (v:=.tuple #[.agg #[.int .i64 0,.int .i64 0],.int .i64 20]) (by simp[results,Tryz.results123,go_sem]) rfl ⟨rfl,bS (bS (below_drewN HB0.out _) (nR _)) (nR _)⟩
     ·rcases ha2 with ⟨ea,ha2⟩|⟨q,ea,ha2,rfl⟩
      ·have T:rch xs x r=(0,0,20):=rch_none xs x r hz hx hy hl (.inr ea);rw[T];clear T hz hno es ea;unfold rchVal;go_enter Tryz.func123,Tryz.ntmps123;go_wp2_with fail;refine HK.out.mono ?_;rintro e w' ⟨rfl,d,rfl⟩;go_wp2_with (go_at_call 124;refine(rnone_any _ _).mono ?_;rintro e w' ⟨rfl,rfl⟩);exact bP (v:=.tuple #[.agg #[.int .i64 0,.int .i64 0],.int .i64 20]) (by simp[results,Tryz.results123,go_sem]) rfl ⟨rfl,bS (bS (below_drewN HB0.out _) (nR _)) (nR _)⟩
      ·exfalso;rcases hno with h|h|h|h|h|h
       ·exact h hz
       ·rw[hx]at h;cases h
       ·rw[hy]at h;cases h
       ·rw[hl]at h;cases h
       ·rw[es]at h;cases h
       ·rw[ea]at h;cases h
 ·have T:rch xs x r=(0,0,chkE xs):=rch_bad xs x r hz;rw[T];have hz':(chkE xs != 0)=true:=by rw[bne_iff_ne];exact hz
  clear T h h1 hz hno;generalize chkE xs=c at *;unfold rchVal;go_enter Tryz.func123,Tryz.ntmps123;go_wp2_with fail;refine HK.out.mono ?_;rintro e w' ⟨rfl,d,rfl⟩;go_wp2;exact bP (v:=.tuple #[.agg #[.int .i64 0,.int .i64 0],.int .i64 c]) (by simp[results,Tryz.results123,go_sem]) rfl ⟨rfl,bS (bS (below_drewN HB0.out _) (nR _)) (nR _)⟩
theorem rreach_1 (v:Value) (xs:List Nat) (x r a q:Nat) (h64:r<18446744073709551616) (w:World) (h:KF.IsL w w.heap.size v xs) (hz:chkE xs=0) (hx:nanb x=false) (hy:nanb r=false) (hl:ltb r 0=false) (es:Ieee.double.sub x r=some a) (ea:Ieee.double.add x r=some q):
  Calls Tryz.prog 123 #[v,.float .f64 x,.float .f64 r] w fun e w'=>e=.returned (rchVal (tLo xs a q,tHi xs a q,tEr xs a q))∧Below w.heap.size w w':=by
 have olt:∀a b,(FloatKind.f64.format.order a b==some .lt)=ltb a b:=fun _ _=>rfl;have h1:KF.IsL (w.alloc (.cells #[.int .i64 0,.int .i64 0] 107)) (w.alloc (.cells #[.int .i64 0,.int .i64 0] 107)).heap.size v xs:=h.then (bL (bR _ _) _);have HK:=aH (rcheck_any v xs _ h1);have HB0:=aH (bL (bR w.heap.size w) (.cells #[.int .i64 0,.int .i64 0] 107));rw[hz]at HK;obtain⟨hr,b,off,cap,n,rfl,hn,hm,hb,hcell,hlt⟩:=rise_cells h1 hz;obtain⟨na,nq,s1,s2⟩:=sub_le_add x r a q h64 (nanb_of hx) (nanb_of hy) (ltb_0 r (nanb_of hy) hl) es ea;have hs:=fun w=>run_float_arith (P:=Tryz.prog) w .sub 44 .f64 _ _ _ es;have ha:=fun w=>run_float_arith (P:=Tryz.prog) w .add 44 .f64 _ _ _ ea;have ha2:nanb a=false:=by unfold nanb;exact dF na
 have hq2:nanb q=false:=by unfold nanb;exact dF nq
 have HI:=aH (tchs_in xs hr a q na nq (Int.le_trans s1 s2));have HO:=aH (tchs_out xs hr a q na nq);have HSP:=aH (fun ho=>(lanes_spec xs hr a q na nq (Int.le_trans s1 s2) ho));have HT:=aH (fun(w':World) hc k hk=>touches_any b off cap n xs hn hm w' hc k hk a q);have HN:=aH (tchs_next xs a q);have HL:=aH (tchs_len xs a q);have HC:=aH hcell;have hb':b<w.heap.size+1:=by simpa using hb
 have en:n+2-1=n+1:=by omega
 have en2:n+2-2=n:=by omega
 rw[hn]at HK HC HI HO HSP;rw[en]at HI HO HSP;rw[en2]at HI HSP;have HTH:=aH (show tHi xs a q=if outB xs a q=true then 0 else hiV xs q n by unfold tHi;rw[hn,en2]);rw[hn];simp only[hn]at HT;clear h h1 hz hr hcell hlt hn hb es ea na nq s1 s2 en en2;go_enter Tryz.func123,Tryz.ntmps123;go_wp2_with fail;refine HK.out.mono ?_;rintro e w' ⟨rfl,d,rfl⟩;go_wp2_with (go_at_call 124;refine(rnone_any _ _).mono ?_;rintro e w' ⟨rfl,rfl⟩);obtain⟨w0,hw0⟩:∃w0,w0=(w.alloc (.cells #[.int .i64 0,.int .i64 0] 107)).drewN d:=⟨_,rfl⟩;rw[←hw0];have hsz:w0.heap.size=w.heap.size+1:=by rw[hw0];simp
 have r0:w0.cell? ⟨w.heap.size,0,none⟩=some (.int .i64 0):=by rw[hw0];simp
 have r1:w0.cell? ⟨w.heap.size,1,none⟩=some (.int .i64 0):=by rw[hw0];simp
 have z0:w0.frozen? ⟨w.heap.size,0,none⟩=false:=by rw[hw0];simp
 have z1:w0.frozen? ⟨w.heap.size,1,none⟩=false:=by rw[hw0];simp
 have HC0:=aH (show ∀i,i<n+2→w0.cell? ⟨b,off+i,none⟩=some (.float .f64 (xs.getD i 0))from fun i hi=>by rw[hw0];exact HC.out i hi);have HB1:=aH (show Below w.heap.size w w0 by rw[hw0];exact below_drewN HB0.out _);have R0:=aH r0;have R1:=aH r1;have Z0:=aH z0;have Z1:=aH z1;have HSZ:=aH hsz;clear r0 r1 z0 z1 hw0 HB0 HC HK hsz hs ha ha2 hq2
 go_loopw [11,12] (fun v i wr=>∃k:Nat,k≤n+1∧i=.int .i64 k∧KI.Own wr w0.heap.size v (ints (tchs xs a q k))∧Below w0.heap.size w0 wr) (fun _ i _=>n+1-(intOf i).toNat)
 case atStart=>exact⟨0,Nat.zero_le _,rfl,Lk.Own.nil _ _,bR _ _⟩
 case round=>
  obtain⟨k,hk,rfl,hown,hbl⟩:=hrel;have HOW:=aH hown;have HB:=aH hbl;clear hown hbl;by_cases hlt:k<n+1
  ·have HTK:=aH (HT.out wr (fun i hi=>(HB.out.cell (p:=⟨b,off+i,none⟩) (by have:=HSZ.out;show b<_;omega)).trans (HC0.out i hi)) k (by omega));have HNK:=aH (HN.out k);have HLK:=aH (HL.out k);generalize ints (tchs xs a q k)=L at *;rcases Bool.eq_false_or_eq_true (tchB xs a q k)with g|g
   ·rw[g]at HTK HNK;go_wp2_with fail;refine HTK.out.mono ?_;rintro e w' ⟨rfl,rfl⟩;go_wp2_with (at_builtin;go_loud (refine Lk.wpList_app (K:=KI) _ rfl _ _ rfl rfl w0.heap.size (wr.heap.size+1) _ _ L [(k:Int)] rfl rfl (HOW.out.alloc _) (Lk.IsL.lit (K:=KI) wr (k:Int) _ (show fits _ by unfold fits;omega) rfl _ rfl) ?c1 ?c2 ?_))
    case c1=>have:=HLK.out;simp;omega
    case c2=>have:=HB.out.size;simp;omega
    intro v1 w1 hown hgrow _;have HB2:=aH (Lk.Own.grow' (HOW.out.alloc (.cells #[.int .i64 k] 3)) (bL HB.out _) (by have:=HB.out.size;simp;omega) hgrow);have HO2:=aH hown;clear hown hgrow;go_wp2
    go_roundw
    case rel=>exact⟨k+1,by omega,num_i (by omega),by rw[HNK.out];exact HO2.out,HB2.out⟩
    case measure=>simp[intOf];omega
   ·rw[g]at HTK HNK;go_wp2_with (go_at_call 125;refine HTK.out.mono ?_;rintro e w' ⟨rfl,rfl⟩)
    go_roundw
    case rel=>exact⟨k+1,by omega,num_i (by omega),by rw[HNK.out];simpa using HOW.out,HB.out⟩
    case measure=>simp[intOf];omega
  ·obtain rfl:k=n+1:=(by omega);have HL':=aH (HL.out (n+1));rcases Bool.eq_false_or_eq_true (outB xs a q)with ho|ho
   ·have T1:tLo xs a q=0:=(by unfold tLo;rw[if_pos ho]);have T2:tHi xs a q=0:=(by unfold tHi;rw[if_pos ho]);have T3:tEr xs a q=71:=(by unfold tEr;rw[if_pos ho]);have e:ints (tchs xs a q (n+1))=[]:=(by rw[HO.out ho];rfl);rw[e]at HOW;obtain⟨A,cap2,rfl⟩:∃A cap,u11=.slice A 0 cap:=by
     obtain⟨⟨A,cap,h,_⟩,_⟩:=HOW.out.isL (by simp);exact⟨A,cap,h⟩
    have r0:=(HB.out.cell (p:=⟨w.heap.size,0,none⟩) (by have:=HSZ.out;show w.heap.size<_;omega)).trans R0.out;have r1:=(HB.out.cell (p:=⟨w.heap.size,1,none⟩) (by have:=HSZ.out;show w.heap.size<_;omega)).trans R1.out;have z0:=(HB.out.frozen (p:=⟨w.heap.size,0,none⟩) (by have:=HSZ.out;show w.heap.size<_;omega)).trans Z0.out;have z1:=(HB.out.frozen (p:=⟨w.heap.size,1,none⟩) (by have:=HSZ.out;show w.heap.size<_;omega)).trans Z1.out;have TT:=aH (show rchVal (tLo xs a q,tHi xs a q,tEr xs a q)=.tuple #[.agg #[.int .i64 0,.int .i64 0],.int .i64 71]by rw[T1,T2,T3];rfl);clear T1 T2 T3 e ho;go_wp2;exact bP (v:=.tuple #[.agg #[.int .i64 0,.int .i64 0],.int .i64 71]) (by simp[results,Tryz.results123,go_sem,r0,r1]) rfl ⟨by rw[TT.out],bS (bS (HB1.out.trans (HB.out.mono HB1.out.size)) (nR _)) (nR _)⟩
   ·have hlo:=HSP.out ho;have T1:tLo xs a q=loV xs a 0:=(by unfold tLo;rw[ho,if_neg (by simp)]);have T2:tHi xs a q=hiV xs q n:=(by rw[HTH.out,ho,if_neg (by simp)]);have T3:tEr xs a q=0:=(by unfold tEr;rw[ho,if_neg (by simp)]);have e:ints (tchs xs a q (n+1))=ints (List.range' (loV xs a 0) (hiV xs q n-loV xs a 0+1)):=(by rw[HI.out ho]);rw[e]at HOW;obtain⟨hlo,hhi,_⟩:=hlo;generalize loV xs a 0=lo at *;generalize hiV xs q n=hi at *;obtain⟨m,rfl⟩:∃m,hi=lo+m:=⟨hi-lo,by omega⟩;rw[show lo+m-lo+1=m+1 by omega]at HOW;have hlen:(ints (List.range' lo (m+1))).length=m+1:=(by simp[ints]);obtain⟨g,of2,cap2,rfl,hc2,hg,_,hcell2,_⟩:=KI.cells (HOW.out.isL (by rw[hlen];omega)) (by rw[hlen];omega);rw[hlen]at hcell2 hc2⊢;have q0:=hcell2 0 (by omega);have q1:=hcell2 m (by omega);have g0:(ints (List.range' lo (m+1))).getD 0 0=(lo:Int):=(by simp[ints,List.range'_succ]);have g1:(ints (List.range' lo (m+1))).getD m 0=((lo+m:Nat):Int):=by
     rw[List.getD_eq_getElem?_getD];simp[ints]
    rw[g0,Nat.add_zero]at q0;rw[g1]at q1;have r0:=(HB.out.cell (p:=⟨w.heap.size,0,none⟩) (by have:=HSZ.out;show w.heap.size<_;omega)).trans R0.out;have r1:=(HB.out.cell (p:=⟨w.heap.size,1,none⟩) (by have:=HSZ.out;show w.heap.size<_;omega)).trans R1.out;have z0:=(HB.out.frozen (p:=⟨w.heap.size,0,none⟩) (by have:=HSZ.out;show w.heap.size<_;omega)).trans Z0.out;have z1:=(HB.out.frozen (p:=⟨w.heap.size,1,none⟩) (by have:=HSZ.out;show w.heap.size<_;omega)).trans Z1.out;have TT:=aH (show rchVal (tLo xs a q,tHi xs a q,tEr xs a q)=.tuple #[.agg #[.int .i64 lo,.int .i64 ((lo+m:Nat):Int)],.int .i64 0]by rw[T1,T2,T3];rfl);clear T1 T2 T3 e ho hcell2 hlen g0 g1;go_wp2
    go_region
    go_wp2;have p0:((wr.setCell ⟨w.heap.size,0,none⟩ (.int .i64 lo)).setCell ⟨w.heap.size,1,none⟩ (.int .i64 ((lo:Int)+m))).cell? ⟨w.heap.size,0,none⟩=some (.int .i64 lo):=sO (st_same r0) (by simp);have p1:((wr.setCell ⟨w.heap.size,0,none⟩ (.int .i64 lo)).setCell ⟨w.heap.size,1,none⟩ (.int .i64 ((lo:Int)+m))).cell? ⟨w.heap.size,1,none⟩=some (.int .i64 ((lo:Int)+m)):=st_same (sO r1 (by simp));exact bP (v:=.tuple #[.agg #[.int .i64 lo,.int .i64 ((lo:Int)+m)],.int .i64 0]) (by simp[results,Tryz.results123,go_sem,p0,p1]) rfl ⟨by rw[TT.out,Int.natCast_add],Below.drew (bS (bS (HB1.out.trans (HB.out.mono HB1.out.size)) (nR _)) (nR _))⟩
theorem rreach_any (v:Value) (xs:List Nat) (x r:Nat) (h64:r<18446744073709551616) (w:World) (h:KF.IsL w w.heap.size v xs):Calls Tryz.prog 123 #[v,.float .f64 x,.float .f64 r] w fun e w'=>e=.returned (rchVal (rch xs x r))∧Below w.heap.size w w':=by
 by_cases hz:chkE xs=0
 ·rcases hx:nanb x with _|_
  ·rcases hy:nanb r with _|_
   ·rcases hl:ltb r 0 with _|_
    ·rcases es:Ieee.double.sub x r with _|a
     ·exact rreach_0 v xs x r h64 w h (.inr (.inr (.inr (.inr (.inl es)))))
     ·rcases ea:Ieee.double.add x r with _|q
      ·exact rreach_0 v xs x r h64 w h (.inr (.inr (.inr (.inr (.inr ea)))))
      ·rw[rch_some xs x r a q hz hx hy hl es ea];exact rreach_1 v xs x r a q h64 w h hz hx hy hl es ea
    ·exact rreach_0 v xs x r h64 w h (.inr (.inr (.inr (.inl hl))))
   ·exact rreach_0 v xs x r h64 w h (.inr (.inr (.inl hy)))
  ·exact rreach_0 v xs x r h64 w h (.inr (.inl hx))
 ·exact rreach_0 v xs x r h64 w h (.inl hz)
def mulS (x y:Nat) (w:World):Nat:=(Ieee.double.mul x y).getD (nd x y w)
def mulD (x y:Nat):Nat:=if (Ieee.double.mul x y).isSome then 0 else 1
def addS (x y:Nat) (w:World):Nat:=(Ieee.double.add x y).getD (nd x y w)
def addD (x y:Nat):Nat:=if (Ieee.double.add x y).isSome then 0 else 1
theorem mul_run (x y:Nat) (w:World):(binOp .mul 44 (.float .f64 x) (.float .f64 y)).run Tryz.prog w=.ok (.float .f64 (mulS x y w)) (w.drewN (mulD x y)):=by
 unfold mulS mulD;rcases he:Ieee.double.mul x y with _|p
 ·have he':FloatKind.f64.format.mul x y=none:=he;simp[binOp,Op.floatArith,he',Question.forced];exact⟨rfl,rfl⟩
 ·exact run_float_arith (P:=Tryz.prog) w .mul 44 .f64 _ _ _ he
theorem add_run' (x y:Nat) (w:World):(binOp .add 44 (.float .f64 x) (.float .f64 y)).run Tryz.prog w=.ok (.float .f64 (addS x y w)) (w.drewN (addD x y)):=by
 unfold addS addD;rcases he:Ieee.double.add x y with _|p
 ·have he':FloatKind.f64.format.add x y=none:=he;simp[binOp,Op.floatArith,he',Question.forced];exact⟨rfl,rfl⟩
 ·exact run_float_arith (P:=Tryz.prog) w .add 44 .f64 _ _ _ he
def midO (X P c:Nat):Option Nat:=(Ieee.double.mul c P).bind fun p=>Ieee.double.add X p
def Mid (X P c m:Nat):Prop:=match midO X P c with|some v=>m=v|none=>nanb m=true
theorem mid_of (X P c:Nat) (w w':World):Mid X P c (addS X (mulS c P w) w'):=by
 unfold Mid midO mulS addS;rcases hm:Ieee.double.mul c P with _|p
 ·have hn:nan (nd c P w):=of_decide_eq_true (nd_nan c P w);have ha:=add_none X (nd c P w) (.inr (.inl hn));show nanb ((Ieee.double.add X (nd c P w)).getD (nd X (nd c P w) w'))=true;rw[show Ieee.double.add X (nd c P w)=none from ha];exact nd_nan _ _ _
 ·show match Ieee.double.add X p with|some v=>(Ieee.double.add X p).getD (nd X p w')=v|none=>nanb ((Ieee.double.add X p).getD (nd X p w'))=true
  rcases ha:Ieee.double.add X p with _|q
  ·exact nd_nan _ _ _
  ·rfl
def covV (l:List Nat) (X P R c:Nat):Nat×Nat×Int:=rch l ((midO X P c).getD 9221120237041090560) R
theorem cov_mid (l:List Nat) (X P R c m:Nat) (h:Mid X P c m):rch l m R=covV l X P R c:=by
 unfold Mid at h;unfold covV;rcases e:midO X P c with _|v
 ·rw[e]at h;have h':nanb m=true:=h;have h9:nanb 9221120237041090560=true:=by decide+kernel
  show rch l m R=rch l 9221120237041090560 R;unfold rch;rw[h',h9];simp
 ·rw[e]at h;have h':m=v:=h;rw[h'];rfl
def cf (n:Int):Nat:=floatOfInt FloatKind.f64 n
abbrev Rk.v (q:Rk):Value:=.agg #[.int .i64 q.rows,.int .i64 q.cols,.float .f64 q.x,.float .f64 q.p,.float .f64 q.r]
theorem middle_any (q:Rk) (c:Int) (w:World):Calls Tryz.prog 91 #[q.v,.int .i64 c] w fun e w'=>∃m,e=.returned (.float .f64 m)∧Mid q.x q.p (cf c) m∧Below w.heap.size w w':=by
 obtain⟨a,b,X,P,R⟩:=q;have hm:=fun x y w=>mul_run x y w;have ha:=fun x y w=>add_run' x y w;go_enter Tryz.func91,Tryz.ntmps91;go_wp2
 go_ret
 exact⟨_,rfl,mid_of _ _ _ _ _,below_drewN (bL (bR _ _) _) _⟩
theorem rackLike_any (q:Pl) (w:World):Calls Tryz.prog 89 #[q.v] w fun e w'=>e=.returned (.agg #[.int .i64 q.rows,.int .i64 q.cols,.float .f64 q.x,.float .f64 q.p,.float .f64 q.r])∧Below w.heap.size w w':=by
 obtain⟨a,b,X,P,R,cap,sA,sn,sc,st⟩:=q;have hsf:=fun(w:World) (a:Addr) (m:Mode) (b:Nat)=>run_store_float (P:=Tryz.prog) (w:=w) (a:=a) (m:=m) .f64 b;go_enter Tryz.func89,Tryz.ntmps89;go_wp2;refine bP (v:=.agg #[.int .i64 a,.int .i64 b,.float .f64 X,.float .f64 P,.float .f64 R]) (by simp[results,Tryz.results89,go_sem]) rfl ⟨rfl,?_⟩;(repeat (first|exact bR _ _|(with_reducible refine bS ?_ (by simp<;>omega))|(with_reducible refine bL ?_ _)))
theorem covered_any (v:Value) (xs:List Nat) (q:Rk) (c:Int) (w:World) (h:KF.IsL w w.heap.size v xs) (hr:q.r<18446744073709551616):Calls Tryz.prog 66 #[v,q.v,.int .i64 c] w fun e w'=>e=.returned (rchVal (covV xs q.x q.p q.r (cf c)))∧Below w.heap.size w w':=by
 obtain⟨a,b,X,P,R⟩:=q;have HR:=aH (fun m (hm:Mid X P (cf c) m) (w:World) (h:KF.IsL w w.heap.size v xs)=>show Calls Tryz.prog 90 #[v,.float .f64 m,.float .f64 R] w fun e w'=>e=.returned (rchVal (covV xs X P R (cf c)))∧Below w.heap.size w w' by
  have:=reach_any v xs m R hr w h
  rwa [cov_mid xs X P R (cf c) m hm]at this)
 show Calls Tryz.prog 66 #[v,.agg #[.int .i64 a,.int .i64 b,.float .f64 X,.float .f64 P,.float .f64 R],.int .i64 c] w fun e w'=>e=.returned (rchVal (covV xs X P R (cf c)))∧Below w.heap.size w w';generalize covV xs X P R (cf c)=t at *;obtain⟨t1,t2,t3⟩:=t;unfold rchVal at *;dsimp only at HR⊢;have HL:=aH h;clear h hr;obtain⟨w0,hw0⟩:∃w0,w0=(w.alloc (.cells #[.int .i64 a,.int .i64 b,.float .f64 X,.float .f64 P,.float .f64 R] 52)).alloc (.cells #[.int .i64 0,.int .i64 0] 107):=⟨_,rfl⟩;go_enter Tryz.func66,Tryz.ntmps66;go_wp2_with fail;rw[←hw0];have HB0:=aH (show Below w.heap.size w w0.drew by rw[hw0];exact(bL (bL (bR _ _) _) _).drew);have HL0:=aH (show KF.IsL w0.drew w0.drew.heap.size v xs from HL.out.then HB0.out);have c0:w0.cell? ⟨w.heap.size,0,none⟩=some (.int .i64 a):=by rw[hw0];simp
 have c1:w0.cell? ⟨w.heap.size,1,none⟩=some (.int .i64 b):=by rw[hw0];simp
 have c2:w0.cell? ⟨w.heap.size,2,none⟩=some (.float .f64 X):=by rw[hw0];simp
 have c3:w0.cell? ⟨w.heap.size,3,none⟩=some (.float .f64 P):=by rw[hw0];simp
 have c4:w0.cell? ⟨w.heap.size,4,none⟩=some (.float .f64 R):=by rw[hw0];simp
 have r0:w0.drew.cell? ⟨w.heap.size+1,0,none⟩=some (.int .i64 0):=by rw[hw0];simp[go_sem]
 have r1:w0.drew.cell? ⟨w.heap.size+1,1,none⟩=some (.int .i64 0):=by rw[hw0];simp[go_sem]
 have z0:w0.drew.frozen? ⟨w.heap.size+1,0,none⟩=false:=by rw[hw0];simp[go_sem]
 have z1:w0.drew.frozen? ⟨w.heap.size+1,1,none⟩=false:=by rw[hw0];simp[go_sem]
 clear hw0 HL;refine wp_region_held_drew (S:=fun w'=>w'.cell? ⟨w.heap.size,0,none⟩=some (.int .i64 a)∧w'.cell? ⟨w.heap.size,1,none⟩=some (.int .i64 b)∧w'.cell? ⟨w.heap.size,2,none⟩=some (.float .f64 X)∧w'.cell? ⟨w.heap.size,3,none⟩=some (.float .f64 P)∧w'.cell? ⟨w.heap.size,4,none⟩=some (.float .f64 R)) (by kernel_rfl) ?_ (fun hHeld=>?_)
 ·exact⟨c0,c1,c2,c3,c4⟩
 refine wk [.k 0 8,.k 1 9,.k 2 10,.k 4 12,.k 5 13] (fun _ _ _ _ _ h=>h) hHeld ?_ (by kernel_rfl);repeat (refine .k (v:=?_) rfl (by kernel_rfl) ?_ ?_;rotate_left 1;(intro w h;go_simp<;>try rfl);try simp only[sp])
 refine .nil ?_;clear c0 c1 c2 c3 c4;refine wQ 3 (some 11) rfl (fun K hK=>?_) (by kernel_rfl);go_simp;refine(middle_any ⟨a,b,X,P,R⟩ c _).mono ?_;rintro e v1 ⟨m,rfl,hm,hb⟩;have HM:=aH hm;have HB1:=aH (bC HB0.out hb);have HL1:=aH (HL0.out.then hb);have k0:=kK hb r0;have k1:=kK hb r1;have y0:=(hb.frozen (p:=⟨w.heap.size+1,0,none⟩) (wB _ _ r0)).trans z0;have y1:=(hb.frozen (p:=⟨w.heap.size+1,1,none⟩) (wB _ _ r1)).trans z1;clear hm r0 r1 z0 z1;go_wp2_with fail;refine hK.out _ _ ?_ (fun hHeld=>?_)
 ·exact⟨kK hb hHeld.1,kK hb hHeld.2.1,kK hb hHeld.2.2.1,kK hb hHeld.2.2.2.1,kK hb hHeld.2.2.2.2⟩
 clear hK K hb;try simp only[sp]
 refine wQ 6 (some 14) rfl (fun K hK=>?_) (by kernel_rfl);go_simp;refine(HR.out m HM.out v1 HL1.out).mono ?_;rintro e v2 ⟨rfl,hb⟩;have HB2:=aH (bC HB1.out hb);have j0:=kK hb k0;have j1:=kK hb k1;have x0:=(hb.frozen (p:=⟨w.heap.size+1,0,none⟩) (wB _ _ k0)).trans y0;have x1:=(hb.frozen (p:=⟨w.heap.size+1,1,none⟩) (wB _ _ k1)).trans y1;clear k0 k1 y0 y1 HL1 HB1;go_wp2_with fail;refine hK.out _ _ ?_ (fun hHeld=>?_)
 ·exact⟨kK hb hHeld.1,kK hb hHeld.2.1,kK hb hHeld.2.2.1,kK hb hHeld.2.2.2.1,kK hb hHeld.2.2.2.2⟩
 clear hK K hb;try simp only[sp]
 refine wk [.k 7 15,.k 8 16] (fun _ _ _ _ _ h=>h) hHeld ?_ (by kernel_rfl);repeat (refine .k (v:=?_) rfl (by kernel_rfl) ?_ ?_;rotate_left 1;(intro w h;go_simp<;>try rfl);try simp only[sp])
 refine .nil ?_;refine wQ 9 none rfl (fun K hK=>?_) (by kernel_rfl);go_simp;refine hK.out _ _ ?_ (fun hHeld=>?_)
 ·exact⟨sO (sO hHeld.1 (by simp)) (by simp),sO (sO hHeld.2.1 (by simp)) (by simp),sO (sO hHeld.2.2.1 (by simp)) (by simp),sO (sO hHeld.2.2.2.1 (by simp)) (by simp),sO (sO hHeld.2.2.2.2 (by simp)) (by simp)⟩
 clear hK K;try simp only[sp]
 refine wk [.k 10 7] (fun _ _ _ _ _ h=>h) hHeld ?_ (by kernel_rfl);repeat (refine .k (v:=?_) rfl (by kernel_rfl) ?_ ?_;rotate_left 1;(intro w h;go_simp<;>try rfl);try simp only[sp])
 refine .nil ?_;refine wD (by kernel_rfl) ?_;go_wp2;have s0:((v2.setCell ⟨w.heap.size+1,0,none⟩ (.int .i64 t1)).setCell ⟨w.heap.size+1,1,none⟩ (.int .i64 t2)).cell? ⟨w.heap.size+1,0,none⟩=some (.int .i64 t1):=sO (st_same j0) (by simp);have s1:((v2.setCell ⟨w.heap.size+1,0,none⟩ (.int .i64 t1)).setCell ⟨w.heap.size+1,1,none⟩ (.int .i64 t2)).cell? ⟨w.heap.size+1,1,none⟩=some (.int .i64 t2):=st_same (sO j1 (by simp));exact bP (v:=.tuple #[.agg #[.int .i64 t1,.int .i64 t2],.int .i64 t3]) (by simp[results,Tryz.results66,go_sem,s0,s1]) rfl ⟨rfl,bS (bS HB2.out (by show w.heap.size≤w.heap.size+1;omega)) (by show w.heap.size≤w.heap.size+1;omega)⟩
def rkPl (q:Pl):Rk:=⟨q.rows,q.cols,q.x,q.p,q.r⟩
noncomputable def rkOf (d:Dk) (p:Q4):Rk:=if p.a=1 then rkPl (d.pl.getD p.b.toNat KP.dflt)else d.rl.getD p.b.toNat KR.dflt
def Lies (d:Dk) (p:Q4):Prop:=(p.a=1∧0≤p.b∧p.b.toNat<d.pl.length)∨(p.a=2∧0≤p.b∧p.b.toNat<d.rl.length)
theorem rkOf_ok {w:World} {d:Dk} (hd:d.In w w.heap.size) (p:Q4) (h:Lies d p):(rkOf d p).r<18446744073709551616:=by
 unfold rkOf;rcases h with ⟨h,_,hl⟩|⟨h,_,hl⟩
 ·rw[if_pos h];exact(hd.p.okAt _ hl).2.2.2.2.1
 ·rw[if_neg (by omega)];exact(hd.r.okAt _ hl).2.2.2.2
theorem ad_nf {b b' o o':Nat} (h:b≠b'∨o≠o'):(⟨b,o,none⟩:Addr)≠⟨b',o',none⟩:=by
 intro e
 cases e
 rcases h with h|h<;>exact h rfl
theorem part_lies (d:Dk) (p:Q4) (hp:p∈partsK d):(p.a=3∧0≤p.b)∨Lies d p:=by
 have hp0:=hp;unfold partsK at hp;by_cases hz:dchk d=0
 ·rw[if_pos hz]at hp;unfold partsL partsU unitsL at hp;obtain⟨u,hu,hp⟩:=List.mem_flatMap.1 hp;have hpar:p.a=u.a∧p.b=u.b:=by
   unfold unitParts at hp;obtain⟨i,_,rfl⟩:=List.mem_map.1 hp;exact⟨rfl,rfl⟩
  rcases List.mem_append.1 hu with hu|hu
  ·rcases List.mem_append.1 hu with hu|hu
   ·obtain⟨i,hi,rfl⟩:=List.mem_map.1 hu;have hi:=List.mem_range.1 hi;have e1:p.a=1:=hpar.1;have e2:p.b=(i:Int):=hpar.2;exact .inr (.inl ⟨e1,by omega,by rw[e2,Int.toNat_natCast];exact hi⟩)
   ·obtain⟨i,hi,rfl⟩:=List.mem_map.1 hu;have hi:=List.mem_range.1 hi;have e1:p.a=2:=hpar.1;have e2:p.b=(i:Int):=hpar.2;exact .inr (.inr ⟨e1,by omega,by rw[e2,Int.toNat_natCast];exact hi⟩)
  ·obtain⟨i,hi,rfl⟩:=List.mem_map.1 hu;have e1:p.a=3:=hpar.1;have e2:p.b=(i:Int):=hpar.2;exact .inl ⟨e1,by omega⟩
 ·rw[if_neg hz]at hp
  cases hp
noncomputable def spnP (d:Dk) (p:Q4):Nat×Nat×Int:=if p.a=3 then(p.b.toNat,p.b.toNat,0)else covV d.bl (rkOf d p).x (rkOf d p).p (rkOf d p).r (cf p.d)
theorem rat_any (d:Dk) (p:Q4) (w:World) (hd:d.In w w.heap.size) (hp:Lies d p):Calls Tryz.prog 122 #[d.v,p.v] w fun e w'=>∃m,e=.returned (.tuple #[.float .f64 m,.float .f64 (rkOf d p).r])∧Mid (rkOf d p).x (rkOf d p).p (cf p.d) m∧Below w.heap.size w w':=by
 obtain⟨pa,pb,pc',pd⟩:=p;have HD:=aH hd;have e0:=hd.b.len;have e1:=hd.p.len;have e2:=hd.r.len;unfold Lies at hp;dsimp only at hp;obtain⟨k,rfl⟩:∃k:Nat,pb=(k:Int):=⟨pb.toNat,by omega⟩;rw[Int.toNat_natCast]at hp;have T:rkOf d ⟨pa,k,pc',pd⟩=if pa=1 then rkPl (d.pl.getD k KP.dflt)else d.rl.getD k KR.dflt:=by unfold rkOf;dsimp only;rw[Int.toNat_natCast]
 rw[T];clear T;obtain⟨bA,bn,bc,bl,pA,pn,pc,pl,rA,rn,rc,rl,arms⟩:=d;dsimp only at *;subst e0 e1 e2;clear hd;have hsf:=fun(w:World) (a:Addr) (m:Mode) (b:Nat)=>run_store_float (P:=Tryz.prog) (w:=w) (a:=a) (m:=m) .f64 b;have hm:=fun x y w=>mul_run x y w;have ha:=fun x y w=>add_run' x y w;rcases hp with ⟨rfl,_,hl⟩|⟨rfl,_,hl⟩
 ·rw[if_pos rfl];have hb0:=bL (bL (bR w.heap.size w) (.cells #[.slice bA bl.length bc,.slice pA pl.length pc,.slice rA rl.length rc,.int .i64 arms] 26)) (.cells #[.int .i64 1,.int .i64 k,.int .i64 pc',.int .i64 pd] 114);obtain⟨w0,hw0⟩:∃w0,w0=(w.alloc (.cells #[.slice bA bl.length bc,.slice pA pl.length pc,.slice rA rl.length rc,.int .i64 arms] 26)).alloc (.cells #[.int .i64 1,.int .i64 k,.int .i64 pc',.int .i64 pd] 114):=⟨_,rfl⟩;rw[←hw0]at hb0;obtain⟨b,off,rfl,hb,hc,hcell⟩:=plate_cells (HD.out.p.below hb0) (by dsimp only;omega);obtain⟨c0,c1,c2,c3,c4,c5,c6⟩:=hcell k hl;clear hcell;dsimp only at *;generalize pl.getD k KP.dflt=q at *;obtain⟨a1,a2,X,P,R,cap,sA,sn,sc,st⟩:=q;dsimp only at *;unfold rkPl;rw[hw0]at c0 c1 c2 c3 c4 c5 c6 hb0;have HB0:=aH hb0;clear hb0 hw0;go_enter Tryz.func122,Tryz.ntmps122;go_wp2;go_quiet (fail);go_wp2
  go_ret2
  exact⟨_,rfl,mid_of _ _ _ _ _,below_drewN (by(repeat (first|exact bR _ _|(with_reducible refine bL ?_ _)))) _⟩
 ·rw[if_neg (by decide)];have hb0:=bL (bL (bR w.heap.size w) (.cells #[.slice bA bl.length bc,.slice pA pl.length pc,.slice rA rl.length rc,.int .i64 arms] 26)) (.cells #[.int .i64 2,.int .i64 k,.int .i64 pc',.int .i64 pd] 114);obtain⟨w0,hw0⟩:∃w0,w0=(w.alloc (.cells #[.slice bA bl.length bc,.slice pA pl.length pc,.slice rA rl.length rc,.int .i64 arms] 26)).alloc (.cells #[.int .i64 2,.int .i64 k,.int .i64 pc',.int .i64 pd] 114):=⟨_,rfl⟩;rw[←hw0]at hb0;obtain⟨b,off,rfl,hb,hc,hcell⟩:=rack_cells (HD.out.r.below hb0) (by dsimp only;omega);obtain⟨c0,c1,c2,c3,c4⟩:=hcell k hl;clear hcell;dsimp only at *;generalize rl.getD k KR.dflt=q at *;obtain⟨a1,a2,X,P,R⟩:=q;dsimp only at *
  skip
  rw[hw0]at c0 c1 c2 c3 c4 hb0;have HB0:=aH hb0;clear hb0 hw0;go_enter Tryz.func122,Tryz.ntmps122;go_wp2;go_quiet (fail);go_wp2
  go_ret2
  exact⟨_,rfl,mid_of _ _ _ _ _,below_drewN (by(repeat (first|exact bR _ _|(with_reducible refine bL ?_ _)))) _⟩
end Go.Proofs.YtacjonncakhhmaaGreat
