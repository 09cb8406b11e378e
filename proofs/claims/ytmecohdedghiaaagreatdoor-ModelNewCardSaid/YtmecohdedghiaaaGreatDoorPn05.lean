/- How many places there are on plates and racks: what the program answers. -/
import Derived.Test.YtmecohdedghiaaaGreatDoorPn00
import Derived.Test.YtmecohdedghiaaaGreatDoorPn04
import Derived.RegionTactic
import Derived.ChangeAlike
import Derived.Test.YtmecohdedghiaaaGreatDoorPn03
set_option maxRecDepth 100000
set_option maxHeartbeats 8000000
namespace Go.Proofs.YtmecohdedghiaaaGreatDoor
open Go.RowKit
theorem rreach_0 (v:Value) (xs:List Nat) (x r:Nat) (h64:r<18446744073709551616) (w:World) (h:KF.IsL w w.heap.size v xs) (hno:chkE xs≠0∨nanb x=true∨nanb r=true∨ltb r 0=true∨Ieee.double.sub x r=none∨Ieee.double.add x r=none):Calls Tryz.prog 246 #[v,.float .f64 x,.float .f64 r] w fun e w'=>e=.returned (rchVal (rch xs x r))∧Below w.heap.size w w':=by
 have olt:∀a b,(FloatKind.f64.format.order a b==some .lt)=ltb a b:=fun _ _=>rfl;have h1:KF.IsL (w.alloc (.cells #[.int .i64 0,.int .i64 0] 134)) (w.alloc (.cells #[.int .i64 0,.int .i64 0] 134)).heap.size v xs:=h.then (bL (bR _ _) _);have HK:=aH (rcheck_any v xs _ h1);have HB0:=aH (bL (bR w.heap.size w) (.cells #[.int .i64 0,.int .i64 0] 134));by_cases hz:chkE xs=0
 ·rw[hz]at HK;clear h h1;obtain⟨ds,sV,hs,hs2⟩:=sub_run x r h64;obtain⟨da,aV,ha,ha2⟩:=add_run x r;rcases Bool.eq_false_or_eq_true (nanb x)with hx|hx
  ·have T:rch xs x r=(0,0,20):=rch_nan xs x r hz (.inl hx);rw[T];clear T hz hs2 ha2 hno hs ha;unfold rchVal;go_enter Tryz.func246,Tryz.ntmps246;go_wp2_with fail;refine HK.out.mono ?_;rintro e w' ⟨rfl,d,rfl⟩;go_wp2_with (go_at_call 223;refine(rnone_any _ _).mono ?_;rintro e w' ⟨rfl,rfl⟩);exact bP (v:=.tuple #[.agg #[.int .i64 0,.int .i64 0],.int .i64 20]) (by simp[results,Tryz.results246,go_sem]) rfl ⟨rfl,bS (bS (below_drewN HB0.out _) (nR _)) (nR _)⟩
  ·rcases Bool.eq_false_or_eq_true (nanb r)with hy|hy
   ·have T:rch xs x r=(0,0,20):=rch_nan xs x r hz (.inr hy);rw[T];clear T hz hs2 ha2 hno hs ha;unfold rchVal;go_enter Tryz.func246,Tryz.ntmps246;go_wp2_with fail;refine HK.out.mono ?_;rintro e w' ⟨rfl,d,rfl⟩;go_wp2_with (go_at_call 223;refine(rnone_any _ _).mono ?_;rintro e w' ⟨rfl,rfl⟩);exact bP (v:=.tuple #[.agg #[.int .i64 0,.int .i64 0],.int .i64 20]) (by simp[results,Tryz.results246,go_sem]) rfl ⟨rfl,bS (bS (below_drewN HB0.out _) (nR _)) (nR _)⟩
   ·rcases Bool.eq_false_or_eq_true (ltb r 0)with hl|hl
    ·have T:rch xs x r=(0,0,22):=rch_neg xs x r hz hx hy hl;rw[T];clear T hz hs2 ha2 hno hs ha;unfold rchVal;go_enter Tryz.func246,Tryz.ntmps246;go_wp2_with fail;refine HK.out.mono ?_;rintro e w' ⟨rfl,d,rfl⟩;go_wp2_with (go_at_call 223;refine(rnone_any _ _).mono ?_;rintro e w' ⟨rfl,rfl⟩);exact bP (v:=.tuple #[.agg #[.int .i64 0,.int .i64 0],.int .i64 22]) (by simp[results,Tryz.results246,go_sem]) rfl ⟨rfl,bS (bS (below_drewN HB0.out _) (nR _)) (nR _)⟩
    ·rcases hs2 with ⟨es,hs2⟩|⟨a,es,hs2,rfl⟩
     ·have T:rch xs x r=(0,0,20):=rch_none xs x r hz hx hy hl (.inl es);rw[T];clear T hz ha2 hno es;unfold rchVal;go_enter Tryz.func246,Tryz.ntmps246;go_wp2_with fail;refine HK.out.mono ?_;rintro e w' ⟨rfl,d,rfl⟩;go_wp2_with (go_at_call 223;refine(rnone_any _ _).mono ?_;rintro e w' ⟨rfl,rfl⟩);exact bP (v:=.tuple #[.agg #[.int .i64 0,.int .i64 0],.int .i64 20]) (by simp[results,Tryz.results246,go_sem]) rfl ⟨rfl,bS (bS (below_drewN HB0.out _) (nR _)) (nR _)⟩
     ·rcases ha2 with ⟨ea,ha2⟩|⟨q,ea,ha2,rfl⟩
      ·have T:rch xs x r=(0,0,20):=rch_none xs x r hz hx hy hl (.inr ea);rw[T];clear T hz hno es ea;unfold rchVal;go_enter Tryz.func246,Tryz.ntmps246;go_wp2_with fail;refine HK.out.mono ?_;rintro e w' ⟨rfl,d,rfl⟩;go_wp2_with (go_at_call 223;refine(rnone_any _ _).mono ?_;rintro e w' ⟨rfl,rfl⟩);exact bP (v:=.tuple #[.agg #[.int .i64 0,.int .i64 0],.int .i64 20]) (by simp[results,Tryz.results246,go_sem]) rfl ⟨rfl,bS (bS (below_drewN HB0.out _) (nR _)) (nR _)⟩
      ·exfalso;rcases hno with h|h|h|h|h|h
       ·exact h hz
       ·rw[hx]at h;cases h
       ·rw[hy]at h;cases h
       ·rw[hl]at h;cases h
       ·rw[es]at h;cases h
       ·rw[ea]at h;cases h
 ·have T:rch xs x r=(0,0,chkE xs):=rch_bad xs x r hz;rw[T];have hz':(chkE xs != 0)=true:=by rw[bne_iff_ne];exact hz
  clear T h h1 hz hno;generalize chkE xs=c at *;unfold rchVal;go_enter Tryz.func246,Tryz.ntmps246;go_wp2_with fail;refine HK.out.mono ?_;rintro e w' ⟨rfl,d,rfl⟩;go_wp2;exact bP (v:=.tuple #[.agg #[.int .i64 0,.int .i64 0],.int .i64 c]) (by simp[results,Tryz.results246,go_sem]) rfl ⟨rfl,bS (bS (below_drewN HB0.out _) (nR _)) (nR _)⟩
theorem rreach_1 (v:Value) (xs:List Nat) (x r a q:Nat) (h64:r<18446744073709551616) (w:World) (h:KF.IsL w w.heap.size v xs) (hz:chkE xs=0) (hx:nanb x=false) (hy:nanb r=false) (hl:ltb r 0=false) (es:Ieee.double.sub x r=some a) (ea:Ieee.double.add x r=some q):
  Calls Tryz.prog 246 #[v,.float .f64 x,.float .f64 r] w fun e w'=>e=.returned (rchVal (tLo xs a q,tHi xs a q,tEr xs a q))∧Below w.heap.size w w':=by
 have olt:∀a b,(FloatKind.f64.format.order a b==some .lt)=ltb a b:=fun _ _=>rfl;have h1:KF.IsL (w.alloc (.cells #[.int .i64 0,.int .i64 0] 134)) (w.alloc (.cells #[.int .i64 0,.int .i64 0] 134)).heap.size v xs:=h.then (bL (bR _ _) _);have HK:=aH (rcheck_any v xs _ h1);have HB0:=aH (bL (bR w.heap.size w) (.cells #[.int .i64 0,.int .i64 0] 134));rw[hz]at HK;obtain⟨hr,b,off,cap,n,rfl,hn,hm,hb,hcell,hlt⟩:=rise_cells h1 hz;obtain⟨na,nq,s1,s2⟩:=sub_le_add x r a q h64 (nanb_of hx) (nanb_of hy) (ltb_0 r (nanb_of hy) hl) es ea;have hs:=fun w=>run_float_arith (P:=Tryz.prog) w .sub 84 .f64 _ _ _ es;have ha:=fun w=>run_float_arith (P:=Tryz.prog) w .add 84 .f64 _ _ _ ea;have ha2:nanb a=false:=by unfold nanb;exact dF na
 have hq2:nanb q=false:=by unfold nanb;exact dF nq
 have HI:=aH (tchs_in xs hr a q na nq (Int.le_trans s1 s2));have HO:=aH (tchs_out xs hr a q na nq);have HSP:=aH (fun ho=>(lanes_spec xs hr a q na nq (Int.le_trans s1 s2) ho));have HT:=aH (fun(w':World) hc k hk=>touches_any b off cap n xs hn hm w' hc k hk a q);have HN:=aH (tchs_next xs a q);have HL:=aH (tchs_len xs a q);have HC:=aH hcell;have hb':b<w.heap.size+1:=by simpa using hb
 have en:n+2-1=n+1:=by omega
 have en2:n+2-2=n:=by omega
 rw[hn]at HK HC HI HO HSP;rw[en]at HI HO HSP;rw[en2]at HI HSP;have HTH:=aH (show tHi xs a q=if outB xs a q=true then 0 else hiV xs q n by unfold tHi;rw[hn,en2]);rw[hn];simp only[hn]at HT;clear h h1 hz hr hcell hlt hn hb es ea na nq s1 s2 en en2;go_enter Tryz.func246,Tryz.ntmps246;go_wp2_with fail;refine HK.out.mono ?_;rintro e w' ⟨rfl,d,rfl⟩;go_wp2_with (go_at_call 223;refine(rnone_any _ _).mono ?_;rintro e w' ⟨rfl,rfl⟩);obtain⟨w0,hw0⟩:∃w0,w0=(w.alloc (.cells #[.int .i64 0,.int .i64 0] 134)).drewN d:=⟨_,rfl⟩;rw[←hw0];have hsz:w0.heap.size=w.heap.size+1:=by rw[hw0];simp
 have r0:w0.cell? ⟨w.heap.size,0,none⟩=some (.int .i64 0):=by rw[hw0];simp
 have r1:w0.cell? ⟨w.heap.size,1,none⟩=some (.int .i64 0):=by rw[hw0];simp
 have z0:w0.frozen? ⟨w.heap.size,0,none⟩=false:=by rw[hw0];simp
 have z1:w0.frozen? ⟨w.heap.size,1,none⟩=false:=by rw[hw0];simp
 have HC0:=aH (show ∀i,i<n+2→w0.cell? ⟨b,off+i,none⟩=some (.float .f64 (xs.getD i 0))from fun i hi=>by rw[hw0];exact HC.out i hi);have HB1:=aH (show Below w.heap.size w w0 by rw[hw0];exact below_drewN HB0.out _);have R0:=aH r0;have R1:=aH r1;have Z0:=aH z0;have Z1:=aH z1;have HSZ:=aH hsz;clear r0 r1 z0 z1 hw0 HB0 HC HK hsz hs ha ha2 hq2
 go_loopw [11,12] (fun v i wr=>∃k:Nat,k≤n+1∧i=.int .i64 k∧KI.Own wr w0.heap.size v (ints (tchs xs a q k))∧Below w0.heap.size w0 wr) (fun _ i _=>n+1-(intOf i).toNat)
 case atStart=>exact⟨0,Nat.zero_le _,rfl,Lk.Own.nil _ _,bR _ _⟩
 case round=>
  obtain⟨k,hk,rfl,hown,hbl⟩:=hrel;have HOW:=aH hown;have HB:=aH hbl;clear hown hbl;by_cases hlt:k<n+1
  ·have HTK:=aH (HT.out wr (fun i hi=>(HB.out.cell (p:=⟨b,off+i,none⟩) (by have:=HSZ.out;show b<_;omega)).trans (HC0.out i hi)) k (by omega));have HNK:=aH (HN.out k);have HLK:=aH (HL.out k);generalize ints (tchs xs a q k)=L at *;rcases Bool.eq_false_or_eq_true (tchB xs a q k)with g|g
   ·rw[g]at HTK HNK;go_wp2_with fail;refine HTK.out.mono ?_;rintro e w' ⟨rfl,rfl⟩;go_wp2_with (at_builtin;go_loud (refine Lk.wpList_app (K:=KI) _ rfl _ _ rfl rfl w0.heap.size (wr.heap.size+1) _ _ L [(k:Int)] rfl rfl (HOW.out.alloc _) (Lk.IsL.lit (K:=KI) wr (k:Int) _ (show fits _ by unfold fits;omega) rfl _ rfl) ?c1 ?c2 ?_))
    case c1=>have:=HLK.out;simp;omega
    case c2=>have:=HB.out.size;simp;omega
    intro v1 w1 hown hgrow _;have HB2:=aH (Lk.Own.grow' (HOW.out.alloc (.cells #[.int .i64 k] 3)) (bL HB.out _) (by have:=HB.out.size;simp;omega) hgrow);have HO2:=aH hown;clear hown hgrow;go_wp2
    go_roundw
    case rel=>exact⟨k+1,by omega,num_i (by omega),by rw[HNK.out];exact HO2.out,HB2.out⟩
    case measure=>simp[intOf];omega
   ·rw[g]at HTK HNK;go_wp2_with (go_at_call 263;refine HTK.out.mono ?_;rintro e w' ⟨rfl,rfl⟩)
    go_roundw
    case rel=>exact⟨k+1,by omega,num_i (by omega),by rw[HNK.out];simpa using HOW.out,HB.out⟩
    case measure=>simp[intOf];omega
  ·obtain rfl:k=n+1:=(by omega);have HL':=aH (HL.out (n+1));rcases Bool.eq_false_or_eq_true (outB xs a q)with ho|ho
   ·have T1:tLo xs a q=0:=(by unfold tLo;rw[if_pos ho]);have T2:tHi xs a q=0:=(by unfold tHi;rw[if_pos ho]);have T3:tEr xs a q=71:=(by unfold tEr;rw[if_pos ho]);have e:ints (tchs xs a q (n+1))=[]:=(by rw[HO.out ho];rfl);rw[e]at HOW;obtain⟨A,cap2,rfl⟩:∃A cap,u11=.slice A 0 cap:=by
     obtain⟨⟨A,cap,h,_⟩,_⟩:=HOW.out.isL (by simp);exact⟨A,cap,h⟩
    have r0:=(HB.out.cell (p:=⟨w.heap.size,0,none⟩) (by have:=HSZ.out;show w.heap.size<_;omega)).trans R0.out;have r1:=(HB.out.cell (p:=⟨w.heap.size,1,none⟩) (by have:=HSZ.out;show w.heap.size<_;omega)).trans R1.out;have z0:=(HB.out.frozen (p:=⟨w.heap.size,0,none⟩) (by have:=HSZ.out;show w.heap.size<_;omega)).trans Z0.out;have z1:=(HB.out.frozen (p:=⟨w.heap.size,1,none⟩) (by have:=HSZ.out;show w.heap.size<_;omega)).trans Z1.out;have TT:=aH (show rchVal (tLo xs a q,tHi xs a q,tEr xs a q)=.tuple #[.agg #[.int .i64 0,.int .i64 0],.int .i64 71]by rw[T1,T2,T3];rfl);clear T1 T2 T3 e ho;go_wp2;exact bP (v:=.tuple #[.agg #[.int .i64 0,.int .i64 0],.int .i64 71]) (by simp[results,Tryz.results246,go_sem,r0,r1]) rfl ⟨by rw[TT.out],bS (bS (HB1.out.trans (HB.out.mono HB1.out.size)) (nR _)) (nR _)⟩
   ·have hlo:=HSP.out ho;have T1:tLo xs a q=loV xs a 0:=(by unfold tLo;rw[ho,if_neg (by simp)]);have T2:tHi xs a q=hiV xs q n:=(by rw[HTH.out,ho,if_neg (by simp)]);have T3:tEr xs a q=0:=(by unfold tEr;rw[ho,if_neg (by simp)]);have e:ints (tchs xs a q (n+1))=ints (List.range' (loV xs a 0) (hiV xs q n-loV xs a 0+1)):=(by rw[HI.out ho]);rw[e]at HOW;obtain⟨hlo,hhi,_⟩:=hlo;generalize loV xs a 0=lo at *;generalize hiV xs q n=hi at *;obtain⟨m,rfl⟩:∃m,hi=lo+m:=⟨hi-lo,by omega⟩;rw[show lo+m-lo+1=m+1 by omega]at HOW;have hlen:(ints (List.range' lo (m+1))).length=m+1:=(by simp[ints]);obtain⟨g,of2,cap2,rfl,hc2,hg,_,hcell2,_⟩:=KI.cells (HOW.out.isL (by rw[hlen];omega)) (by rw[hlen];omega);rw[hlen]at hcell2 hc2⊢;have q0:=hcell2 0 (by omega);have q1:=hcell2 m (by omega);have g0:(ints (List.range' lo (m+1))).getD 0 0=(lo:Int):=(by simp[ints,List.range'_succ]);have g1:(ints (List.range' lo (m+1))).getD m 0=((lo+m:Nat):Int):=by
     rw[List.getD_eq_getElem?_getD];simp[ints]
    rw[g0,Nat.add_zero]at q0;rw[g1]at q1;have r0:=(HB.out.cell (p:=⟨w.heap.size,0,none⟩) (by have:=HSZ.out;show w.heap.size<_;omega)).trans R0.out;have r1:=(HB.out.cell (p:=⟨w.heap.size,1,none⟩) (by have:=HSZ.out;show w.heap.size<_;omega)).trans R1.out;have z0:=(HB.out.frozen (p:=⟨w.heap.size,0,none⟩) (by have:=HSZ.out;show w.heap.size<_;omega)).trans Z0.out;have z1:=(HB.out.frozen (p:=⟨w.heap.size,1,none⟩) (by have:=HSZ.out;show w.heap.size<_;omega)).trans Z1.out;have TT:=aH (show rchVal (tLo xs a q,tHi xs a q,tEr xs a q)=.tuple #[.agg #[.int .i64 lo,.int .i64 ((lo+m:Nat):Int)],.int .i64 0]by rw[T1,T2,T3];rfl);clear T1 T2 T3 e ho hcell2 hlen g0 g1;go_wp2
    go_region
    go_wp2;have p0:((wr.setCell ⟨w.heap.size,0,none⟩ (.int .i64 lo)).setCell ⟨w.heap.size,1,none⟩ (.int .i64 ((lo:Int)+m))).cell? ⟨w.heap.size,0,none⟩=some (.int .i64 lo):=sO (st_same r0) (by simp);have p1:((wr.setCell ⟨w.heap.size,0,none⟩ (.int .i64 lo)).setCell ⟨w.heap.size,1,none⟩ (.int .i64 ((lo:Int)+m))).cell? ⟨w.heap.size,1,none⟩=some (.int .i64 ((lo:Int)+m)):=st_same (sO r1 (by simp));exact bP (v:=.tuple #[.agg #[.int .i64 lo,.int .i64 ((lo:Int)+m)],.int .i64 0]) (by simp[results,Tryz.results246,go_sem,p0,p1]) rfl ⟨by rw[TT.out,Int.natCast_add],Below.drew (bS (bS (HB1.out.trans (HB.out.mono HB1.out.size)) (nR _)) (nR _))⟩
theorem rreach_any (v:Value) (xs:List Nat) (x r:Nat) (h64:r<18446744073709551616) (w:World) (h:KF.IsL w w.heap.size v xs):Calls Tryz.prog 246 #[v,.float .f64 x,.float .f64 r] w fun e w'=>e=.returned (rchVal (rch xs x r))∧Below w.heap.size w w':=by
 by_cases hz:chkE xs=0
 ·rcases hx:nanb x with _|_
  ·rcases hy:nanb r with _|_
   ·rcases hl:ltb r 0 with _|_
    ·rcases es:Ieee.double.sub x r with _|a
     ·exact rreach_0 v xs x r h64 w h (.inr (.inr (.inr (.inr (.inl es)))))
     ·rcases ea:Ieee.double.add x r with _|q
      ·exact rreach_0 v xs x r h64 w h (.inr (.inr (.inr (.inr (.inr ea)))))
      ·rw[rch_some xs x r a q hz hx hy hl es ea];exact rreach_1 v xs x r a q h64 w h hz hx hy hl es ea
    ·exact rreach_0 v xs x r h64 w h (.inr (.inr (.inr (.inl hl))))
   ·exact rreach_0 v xs x r h64 w h (.inr (.inr (.inl hy)))
  ·exact rreach_0 v xs x r h64 w h (.inr (.inl hx))
 ·exact rreach_0 v xs x r h64 w h (.inl hz)
def okN (cap n:Int):Bool:=decide (0≤n∧n≤cap)
def plateB (q:Pl):Bool:=sizeB q.rows q.cols&&decide (1≤q.cap∧q.cap≤1099511627776∧(q.st.length:Int)≤q.rows*q.cols)&&q.st.all (okN q.cap)
abbrev Pl.v (q:Pl):Value:=.agg #[.int .i64 q.rows,.int .i64 q.cols,.float .f64 q.x,.float .f64 q.p,.float .f64 q.r,.int .i64 q.cap,.slice q.sA q.sn q.sc]
theorem plate_no1 (q:Pl) (h:sizeB q.rows q.cols=false):plateB q=false:=by unfold plateB;rw[h];rfl
theorem plate_no2 (q:Pl) (h:¬(1≤q.cap∧q.cap≤1099511627776∧(q.st.length:Int)≤q.rows*q.cols)):plateB q=false:=by unfold plateB;rw[dF h];simp
theorem plate_is (q:Pl) (h:sizeB q.rows q.cols=true) (h2:1≤q.cap∧q.cap≤1099511627776∧(q.st.length:Int)≤q.rows*q.cols):plateB q=q.st.all (okN q.cap):=by unfold plateB;rw[h,dT h2];simp
theorem all_no (l:List Int) (f:Int→Bool) (k:Nat) (h:k<l.length) (hf:f (l.getD k 0)=false):l.all f=false:=by
 rw[←Bool.not_eq_true,List.all_eq_true];intro hh;have:=hh _ (getD_mem' l k 0 h);rw[hf]at this
 cases this
theorem all_yes (l:List Int) (f:Int→Bool) (h:∀i,i<l.length→f (l.getD i 0)=true):l.all f=true:=by
 rw[List.all_eq_true];intro x hx;obtain⟨i,hi,rfl⟩:=List.mem_iff_getElem.1 hx;have:=h i hi;rw[List.getD_eq_getElem?_getD,List.getElem?_eq_getElem hi]at this;exact this
theorem rightPlate_any (q:Pl) (w:World) (hs:KI.IsL w w.heap.size (.slice q.sA q.sn q.sc) q.st) (hok:KP.ok q):Calls Tryz.prog 215 #[q.v] w fun e w'=>e=.returned (.bool (plateB q))∧Below w.heap.size w w':=by
 have N1:=aH (plate_no1 q);have N2:=aH (plate_no2 q);have N3:=aH (plate_is q);have hn:=hs.len;have hl:=hs.2.2;have HCL:=aH (fun h0:0<q.st.length=>KI.cells hs h0);obtain⟨_,_,_,_,_,hcap⟩:=hok;obtain⟨B,hB⟩:∃B,B=plateB q:=⟨_,rfl⟩;rw[←hB]at N1 N2 N3⊢;clear hB;obtain⟨rows,cols,x,p,r,cap,sA,sn,sc,st⟩:=q;dsimp only at *;subst hn;clear hs;unfold fits at hcap;rcases Bool.eq_false_or_eq_true (sizeB rows cols)with h1|h1
 ·obtain⟨m1,m2⟩:=size_mul h1;by_cases hc:1≤cap∧cap≤1099511627776∧(st.length:Int)≤rows*cols
  ·have hB:=N3.out h1 hc;obtain⟨c1,c2,c3⟩:=hc;have HB:=aH hB;have HN:=aH (all_no st (okN cap));have HY:=aH (all_yes st (okN cap));clear N1 N2 N3 hB;go_enter Tryz.func215,Tryz.ntmps215;go_wp2_with fail;refine(rightSize_any _ _ _).mono ?_;rintro e w' ⟨rfl,rfl⟩;go_wp2
   go_loop [35] (fun i=>∃k:Nat,k≤st.length∧i=.int .i64 k∧∀i,i<k→okN cap (st.getD i 0)=true) (fun i=>st.length-(intOf i).toNat)
   case atStart=>exact⟨0,Nat.zero_le _,rfl,fun i hi=>by omega⟩
   case round=>
    obtain⟨k,hk,rfl,hall⟩:=hrel;have HL:=aH hall;clear hall;by_cases hlt:k<st.length
    ·obtain⟨b,off,cp,hv,hc2,hbB,_,hcell,_⟩:=HCL.out (by omega);injection hv with e1 e2 e3
     subst e1 e3;have hx:=hcell k hlt;have HN':=aH (HN.out k hlt);have HLS:=aH (show ∀(h:okN cap (st.getD k 0)=true) (i:Nat),i<k+1→okN cap (st.getD i 0)=true from fun h i hi=>by
      by_cases e:i=k
      ·rw[e];exact h
      ·exact HL.out i (by omega))
     clear hcell;generalize st.getD k 0=n at *;by_cases g:0≤n∧n≤cap
     ·have HR:=aH (HLS.out (dT g));obtain⟨g1,g2⟩:=g;go_wp2
      go_round
      case rel=>exact⟨k+1,by omega,num_i (by omega),HR.out⟩
      case measure=>simp[intOf];omega
     ·have HR:=aH (HN'.out (dF g));by_cases g1:n<0
      ·go_wp2
       go_ret
       exact⟨ret_b (by rw[HB.out,HR.out]),bL (bR _ _) _⟩
      ·have g2:cap<n:=(by omega);clear g;go_wp2
       go_ret
       exact⟨ret_b (by rw[HB.out,HR.out]),bL (bR _ _) _⟩
    ·obtain rfl:k=st.length:=(by omega);go_wp2
     go_ret
     exact⟨ret_b (by rw[HB.out,HY.out HL.out]),bL (bR _ _) _⟩
  ·obtain rfl:=N2.out hc;by_cases c1:cap<1
   ·clear hc;go_enter Tryz.func215,Tryz.ntmps215;go_wp2_with fail;refine(rightSize_any _ _ _).mono ?_;rintro e w' ⟨rfl,rfl⟩;go_wp2
    go_ret
    exact⟨rfl,bL (bR _ _) _⟩
   ·by_cases c2:1099511627776<cap
    ·clear hc;go_enter Tryz.func215,Tryz.ntmps215;go_wp2_with fail;refine(rightSize_any _ _ _).mono ?_;rintro e w' ⟨rfl,rfl⟩;go_wp2
     go_ret
     exact⟨rfl,bL (bR _ _) _⟩
    ·have c3:rows*cols<(st.length:Int):=(by omega);clear hc;go_enter Tryz.func215,Tryz.ntmps215;go_wp2_with fail;refine(rightSize_any _ _ _).mono ?_;rintro e w' ⟨rfl,rfl⟩;go_wp2
     go_ret
     exact⟨rfl,bL (bR _ _) _⟩
 ·obtain rfl:=N1.out h1;go_enter Tryz.func215,Tryz.ntmps215;go_wp2_with fail;refine(rightSize_any _ _ _).mono ?_;rintro e w' ⟨rfl,rfl⟩;go_wp2
  go_ret
  exact⟨rfl,bL (bR _ _) _⟩
theorem rplate_any (q:Pl) (w:World) (hs:KI.IsL w w.heap.size (.slice q.sA q.sn q.sc) q.st) (hok:KP.ok q):Calls Tryz.prog 162 #[q.v] w fun e w'=>e=.returned (.bool (plateB q))∧Below w.heap.size w w':=by
 have N1:=aH (plate_no1 q);have N2:=aH (plate_no2 q);have N3:=aH (plate_is q);have hn:=hs.len;have hl:=hs.2.2;have HCL:=aH (fun h0:0<q.st.length=>KI.cells hs h0);obtain⟨_,_,_,_,_,hcap⟩:=hok;obtain⟨B,hB⟩:∃B,B=plateB q:=⟨_,rfl⟩;rw[←hB]at N1 N2 N3⊢;clear hB;obtain⟨rows,cols,x,p,r,cap,sA,sn,sc,st⟩:=q;dsimp only at *;subst hn;clear hs;unfold fits at hcap;rcases Bool.eq_false_or_eq_true (sizeB rows cols)with h1|h1
 ·obtain⟨m1,m2⟩:=size_mul h1;by_cases hc:1≤cap∧cap≤1099511627776∧(st.length:Int)≤rows*cols
  ·have hB:=N3.out h1 hc;obtain⟨c1,c2,c3⟩:=hc;have HB:=aH hB;have HN:=aH (all_no st (okN cap));have HY:=aH (all_yes st (okN cap));clear N1 N2 N3 hB;go_enter Tryz.func162,Tryz.ntmps162;go_wp2_with fail;refine(box_any _ _ _).mono ?_;rintro e w' ⟨rfl,rfl⟩;go_wp2;obtain⟨w0,hw0⟩:∃w0,w0=w.alloc (.cells #[.int .i64 rows,.int .i64 cols,.float .f64 x,.float .f64 p,.float .f64 r,.int .i64 cap,.slice sA st.length sc] 86):=⟨_,rfl⟩;rw[←hw0];have f5:w0.cell? ⟨w.heap.size,5,none⟩=some (.int .i64 cap):=(by rw[hw0];simp);have f6:w0.cell? ⟨w.heap.size,6,none⟩=some (.slice sA st.length sc):=(by rw[hw0];simp);have HB0:=aH (show Below w.heap.size w w0 by rw[hw0];exact bL (bR _ _) _);clear hw0
   go_loopw [3] (fun i wr=>∃k d:Nat,k≤st.length∧i=.int .i64 k∧wr=w0.drewN d∧∀i,i<k→okN cap (st.getD i 0)=true) (fun i _=>st.length-(intOf i).toNat)
   case atStart=>exact⟨0,0,Nat.zero_le _,rfl,rfl,fun i hi=>by omega⟩
   case round=>
    obtain⟨k,d,hk,rfl,hw,hall⟩:=hrel;have HL:=aH hall;have HW:=aH hw;have g5:wr.cell? ⟨w.heap.size,5,none⟩=some (.int .i64 cap):=(by rw[hw];exact f5);have g6:wr.cell? ⟨w.heap.size,6,none⟩=some (.slice sA st.length sc):=(by rw[hw];exact f6);have HBW:=aH (show Below w.heap.size w wr by rw[hw];exact below_drewN HB0.out _);clear hall hw;by_cases hlt:k<st.length
    ·obtain⟨b,off,cp,hv,hc2,hbB,_,hcell,_⟩:=HCL.out (by omega);injection hv with e1 e2 e3
     subst e1 e3;have hx:=(HBW.out.cell (p:=⟨b,off+k,none⟩) hbB).trans (hcell k hlt);have HN':=aH (HN.out k hlt);have HLS:=aH (show ∀(h:okN cap (st.getD k 0)=true) (i:Nat),i<k+1→okN cap (st.getD i 0)=true from fun h i hi=>by
      by_cases e:i=k
      ·rw[e];exact h
      ·exact HL.out i (by omega))
     clear hcell f5 f6;generalize st.getD k 0=n at *;by_cases g:0≤n∧n≤cap
     ·have HR:=aH (HLS.out (dT g));obtain⟨g1,g2⟩:=g;have d1:decide (n<0)=false:=dF (by omega);have d2:decide (cap<n)=false:=dF (by omega);go_wp2_with fail;go_quiet (fail);go_wp2
      go_roundw
      case rel=>obtain⟨d2,hd2⟩:=drewN_two w0 d nq;exact⟨k+1,d2,by omega,num_i (by omega),by rw[HW.out];exact hd2,HR.out⟩
      case measure=>simp[intOf];omega
     ·have HR:=aH (HN'.out (dF g));by_cases g1:n<0
      ·have d1:decide (n<0)=true:=dT g1;go_wp2_with fail;go_quiet (fail);go_wp2
       go_ret
       exact⟨ret_b (by rw[HB.out,HR.out]),below_drewN HBW.out _⟩
      ·have d1:decide (n<0)=false:=dF (by omega);have d2:decide (cap<n)=true:=dT (by omega);clear g;go_wp2_with fail;go_quiet (fail);go_wp2
       go_ret
       exact⟨ret_b (by rw[HB.out,HR.out]),below_drewN HBW.out _⟩
    ·obtain rfl:k=st.length:=(by omega);go_wp2
     go_ret
     exact⟨ret_b (by rw[HB.out,HY.out HL.out]),HBW.out⟩
  ·obtain rfl:=N2.out hc;by_cases c1:cap<1
   ·clear hc;go_enter Tryz.func162,Tryz.ntmps162;go_wp2_with fail;refine(box_any _ _ _).mono ?_;rintro e w' ⟨rfl,rfl⟩;go_wp2
    go_ret
    exact⟨rfl,bL (bR _ _) _⟩
   ·by_cases c2:1099511627776<cap
    ·clear hc;go_enter Tryz.func162,Tryz.ntmps162;go_wp2_with fail;refine(box_any _ _ _).mono ?_;rintro e w' ⟨rfl,rfl⟩;go_wp2
     go_ret
     exact⟨rfl,bL (bR _ _) _⟩
    ·have c3:rows*cols<(st.length:Int):=(by omega);clear hc;go_enter Tryz.func162,Tryz.ntmps162;go_wp2_with fail;refine(box_any _ _ _).mono ?_;rintro e w' ⟨rfl,rfl⟩;go_wp2
     go_ret
     exact⟨rfl,bL (bR _ _) _⟩
 ·obtain rfl:=N1.out h1;go_enter Tryz.func162,Tryz.ntmps162;go_wp2_with fail;refine(box_any _ _ _).mono ?_;rintro e w' ⟨rfl,rfl⟩;go_wp2
  go_ret
  exact⟨rfl,bL (bR _ _) _⟩
theorem plate_cells {w:World} {B:Nat} {A:Option Addr} {n c:Nat} {xs:List Pl} (h:KP.IsL w B (.slice A n c) xs) (h0:0<xs.length):∃b off,A=some ⟨b,off,none⟩∧b<B∧xs.length≤c∧
  ∀i,i<xs.length→w.cell? ⟨b,off+i*7,none⟩=some (.int .i64 (xs.getD i KP.dflt).rows)∧w.cell? ⟨b,off+i*7+1,none⟩=some (.int .i64 (xs.getD i KP.dflt).cols)∧w.cell? ⟨b,off+i*7+2,none⟩=some (.float .f64 (xs.getD i KP.dflt).x)∧
   w.cell? ⟨b,off+i*7+3,none⟩=some (.float .f64 (xs.getD i KP.dflt).p)∧w.cell? ⟨b,off+i*7+4,none⟩=some (.float .f64 (xs.getD i KP.dflt).r)∧w.cell? ⟨b,off+i*7+5,none⟩=some (.int .i64 (xs.getD i KP.dflt).cap)∧
   w.cell? ⟨b,off+i*7+6,none⟩=some (.slice (xs.getD i KP.dflt).sA (xs.getD i KP.dflt).sn (xs.getD i KP.dflt).sc):=by
 obtain⟨b,off,e,hb,hc,hcell⟩:=h.elem h0;refine⟨b,off,e,hb,hc,fun i hi=>?_⟩;have q:=fun j u hu=>hcell i hi j u hu;have hn:KP.n=7:=rfl;simp only[hn,←Nat.add_assoc]at q;exact⟨q 0 _ rfl,q 1 _ rfl,q 2 _ rfl,q 3 _ rfl,q 4 _ rfl,q 5 _ rfl,q 6 _ rfl⟩
theorem rack_cells {w:World} {B:Nat} {A:Option Addr} {n c:Nat} {xs:List Rk} (h:KR.IsL w B (.slice A n c) xs) (h0:0<xs.length):∃b off,A=some ⟨b,off,none⟩∧b<B∧xs.length≤c∧
  ∀i,i<xs.length→w.cell? ⟨b,off+i*5,none⟩=some (.int .i64 (xs.getD i KR.dflt).rows)∧w.cell? ⟨b,off+i*5+1,none⟩=some (.int .i64 (xs.getD i KR.dflt).cols)∧w.cell? ⟨b,off+i*5+2,none⟩=some (.float .f64 (xs.getD i KR.dflt).x)∧
   w.cell? ⟨b,off+i*5+3,none⟩=some (.float .f64 (xs.getD i KR.dflt).p)∧w.cell? ⟨b,off+i*5+4,none⟩=some (.float .f64 (xs.getD i KR.dflt).r):=by
 obtain⟨b,off,e,hb,hc,hcell⟩:=h.elem h0;refine⟨b,off,e,hb,hc,fun i hi=>?_⟩;have q:=fun j u hu=>hcell i hi j u hu;have hn:KR.n=5:=rfl;simp only[hn,←Nat.add_assoc]at q;exact⟨q 0 _ rfl,q 1 _ rfl,q 2 _ rfl,q 3 _ rfl,q 4 _ rfl⟩
theorem q4_cells {K:Lk Tryz.prog Q4} (hK:K.n=4) (hC:K.cells=q4Cells) (hD:K.dflt=⟨0,0,0,0⟩) {w:World} {B:Nat} {A:Option Addr} {n c:Nat} {xs:List Q4} (h:K.IsL w B (.slice A n c) xs) (h0:0<xs.length):∃b off,A=some ⟨b,off,none⟩∧b<B∧xs.length≤c∧
  ∀i,i<xs.length→w.cell? ⟨b,off+i*4,none⟩=some (.int .i64 (xs.getD i ⟨0,0,0,0⟩).a)∧w.cell? ⟨b,off+i*4+1,none⟩=some (.int .i64 (xs.getD i ⟨0,0,0,0⟩).b)∧
   w.cell? ⟨b,off+i*4+2,none⟩=some (.int .i64 (xs.getD i ⟨0,0,0,0⟩).c)∧w.cell? ⟨b,off+i*4+3,none⟩=some (.int .i64 (xs.getD i ⟨0,0,0,0⟩).d):=by
 obtain⟨b,off,e,hb,hc,hcell⟩:=h.elem h0;refine⟨b,off,e,hb,hc,fun i hi=>?_⟩;have q:=fun j u hu=>hcell i hi j u hu;rw[hK,hC,hD]at q;simp only[←Nat.add_assoc]at q;exact⟨q 0 _ rfl,q 1 _ rfl,q 2 _ rfl,q 3 _ rfl⟩
def wellsV (l:List Pl):Int:=(l.map fun q=>q.rows*q.cols).sum
def tipsV (l:List Rk):Int:=(l.map fun q=>q.rows*q.cols).sum
theorem wells_snoc (l:List Pl) (k:Nat) (h:k<l.length):wellsV (l.take (k+1))=wellsV (l.take k)+(l.getD k KP.dflt).rows*(l.getD k KP.dflt).cols:=by
 rw[take_snoc l k KP.dflt h];unfold wellsV;rw[List.map_append,List.sum_append];simp
theorem tips_snoc (l:List Rk) (k:Nat) (h:k<l.length):tipsV (l.take (k+1))=tipsV (l.take k)+(l.getD k KR.dflt).rows*(l.getD k KR.dflt).cols:=by
 rw[take_snoc l k KR.dflt h];unfold tipsV;rw[List.map_append,List.sum_append];simp
theorem wells_bd (l:List Pl) (h:∀i,i<l.length→sizeB (l.getD i KP.dflt).rows (l.getD i KP.dflt).cols=true):∀k,k≤l.length→(k:Int)≤wellsV (l.take k)∧wellsV (l.take k)≤1536*k:=by
 intro k
 induction k with
 |zero=>intro _;simp[wellsV]
 |succ k ih=>
  intro hk;obtain⟨i1,i2⟩:=ih (by omega);rw[wells_snoc l k (by omega)];obtain⟨m1,m2⟩:=size_mul (h k (by omega));omega
theorem tips_bd (l:List Rk) (h:∀i,i<l.length→sizeB (l.getD i KR.dflt).rows (l.getD i KR.dflt).cols=true):∀k,k≤l.length→(k:Int)≤tipsV (l.take k)∧tipsV (l.take k)≤1536*k:=by
 intro k
 induction k with
 |zero=>intro _;simp[tipsV]
 |succ k ih=>
  intro hk;obtain⟨i1,i2⟩:=ih (by omega);rw[tips_snoc l k (by omega)];obtain⟨m1,m2⟩:=size_mul (h k (by omega));omega
theorem alloc_cell (w:World) (c:Array Value) (t:TypeId) (i:Nat) (v:Value) (h:c[i]? =some v):(w.alloc (.cells c t)).cell? ⟨w.heap.size,i,none⟩=some v:=by rw[World.cell?_alloc_at (hn:=rfl),h]
theorem run_store_float {P:Program} {w:World} {a:Addr} {m:Mode} (k:FloatKind) (b:Nat):(store a (.float k b) m).run P w=stored P w a (.float k b) m:=run_store P w a _ m rfl
theorem places_any (d:Dk) (w:World) (hd:d.In w w.heap.size) (hp:d.pl.length≤4) (hr:d.rl.length≤4) (h1:∀i,i<d.pl.length→sizeB (d.pl.getD i KP.dflt).rows (d.pl.getD i KP.dflt).cols=true)
  (h2:∀i,i<d.rl.length→sizeB (d.rl.getD i KR.dflt).rows (d.rl.getD i KR.dflt).cols=true):
  Calls Tryz.prog 157 #[d.v] w fun e w'=>e=.returned (.tuple #[.int .i64 (wellsV d.pl),.int .i64 (tipsV d.rl)])∧Below w.heap.size w w':=by
 have HW:=aH (wells_bd d.pl h1);have HT:=aH (tips_bd d.rl h2);have H1:=aH h1;have H2:=aH h2;have HD:=aH hd;have HSW:=aH (wells_snoc d.pl);have HST:=aH (tips_snoc d.rl);have e1:=hd.p.len;have e2:=hd.r.len;obtain⟨bA,bn,bc,bl,pA,pn,pc,pl,rA,rn,rc,rl,arms⟩:=d;dsimp only at *;subst e1 e2;clear h1 h2 hd;have hsf:=fun(w:World) (a:Addr) (m:Mode) (b:Nat)=>run_store_float (P:=Tryz.prog) (w:=w) (a:=a) (m:=m) .f64 b;go_enter Tryz.func157,Tryz.ntmps157;go_wp2;obtain⟨w0,hw0⟩:∃w0,w0=w.alloc (.cells #[.slice bA bn bc,.slice pA pl.length pc,.slice rA rl.length rc,.int .i64 arms] 26):=⟨_,rfl⟩;rw[←hw0];have f2:w0.cell? ⟨w.heap.size,2,none⟩=some (.slice rA rl.length rc):=by rw[hw0];exact alloc_cell _ _ _ _ _ rfl
 have HB0:=aH (show Below w.heap.size w w0 by rw[hw0];exact bL (bR _ _) _);have HD0:=aH (HD.out.then HB0.out);have F2:=aH f2;clear hw0 f2
 go_loopw [2,11] (fun s i wr=>∃k:Nat,k≤pl.length∧i=.int .i64 k∧s=.int .i64 (wellsV (pl.take k))∧Below w0.heap.size w0 wr) (fun _ i _=>pl.length-(intOf i).toNat)
 case atStart=>exact⟨0,Nat.zero_le _,rfl,rfl,bR _ _⟩
 case round=>
  obtain⟨k,hk,rfl,rfl,hbl⟩:=hrel;have HB:=aH hbl;clear hbl;obtain⟨b1,b2⟩:=HW.out k hk;by_cases hlt:k<pl.length
  ·obtain⟨b,off,rfl,hb,hc,hcell⟩:=plate_cells (HD0.out.p.below HB.out) (by dsimp only;omega);obtain⟨c0,c1,c2,c3,c4,c5,c6⟩:=hcell k hlt;have HS:=aH (HSW.out k hlt);obtain⟨m1,m2⟩:=size_mul (H1.out k hlt);clear hcell;dsimp only at *;generalize pl.getD k KP.dflt=q at *;generalize wellsV (pl.take k)=s at *;go_wp2
   go_roundw
   case rel=>exact⟨k+1,by omega,num_i (by omega),num_i (by rw[HS.out]),bL HB.out _⟩
   case measure=>simp[intOf];omega
  ·obtain rfl:k=pl.length:=(by omega);rw[List.take_length];rw[List.take_length]at b1 b2;have g2:=kK HB.out F2.out;generalize hs:wellsV pl=s at *;have HSS:=aH hs;clear hs;go_wp2;obtain⟨w1,hw1⟩:∃w1,w1=wr:=⟨_,rfl⟩;subst hw1;have HD1:=aH (HD0.out.then HB.out);clear g2
   go_loopw [3,26] (fun s i wr=>∃k:Nat,k≤rl.length∧i=.int .i64 k∧s=.int .i64 (tipsV (rl.take k))∧Below w1.heap.size w1 wr) (fun _ i _=>rl.length-(intOf i).toNat)
   case atStart=>exact⟨0,Nat.zero_le _,rfl,rfl,bR _ _⟩
   case round=>
    obtain⟨k,hk,rfl,rfl,hbl⟩:=hrel;have HB2:=aH hbl;clear hbl;obtain⟨t1,t2⟩:=HT.out k hk;by_cases hlt:k<rl.length
    ·obtain⟨b,off,rfl,hb,hc,hcell⟩:=rack_cells (HD1.out.r.below HB2.out) (by dsimp only;omega);obtain⟨c0,c1,c2,c3,c4⟩:=hcell k hlt;have HS:=aH (HST.out k hlt);obtain⟨m1,m2⟩:=size_mul (H2.out k hlt);clear hcell;dsimp only at *;generalize rl.getD k KR.dflt=q at *;generalize tipsV (rl.take k)=t at *;go_wp2
     go_roundw
     case rel=>exact⟨k+1,by omega,num_i (by omega),num_i (by rw[HS.out]),bL HB2.out _⟩
     case measure=>simp[intOf];omega
    ·obtain rfl:k=rl.length:=(by omega);rw[List.take_length];generalize hs:tipsV rl=t at *;have HTT:=aH hs;clear hs;go_wp2
     go_ret2
     exact⟨by rw[HSS.out,HTT.out];rfl,bC HB0.out (bC HB.out HB2.out)⟩
end Go.Proofs.YtmecohdedghiaaaGreatDoor
