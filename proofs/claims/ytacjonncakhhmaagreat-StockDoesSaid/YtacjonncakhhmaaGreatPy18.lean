/- The lanes that a tool touches: the reference's walk. -/
import Derived.Test.YtacjonncakhhmaaGreatPy00
import Derived.Test.YtacjonncakhhmaaGreatPy17
import Derived.Test.YtacjonncakhhmaaGreatPy03
import Derived.RegionTactic
import Derived.ChangeAlike
set_option maxRecDepth 100000
set_option maxHeartbeats 8000000
namespace Go.Proofs.YtacjonncakhhmaaGreat
open Go.RowKit
def nd (x y:Nat) (w:World):Nat:=Question.cut (.nanBits .f64 x y) (w.tape w.drawn (.nanBits .f64 x y))
theorem nd_nan (x y:Nat) (w:World):nanb (nd x y w)=true:=by
 apply dT;unfold nd;generalize w.tape w.drawn (.nanBits .f64 x y)=t;show 9218868437227405312<Question.cut (.nanBits .f64 x y) t % 9223372036854775808;simp only[Question.cut,Nat.reducePow,Nat.reduceSub];have h1:t % 2=0∨t % 2=1:=by omega
 have h2:t / 2 % 4503599627370495<4503599627370495:=Nat.mod_lt _ (by decide);generalize t / 2 % 4503599627370495=c at *;rcases h1 with h1 | h1
 ·rw[h1];omega
 ·rw[h1];omega
theorem sub_run (x y:Nat) (h64:y<18446744073709551616):∃(d:Nat) (s:World→Nat),(∀w,(binOp .sub 44 (.float .f64 x) (.float .f64 y)).run Tryz.prog w=.ok (.float .f64 (s w)) (w.drewN d))∧
  ((Ieee.double.sub x y=none∧∀w,nanb (s w)=true)∨∃p,Ieee.double.sub x y=some p∧nanb p=false∧s=fun _=>p):=by
 rcases he:Ieee.double.sub x y with _ | p
 ·refine⟨1,nd x y,fun w=>?_,.inl ⟨rfl,nd_nan x y⟩⟩;have he':FloatKind.f64.format.sub x y=none:=he;simp[binOp,Op.floatArith,he',Question.forced];exact⟨rfl,rfl⟩
 ·refine⟨0,fun _=>p,fun w=>run_float_arith (P:=Tryz.prog) w .sub 44 .f64 _ _ _ he,.inr ⟨p,rfl,?_,rfl⟩⟩;unfold nanb;rw[decide_eq_false_iff_not];have hc:¬(nan x∨nan y∨clashS x y):=fun h=>by rw[sub_none x y h64 h]at he;cases he
  obtain⟨q,hq,hn,_⟩:=sub_some x y h64 (fun h=>hc (.inl h)) (fun h=>hc (.inr (.inl h))) (fun h=>hc (.inr (.inr h)));rw[he]at hq
  cases hq
  exact hn
theorem add_run (x y:Nat):∃(d:Nat) (s:World→Nat),(∀w,(binOp .add 44 (.float .f64 x) (.float .f64 y)).run Tryz.prog w=.ok (.float .f64 (s w)) (w.drewN d))∧
  ((Ieee.double.add x y=none∧∀w,nanb (s w)=true)∨∃p,Ieee.double.add x y=some p∧nanb p=false∧s=fun _=>p):=by
 rcases he:Ieee.double.add x y with _ | p
 ·refine⟨1,nd x y,fun w=>?_,.inl ⟨rfl,nd_nan x y⟩⟩;have he':FloatKind.f64.format.add x y=none:=he;simp[binOp,Op.floatArith,he',Question.forced];exact⟨rfl,rfl⟩
 ·refine⟨0,fun _=>p,fun w=>run_float_arith (P:=Tryz.prog) w .add 44 .f64 _ _ _ he,.inr ⟨p,rfl,?_,rfl⟩⟩;unfold nanb;rw[decide_eq_false_iff_not];have hc:¬(nan x∨nan y∨clash x y):=fun h=>by rw[add_none x y h]at he;cases he
  obtain⟨q,hq,hn,_⟩:=add_some x y (fun h=>hc (.inl h)) (fun h=>hc (.inr (.inl h))) (fun h=>hc (.inr (.inr h)));rw[he]at hq
  cases hq
  exact hn
def rch (l:List Nat) (x r:Nat):Nat×Nat×Int:=
 if chkE l=0 then
  (if nanb x=true∨nanb r=true then(0,0,20)
  else if ltb r 0=true then(0,0,22)
  else match Ieee.double.sub x r,Ieee.double.add x r with
   | some a,some b=>(tLo l a b,tHi l a b,tEr l a b)
   | _,_=>(0,0,20))
 else(0,0,chkE l)
def rchVal (t:Nat×Nat×Int):Value:=.tuple #[.agg #[.int .i64 t.1,.int .i64 t.2.1],.int .i64 t.2.2]
theorem reach_any (v:Value) (xs:List Nat) (x r:Nat) (h64:r<18446744073709551616) (w:World) (h:KF.IsL w w.heap.size v xs):Calls Tryz.prog 90 #[v,.float .f64 x,.float .f64 r] w fun e w'=>e=.returned (rchVal (rch xs x r))∧Below w.heap.size w w':=by
 have olt:∀a b,(FloatKind.f64.format.order a b==some .lt)=ltb a b:=fun _ _=>rfl;have h1:KF.IsL (w.alloc (.cells #[.int .i64 0,.int .i64 0] 107)) (w.alloc (.cells #[.int .i64 0,.int .i64 0] 107)).heap.size v xs:=h.then (bL (bR _ _) _);have HK:=aH (check_any v xs _ h1);have HB0:=aH (bL (bR w.heap.size w) (.cells #[.int .i64 0,.int .i64 0] 107));by_cases hz:chkE xs=0
 ·obtain⟨hr,b,off,cap,n,rfl,hn,hm,hb,hcell,hlt⟩:=rise_cells h1 hz;rw[hz]at HK;obtain⟨ds,sV,hs,hs2⟩:=sub_run x r h64;obtain⟨da,aV,ha,ha2⟩:=add_run x r;have HR:=aH (show rch xs x r=(if nanb x=true∨nanb r=true then(0,0,20)else if ltb r 0=true then(0,0,22)else match Ieee.double.sub x r,Ieee.double.add x r with
   | some a,some b=>(tLo xs a b,tHi xs a b,tEr xs a b)
   | _,_=>(0,0,20))by unfold rch;rw[if_pos hz])
  rcases Bool.eq_false_or_eq_true (nanb x)with hx | hx
  ·have T:rch xs x r=(0,0,20):=by rw[HR.out,if_pos (.inl hx)]
   rw[T];clear T HR hr hcell hlt hz h h1 hs2 ha2 hn;unfold rchVal;go_enter Tryz.func90,Tryz.ntmps90;go_wp2_with fail;refine HK.out.mono ?_;rintro e w' ⟨rfl,rfl⟩;go_wp2_with fail;refine(isNone_any _ _).mono ?_;rintro e w' ⟨rfl,rfl⟩;go_wp2_with (go_at_call 108;refine(isNone_any _ _).mono ?_;rintro e w' ⟨rfl,rfl⟩);exact bP (v:=.tuple #[.agg #[.int .i64 0,.int .i64 0],.int .i64 20]) (by simp[results,Tryz.results90,go_sem]) rfl ⟨rfl,bS (bS (below_drewN HB0.out _) (nR _)) (nR _)⟩
  ·rcases Bool.eq_false_or_eq_true (nanb r)with hy | hy
   ·have T:rch xs x r=(0,0,20):=by rw[HR.out,if_pos (.inr hy)]
    rw[T];clear T HR hr hcell hlt hz h h1 hs2 ha2 hn;unfold rchVal;go_enter Tryz.func90,Tryz.ntmps90;go_wp2_with fail;refine HK.out.mono ?_;rintro e w' ⟨rfl,rfl⟩;go_wp2_with (go_at_call 108;refine(isNone_any _ _).mono ?_;rintro e w' ⟨rfl,rfl⟩);exact bP (v:=.tuple #[.agg #[.int .i64 0,.int .i64 0],.int .i64 20]) (by simp[results,Tryz.results90,go_sem]) rfl ⟨rfl,bS (bS (below_drewN HB0.out _) (nR _)) (nR _)⟩
   ·have hor:¬(nanb x=true∨nanb r=true):=by rw[hx,hy];simp
    have HR2:=aH (HR.out.trans (if_neg hor));clear HR hor;rcases Bool.eq_false_or_eq_true (ltb r 0)with hl | hl
    ·have T:rch xs x r=(0,0,22):=by rw[HR2.out,if_pos hl]
     rw[T];clear T HR2 hr hcell hlt hz h h1 hs2 ha2 hn;unfold rchVal;go_enter Tryz.func90,Tryz.ntmps90;go_wp2_with fail;refine HK.out.mono ?_;rintro e w' ⟨rfl,rfl⟩;go_wp2_with (go_at_call 108;refine(isNone_any _ _).mono ?_;rintro e w' ⟨rfl,rfl⟩);exact bP (v:=.tuple #[.agg #[.int .i64 0,.int .i64 0],.int .i64 22]) (by simp[results,Tryz.results90,go_sem]) rfl ⟨rfl,bS (bS (below_drewN HB0.out _) (nR _)) (nR _)⟩
    ·have HR3:=aH (HR2.out.trans (if_neg (by rw[hl];simp)));clear HR2;rcases hs2 with ⟨es,hs2⟩ | ⟨a,es,hs2,rfl⟩
     ·have T:rch xs x r=(0,0,20):=by rw[HR3.out,es]
      rw[T];clear T HR3 hr hcell hlt hz h h1 ha2 hn es;unfold rchVal;go_enter Tryz.func90,Tryz.ntmps90;go_wp2_with fail;refine HK.out.mono ?_;rintro e w' ⟨rfl,rfl⟩;go_wp2_with (go_at_call 108;refine(isNone_any _ _).mono ?_;rintro e w' ⟨rfl,rfl⟩);exact bP (v:=.tuple #[.agg #[.int .i64 0,.int .i64 0],.int .i64 20]) (by simp[results,Tryz.results90,go_sem]) rfl ⟨rfl,bS (bS (below_drewN HB0.out _) (nR _)) (nR _)⟩
     ·rcases ha2 with ⟨ea,ha2⟩ | ⟨q,ea,ha2,rfl⟩
      ·have T:rch xs x r=(0,0,20):=by rw[HR3.out,es,ea]
       rw[T];clear T HR3 hr hcell hlt hz h h1 hn es ea;unfold rchVal;go_enter Tryz.func90,Tryz.ntmps90;go_wp2_with fail;refine HK.out.mono ?_;rintro e w' ⟨rfl,rfl⟩;go_wp2_with (go_at_call 108;refine(isNone_any _ _).mono ?_;rintro e w' ⟨rfl,rfl⟩);exact bP (v:=.tuple #[.agg #[.int .i64 0,.int .i64 0],.int .i64 20]) (by simp[results,Tryz.results90,go_sem]) rfl ⟨rfl,bS (bS (below_drewN HB0.out _) (nR _)) (nR _)⟩
      ·have T:rch xs x r=(tLo xs a q,tHi xs a q,tEr xs a q):=by rw[HR3.out,es,ea]
       have HT:=aH (fun d=>touched_any b off cap n xs hn hm ((w.alloc (.cells #[.int .i64 0,.int .i64 0] 107)).drewN d) hb hcell a q);rw[T];clear T HR3 hr hcell hlt hz h h1 hn es ea;generalize tLo xs a q=A at *;generalize tHi xs a q=B at *;generalize tEr xs a q=C at *;unfold rchVal;dsimp only;go_enter Tryz.func90,Tryz.ntmps90;go_wp2_with fail;refine HK.out.mono ?_;rintro e w' ⟨rfl,rfl⟩;go_wp2_with (first | (go_at_call 108;refine(isNone_any _ _).mono ?_;rintro e w' ⟨rfl,rfl⟩) | (go_at_call 109;refine(HT.out _).mono ?_;rintro e w2 ⟨rfl,hb2⟩;have r0:w2.cell? ⟨w.heap.size,0,none⟩=some (.int .i64 0):=kK hb2 (by simp);have r1:w2.cell? ⟨w.heap.size,1,none⟩=some (.int .i64 0):=kK hb2 (by simp);have z0:w2.frozen? ⟨w.heap.size,0,none⟩=false:=(hb2.frozen (p:=⟨w.heap.size,0,none⟩) (by simp)).trans (by simp);have z1:w2.frozen? ⟨w.heap.size,1,none⟩=false:=(hb2.frozen (p:=⟨w.heap.size,1,none⟩) (by simp)).trans (by simp);have HB2:=aH (bC (below_drewN HB0.out _) hb2);clear hb2));exact bP (v:=.tuple #[.agg #[.int .i64 A,.int .i64 B],.int .i64 C]) (by simp[results,Tryz.results90,go_sem,r0,r1]) rfl ⟨rfl,bS (bS HB2.out (nR _)) (nR _)⟩
 ·have T:rch xs x r=(0,0,chkE xs):=by unfold rch;rw[if_neg hz]
  rw[T];have hz':(chkE xs != 0)=true:=by rw[bne_iff_ne];exact hz
  clear T h h1 hz;generalize chkE xs=c at *;unfold rchVal;go_enter Tryz.func90,Tryz.ntmps90;go_wp2_with fail;refine HK.out.mono ?_;rintro e w' ⟨rfl,rfl⟩;go_wp2;exact bP (v:=.tuple #[.agg #[.int .i64 0,.int .i64 0],.int .i64 c]) (by simp[results,Tryz.results90,go_sem]) rfl ⟨rfl,HB0.out⟩
def ints (l:List Nat):List Int:=l.map Int.ofNat
theorem tchs_next (l:List Nat) (a b k:Nat):ints (tchs l a b (k+1))=ints (tchs l a b k)++(if tchB l a b k=true then [(k:Int)]else []):=by
 unfold tchs ints;rw[List.range_succ,List.filter_append,List.map_append]
 congr 1
 by_cases h:tchB l a b k=true
 ·rw[if_pos h];simp[h]
 ·rw[if_neg h];simp[h]
theorem tchs_len (l:List Nat) (a b k:Nat):(ints (tchs l a b k)).length≤k:=by
 unfold tchs ints;rw[List.length_map];have:=List.length_filter_le (tchB l a b) (List.range k);rw[List.length_range]at this;exact this
theorem sub_le_add (x r a q:Nat) (h64:r<18446744073709551616) (hx:¬nan x) (hr:¬nan r) (h0:0≤vf r) (es:Ieee.double.sub x r=some a) (ea:Ieee.double.add x r=some q):¬nan a∧¬nan q∧vf a≤vf x∧vf x≤vf q:=by
 have h1:¬clashS x r:=fun h=>by rw[sub_none x r h64 (.inr (.inr h))]at es;cases es
 have h2:¬clash x r:=fun h=>by rw[add_none x r (.inr (.inr h))]at ea;cases ea
 obtain⟨p,e1,n1,_,v1⟩:=sub_some x r h64 hx hr h1;obtain⟨p2,e2,n2,_,v2⟩:=add_some x r hx hr h2;rw[es]at e1;rw[ea]at e2
 cases e1
 cases e2
 have hz:xv 0=0:=by
  unfold xv;have:rg 0=0:=rfl;rw[this,rw_0];unfold sg
  split <;> rfl
 have n0:¬nan 0:=by unfold nan;omega
 have v0:vf 0=0:=by
  have:=RI_xv 0 n0;rw[hz]at this;rw[←this];unfold RI sg;rw[if_neg (by decide)];exact congrArg _ R_0
 have hp:0≤xv r:=by
  have:=xv_mono n0 hr (by rw[v0];exact h0);rw[hz]at this;exact this
 have hxx:=RI_xv x hx;refine⟨n1,n2,?_,?_⟩
 ·rw[v1,←hxx];exact RI_mono (by omega)
 ·rw[v2,←hxx];exact RI_mono (by omega)
theorem vf_0:vf 0=0:=by
 unfold vf sg rg sb;rfl
theorem ltb_0 (r:Nat) (hr:¬nan r) (h:ltb r 0=false):0≤vf r:=by
 have n0:¬nan 0:=by unfold nan;omega
 rw[ltb_num hr n0,vf_0,decide_eq_false_iff_not]at h;omega
theorem rch_bad (l:List Nat) (x r:Nat) (hz:chkE l≠0):rch l x r=(0,0,chkE l):=by unfold rch;rw[if_neg hz]
theorem rch_nan (l:List Nat) (x r:Nat) (hz:chkE l=0) (h:nanb x=true∨nanb r=true):rch l x r=(0,0,20):=by unfold rch;rw[if_pos hz,if_pos h]
theorem rch_neg (l:List Nat) (x r:Nat) (hz:chkE l=0) (hx:nanb x=false) (hy:nanb r=false) (hl:ltb r 0=true):rch l x r=(0,0,22):=by unfold rch;rw[if_pos hz,if_neg (by rw[hx,hy];simp),if_pos hl]
theorem rch_none (l:List Nat) (x r:Nat) (hz:chkE l=0) (hx:nanb x=false) (hy:nanb r=false) (hl:ltb r 0=false) (h:Ieee.double.sub x r=none∨Ieee.double.add x r=none):rch l x r=(0,0,20):=by
 unfold rch;rw[if_pos hz,if_neg (by rw[hx,hy];simp),if_neg (by rw[hl];simp)];rcases h with h | h
 ·rw[h]
 ·rw[h]
  cases Ieee.double.sub x r <;> rfl
theorem rch_some (l:List Nat) (x r a b:Nat) (hz:chkE l=0) (hx:nanb x=false) (hy:nanb r=false) (hl:ltb r 0=false) (h1:Ieee.double.sub x r=some a) (h2:Ieee.double.add x r=some b):rch l x r=(tLo l a b,tHi l a b,tEr l a b):=by
 unfold rch;rw[if_pos hz,if_neg (by rw[hx,hy];simp),if_neg (by rw[hl];simp),h1,h2]
theorem rreach_0 (v:Value) (xs:List Nat) (x r:Nat) (h64:r<18446744073709551616) (w:World) (h:KF.IsL w w.heap.size v xs) (hno:chkE xs≠0∨nanb x=true∨nanb r=true∨ltb r 0=true∨Ieee.double.sub x r=none∨Ieee.double.add x r=none):Calls Tryz.prog 123 #[v,.float .f64 x,.float .f64 r] w fun e w'=>e=.returned (rchVal (rch xs x r))∧Below w.heap.size w w':=by
 have olt:∀a b,(FloatKind.f64.format.order a b==some .lt)=ltb a b:=fun _ _=>rfl;have h1:KF.IsL (w.alloc (.cells #[.int .i64 0,.int .i64 0] 107)) (w.alloc (.cells #[.int .i64 0,.int .i64 0] 107)).heap.size v xs:=h.then (bL (bR _ _) _);have HK:=aH (rcheck_any v xs _ h1);have HB0:=aH (bL (bR w.heap.size w) (.cells #[.int .i64 0,.int .i64 0] 107));by_cases hz:chkE xs=0
 ·rw[hz]at HK;clear h h1;obtain⟨ds,sV,hs,hs2⟩:=sub_run x r h64;obtain⟨da,aV,ha,ha2⟩:=add_run x r;rcases Bool.eq_false_or_eq_true (nanb x)with hx | hx
  ·have T:rch xs x r=(0,0,20):=rch_nan xs x r hz (.inl hx);rw[T];clear T hz hs2 ha2 hno hs ha;unfold rchVal;go_enter Tryz.func123,Tryz.ntmps123;go_wp2_with fail;refine HK.out.mono ?_;rintro e w' ⟨rfl,d,rfl⟩;go_wp2_with (go_at_call 124;refine(rnone_any _ _).mono ?_;rintro e w' ⟨rfl,rfl⟩);exact bP (v:=.tuple #[.agg #[.int .i64 0,.int .i64 0],.int .i64 20]) (by simp[results,Tryz.results123,go_sem]) rfl ⟨rfl,bS (bS (below_drewN HB0.out _) (nR _)) (nR _)⟩
  ·rcases Bool.eq_false_or_eq_true (nanb r)with hy | hy
   ·have T:rch xs x r=(0,0,20):=rch_nan xs x r hz (.inr hy);rw[T];clear T hz hs2 ha2 hno hs ha;unfold rchVal;go_enter Tryz.func123,Tryz.ntmps123;go_wp2_with fail;refine HK.out.mono ?_;rintro e w' ⟨rfl,d,rfl⟩;go_wp2_with (go_at_call 124;refine(rnone_any _ _).mono ?_;rintro e w' ⟨rfl,rfl⟩);exact bP (v:=.tuple #[.agg #[.int .i64 0,.int .i64 0],.int .i64 20]) (by simp[results,Tryz.results123,go_sem]) rfl ⟨rfl,bS (bS (below_drewN HB0.out _) (nR _)) (nR _)⟩
   ·rcases Bool.eq_false_or_eq_true (ltb r 0)with hl | hl
    ·have T:rch xs x r=(0,0,22):=rch_neg xs x r hz hx hy hl;rw[T];clear T hz hs2 ha2 hno hs ha;unfold rchVal;go_enter Tryz.func123,Tryz.ntmps123;go_wp2_with fail;refine HK.out.mono ?_;rintro e w' ⟨rfl,d,rfl⟩;go_wp2_with (go_at_call 124;refine(rnone_any _ _).mono ?_;rintro e w' ⟨rfl,rfl⟩);exact bP (v:=.tuple #[.agg #[.int .i64 0,.int .i64 0],.int .i64 22]) (by simp[results,Tryz.results123,go_sem]) rfl ⟨rfl,bS (bS (below_drewN HB0.out _) (nR _)) (nR _)⟩
    ·rcases hs2 with ⟨es,hs2⟩ | ⟨a,es,hs2,rfl⟩
     ·have T:rch xs x r=(0,0,20):=rch_none xs x r hz hx hy hl (.inl es);rw[T];clear T hz ha2 hno es;unfold rchVal;go_enter Tryz.func123,Tryz.ntmps123;go_wp2_with fail;refine HK.out.mono ?_;rintro e w' ⟨rfl,d,rfl⟩;go_wp2_with (go_at_call 124;refine(rnone_any _ _).mono ?_;rintro e w' ⟨rfl,rfl⟩);exact bP (v:=.tuple #[.agg #[.int .i64 0,.int .i64 0],.int .i64 20]) (by simp[results,Tryz.results123,go_sem]) rfl ⟨rfl,bS (bS (below_drewN HB0.out _) (nR _)) (nR _)⟩
     ·rcases ha2 with ⟨ea,ha2⟩ | ⟨q,ea,ha2,rfl⟩
      ·have T:rch xs x r=(0,0,20):=rch_none xs x r hz hx hy hl (.inr ea);rw[T];clear T hz hno es ea;unfold rchVal;go_enter Tryz.func123,Tryz.ntmps123;go_wp2_with fail;refine HK.out.mono ?_;rintro e w' ⟨rfl,d,rfl⟩;go_wp2_with (go_at_call 124;refine(rnone_any _ _).mono ?_;rintro e w' ⟨rfl,rfl⟩);exact bP (v:=.tuple #[.agg #[.int .i64 0,.int .i64 0],.int .i64 20]) (by simp[results,Tryz.results123,go_sem]) rfl ⟨rfl,bS (bS (below_drewN HB0.out _) (nR _)) (nR _)⟩
      ·exfalso;rcases hno with h | h | h | h | h | h
       ·exact h hz
       ·rw[hx]at h;cases h
       ·rw[hy]at h;cases h
       ·rw[hl]at h;cases h
       ·rw[es]at h;cases h
       ·rw[ea]at h;cases h
 ·have T:rch xs x r=(0,0,chkE xs):=rch_bad xs x r hz;rw[T];have hz':(chkE xs != 0)=true:=by rw[bne_iff_ne];exact hz
  clear T h h1 hz hno;generalize chkE xs=c at *;unfold rchVal;go_enter Tryz.func123,Tryz.ntmps123;go_wp2_with fail;refine HK.out.mono ?_;rintro e w' ⟨rfl,d,rfl⟩;go_wp2;exact bP (v:=.tuple #[.agg #[.int .i64 0,.int .i64 0],.int .i64 c]) (by simp[results,Tryz.results123,go_sem]) rfl ⟨rfl,bS (bS (below_drewN HB0.out _) (nR _)) (nR _)⟩
theorem rreach_1 (v:Value) (xs:List Nat) (x r a q:Nat) (h64:r<18446744073709551616) (w:World) (h:KF.IsL w w.heap.size v xs) (hz:chkE xs=0) (hx:nanb x=false) (hy:nanb r=false) (hl:ltb r 0=false) (es:Ieee.double.sub x r=some a) (ea:Ieee.double.add x r=some q):
  Calls Tryz.prog 123 #[v,.float .f64 x,.float .f64 r] w fun e w'=>e=.returned (rchVal (tLo xs a q,tHi xs a q,tEr xs a q))∧Below w.heap.size w w':=by
 have olt:∀a b,(FloatKind.f64.format.order a b==some .lt)=ltb a b:=fun _ _=>rfl;have h1:KF.IsL (w.alloc (.cells #[.int .i64 0,.int .i64 0] 107)) (w.alloc (.cells #[.int .i64 0,.int .i64 0] 107)).heap.size v xs:=h.then (bL (bR _ _) _);have HK:=aH (rcheck_any v xs _ h1);have HB0:=aH (bL (bR w.heap.size w) (.cells #[.int .i64 0,.int .i64 0] 107));rw[hz]at HK;obtain⟨hr,b,off,cap,n,rfl,hn,hm,hb,hcell,hlt⟩:=rise_cells h1 hz;obtain⟨na,nq,s1,s2⟩:=sub_le_add x r a q h64 (nanb_of hx) (nanb_of hy) (ltb_0 r (nanb_of hy) hl) es ea;have hs:=fun w=>run_float_arith (P:=Tryz.prog) w .sub 44 .f64 _ _ _ es;have ha:=fun w=>run_float_arith (P:=Tryz.prog) w .add 44 .f64 _ _ _ ea;have ha2:nanb a=false:=by unfold nanb;exact dF na
 have hq2:nanb q=false:=by unfold nanb;exact dF nq
 have HI:=aH (tchs_in xs hr a q na nq (Int.le_trans s1 s2));have HO:=aH (tchs_out xs hr a q na nq);have HSP:=aH (fun ho=>(lanes_spec xs hr a q na nq (Int.le_trans s1 s2) ho));have HT:=aH (fun(w':World) hc k hk=>touches_any b off cap n xs hn hm w' hc k hk a q);have HN:=aH (tchs_next xs a q);have HL:=aH (tchs_len xs a q);have HC:=aH hcell;have hb':b<w.heap.size+1:=by simpa using hb
 have en:n+2 - 1=n+1:=by omega
 have en2:n+2 - 2=n:=by omega
 rw[hn]at HK HC HI HO HSP;rw[en]at HI HO HSP;rw[en2]at HI HSP;have HTH:=aH (show tHi xs a q=if outB xs a q=true then 0 else hiV xs q n by unfold tHi;rw[hn,en2]);rw[hn];simp only[hn]at HT;clear h h1 hz hr hcell hlt hn hb es ea na nq s1 s2 en en2;go_enter Tryz.func123,Tryz.ntmps123;go_wp2_with fail;refine HK.out.mono ?_;rintro e w' ⟨rfl,d,rfl⟩;go_wp2_with (go_at_call 124;refine(rnone_any _ _).mono ?_;rintro e w' ⟨rfl,rfl⟩);obtain⟨w0,hw0⟩:∃w0,w0=(w.alloc (.cells #[.int .i64 0,.int .i64 0] 107)).drewN d:=⟨_,rfl⟩;rw[←hw0];have hsz:w0.heap.size=w.heap.size+1:=by rw[hw0];simp
 have r0:w0.cell? ⟨w.heap.size,0,none⟩=some (.int .i64 0):=by rw[hw0];simp
 have r1:w0.cell? ⟨w.heap.size,1,none⟩=some (.int .i64 0):=by rw[hw0];simp
 have z0:w0.frozen? ⟨w.heap.size,0,none⟩=false:=by rw[hw0];simp
 have z1:w0.frozen? ⟨w.heap.size,1,none⟩=false:=by rw[hw0];simp
 have HC0:=aH (show ∀i,i<n+2→w0.cell? ⟨b,off+i,none⟩=some (.float .f64 (xs.getD i 0))from fun i hi=>by rw[hw0];exact HC.out i hi);have HB1:=aH (show Below w.heap.size w w0 by rw[hw0];exact below_drewN HB0.out _);have R0:=aH r0;have R1:=aH r1;have Z0:=aH z0;have Z1:=aH z1;have HSZ:=aH hsz;clear r0 r1 z0 z1 hw0 HB0 HC HK hsz hs ha ha2 hq2
 go_loopw [11,12] (fun v i wr=>∃k:Nat,k≤n+1∧i=.int .i64 k∧KI.Own wr w0.heap.size v (ints (tchs xs a q k))∧Below w0.heap.size w0 wr) (fun _ i _=>n+1 - (intOf i).toNat)
 case atStart=>exact⟨0,Nat.zero_le _,rfl,Lk.Own.nil _ _,bR _ _⟩
 case round=>
  obtain⟨k,hk,rfl,hown,hbl⟩:=hrel;have HOW:=aH hown;have HB:=aH hbl;clear hown hbl;by_cases hlt:k<n+1
  ·have HTK:=aH (HT.out wr (fun i hi=>(HB.out.cell (p:=⟨b,off+i,none⟩) (by have:=HSZ.out;show b<_;omega)).trans (HC0.out i hi)) k (by omega));have HNK:=aH (HN.out k);have HLK:=aH (HL.out k);generalize ints (tchs xs a q k)=L at *;rcases Bool.eq_false_or_eq_true (tchB xs a q k)with g | g
   ·rw[g]at HTK HNK;go_wp2_with fail;refine HTK.out.mono ?_;rintro e w' ⟨rfl,rfl⟩;go_wp2_with (at_builtin;go_loud (refine Lk.wpList_app (K:=KI) _ rfl _ _ rfl rfl w0.heap.size (wr.heap.size+1) _ _ L [(k:Int)] rfl rfl (HOW.out.alloc _) (Lk.IsL.lit (K:=KI) wr (k:Int) _ (show fits _ by unfold fits;omega) rfl _ rfl) ?c1 ?c2 ?_))
    case c1=>have:=HLK.out;simp;omega
    case c2=>have:=HB.out.size;simp;omega
    intro v1 w1 hown hgrow _;have HB2:=aH (Lk.Own.grow' (HOW.out.alloc (.cells #[.int .i64 k] 3)) (bL HB.out _) (by have:=HB.out.size;simp;omega) hgrow);have HO2:=aH hown;clear hown hgrow;go_wp2
    go_roundw
    case rel=>exact⟨k+1,by omega,num_i (by omega),by rw[HNK.out];exact HO2.out,HB2.out⟩
    case measure=>simp[intOf];omega
   ·rw[g]at HTK HNK;go_wp2_with (go_at_call 125;refine HTK.out.mono ?_;rintro e w' ⟨rfl,rfl⟩)
    go_roundw
    case rel=>exact⟨k+1,by omega,num_i (by omega),by rw[HNK.out];simpa using HOW.out,HB.out⟩
    case measure=>simp[intOf];omega
  ·obtain rfl:k=n+1:=by omega
   have HL':=aH (HL.out (n+1));rcases Bool.eq_false_or_eq_true (outB xs a q)with ho | ho
   ·have T1:tLo xs a q=0:=by unfold tLo;rw[if_pos ho]
    have T2:tHi xs a q=0:=by unfold tHi;rw[if_pos ho]
    have T3:tEr xs a q=71:=by unfold tEr;rw[if_pos ho]
    have e:ints (tchs xs a q (n+1))=[]:=by rw[HO.out ho];rfl
    rw[e]at HOW;obtain⟨A,cap2,rfl⟩:∃A cap,u11=.slice A 0 cap:=by
     obtain⟨⟨A,cap,h,_⟩,_⟩:=HOW.out.isL (by simp);exact⟨A,cap,h⟩
    have r0:=(HB.out.cell (p:=⟨w.heap.size,0,none⟩) (by have:=HSZ.out;show w.heap.size<_;omega)).trans R0.out;have r1:=(HB.out.cell (p:=⟨w.heap.size,1,none⟩) (by have:=HSZ.out;show w.heap.size<_;omega)).trans R1.out;have z0:=(HB.out.frozen (p:=⟨w.heap.size,0,none⟩) (by have:=HSZ.out;show w.heap.size<_;omega)).trans Z0.out;have z1:=(HB.out.frozen (p:=⟨w.heap.size,1,none⟩) (by have:=HSZ.out;show w.heap.size<_;omega)).trans Z1.out;have TT:=aH (show rchVal (tLo xs a q,tHi xs a q,tEr xs a q)=.tuple #[.agg #[.int .i64 0,.int .i64 0],.int .i64 71]by rw[T1,T2,T3];rfl);clear T1 T2 T3 e ho;go_wp2;exact bP (v:=.tuple #[.agg #[.int .i64 0,.int .i64 0],.int .i64 71]) (by simp[results,Tryz.results123,go_sem,r0,r1]) rfl ⟨by rw[TT.out],bS (bS (HB1.out.trans (HB.out.mono HB1.out.size)) (nR _)) (nR _)⟩
   ·have hlo:=HSP.out ho;have T1:tLo xs a q=loV xs a 0:=by unfold tLo;rw[ho,if_neg (by simp)]
    have T2:tHi xs a q=hiV xs q n:=by rw[HTH.out,ho,if_neg (by simp)]
    have T3:tEr xs a q=0:=by unfold tEr;rw[ho,if_neg (by simp)]
    have e:ints (tchs xs a q (n+1))=ints (List.range' (loV xs a 0) (hiV xs q n - loV xs a 0+1)):=by rw[HI.out ho]
    rw[e]at HOW;obtain⟨hlo,hhi,_⟩:=hlo;generalize loV xs a 0=lo at *;generalize hiV xs q n=hi at *;obtain⟨m,rfl⟩:∃m,hi=lo+m:=⟨hi - lo,by omega⟩;rw[show lo+m - lo+1=m+1 by omega]at HOW;have hlen:(ints (List.range' lo (m+1))).length=m+1:=by simp[ints]
    obtain⟨g,of2,cap2,rfl,hc2,hg,_,hcell2,_⟩:=KI.cells (HOW.out.isL (by rw[hlen];omega)) (by rw[hlen];omega);rw[hlen]at hcell2 hc2⊢;have q0:=hcell2 0 (by omega);have q1:=hcell2 m (by omega);have g0:(ints (List.range' lo (m+1))).getD 0 0=(lo:Int):=by simp[ints,List.range'_succ]
    have g1:(ints (List.range' lo (m+1))).getD m 0=((lo+m:Nat):Int):=by
     rw[List.getD_eq_getElem?_getD];simp[ints]
    rw[g0,Nat.add_zero]at q0;rw[g1]at q1;have r0:=(HB.out.cell (p:=⟨w.heap.size,0,none⟩) (by have:=HSZ.out;show w.heap.size<_;omega)).trans R0.out;have r1:=(HB.out.cell (p:=⟨w.heap.size,1,none⟩) (by have:=HSZ.out;show w.heap.size<_;omega)).trans R1.out;have z0:=(HB.out.frozen (p:=⟨w.heap.size,0,none⟩) (by have:=HSZ.out;show w.heap.size<_;omega)).trans Z0.out;have z1:=(HB.out.frozen (p:=⟨w.heap.size,1,none⟩) (by have:=HSZ.out;show w.heap.size<_;omega)).trans Z1.out;have TT:=aH (show rchVal (tLo xs a q,tHi xs a q,tEr xs a q)=.tuple #[.agg #[.int .i64 lo,.int .i64 ((lo+m:Nat):Int)],.int .i64 0]by rw[T1,T2,T3];rfl);clear T1 T2 T3 e ho hcell2 hlen g0 g1;go_wp2
    go_region
    go_wp2;have p0:((wr.setCell ⟨w.heap.size,0,none⟩ (.int .i64 lo)).setCell ⟨w.heap.size,1,none⟩ (.int .i64 ((lo:Int)+m))).cell? ⟨w.heap.size,0,none⟩=some (.int .i64 lo):=sO (st_same r0) (by simp);have p1:((wr.setCell ⟨w.heap.size,0,none⟩ (.int .i64 lo)).setCell ⟨w.heap.size,1,none⟩ (.int .i64 ((lo:Int)+m))).cell? ⟨w.heap.size,1,none⟩=some (.int .i64 ((lo:Int)+m)):=st_same (sO r1 (by simp));exact bP (v:=.tuple #[.agg #[.int .i64 lo,.int .i64 ((lo:Int)+m)],.int .i64 0]) (by simp[results,Tryz.results123,go_sem,p0,p1]) rfl ⟨by rw[TT.out,Int.natCast_add],Below.drew (bS (bS (HB1.out.trans (HB.out.mono HB1.out.size)) (nR _)) (nR _))⟩
theorem rreach_any (v:Value) (xs:List Nat) (x r:Nat) (h64:r<18446744073709551616) (w:World) (h:KF.IsL w w.heap.size v xs):Calls Tryz.prog 123 #[v,.float .f64 x,.float .f64 r] w fun e w'=>e=.returned (rchVal (rch xs x r))∧Below w.heap.size w w':=by
 by_cases hz:chkE xs=0
 ·rcases hx:nanb x with _ | _
  ·rcases hy:nanb r with _ | _
   ·rcases hl:ltb r 0 with _ | _
    ·rcases es:Ieee.double.sub x r with _ | a
     ·exact rreach_0 v xs x r h64 w h (.inr (.inr (.inr (.inr (.inl es)))))
     ·rcases ea:Ieee.double.add x r with _ | q
      ·exact rreach_0 v xs x r h64 w h (.inr (.inr (.inr (.inr (.inr ea)))))
      ·rw[rch_some xs x r a q hz hx hy hl es ea];exact rreach_1 v xs x r a q h64 w h hz hx hy hl es ea
    ·exact rreach_0 v xs x r h64 w h (.inr (.inr (.inr (.inl hl))))
   ·exact rreach_0 v xs x r h64 w h (.inr (.inr (.inl hy)))
  ·exact rreach_0 v xs x r h64 w h (.inr (.inl hx))
 ·exact rreach_0 v xs x r h64 w h (.inl hz)
end Go.Proofs.YtacjonncakhhmaaGreat
