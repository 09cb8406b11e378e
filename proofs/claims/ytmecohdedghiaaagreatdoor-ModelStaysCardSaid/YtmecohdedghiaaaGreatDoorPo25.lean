/- Requests in memory; the volume that one wants: the program and the reference. -/
import Derived.Test.YtmecohdedghiaaaGreatDoorPo24
import Derived.WalkKit
import Derived.WalkLawsBesides
import Derived.WalkSpells
import Derived.Outline
import Derived.Laws.Cover2
import Derived.KernelRfl
import Derived.Lib.Hide
import Derived.Shelf.Spec.TrailingZeros
import Derived.LoopTactic
import Derived.Deep.QuietTactic
import Derived.BigQuiet
import Derived.Deep.Cut
import Derived.Laws.FloatArith
import Derived.Maps.OwnSet
import Derived.Maps.Own
set_option maxRecDepth 100000
set_option maxHeartbeats 8000000
open Go.Proofs.Tryz
namespace Go.Proofs.YtmecohdedghiaaaGreatDoor.Nn
open Go.RowKit
theorem cx (b:Nat) (w:World):(callFunc 200 #[.float .f64 b]).run prog w=.ok (.value (.int .u64 b)) w:=by
 rw[run_callFunc_extern func200 (by kernel_rfl) (by kernel_rfl) (by kernel_rfl) (e:=Extern.MathFloatBits.float64bits) (by kernel_rfl)];rfl
theorem run_frombits (b:Int) (w:World):(callFunc 77 #[.int .u64 b]).run prog w=.ok (.value (.float .f64 b.toNat)) w:=by
 rw[run_callFunc_extern func77 (by kernel_rfl) (by kernel_rfl) (by kernel_rfl) (e:=Extern.MathFloatBits.float64frombits) (by kernel_rfl)];rfl
theorem mg (b:Nat) (w:World):Calls prog 250 #[.float .f64 b] w fun e w'=>e=.returned (.int .u64 b)∧w=w':=by
 have hb:=fun b=>cx b;go_enter func250,ntmps250;go_wp2
 go_ret
 exact⟨rfl,rfl⟩
theorem b7 (b:Nat) (h:b<18446744073709551616) (w:World):Calls prog 139 #[.float .f64 b] w fun e w'=>e=.returned (.int .i64 (bJ b))∧w=w':=by
 have hb:=fun b=>cx b;go_enter func139,ntmps139;go_wp2;all_goals
  go_ret
  refine⟨aS ?_,rfl⟩;have e:=mi b h;simp only[e,beq_iff_eq,beq_eq_false_iff_ne]at *;clear e hb
  first
   |exact((ye b).2 (by omega)).symm
   |exact((yD b).2 (by omega)).symm
   |exact((yt b).2 (by omega)).symm
   |exact((sU b).2 (by omega)).symm
   |exact((rM b).2 (by omega)).symm
theorem cX (b:Nat) (w:World):Calls prog 211 #[.int .u64 b] w fun e w'=>e=.returned (.int .i64 (bJ b))∧w=w':=by
 go_enter func211,ntmps211;go_wp2;all_goals
  go_ret
  refine⟨aS ?_,rfl⟩;simp only[beq_iff_eq,beq_eq_false_iff_ne,bne_iff_ne,bne_eq_false_iff_eq]at *
  first
   |exact((ye b).2 (by omega)).symm
   |exact((yD b).2 (by omega)).symm
   |exact((yt b).2 (by omega)).symm
   |exact((sU b).2 (by omega)).symm
   |exact((rM b).2 (by omega)).symm
theorem eC (b:Nat) (h:b<18446744073709551616) (w:World):Calls prog 140 #[.float .f64 b] w fun e w'=>e=.returned (.bool (oZ b))∧w=w':=by
 have hb:=fun b=>cx b;go_enter func140,ntmps140;go_wp2_with (go_at_call 139;refine(b7 _ h _).mono ?_;rintro e w' ⟨rfl,rfl⟩);all_goals
  go_ret
  refine⟨aj ?_,rfl⟩;unfold oZ
 ·rw[dT (by omega),Bool.true_and]
 ·rw[dF (by omega),Bool.false_and]
def Tab (w:World):Prop:=∀j,j<64→w.cell? ⟨1,j,none⟩=some (.int .u8 (Lib.deBruijn64tab.getD j 0))
theorem rr (x k idx:Nat) (w:World) (hx0:((x:Int)==0)=false)
  (key:IntKind.u64.wrap (bits BinOp.and IntKind.u64 (x:Int) (IntKind.u64.wrap (-(x:Int)))*285870213051353865)/288230376151711744=(idx:Int))
  (hi:idx<64) (hk:k<64) (CD:w.cell? ⟨1,idx,none⟩=some (.int .u8 k)):
  Calls prog 201 #[.int .u64 x] w fun e w'=>e=.returned (.int .i64 k)∧w=w':=by
 go_enter func201,ntmps201;go_wp2_with (simp only[key])
 go_ret
 exact⟨rfl,rfl⟩
theorem tP (x:Nat) (hx:x<18446744073709551616) (hx0:x≠0) (w:World) (hT:Tab w):
  Calls prog 201 #[.int .u64 x] w fun e w'=>e=.returned (.int .i64 (Lib.ctz 64 x))∧w=w':=by
 obtain⟨hlow,hk⟩:=Lib.lowest_bit 64 x hx0 hx;obtain⟨hi,htab⟩:=Lib.deBruijn64_at _ hk;have CD:=hT _ hi;rw[htab]at CD;exact rr x _ _ w (by simp;omega) (tz64_key x _ hx hx0 hlow) hi hk CD
theorem bd {a b c d:Int} (h:a=c) (k:b=d):Ending.returned (.tuple #[.int .i64 a,.int .i64 b])=.returned (.tuple #[.int .i64 c,.int .i64 d]):=by rw[h,k]
theorem ai {a b:Int} (h:a=b):Value.int .i64 a=.int .i64 b:=by rw[h]
theorem yp (b:Nat) (h:(bJ b==5)=true):(b:Int)%4503599627370496+4503599627370496=(eH b:Nat):=by
 rw[beq_iff_eq]at h;unfold eH;rw[if_pos h];omega
theorem yB (b:Nat) (h:(bJ b==5)=false):(b:Int)%4503599627370496=(eH b:Nat):=by
 rw[beq_eq_false_iff_ne]at h;unfold eH;rw[if_neg h];omega
theorem sf (b:Nat) (h:(bJ b==5)=true):(b:Int)/4503599627370496%2048-1075=rF b:=by
 rw[beq_iff_eq]at h;unfold rF;rw[if_pos h]
theorem sJ (b:Nat) (h:(bJ b==5)=false): -1074=rF b:=by
 rw[beq_eq_false_iff_ne]at h;unfold rF;rw[if_neg h]
theorem zi (b:Nat) (h4:4≤bJ b):oZ b=decide (9223372036854775808≤b):=by
 have e:(bJ b != 1)=true:=by rw[bne_iff_ne];omega
 unfold oZ;rw[e,Bool.and_true]
theorem oN (b m k:Nat) (h4:4≤bJ b) (e:eH b=m*2^k) (hm:m%2=1):pm b=(if 9223372036854775808≤b then -(m:Int)else m)∧pe b=rF b+k:=by
 obtain⟨e1,e2⟩:=zO b k m h4 e hm;have hn:¬bJ b<4:=by omega
 unfold pm pe;simp only[if_neg hn,zi b h4,e1,e2,decide_eq_true_eq,and_self]
theorem nQ (b:Nat) (hlow:bJ b<4) (w:World):Calls prog 212 #[.int .u64 b] w fun e w'=>e=.returned (.tuple #[.int .i64 (pm b),.int .i64 (pe b)])∧w=w':=by
 go_enter func212,ntmps212;go_wp2_with (go_at_call 211;refine(cX _ _).mono ?_;rintro e w' ⟨rfl,rfl⟩)
 go_ret2
 refine⟨bd ?_ ?_,rfl⟩
 ·unfold pm;rw[if_pos hlow]
 ·unfold pe;rw[if_pos hlow]
theorem me (b:Nat) (h:b<18446744073709551616) (h4:4≤bJ b) (w:World):Calls prog 212 #[.int .u64 b] w fun e w'=>e=.returned (.tuple #[.int .i64 (pm b),.int .i64 (pe b)])∧w=w':=by
 have hm:=fF b h4;have hx:=sM b;have m5:=yp b;have m4:=yB b;have x5:=sf b;have x4:=sJ b;have M5:=aH m5;have M4:=aH m4;have X5:=aH x5;have X4:=aH x4;clear m5 m4 x5 x4;by_cases h5:(bJ b==5)=true
 ·go_enter func212,ntmps212;go_wp2_with (go_at_call 211;refine(cX _ _).mono ?_;rintro e w' ⟨rfl,rfl⟩)
  go_loop [5,6] (fun m e=>∃(m' k:Nat),eH b=m'*2^k∧k≤52∧m'<9007199254740992∧m=.int .i64 m'∧e=.int .i64 (rF b+k)) (fun m _=>(intOf m).toNat)
  case atStart=>exact⟨eH b,0,by simp,by omega,by omega,ai (M5.out h5),ai (by rw[X5.out h5];simp)⟩
  case round=>
   obtain⟨m',k,he,hk,GY,rfl,rfl⟩:=hrel;have HE:=aH he;clear he;go_wp2
   ·go_round
    case rel=>
     obtain⟨e1,e2,e3⟩:=ej (eH b) k m' (by omega) (by omega) HE.out (by simp only[beq_iff_eq]at *;omega);exact⟨m'/2,k+1,e1,e2,by omega,ai (by omega),ai (by omega)⟩
    case measure=>
     obtain⟨e1,e2,e3⟩:=ej (eH b) k m' (by omega) (by omega) HE.out (by simp only[beq_iff_eq]at *;omega);simp[intOf];omega
   ·go_ret2
    simp only[beq_iff_eq,beq_eq_false_iff_ne]at *;obtain⟨e1,e2⟩:=oN b m' k h4 HE.out (by omega);exact⟨bd (by rw[e1,if_pos (by omega)]) e2.symm,by trivial⟩
   ·go_ret2
    simp only[beq_iff_eq,beq_eq_false_iff_ne]at *;obtain⟨e1,e2⟩:=oN b m' k h4 HE.out (by omega);exact⟨bd (by rw[e1,if_neg (by omega)]) e2.symm,by trivial⟩
 ·have RQ:(bJ b==5)=false:=by simpa using h5
  clear h5;go_enter func212,ntmps212;go_wp2_with (go_at_call 211;refine(cX _ _).mono ?_;rintro e w' ⟨rfl,rfl⟩)
  go_loop [5,6] (fun m e=>∃(m' k:Nat),eH b=m'*2^k∧k≤52∧m'<9007199254740992∧m=.int .i64 m'∧e=.int .i64 (rF b+k)) (fun m _=>(intOf m).toNat)
  case atStart=>exact⟨eH b,0,by simp,by omega,by omega,ai (M4.out RQ),ai (by rw[X4.out RQ];simp)⟩
  case round=>
   obtain⟨m',k,he,hk,GY,rfl,rfl⟩:=hrel;have HE:=aH he;clear he;go_wp2
   ·go_round
    case rel=>
     obtain⟨e1,e2,e3⟩:=ej (eH b) k m' (by omega) (by omega) HE.out (by simp only[beq_iff_eq]at *;omega);exact⟨m'/2,k+1,e1,e2,by omega,ai (by omega),ai (by omega)⟩
    case measure=>
     obtain⟨e1,e2,e3⟩:=ej (eH b) k m' (by omega) (by omega) HE.out (by simp only[beq_iff_eq]at *;omega);simp[intOf];omega
   ·go_ret2
    simp only[beq_iff_eq,beq_eq_false_iff_ne]at *;obtain⟨e1,e2⟩:=oN b m' k h4 HE.out (by omega);exact⟨bd (by rw[e1,if_pos (by omega)]) e2.symm,by trivial⟩
   ·go_ret2
    simp only[beq_iff_eq,beq_eq_false_iff_ne]at *;obtain⟨e1,e2⟩:=oN b m' k h4 HE.out (by omega);exact⟨bd (by rw[e1,if_neg (by omega)]) e2.symm,by trivial⟩
theorem dI (b:Nat) (h:b<18446744073709551616) (w:World):Calls prog 212 #[.int .u64 b] w fun e w'=>e=.returned (.tuple #[.int .i64 (pm b),.int .i64 (pe b)])∧w=w':=by
 by_cases h4:4≤bJ b
 ·exact me b h h4 w
 ·exact nQ b (by omega) w
theorem qu (b:Nat) (h:b<18446744073709551616) (hlow:bJ b<4) (w:World):Calls prog 141 #[.float .f64 b] w fun e w'=>e=.returned (.tuple #[.int .i64 (pm b),.int .i64 (pe b)])∧w=w':=by
 have hb:=fun b=>cx b;go_enter func141,ntmps141;go_wp2_with (go_at_call 139;refine(b7 _ h _).mono ?_;rintro e w' ⟨rfl,rfl⟩)
 go_ret2
 refine⟨bd ?_ ?_,rfl⟩
 ·unfold pm;rw[if_pos hlow]
 ·unfold pe;rw[if_pos hlow]
def Bz (b:Nat):Nat:=b%4503599627370496
def yh (b:Nat):Int:=(b:Int)/4503599627370496%2048
theorem rI (b:Nat) (h4:4≤bJ b) (w:World) (hT:Tab w):Calls prog 201 #[.int .u64 (eH b)] w fun e w'=>e=.returned (.int .i64 (kn b))∧w=w':=by
 have hm:=fF b h4;exact tP (eH b) (by omega) (by omega) w hT
theorem pZ (b:Nat) (h4:4≤bJ b):wrap64 ((eH b:Int)/2^kn b)=(jM b:Int):=by
 obtain⟨_,_,_,_,h5⟩:=eh b h4;have e:((eH b:Int)/2^kn b)=(jM b:Int):=by
  unfold jM;rw[Int.natCast_ediv,Int.natCast_pow];rfl
 rw[e];exact IntWalk.wrap64_in _ ⟨by omega,by omega⟩
theorem ss (b:Nat) (h4:4≤bJ b) (hm:oZ b=false):wrap64 ((eH b:Int)/2^kn b)=pm b:=by
 rw[pZ b h4];unfold pm;rw[if_neg (by omega),hm];rfl
theorem tm (b:Nat) (h4:4≤bJ b) (hm:oZ b=true):wrap64 (-wrap64 ((eH b:Int)/2^kn b))=pm b:=by
 obtain⟨_,_,_,_,h5⟩:=eh b h4;rw[pZ b h4];unfold pm;rw[if_neg (by omega),hm,if_pos rfl];exact IntWalk.wrap64_in _ ⟨by omega,by omega⟩
theorem gR (b:Nat) (h4:4≤bJ b):pe b=rF b+kn b:=by
 unfold pe;rw[if_neg (by omega)]
theorem we (b:Nat) (h:b<18446744073709551616) (h5:(bJ b==5)=true) (w:World) (hT:Tab w):Calls prog 141 #[.float .f64 b] w fun e w'=>e=.returned (.tuple #[.int .i64 (pm b),.int .i64 (pe b)])∧w=w':=by
 have hb:=fun b=>cx b;have h4:4≤bJ b:=by rw[beq_iff_eq]at h5;omega
 have f1:bits .and .u64 (b:Int) 4503599627370495=(Bz b:Nat):=lJ b h;have f2:bits .or .u64 (Bz b:Int) 4503599627370496=(eH b:Nat):=by
  rw[rj _ (by unfold Bz;omega)];have:=yp b h5;unfold Bz;omega
 have f3:bits .and .u64 ((b:Int)/4503599627370496) 2047=yh b:=by
  have:=vE (b/4503599627370496) (by omega);unfold yh;rw[show((b:Int)/4503599627370496)=((b/4503599627370496:Nat):Int)from by omega,this];omega
 have x0:0≤yh b:=by unfold yh;omega
 have x1:yh b≤2047:=by unfold yh;omega
 have hm:=fF b h4;have hz:=(eh b h4).2.2.1;go_enter func141,ntmps141;go_wp2_with (first|(go_at_call 139;refine(b7 _ h _).mono ?_;rintro e w' ⟨rfl,rfl⟩)|(go_at_call 201;refine(rI b h4 _ hT).mono ?_;rintro e w' ⟨rfl,rfl⟩)|(go_at_call 140;refine(eC _ h _).mono ?_;rintro e w' ⟨rfl,rfl⟩));all_goals go_ret2
 ·exact⟨bd (tm b h4 (by assumption)) (by rw[gR b h4,←sf b h5];unfold yh;omega),by trivial⟩
 ·exact⟨bd (ss b h4 (by assumption)) (by rw[gR b h4,←sf b h5];unfold yh;omega),by trivial⟩
theorem vZ (b:Nat) (h:b<18446744073709551616) (hc4:(bJ b==4)=true) (w:World) (hT:Tab w):Calls prog 141 #[.float .f64 b] w fun e w'=>e=.returned (.tuple #[.int .i64 (pm b),.int .i64 (pe b)])∧w=w':=by
 have hb:=fun b=>cx b;have h4:4≤bJ b:=by rw[beq_iff_eq]at hc4;omega
 have h5:(bJ b==5)=false:=by rw[beq_iff_eq]at hc4;rw[beq_eq_false_iff_ne];omega
 have f1:bits .and .u64 (b:Int) 4503599627370495=(eH b:Nat):=by
  rw[lJ b h];have:=yB b h5;omega
 have hm:=fF b h4;have hz:=(eh b h4).2.2.1;go_enter func141,ntmps141;go_wp2_with (first|(go_at_call 139;refine(b7 _ h _).mono ?_;rintro e w' ⟨rfl,rfl⟩)|(go_at_call 201;refine(rI b h4 _ hT).mono ?_;rintro e w' ⟨rfl,rfl⟩)|(go_at_call 140;refine(eC _ h _).mono ?_;rintro e w' ⟨rfl,rfl⟩));all_goals go_ret2
 ·exact⟨bd (tm b h4 (by assumption)) (by rw[gR b h4,←sJ b h5]),by trivial⟩
 ·exact⟨bd (ss b h4 (by assumption)) (by rw[gR b h4,←sJ b h5]),by trivial⟩
theorem fQ (b:Nat) (h:b<18446744073709551616) (w:World) (hT:Tab w):Calls prog 141 #[.float .f64 b] w fun e w'=>e=.returned (.tuple #[.int .i64 (pm b),.int .i64 (pe b)])∧w=w':=by
 have hr:=fK b;by_cases h4:bJ b<4
 ·exact qu b h h4 w
 ·by_cases h5:bJ b=5
  ·exact we b h (by rw[h5];rfl) w hT
  ·exact vZ b h (by rw[beq_iff_eq];omega) w hT
def Cy (m:Int) (b:Nat):Nat:=if m<0 then b+9223372036854775808 else b
theorem lS (n k:Nat) (h:n<18446744073709551616) (k1:1≤k) (k2:k≤64):
  (n:Int)/2^k=(n/2^k:Nat)∧IntKind.u64.wrap ((n:Int)-IntKind.u64.wrap (((n/2^k:Nat):Int)*2^k))=(n%2^k:Nat)∧IntKind.u64.wrap ((2:Int)^(k-1))=(2^(k-1):Nat)∧n/2^k≤9223372036854775807:=by
 have e0:(n:Int)/2^k=(n/2^k:Nat):=by rw[Int.natCast_ediv,Int.natCast_pow];rfl
 have e1:(((n/2^k:Nat):Int)*2^k)=((n/2^k*2^k:Nat):Int):=by rw[Int.natCast_mul,Int.natCast_pow];rfl
 have e2:=Nat.div_add_mod n (2^k);rw[Nat.mul_comm]at e2;have e3:n/2^k*2^k≤n:=by omega
 have e4:((2:Int)^(k-1))=((2^(k-1):Nat):Int):=by rw[Int.natCast_pow];rfl
 have e5:2^(k-1)≤2^63:=cw (by omega);have e6:n/2^k≤n/2:=by
  apply Nat.div_le_div_left _ (by decide);have:=cw k1;omega
 refine⟨e0,?_,?_,by omega⟩
 ·rw[e1,IntKind.wrap_u64,IntKind.wrap_u64];generalize n/2^k*2^k=Q at *;generalize n%2^k=R at *;clear e0 e1 e4 e5 e6;omega
 ·rw[e4,IntKind.wrap_u64];generalize 2^(k-1)=P at *;clear e0 e1 e2 e3 e4 e6;omega
theorem nC (n k:Nat) (h:n<9223372036854775808) (k1:1≤k) (k2:k≤64) (w:World):Calls prog 202 #[.int .u64 n,.int .i64 k] w fun e w'=>e=.returned (.int .i64 (zC n k))∧∃d,w'=w.drewN d:=by
 obtain⟨f1,f2,f3,f4⟩:=lS n k (by omega) k1 k2;have f5:n/2^k≤4611686018427387904:=by
  have e6:n/2^k≤n/2:=by
   apply Nat.div_le_div_left _ (by decide);have:=cw k1;omega
  omega
 have hf:zC n k=wh (n/2^k) (n%2^k) (2^(k-1)):=rfl;generalize n/2^k=q at *;generalize n%2^k=r at *;generalize 2^(k-1)=p at *;have HF:=aH hf;clear hf;go_enter func202,ntmps202;go_wp2_with (fail);go_quiet (fail);go_wp2;all_goals
  go_ret
  simp only[beq_iff_eq,beq_eq_false_iff_ne]at *;refine⟨aS ?_,_,rfl⟩;rw[HF.out];unfold wh
  split<;>omega
def mk (m e:Int):Nat:=Cy m (zT m.natAbs e)
theorem mf (p:Nat) (e:Int) (hp:p<9223372036854775808) (he: -63≤e) (h1:e<0) (w:World):Calls prog 142 #[.int .i64 p,.int .i64 e] w fun e' w'=>e'=.returned (.int .i64 (gL p e))∧∃d,w'=w.drewN d:=by
 have hs:∀(w:World),Calls prog 202 #[.int .u64 p,.int .i64 (-e)] w fun e' w'=>e'=.returned (.int .i64 (gL p e))∧∃d,w'=w.drewN d:=fun w=>by
  have h:=nC p (-e).toNat hp (by omega) (by omega) w;rw[uD p e h1 (by omega) hp,show(((-e).toNat:Nat):Int)= -e from by omega]at h;exact h
 have HS:=aH hs;clear hs;go_enter func142,ntmps142;go_wp2_with (go_at_call 202;refine(HS.out _).mono ?_;rintro e' w' ⟨rfl,d,rfl⟩)
 go_ret
 exact⟨rfl,_,rfl⟩
theorem lP (p:Nat) (e:Int) (he:e< -63) (w:World):Calls prog 142 #[.int .i64 p,.int .i64 e] w fun e' w'=>e'=.returned (.int .i64 (gL p e))∧∃d,w'=w.drewN d:=by
 have hn:gL p e=0:=by unfold gL;rw[if_pos he]
 rw[hn];clear hn;go_enter func142,ntmps142;go_wp2
 go_ret
 exact⟨rfl,0,rfl⟩
theorem zV (k:Nat):(1099511627776:Int)/2^min k 64=(1099511627776/2^k:Nat):=by
 have e:((1099511627776/2^min k 64:Nat):Int)=(1099511627776:Int)/2^min k 64:=by
  rw[Int.natCast_ediv,Int.natCast_pow];rfl
 rw[←e];by_cases h:k≤64
 ·rw[Nat.min_eq_left h]
 ·have h1:=cw (a:=64) (b:=k) (by omega);rw[Nat.min_eq_right (by omega),Nat.div_eq_of_lt (a:=1099511627776) (b:=2^k) (by omega)]
theorem nr (p:Nat) (e:Int) (h0:0<p) (hp:p<9223372036854775808) (he:0≤e) (h2:e≤2000) (w:World):Calls prog 142 #[.int .i64 p,.int .i64 e] w fun e' w'=>e'=.returned (.int .i64 (gL p e))∧∃d,w'=w.drewN d:=by
 obtain⟨k,rfl⟩:=Int.eq_ofNat_of_zero_le he;have hn:gL p (k:Int)=if 1099511627776/2^k<p then 1099511627777 else p*2^k:=by
  unfold gL;rw[if_neg (by omega),if_neg (by omega),Int.toNat_natCast]
 have hq:=zV k;by_cases CI:1099511627776/2^k<p
 ·rw[if_pos CI]at hn;rw[hn];clear hn;generalize 1099511627776/2^k=q at *;go_enter func142,ntmps142;go_wp2
  go_ret
  exact⟨rfl,0,rfl⟩
 ·have hk:k≤40:=by
   apply Nat.le_of_not_lt;intro hh;have h1:=cw (a:=41) (b:=k) (by omega);rw[Nat.div_eq_of_lt (by omega)]at CI;omega
  have FO:p*2^k≤1099511627776:=by
   rw[yS]at CI;omega
  rw[if_neg CI]at hn;rw[hn];have hm:min k 64=k:=Nat.min_eq_left (by omega);rw[hm]at hq;have hw:wrap64 ((p:Int)*2^k)=(p*2^k:Nat):=by
   have e:(p:Int)*2^k=((p*2^k:Nat):Int):=(by rw[Int.natCast_mul,Int.natCast_pow];rfl);rw[e];exact IntWalk.wrap64_in _ ⟨by omega,by omega⟩
  clear hn hm;generalize 1099511627776/2^k=q at *;generalize p*2^k=r at *;go_enter func142,ntmps142;go_wp2
  go_ret
  exact⟨aS hw,0,rfl⟩
theorem lO (p:Nat) (e:Int) (h0:0<p) (hp:p<9223372036854775808) (h2:e≤2000) (w:World):Calls prog 142 #[.int .i64 p,.int .i64 e] w fun e' w'=>e'=.returned (.int .i64 (gL p e))∧∃d,w'=w.drewN d:=by
 by_cases h:e< -63
 ·exact lP p e h w
 ·by_cases h1:e<0
  ·exact mf p e hp (by omega) h1 w
  ·exact nr p e h0 hp (by omega) h2 w
theorem uR (b:Nat) (h4:4≤bJ b) (hm:oZ b=false):pm b=jM b:=by
 unfold pm;rw[if_neg (by omega),hm];rfl
theorem AH (b:Nat): -1074≤pe b∧pe b≤1023:=by
 unfold pe;have:=sM b
 split
 ·omega
 ·have:=(eh b (by omega)).2.2.1;omega
theorem AK (b:Nat) (h:bJ b=1):ofE b=20:=by unfold ofE;rw[if_pos h]
theorem Az (b:Nat) (h:bJ b=2):ofE b=21:=by unfold ofE;rw[if_neg (by omega),if_pos h]
theorem Bd (b:Nat) (h:bJ b=3):ofE b=0:=by unfold ofE;rw[if_neg (by omega),if_neg (by omega),if_pos h]
theorem Aw (b:Nat) (h:4≤bJ b) (hm:oZ b=true):ofE b=22:=by unfold ofE;rw[if_neg (by omega),if_neg (by omega),if_neg (by omega),if_pos hm]
theorem Ao (b:Nat) (h:4≤bJ b) (hm:oZ b=false):ofE b=if 1099511627776<ip b then 4 else 0:=by unfold ofE;rw[if_neg (by omega),if_neg (by omega),if_neg (by omega),if_neg (by simp[hm])]
theorem ug (b:Nat) (h:bJ b<4∨ofE b≠0):ofV b=0:=by unfold ofV;rw[if_neg (by omega)]
theorem AP (b:Nat) (h:4≤bJ b) (h0:ofE b=0):ofV b=ip b:=by unfold ofV;rw[if_pos ⟨h,h0⟩]
theorem yR (b:Nat) (h:b<18446744073709551616) (hlow:bJ b<4) (w:World):Calls prog 76 #[.float .f64 b] w fun e w'=>e=.returned (.tuple #[.int .i64 (ofV b),.int .i64 (ofE b)])∧∃d,w'=w.drewN d:=by
 have hr:=fK b;have hv:=ug b (by omega);rw[hv];have hc:bJ b=1∨bJ b=2∨bJ b=3:=by omega
 clear hv hr;rcases hc with hc|hc|hc
 ·rw[AK b hc];have H:∀w:World,Calls prog 139 #[.float .f64 b] w fun e w'=>e=.returned (.int .i64 1)∧w=w':=fun w=>by
   have:=b7 b h w;rw[hc]at this;exact this
  have H':=aH H;clear H hc hlow;go_enter func76,ntmps76;go_wp2_with (go_at_call 139;refine(H'.out _).mono ?_;rintro e w' ⟨rfl,rfl⟩)
  go_ret2
  exact⟨rfl,0,rfl⟩
 ·rw[Az b hc];have H:∀w:World,Calls prog 139 #[.float .f64 b] w fun e w'=>e=.returned (.int .i64 2)∧w=w':=fun w=>by
   have:=b7 b h w;rw[hc]at this;exact this
  have H':=aH H;clear H hc hlow;go_enter func76,ntmps76;go_wp2_with (go_at_call 139;refine(H'.out _).mono ?_;rintro e w' ⟨rfl,rfl⟩)
  go_ret2
  exact⟨rfl,0,rfl⟩
 ·rw[Bd b hc];have H:∀w:World,Calls prog 139 #[.float .f64 b] w fun e w'=>e=.returned (.int .i64 3)∧w=w':=fun w=>by
   have:=b7 b h w;rw[hc]at this;exact this
  have H':=aH H;clear H hc hlow;go_enter func76,ntmps76;go_wp2_with (go_at_call 139;refine(H'.out _).mono ?_;rintro e w' ⟨rfl,rfl⟩)
  go_ret2
  exact⟨rfl,0,rfl⟩
theorem tW (b:Nat) (h:b<18446744073709551616) (h4:4≤bJ b) (hm:oZ b=true) (w:World):Calls prog 76 #[.float .f64 b] w fun e w'=>e=.returned (.tuple #[.int .i64 (ofV b),.int .i64 (ofE b)])∧∃d,w'=w.drewN d:=by
 have he:=Aw b h4 hm;have hv:=ug b (by omega);rw[hv,he];have c1:(bJ b==1)=false:=by rw[beq_eq_false_iff_ne];omega
 have c2:(bJ b==2)=false:=by rw[beq_eq_false_iff_ne];omega
 have c3:(bJ b==3)=false:=by rw[beq_eq_false_iff_ne];omega
 clear he hv;go_enter func76,ntmps76;go_wp2_with (first|(go_at_call 139;refine(b7 _ h _).mono ?_;rintro e w' ⟨rfl,rfl⟩)|(go_at_call 140;refine(eC _ h _).mono ?_;rintro e w' ⟨rfl,rfl⟩))
 go_ret2
 exact⟨rfl,0,rfl⟩
theorem vA (b:Nat) (h:b<18446744073709551616) (h4:4≤bJ b) (hm:oZ b=false) (w:World) (hT:Tab w):Calls prog 76 #[.float .f64 b] w fun e w'=>e=.returned (.tuple #[.int .i64 (ofV b),.int .i64 (ofE b)])∧∃d,w'=w.drewN d:=by
 obtain⟨_,_,_,o1,o2⟩:=eh b h4;have Un:=AH b;have hn:∀w:World,Calls prog 142 #[.int .i64 ((jM b:Int)*1000),.int .i64 (pe b)] w fun e' w'=>e'=.returned (.int .i64 (ip b))∧∃d,w'=w.drewN d:=fun w=>
  lO (jM b*1000) (pe b) (by omega) (by omega) (by omega) w
 have hp:∀w:World,Tab w→Calls prog 141 #[.float .f64 b] w fun e w'=>e=.returned (.tuple #[.int .i64 (jM b),.int .i64 (pe b)])∧w=w':=fun w hT=>by
  have:=fQ b h w hT;rw[uR b h4 hm]at this;exact this
 have he:=Ao b h4 hm;have EK:=AP b h4;have FP:=ug b;have HN:=aH hn;have HP:=aH hp;have HE:=aH he;have Pf:=aH EK;have St:=aH FP;have c1:(bJ b==1)=false:=by rw[beq_eq_false_iff_ne];omega
 have c2:(bJ b==2)=false:=by rw[beq_eq_false_iff_ne];omega
 have c3:(bJ b==3)=false:=by rw[beq_eq_false_iff_ne];omega
 clear hn hp he EK FP;go_enter func76,ntmps76;go_wp2_with (first|(go_at_call 139;refine(b7 _ h _).mono ?_;rintro e w' ⟨rfl,rfl⟩)|(go_at_call 140;refine(eC _ h _).mono ?_;rintro e w' ⟨rfl,rfl⟩)|(go_at_call 141;refine(HP.out _ hT).mono ?_;rintro e w' ⟨rfl,rfl⟩)|(go_at_call 142;refine(HN.out _).mono ?_;rintro e' w' ⟨rfl,d,rfl⟩));all_goals go_ret2
 ·have e1:ofE b=4:=by rw[HE.out,if_pos (by omega)]
  exact⟨bd (by rw[St.out (by omega)];rfl) e1.symm,_,rfl⟩
 ·have e1:ofE b=0:=by rw[HE.out,if_neg (by omega)]
  exact⟨bd (by rw[Pf.out e1]) e1.symm,_,rfl⟩
theorem of_any (b:Nat) (h:b<18446744073709551616) (w:World) (hT:Tab w):Calls prog 76 #[.float .f64 b] w fun e w'=>e=.returned (.tuple #[.int .i64 (ofV b),.int .i64 (ofE b)])∧∃d,w'=w.drewN d:=by
 by_cases h4:4≤bJ b
 ·cases hm:oZ b
  ·exact vA b h h4 hm w hT
  ·exact tW b h h4 hm w
 ·exact yR b h (by omega) w
theorem Tab.drewN {w:World} (h:Tab w) (d:Nat):Tab (w.drewN d):=h
end Go.Proofs.YtmecohdedghiaaaGreatDoor.Nn
namespace Go.Proofs.YtmecohdedghiaaaGreatDoor.Two
open Go.RowKit Go.Maps
theorem zN:Keyed prog 3:=int_keyed underlying3
theorem uw (w:World):(zeroValue 269).run prog w=.ok (.agg #[]) w:=by kernel_rfl
def sd (l:List Int):DataW Unit:=setOf (.agg []) (l.map (Lit.int .i64))
theorem xd (l:List Int) (x:Int):sd (l++[x])=(sd l).put (.int .i64 x) (.agg []):=by
  unfold sd;rw[List.map_append,List.map_cons,List.map_nil,setOf_snoc]
theorem zd (l:List Int) (x:Int):Maps.has (sd l) (.int .i64 x)=decide (x∈l):=by
  unfold sd;rw[has_setOf _ _ _ (by intro y hy;obtain⟨z,_,rfl⟩:=List.mem_map.1 hy;trivial)];rw[List.any_map,Bool.eq_iff_iff,List.any_eq_true,decide_eq_true_eq];simp[Lit.sameKey]
theorem wn {n:Int} (h:ae n):(Lit.int .i64 n).wf=true:=by
  unfold ae at h;simpa [Lit.wf,IntKind.min,IntKind.max,IntKind.signed,IntKind.bits]using h
theorem twice_any (v:Value) (xs:List Int) (w:World) (h:IsL w w.heap.size v xs) (hl:xs.length≤1000000):Calls prog 240 #[v] w fun e w'=>(∃t,e=.returned (.int .i64 t)∧Tw xs t)∧Below w.heap.size w w':=by
  have Na:=@run_makeMap prog;obtain⟨⟨A,cap,rfl,hcap,hA⟩,De,Db⟩:=h;have HA:=aH hA;have HF:=aH De;clear hA De;go_enter func240,ntmps240;go_wp2
  go_loopw [11] (fun i wr=>∃k:Nat,k≤xs.length∧(∀j,j<k→xs.getD j 0 ∉ xs.take j)∧i=.int .i64 (k:Int)∧wr.ownsMap prog 3 unitElem w.heap.size k (sd (xs.take k))∧Below w.heap.size w wr) (fun i _=>xs.length-(intOf i).toNat)
  case atStart=>exact⟨0,Nat.zero_le _,fun j hj=>absurd hj (by omega),rfl,World.ownsMap_made _ _ _ _,(bR _ _).alloc (nR _) _⟩
  case round=>
    obtain⟨k,hk,EQ,rfl,CF,Dy⟩:=hrel;have HN:=aH EQ;have HO:=aH CF;have HL:=aH Dy;clear EQ;by_cases CI:k<xs.length
    · obtain⟨b,off,rfl,hbB,CD⟩:=HA.out (by omega)
      have hx:wr.cell? ⟨b,off+k,none⟩=some (.int .i64 (xs.getD k 0)):=(Dy.cell (p:=⟨b,off+k,none⟩) hbB).trans (CD k CI);have Mk:keyOf prog 3 (.int .i64 (xs.getD k 0))=some (.int .i64 (xs.getD k 0)):=keyOf_int_mk underlying3 (wn (dq HF.out k));have Mw:=zd (xs.take k) (xs.getD k 0);have FU:=aH (show sd (xs.take (k+1))=(sd (xs.take k)).put (.int .i64 (xs.getD k 0)) (.agg [])by rw[dw xs k CI,xd]);have HK:=aH Mk;clear CD Dy CF Mk;by_cases hm:xs.getD k 0∈xs.take k
      · rw[dT hm]at Mw
        have HM:=aH hm;clear hm;generalize Kn:xs.getD k 0=x at *;have Jo:=aH Kn;clear Kn;go_wp2_with (at_lookup;refine wpList_lookup_own_unit _ rfl _ _ 268 rfl 3 269 zN underlying268 (uw _) w.heap.size k _ rfl HO.out _ _ rfl HK.out ?_)
        go_ret
        exact⟨⟨_,rfl,Or.inr ⟨k,CI,rfl,by rw[Jo.out];exact HM.out,HN.out⟩⟩,HL.out.alloc HL.out.size _⟩
      · rw[dF hm]at Mw
        have HM:=aH hm;clear hm;generalize Kn:xs.getD k 0=x at *;have Jo:=aH Kn;clear Kn;go_wp2_with (first
          |(at_lookup;refine wpList_lookup_own_unit _ rfl _ _ 268 rfl 3 269 zN underlying268 (uw _) w.heap.size k _ rfl HO.out _ _ rfl HK.out ?_)
          |(at_mapUpdate;refine wpList_mapUpdate_own _ rfl _ _ _ 268 rfl 3 269 zN underlying268 (unitElem (H:=Unit)) w.heap.size k _ rfl (HO.out.alloc _) (by unfold maxLen;omega) _ _ _ rfl rfl HK.out _ [] unitElem_mk ?_;intro w1 hown1 hgrow1))
        have H1:=aH hown1;have H2:=aH ((HL.out.alloc HL.out.size (.cells #[] 269)).grown hgrow1 (by have:=HL.out.size;simp;omega) (fun j hj=>by cases hj;exact nR _));clear hown1 hgrow1
        go_roundw
        case rel=>
          refine⟨k+1,by omega,fun j hj=>?_,ai (by omega),by rw[FU.out];exact H1.out,H2.out⟩;rcases Nat.lt_or_ge j k with h|h
          · exact HN.out j h
          · obtain rfl:j=k:=by omega
            rw[Jo.out];exact HM.out
        case measure=>simp[intOf];omega
    · obtain rfl:k=xs.length:=by omega
      clear Dy CF;go_wp2
      go_ret
      exact⟨⟨_,rfl,Or.inl ⟨rfl,HN.out⟩⟩,HL.out⟩
open Go.RowKit
theorem qM (l:List Int) (h:l.length≤1):Inc l:=by
  match l,h with
  |[],_=>exact inc_nil
  |[x],_=>exact List.pairwise_singleton _ _
theorem qT (l:List Int) (k:Nat):mk (mk (l.take k)++mk (l.drop k))=mk l:=mk_of (inc_mk _) fun x=>by
  rw[mem_mk,List.mem_append,mem_mk,mem_mk,←List.mem_append,List.take_append_drop]
theorem tw:∀(n:Nat) (v:Value) (xs:List Int),xs.length≤n→xs.length≤1000→∀w:World,IsL w w.heap.size v xs→
    Calls prog 48 #[v] w fun e w'=>∃v,e=.returned v∧IsL w' w'.heap.size v (mk xs)∧Below w.heap.size w w':=by
  intro n
  induction n with
  |zero=>
    intro v xs hn hl w h;obtain rfl:xs=[]:=List.eq_nil_of_length_eq_zero (by omega);have HR:=aH (right_any v [] w h);have HV:=aH h;clear h;go_enter func48,ntmps48;go_wp2_with fail;refine(HR.out).mono ?_;rintro e w' ⟨rfl,d,rfl⟩;rw[show decide (Inc [])=true from by decide];go_wp2_with (at_builtin;refine wpList_app _ rfl _ _ rfl w.heap.size w.heap.size _ _ [] [] rfl rfl (Own.nil _ _) HV.out (by simp) (nR _) ?_);intro v1 w1 CF hgrow _;have CE:=Own.grow' (Own.nil (w.drewN d) w.heap.size) (aa (bR _ _) d) (nR _) hgrow;have H1:=aH (CF.isL (by simp));have H2:=aH CE;clear CF hgrow CE;go_wp2
    go_ret
    exact⟨_,rfl,H1.out,H2.out⟩
  |succ n ih=>
    intro v xs hn hl w h;have IH:=aH ih;have HR:=aH (right_any v xs w h);have HV:=aH h;clear ih;by_cases hi:Inc xs
    · have hd:decide (Inc xs)=true:=dT hi
      rw[hd]at HR;have HM:=aH (yU hi);clear h hd hi;go_enter func48,ntmps48;go_wp2_with fail;refine(HR.out).mono ?_;rintro e w' ⟨rfl,d,rfl⟩;go_wp2_with (at_builtin;refine wpList_app _ rfl _ _ rfl w.heap.size w.heap.size _ _ [] xs rfl rfl (Own.nil _ _) HV.out (by simp;omega) (nR _) ?_);intro v1 w1 CF hgrow _;have CE:=Own.grow' (Own.nil (w.drewN d) w.heap.size) (aa (bR _ _) d) (nR _) hgrow;have H1:=aH (CF.isL (by omega));have H2:=aH CE;clear CF hgrow CE;go_wp2
      go_ret
      exact⟨_,rfl,by rw[HM.out];exact H1.out,H2.out⟩
    · have h2:2≤xs.length:=by
        rcases Nat.lt_or_ge xs.length 2 with h|h
        · exact absurd (qM xs (by omega)) hi
        · exact h
      have hd:decide (Inc xs)=false:=dF hi;rw[hd]at HR;clear hi hd;obtain⟨⟨A,cap,rfl,hcap,hA⟩,De,Db⟩:=h;obtain⟨b,off,rfl,hb,CD⟩:=hA (by omega);obtain⟨hf,hhf,Ep,hf2⟩:∃hf:Nat,(xs.length:Int)/2=(hf:Int)∧1≤hf∧hf<xs.length∧hf≤n∧xs.length-hf≤n:=⟨xs.length/2,by omega,by omega,by omega,by omega,by omega⟩;have HT:=aH (IsL.takeLit (cap:=cap) hb CD De (hf) (by omega) (by omega) Db);have HD:=aH (IsL.dropIf (cap:=cap) hb CD De (hf) (by omega) hcap Db);have I8:=aH (IsL.dropLit (cap:=cap) hb CD De (hf) (by omega) hcap Db).2;have ht:(xs.take (hf)).length=hf:=(by rw[List.length_take];omega);have TO:(xs.drop (hf)).length=xs.length-hf:=List.length_drop;have EB:=aH (fun(W:World) (hW:Below w.heap.size w W)=>IH.out _ (xs.take (hf)) (by omega) (by omega) W ((HT.out.below hW).more hW.size));have GE:=aH (fun(W:World) (hW:Below w.heap.size w W)=>IH.out _ (xs.drop (hf)) (by omega) (by omega) W ((HD.out.below hW).more hW.size));have QD:=aH (fun(W:World) (hW:Below w.heap.size w W)=>IH.out _ (xs.drop (hf)) (by omega) (by omega) W ((I8.out.below hW).more hW.size));have Pw:=mk_len_le (xs.take (hf));have Po:=mk_len_le (xs.drop (hf));have Mg:=aH (fun(a c:Value) (W:World) (h1:IsL W W.heap.size a (mk (xs.take (hf)))) (h2:IsL W W.heap.size c (mk (xs.drop (hf))))=>either_any a c _ _ W h1 h2 (by omega) (inc_mk _) (inc_mk _));have SZ:=aH (qT xs (hf));have i1:(0:Int)≤(hf:Int):=(by omega);have i2:(hf:Int)≤(xs.length:Int):=(by omega);have i3:(hf:Int)≤(cap:Int):=(by omega);have i4:¬cap=hf:=(by omega);clear hA De CD ht TO Pw Po;go_enter func48,ntmps48;go_wp2_with fail;refine(HR.out).mono ?_;rintro e w' ⟨rfl,d,rfl⟩;have On:=aH (aa (bR w.heap.size w) (d+1));go_wp2
      go_region_with (first
        | (go_at_call 48;with_reducible refine(EB.out _ On.out).mono ?_;rintro e w1 ⟨v1,rfl,EK,CE⟩
           have Pf:=aH EK;have CH:=aH (On.out.trans (CE.mono (nR _)));clear EK CE)
        | (go_at_call 48;first|with_reducible refine(GE.out _ CH.out).mono ?_ |with_reducible refine(QD.out _ CH.out).mono ?_
           rintro e w2 ⟨v2,rfl,hv2,CM⟩;have FV:=aH hv2;have Qn:=aH ((Pf.out.below CM).more CM.size);have CL:=aH (bC CH.out CM);clear hv2 CM)
        | (go_at_call 81;with_reducible refine(Mg.out _ _ _ Qn.out FV.out).mono ?_;rintro e w3 ⟨v3,rfl,hv3,CO⟩
           have Eb:=aH hv3;have CS:=aH (bC CL.out CO);clear hv3 CO))
      all_goals
        go_wp2
        go_ret
        exact⟨_,rfl,by rw[←SZ.out];exact Eb.out,CS.out⟩
theorem from_any (v:Value) (xs:List Int) (w:World) (h:IsL w w.heap.size v xs) (hl:xs.length≤1000):
    Calls prog 48 #[v] w fun e w'=>∃v,e=.returned v∧IsL w' w'.heap.size v (mk xs)∧Below w.heap.size w w':=tw xs.length v xs (nR _) hl w h
end Go.Proofs.YtmecohdedghiaaaGreatDoor.Two
namespace Go.Proofs.YtmecohdedghiaaaGreatDoor
open Go.RowKit
structure Rq where
  k:Int
  iA:Option Addr
  ic:Nat
  il:List Int
  a:Int
  b:Int
  u:Int
  v:Nat
abbrev Rq.ob (r:Rq):Array Value:=#[.int .i64 r.k,.slice r.iA r.il.length r.ic,.int .i64 r.a,.int .i64 r.b,.int .i64 r.u,.int .u64 r.v]
abbrev Rq.val (r:Rq):Value:=.agg #[.int .i64 r.k,.slice r.iA r.il.length r.ic,.int .i64 r.a,.int .i64 r.b,.int .i64 r.u,.int .u64 r.v]
structure Rq.In (w:World) (B:Nat) (r:Rq):Prop where
  l:KI.IsL w B (.slice r.iA r.il.length r.ic) r.il
  k:ae r.k
  a:ae r.a
  b:ae r.b
  u:ae r.u
  v:r.v<18446744073709551616
theorem Rq.In.below {w w':World} {B:Nat} {r:Rq} (h:r.In w B) (hb:Below B w w'):r.In w' B:=⟨h.l.below hb,h.k,h.a,h.b,h.u,h.v⟩
theorem Rq.In.more {w:World} {B B':Nat} {r:Rq} (h:r.In w B) (hB:B≤B'):r.In w B':=⟨h.l.more hB,h.k,h.a,h.b,h.u,h.v⟩
theorem Rq.In.then {w w':World} {r:Rq} (h:r.In w w.heap.size) (hb:Below w.heap.size w w'):r.In w' w'.heap.size:=(h.below hb).more hb.size
abbrev nZ (w:World) (B:Nat) (r:Rq):Prop:=Cells6 w B (.int .i64 r.k) (.slice r.iA r.il.length r.ic) (.int .i64 r.a) (.int .i64 r.b) (.int .i64 r.u) (.int .u64 r.v)
theorem Nn.Tab.below {w w':World} (h:Nn.Tab w) (hb:Below w.heap.size w w'):Nn.Tab w':=fun j hj=>kK hb (h j hj)
def qE (v:Nat):Int:=if Nn.ofE v=0∧Nn.ofV v=0 then 1 else Nn.ofE v
def aP (v:Nat):Int:=Nn.ofV v
theorem i5 (r:Rq) (w:World) (hv:r.v<18446744073709551616) (hT:Nn.Tab w):Calls prog 38 #[r.val] w fun e w'=>e=.returned (.tuple #[.int .i64 (aP r.v),.int .i64 (qE r.v)])∧Below w.heap.size w w':=by
  have J3:=fun(b:Int) w=>Nn.run_frombits b w;have DS:=aH (hT.below (bL (bR w.heap.size w) (.cells r.ob 30)));have HO:=aH (fun w h=>Nn.of_any r.v hv w h);have HE:=aH (show qE r.v=if Nn.ofE r.v=0∧aP r.v=0 then 1 else Nn.ofE r.v by unfold qE aP;simp only[Int.natCast_eq_zero]);have hV:(Nn.ofV r.v:Int)=aP r.v:=rfl;rw[hV]at HO;generalize qE r.v=VE at *;generalize aP r.v=V at *;obtain⟨k,iA,ic,il,a,b,u,v⟩:=r;dsimp only at *;generalize Nn.ofE v=E at *;clear hV hv hT;by_cases hE:E=0
  · subst hE
    by_cases hV:V=0
    · subst hV
      obtain rfl:VE=1:=(by rw[HE.out];simp);go_enter func38,ntmps38;go_wp2_with fail;refine(HO.out _ DS.out).mono ?_;rintro e w1 ⟨rfl,d,rfl⟩;go_wp2
      go_ret2
      exact⟨rfl,aa (bL (bR _ _) _) d⟩
    · obtain rfl:VE=0:=by rw[HE.out];simp[hV]
      have Uy:(V==0)=false:=(by simpa using hV);clear hV;go_enter func38,ntmps38;go_wp2_with fail;refine(HO.out _ DS.out).mono ?_;rintro e w1 ⟨rfl,d,rfl⟩;go_wp2
      go_ret2
      exact⟨rfl,aa (bL (bR _ _) _) d⟩
  · obtain rfl:VE=E:=by rw[HE.out];simp[hE]
    have N6:(VE==0)=false:=(by simpa using hE);clear hE HE;go_enter func38,ntmps38;go_wp2_with fail;refine(HO.out _ DS.out).mono ?_;rintro e w1 ⟨rfl,d,rfl⟩;go_wp2
    go_ret2
    exact⟨rfl,aa (bL (bR _ _) _) d⟩
end Go.Proofs.YtmecohdedghiaaaGreatDoor
