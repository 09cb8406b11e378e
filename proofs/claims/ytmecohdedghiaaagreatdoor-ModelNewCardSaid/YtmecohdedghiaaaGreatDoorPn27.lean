/- Sets made of any list; the first that stands twice. -/
import Derived.Test.YtmecohdedghiaaaGreatDoorPn00
import Derived.Test.YtmecohdedghiaaaGreatDoorChecked
import Derived.Test.YtmecohdedghiaaaGreatDoorPn26
import Derived.WalkKit
import Derived.WalkLawsBesides
import Derived.WalkSpells
import Derived.Outline
import Derived.Laws.Cover2
import Derived.KernelRfl
import Derived.Lib.Hide
import Derived.Shelf.Spec.TrailingZeros
import Derived.LoopTactic
import Derived.Deep.QuietTactic
import Derived.BigQuiet
import Derived.Deep.Cut
import Derived.Laws.FloatArith
import Derived.Test.YtmecohdedghiaaaGreatDoorPn12
import Derived.Maps.OwnSet
import Derived.Maps.Own
set_option maxRecDepth 100000
set_option maxHeartbeats 8000000
namespace Go.Proofs.YtmecohdedghiaaaGreatDoor.Nn
open Go.RowKit
theorem run_bits (b:Nat) (w:World):(callFunc 200 #[.float .f64 b]).run Tryz.prog w=.ok (.value (.int .u64 b)) w:=by
 rw[run_callFunc_extern Tryz.func200 (by kernel_rfl) (by kernel_rfl) (by kernel_rfl) (e:=Extern.MathFloatBits.float64bits) (by kernel_rfl)];rfl
theorem run_frombits (b:Int) (w:World):(callFunc 77 #[.int .u64 b]).run Tryz.prog w=.ok (.value (.float .f64 b.toNat)) w:=by
 rw[run_callFunc_extern Tryz.func77 (by kernel_rfl) (by kernel_rfl) (by kernel_rfl) (e:=Extern.MathFloatBits.float64frombits) (by kernel_rfl)];rfl
theorem bits_any (b:Nat) (w:World):Calls Tryz.prog 250 #[.float .f64 b] w fun e w'=>e=.returned (.int .u64 b)∧w=w':=by
 have hb:=fun b=>run_bits b;go_enter Tryz.func250,Tryz.ntmps250;go_wp2
 go_ret
 exact⟨rfl,rfl⟩
theorem class_any (b:Nat) (h:b<18446744073709551616) (w:World):Calls Tryz.prog 139 #[.float .f64 b] w fun e w'=>e=.returned (.int .i64 (cls b))∧w=w':=by
 have hb:=fun b=>run_bits b;go_enter Tryz.func139,Tryz.ntmps139;go_wp2;all_goals
  go_ret
  refine⟨ret_i ?_,rfl⟩;have e:=andNot_sign b h;simp only[e,beq_iff_eq,beq_eq_false_iff_ne]at *;clear e hb
  first
   |exact((cls_1 b).2 (by omega)).symm
   |exact((cls_2 b).2 (by omega)).symm
   |exact((cls_3 b).2 (by omega)).symm
   |exact((cls_4 b).2 (by omega)).symm
   |exact((cls_5 b).2 (by omega)).symm
theorem rclass_any (b:Nat) (w:World):Calls Tryz.prog 211 #[.int .u64 b] w fun e w'=>e=.returned (.int .i64 (cls b))∧w=w':=by
 go_enter Tryz.func211,Tryz.ntmps211;go_wp2;all_goals
  go_ret
  refine⟨ret_i ?_,rfl⟩;simp only[beq_iff_eq,beq_eq_false_iff_ne,bne_iff_ne,bne_eq_false_iff_eq]at *
  first
   |exact((cls_1 b).2 (by omega)).symm
   |exact((cls_2 b).2 (by omega)).symm
   |exact((cls_3 b).2 (by omega)).symm
   |exact((cls_4 b).2 (by omega)).symm
   |exact((cls_5 b).2 (by omega)).symm
theorem minus_any (b:Nat) (h:b<18446744073709551616) (w:World):Calls Tryz.prog 140 #[.float .f64 b] w fun e w'=>e=.returned (.bool (mns b))∧w=w':=by
 have hb:=fun b=>run_bits b;go_enter Tryz.func140,Tryz.ntmps140;go_wp2_with (go_at_call 139;refine(class_any _ h _).mono ?_;rintro e w' ⟨rfl,rfl⟩);all_goals
  go_ret
  refine⟨ret_b ?_,rfl⟩;unfold mns
 ·rw[dT (by omega),Bool.true_and]
 ·rw[dF (by omega),Bool.false_and]
def Tab (w:World):Prop:=∀j,j<64→w.cell? ⟨1,j,none⟩=some (.int .u8 (Lib.deBruijn64tab.getD j 0))
theorem tz64_some (x k idx:Nat) (w:World) (hx0:((x:Int)==0)=false)
  (key:IntKind.u64.wrap (bits BinOp.and IntKind.u64 (x:Int) (IntKind.u64.wrap (-(x:Int)))*285870213051353865)/288230376151711744=(idx:Int))
  (hi:idx<64) (hk:k<64) (hcell:w.cell? ⟨1,idx,none⟩=some (.int .u8 k)):
  Calls Tryz.prog 201 #[.int .u64 x] w fun e w'=>e=.returned (.int .i64 k)∧w=w':=by
 go_enter Tryz.func201,Tryz.ntmps201;go_wp2_with (simp only[key])
 go_ret
 exact⟨rfl,rfl⟩
theorem tz64_any (x:Nat) (hx:x<18446744073709551616) (hx0:x≠0) (w:World) (hT:Tab w):
  Calls Tryz.prog 201 #[.int .u64 x] w fun e w'=>e=.returned (.int .i64 (Lib.ctz 64 x))∧w=w':=by
 obtain⟨hlow,hk⟩:=Lib.lowest_bit 64 x hx0 hx;obtain⟨hi,htab⟩:=Lib.deBruijn64_at _ hk;have hcell:=hT _ hi;rw[htab]at hcell;exact tz64_some x _ _ w (by simp;omega) (tz64_key x _ hx hx0 hlow) hi hk hcell
theorem ret_ii {a b c d:Int} (h:a=c) (k:b=d):Ending.returned (.tuple #[.int .i64 a,.int .i64 b])=.returned (.tuple #[.int .i64 c,.int .i64 d]):=by rw[h,k]
theorem num_i {a b:Int} (h:a=b):Value.int .i64 a=.int .i64 b:=by rw[h]
theorem man_5 (b:Nat) (h:(cls b==5)=true):(b:Int)%4503599627370496+4503599627370496=(man b:Nat):=by
 rw[beq_iff_eq]at h;unfold man;rw[if_pos h];omega
theorem man_4 (b:Nat) (h:(cls b==5)=false):(b:Int)%4503599627370496=(man b:Nat):=by
 rw[beq_eq_false_iff_ne]at h;unfold man;rw[if_neg h];omega
theorem exq_5 (b:Nat) (h:(cls b==5)=true):(b:Int)/4503599627370496%2048-1075=exq b:=by
 rw[beq_iff_eq]at h;unfold exq;rw[if_pos h]
theorem exq_4 (b:Nat) (h:(cls b==5)=false): -1074=exq b:=by
 rw[beq_eq_false_iff_ne]at h;unfold exq;rw[if_neg h]
theorem mns_of (b:Nat) (h4:4≤cls b):mns b=decide (9223372036854775808≤b):=by
 have e:(cls b != 1)=true:=by rw[bne_iff_ne];omega
 unfold mns;rw[e,Bool.and_true]
theorem pm_of (b m k:Nat) (h4:4≤cls b) (e:man b=m*2^k) (hm:m%2=1):pm b=(if 9223372036854775808≤b then -(m:Int)else m)∧pe b=exq b+k:=by
 obtain⟨e1,e2⟩:=odd_of b k m h4 e hm;have hn:¬cls b<4:=by omega
 unfold pm pe;simp only[if_neg hn,mns_of b h4,e1,e2,decide_eq_true_eq,and_self]
theorem rparts_low (b:Nat) (hlow:cls b<4) (w:World):Calls Tryz.prog 212 #[.int .u64 b] w fun e w'=>e=.returned (.tuple #[.int .i64 (pm b),.int .i64 (pe b)])∧w=w':=by
 go_enter Tryz.func212,Tryz.ntmps212;go_wp2_with (go_at_call 211;refine(rclass_any _ _).mono ?_;rintro e w' ⟨rfl,rfl⟩)
 go_ret2
 refine⟨ret_ii ?_ ?_,rfl⟩
 ·unfold pm;rw[if_pos hlow]
 ·unfold pe;rw[if_pos hlow]
theorem rparts_high (b:Nat) (h:b<18446744073709551616) (h4:4≤cls b) (w:World):Calls Tryz.prog 212 #[.int .u64 b] w fun e w'=>e=.returned (.tuple #[.int .i64 (pm b),.int .i64 (pe b)])∧w=w':=by
 have hm:=man_bd b h4;have hx:=exq_bd b;have m5:=man_5 b;have m4:=man_4 b;have x5:=exq_5 b;have x4:=exq_4 b;have M5:=aH m5;have M4:=aH m4;have X5:=aH x5;have X4:=aH x4;clear m5 m4 x5 x4;by_cases h5:(cls b==5)=true
 ·go_enter Tryz.func212,Tryz.ntmps212;go_wp2_with (go_at_call 211;refine(rclass_any _ _).mono ?_;rintro e w' ⟨rfl,rfl⟩)
  go_loop [5,6] (fun m e=>∃(m' k:Nat),man b=m'*2^k∧k≤52∧m'<9007199254740992∧m=.int .i64 m'∧e=.int .i64 (exq b+k)) (fun m _=>(intOf m).toNat)
  case atStart=>exact⟨man b,0,by simp,by omega,by omega,num_i (M5.out h5),num_i (by rw[X5.out h5];simp)⟩
  case round=>
   obtain⟨m',k,he,hk,hm',rfl,rfl⟩:=hrel;have HE:=aH he;clear he;go_wp2
   ·go_round
    case rel=>
     obtain⟨e1,e2,e3⟩:=half_step (man b) k m' (by omega) (by omega) HE.out (by simp only[beq_iff_eq]at *;omega);exact⟨m'/2,k+1,e1,e2,by omega,num_i (by omega),num_i (by omega)⟩
    case measure=>
     obtain⟨e1,e2,e3⟩:=half_step (man b) k m' (by omega) (by omega) HE.out (by simp only[beq_iff_eq]at *;omega);simp[intOf];omega
   ·go_ret2
    simp only[beq_iff_eq,beq_eq_false_iff_ne]at *;obtain⟨e1,e2⟩:=pm_of b m' k h4 HE.out (by omega);exact⟨ret_ii (by rw[e1,if_pos (by omega)]) e2.symm,by trivial⟩
   ·go_ret2
    simp only[beq_iff_eq,beq_eq_false_iff_ne]at *;obtain⟨e1,e2⟩:=pm_of b m' k h4 HE.out (by omega);exact⟨ret_ii (by rw[e1,if_neg (by omega)]) e2.symm,by trivial⟩
 ·have h5':(cls b==5)=false:=by simpa using h5
  clear h5;go_enter Tryz.func212,Tryz.ntmps212;go_wp2_with (go_at_call 211;refine(rclass_any _ _).mono ?_;rintro e w' ⟨rfl,rfl⟩)
  go_loop [5,6] (fun m e=>∃(m' k:Nat),man b=m'*2^k∧k≤52∧m'<9007199254740992∧m=.int .i64 m'∧e=.int .i64 (exq b+k)) (fun m _=>(intOf m).toNat)
  case atStart=>exact⟨man b,0,by simp,by omega,by omega,num_i (M4.out h5'),num_i (by rw[X4.out h5'];simp)⟩
  case round=>
   obtain⟨m',k,he,hk,hm',rfl,rfl⟩:=hrel;have HE:=aH he;clear he;go_wp2
   ·go_round
    case rel=>
     obtain⟨e1,e2,e3⟩:=half_step (man b) k m' (by omega) (by omega) HE.out (by simp only[beq_iff_eq]at *;omega);exact⟨m'/2,k+1,e1,e2,by omega,num_i (by omega),num_i (by omega)⟩
    case measure=>
     obtain⟨e1,e2,e3⟩:=half_step (man b) k m' (by omega) (by omega) HE.out (by simp only[beq_iff_eq]at *;omega);simp[intOf];omega
   ·go_ret2
    simp only[beq_iff_eq,beq_eq_false_iff_ne]at *;obtain⟨e1,e2⟩:=pm_of b m' k h4 HE.out (by omega);exact⟨ret_ii (by rw[e1,if_pos (by omega)]) e2.symm,by trivial⟩
   ·go_ret2
    simp only[beq_iff_eq,beq_eq_false_iff_ne]at *;obtain⟨e1,e2⟩:=pm_of b m' k h4 HE.out (by omega);exact⟨ret_ii (by rw[e1,if_neg (by omega)]) e2.symm,by trivial⟩
theorem rparts_any (b:Nat) (h:b<18446744073709551616) (w:World):Calls Tryz.prog 212 #[.int .u64 b] w fun e w'=>e=.returned (.tuple #[.int .i64 (pm b),.int .i64 (pe b)])∧w=w':=by
 by_cases h4:4≤cls b
 ·exact rparts_high b h h4 w
 ·exact rparts_low b (by omega) w
theorem parts_low (b:Nat) (h:b<18446744073709551616) (hlow:cls b<4) (w:World):Calls Tryz.prog 141 #[.float .f64 b] w fun e w'=>e=.returned (.tuple #[.int .i64 (pm b),.int .i64 (pe b)])∧w=w':=by
 have hb:=fun b=>run_bits b;go_enter Tryz.func141,Tryz.ntmps141;go_wp2_with (go_at_call 139;refine(class_any _ h _).mono ?_;rintro e w' ⟨rfl,rfl⟩)
 go_ret2
 refine⟨ret_ii ?_ ?_,rfl⟩
 ·unfold pm;rw[if_pos hlow]
 ·unfold pe;rw[if_pos hlow]
def frc (b:Nat):Nat:=b%4503599627370496
def xpt (b:Nat):Int:=(b:Int)/4503599627370496%2048
theorem tz_man (b:Nat) (h4:4≤cls b) (w:World) (hT:Tab w):Calls Tryz.prog 201 #[.int .u64 (man b)] w fun e w'=>e=.returned (.int .i64 (tzs b))∧w=w':=by
 have hm:=man_bd b h4;exact tz64_any (man b) (by omega) (by omega) w hT
theorem odd_quo (b:Nat) (h4:4≤cls b):wrap64 ((man b:Int)/2^tzs b)=(odd b:Int):=by
 obtain⟨_,_,_,_,h5⟩:=man_odd b h4;have e:((man b:Int)/2^tzs b)=(odd b:Int):=by
  unfold odd;rw[Int.natCast_ediv,Int.natCast_pow];rfl
 rw[e];exact IntWalk.wrap64_in _ ⟨by omega,by omega⟩
theorem pm_pos (b:Nat) (h4:4≤cls b) (hm:mns b=false):wrap64 ((man b:Int)/2^tzs b)=pm b:=by
 rw[odd_quo b h4];unfold pm;rw[if_neg (by omega),hm];rfl
theorem pm_neg (b:Nat) (h4:4≤cls b) (hm:mns b=true):wrap64 (-wrap64 ((man b:Int)/2^tzs b))=pm b:=by
 obtain⟨_,_,_,_,h5⟩:=man_odd b h4;rw[odd_quo b h4];unfold pm;rw[if_neg (by omega),hm,if_pos rfl];exact IntWalk.wrap64_in _ ⟨by omega,by omega⟩
theorem pe_high (b:Nat) (h4:4≤cls b):pe b=exq b+tzs b:=by
 unfold pe;rw[if_neg (by omega)]
theorem parts_5 (b:Nat) (h:b<18446744073709551616) (h5:(cls b==5)=true) (w:World) (hT:Tab w):Calls Tryz.prog 141 #[.float .f64 b] w fun e w'=>e=.returned (.tuple #[.int .i64 (pm b),.int .i64 (pe b)])∧w=w':=by
 have hb:=fun b=>run_bits b;have h4:4≤cls b:=by rw[beq_iff_eq]at h5;omega
 have f1:bits .and .u64 (b:Int) 4503599627370495=(frc b:Nat):=and_frac b h;have f2:bits .or .u64 (frc b:Int) 4503599627370496=(man b:Nat):=by
  rw[or_hidden _ (by unfold frc;omega)];have:=man_5 b h5;unfold frc;omega
 have f3:bits .and .u64 ((b:Int)/4503599627370496) 2047=xpt b:=by
  have:=and_exp (b/4503599627370496) (by omega);unfold xpt;rw[show((b:Int)/4503599627370496)=((b/4503599627370496:Nat):Int)from by omega,this];omega
 have x0:0≤xpt b:=by unfold xpt;omega
 have x1:xpt b≤2047:=by unfold xpt;omega
 have hm:=man_bd b h4;have hz:=(man_odd b h4).2.2.1;go_enter Tryz.func141,Tryz.ntmps141;go_wp2_with (first|(go_at_call 139;refine(class_any _ h _).mono ?_;rintro e w' ⟨rfl,rfl⟩)|(go_at_call 201;refine(tz_man b h4 _ hT).mono ?_;rintro e w' ⟨rfl,rfl⟩)|(go_at_call 140;refine(minus_any _ h _).mono ?_;rintro e w' ⟨rfl,rfl⟩));all_goals go_ret2
 ·exact⟨ret_ii (pm_neg b h4 (by assumption)) (by rw[pe_high b h4,←exq_5 b h5];unfold xpt;omega),by trivial⟩
 ·exact⟨ret_ii (pm_pos b h4 (by assumption)) (by rw[pe_high b h4,←exq_5 b h5];unfold xpt;omega),by trivial⟩
theorem parts_4 (b:Nat) (h:b<18446744073709551616) (hc4:(cls b==4)=true) (w:World) (hT:Tab w):Calls Tryz.prog 141 #[.float .f64 b] w fun e w'=>e=.returned (.tuple #[.int .i64 (pm b),.int .i64 (pe b)])∧w=w':=by
 have hb:=fun b=>run_bits b;have h4:4≤cls b:=by rw[beq_iff_eq]at hc4;omega
 have h5:(cls b==5)=false:=by rw[beq_iff_eq]at hc4;rw[beq_eq_false_iff_ne];omega
 have f1:bits .and .u64 (b:Int) 4503599627370495=(man b:Nat):=by
  rw[and_frac b h];have:=man_4 b h5;omega
 have hm:=man_bd b h4;have hz:=(man_odd b h4).2.2.1;go_enter Tryz.func141,Tryz.ntmps141;go_wp2_with (first|(go_at_call 139;refine(class_any _ h _).mono ?_;rintro e w' ⟨rfl,rfl⟩)|(go_at_call 201;refine(tz_man b h4 _ hT).mono ?_;rintro e w' ⟨rfl,rfl⟩)|(go_at_call 140;refine(minus_any _ h _).mono ?_;rintro e w' ⟨rfl,rfl⟩));all_goals go_ret2
 ·exact⟨ret_ii (pm_neg b h4 (by assumption)) (by rw[pe_high b h4,←exq_4 b h5]),by trivial⟩
 ·exact⟨ret_ii (pm_pos b h4 (by assumption)) (by rw[pe_high b h4,←exq_4 b h5]),by trivial⟩
theorem parts_any (b:Nat) (h:b<18446744073709551616) (w:World) (hT:Tab w):Calls Tryz.prog 141 #[.float .f64 b] w fun e w'=>e=.returned (.tuple #[.int .i64 (pm b),.int .i64 (pe b)])∧w=w':=by
 have hr:=cls_range b;by_cases h4:cls b<4
 ·exact parts_low b h h4 w
 ·by_cases h5:cls b=5
  ·exact parts_5 b h (by rw[h5];rfl) w hT
  ·exact parts_4 b h (by rw[beq_iff_eq];omega) w hT
def sgn (m:Int) (b:Nat):Nat:=if m<0 then b+9223372036854775808 else b
theorem shift_facts (n k:Nat) (h:n<18446744073709551616) (k1:1≤k) (k2:k≤64):
  (n:Int)/2^k=(n/2^k:Nat)∧IntKind.u64.wrap ((n:Int)-IntKind.u64.wrap (((n/2^k:Nat):Int)*2^k))=(n%2^k:Nat)∧IntKind.u64.wrap ((2:Int)^(k-1))=(2^(k-1):Nat)∧n/2^k≤9223372036854775807:=by
 have e0:(n:Int)/2^k=(n/2^k:Nat):=by rw[Int.natCast_ediv,Int.natCast_pow];rfl
 have e1:(((n/2^k:Nat):Int)*2^k)=((n/2^k*2^k:Nat):Int):=by rw[Int.natCast_mul,Int.natCast_pow];rfl
 have e2:=Nat.div_add_mod n (2^k);rw[Nat.mul_comm]at e2;have e3:n/2^k*2^k≤n:=by omega
 have e4:((2:Int)^(k-1))=((2^(k-1):Nat):Int):=by rw[Int.natCast_pow];rfl
 have e5:2^(k-1)≤2^63:=pow_mono (by omega);have e6:n/2^k≤n/2:=by
  apply Nat.div_le_div_left _ (by decide);have:=pow_mono k1;omega
 refine⟨e0,?_,?_,by omega⟩
 ·rw[e1,IntKind.wrap_u64,IntKind.wrap_u64];generalize n/2^k*2^k=Q at *;generalize n%2^k=R at *;clear e0 e1 e4 e5 e6;omega
 ·rw[e4,IntKind.wrap_u64];generalize 2^(k-1)=P at *;clear e0 e1 e2 e3 e4 e6;omega
theorem nshort_any (n k:Nat) (h:n<9223372036854775808) (k1:1≤k) (k2:k≤64) (w:World):Calls Tryz.prog 202 #[.int .u64 n,.int .i64 k] w fun e w'=>e=.returned (.int .i64 (rnd n k))∧∃d,w'=w.drewN d:=by
 obtain⟨f1,f2,f3,f4⟩:=shift_facts n k (by omega) k1 k2;have f5:n/2^k≤4611686018427387904:=by
  have e6:n/2^k≤n/2:=by
   apply Nat.div_le_div_left _ (by decide);have:=pow_mono k1;omega
  omega
 have hf:rnd n k=rndq (n/2^k) (n%2^k) (2^(k-1)):=rfl;generalize n/2^k=q at *;generalize n%2^k=r at *;generalize 2^(k-1)=p at *;have HF:=aH hf;clear hf;go_enter Tryz.func202,Tryz.ntmps202;go_wp2_with (fail);go_quiet (fail);go_wp2;all_goals
  go_ret
  simp only[beq_iff_eq,beq_eq_false_iff_ne]at *;refine⟨ret_i ?_,_,rfl⟩;rw[HF.out];unfold rndq
  split<;>omega
def mk (m e:Int):Nat:=sgn m (mkBits m.natAbs e)
theorem nearest_neg (p:Nat) (e:Int) (hp:p<9223372036854775808) (he: -63≤e) (h1:e<0) (w:World):Calls Tryz.prog 142 #[.int .i64 p,.int .i64 e] w fun e' w'=>e'=.returned (.int .i64 (near p e))∧∃d,w'=w.drewN d:=by
 have hs:∀(w:World),Calls Tryz.prog 202 #[.int .u64 p,.int .i64 (-e)] w fun e' w'=>e'=.returned (.int .i64 (near p e))∧∃d,w'=w.drewN d:=fun w=>by
  have h:=nshort_any p (-e).toNat hp (by omega) (by omega) w;rw[near_rnd p e h1 (by omega) hp,show(((-e).toNat:Nat):Int)= -e from by omega]at h;exact h
 have HS:=aH hs;clear hs;go_enter Tryz.func142,Tryz.ntmps142;go_wp2_with (go_at_call 202;refine(HS.out _).mono ?_;rintro e' w' ⟨rfl,d,rfl⟩)
 go_ret
 exact⟨rfl,_,rfl⟩
theorem nearest_low (p:Nat) (e:Int) (he:e< -63) (w:World):Calls Tryz.prog 142 #[.int .i64 p,.int .i64 e] w fun e' w'=>e'=.returned (.int .i64 (near p e))∧∃d,w'=w.drewN d:=by
 have hn:near p e=0:=by unfold near;rw[if_pos he]
 rw[hn];clear hn;go_enter Tryz.func142,Tryz.ntmps142;go_wp2
 go_ret
 exact⟨rfl,0,rfl⟩
theorem quo_40 (k:Nat):(1099511627776:Int)/2^min k 64=(1099511627776/2^k:Nat):=by
 have e:((1099511627776/2^min k 64:Nat):Int)=(1099511627776:Int)/2^min k 64:=by
  rw[Int.natCast_ediv,Int.natCast_pow];rfl
 rw[←e];by_cases h:k≤64
 ·rw[Nat.min_eq_left h]
 ·have h1:=pow_mono (a:=64) (b:=k) (by omega);rw[Nat.min_eq_right (by omega),Nat.div_eq_of_lt (a:=1099511627776) (b:=2^k) (by omega)]
theorem nearest_up (p:Nat) (e:Int) (h0:0<p) (hp:p<9223372036854775808) (he:0≤e) (h2:e≤2000) (w:World):Calls Tryz.prog 142 #[.int .i64 p,.int .i64 e] w fun e' w'=>e'=.returned (.int .i64 (near p e))∧∃d,w'=w.drewN d:=by
 obtain⟨k,rfl⟩:=Int.eq_ofNat_of_zero_le he;have hn:near p (k:Int)=if 1099511627776/2^k<p then 1099511627777 else p*2^k:=by
  unfold near;rw[if_neg (by omega),if_neg (by omega),Int.toNat_natCast]
 have hq:=quo_40 k;by_cases hlt:1099511627776/2^k<p
 ·rw[if_pos hlt]at hn;rw[hn];clear hn;generalize 1099511627776/2^k=q at *;go_enter Tryz.func142,Tryz.ntmps142;go_wp2
  go_ret
  exact⟨rfl,0,rfl⟩
 ·have hk:k≤40:=by
   apply Nat.le_of_not_lt;intro hh;have h1:=pow_mono (a:=41) (b:=k) (by omega);rw[Nat.div_eq_of_lt (by omega)]at hlt;omega
  have hle:p*2^k≤1099511627776:=by
   rw[quo_lt]at hlt;omega
  rw[if_neg hlt]at hn;rw[hn];have hm:min k 64=k:=Nat.min_eq_left (by omega);rw[hm]at hq;have hw:wrap64 ((p:Int)*2^k)=(p*2^k:Nat):=by
   have e:(p:Int)*2^k=((p*2^k:Nat):Int):=(by rw[Int.natCast_mul,Int.natCast_pow];rfl);rw[e];exact IntWalk.wrap64_in _ ⟨by omega,by omega⟩
  clear hn hm;generalize 1099511627776/2^k=q at *;generalize p*2^k=r at *;go_enter Tryz.func142,Tryz.ntmps142;go_wp2
  go_ret
  exact⟨ret_i hw,0,rfl⟩
theorem nearest_any (p:Nat) (e:Int) (h0:0<p) (hp:p<9223372036854775808) (h2:e≤2000) (w:World):Calls Tryz.prog 142 #[.int .i64 p,.int .i64 e] w fun e' w'=>e'=.returned (.int .i64 (near p e))∧∃d,w'=w.drewN d:=by
 by_cases h:e< -63
 ·exact nearest_low p e h w
 ·by_cases h1:e<0
  ·exact nearest_neg p e hp (by omega) h1 w
  ·exact nearest_up p e h0 hp (by omega) h2 w
theorem pm_plus (b:Nat) (h4:4≤cls b) (hm:mns b=false):pm b=odd b:=by
 unfold pm;rw[if_neg (by omega),hm];rfl
theorem pe_bd (b:Nat): -1074≤pe b∧pe b≤1023:=by
 unfold pe;have:=exq_bd b
 split
 ·omega
 ·have:=(man_odd b (by omega)).2.2.1;omega
theorem ofE_1 (b:Nat) (h:cls b=1):ofE b=20:=by unfold ofE;rw[if_pos h]
theorem ofE_2 (b:Nat) (h:cls b=2):ofE b=21:=by unfold ofE;rw[if_neg (by omega),if_pos h]
theorem ofE_3 (b:Nat) (h:cls b=3):ofE b=0:=by unfold ofE;rw[if_neg (by omega),if_neg (by omega),if_pos h]
theorem ofE_m (b:Nat) (h:4≤cls b) (hm:mns b=true):ofE b=22:=by unfold ofE;rw[if_neg (by omega),if_neg (by omega),if_neg (by omega),if_pos hm]
theorem ofE_p (b:Nat) (h:4≤cls b) (hm:mns b=false):ofE b=if 1099511627776<nanoOf b then 4 else 0:=by unfold ofE;rw[if_neg (by omega),if_neg (by omega),if_neg (by omega),if_neg (by simp[hm])]
theorem ofV_0 (b:Nat) (h:cls b<4∨ofE b≠0):ofV b=0:=by unfold ofV;rw[if_neg (by omega)]
theorem ofV_n (b:Nat) (h:4≤cls b) (h0:ofE b=0):ofV b=nanoOf b:=by unfold ofV;rw[if_pos ⟨h,h0⟩]
theorem of_low (b:Nat) (h:b<18446744073709551616) (hlow:cls b<4) (w:World):Calls Tryz.prog 76 #[.float .f64 b] w fun e w'=>e=.returned (.tuple #[.int .i64 (ofV b),.int .i64 (ofE b)])∧∃d,w'=w.drewN d:=by
 have hr:=cls_range b;have hv:=ofV_0 b (by omega);rw[hv];have hc:cls b=1∨cls b=2∨cls b=3:=by omega
 clear hv hr;rcases hc with hc|hc|hc
 ·rw[ofE_1 b hc];have H:∀w:World,Calls Tryz.prog 139 #[.float .f64 b] w fun e w'=>e=.returned (.int .i64 1)∧w=w':=fun w=>by
   have:=class_any b h w;rw[hc]at this;exact this
  have H':=aH H;clear H hc hlow;go_enter Tryz.func76,Tryz.ntmps76;go_wp2_with (go_at_call 139;refine(H'.out _).mono ?_;rintro e w' ⟨rfl,rfl⟩)
  go_ret2
  exact⟨rfl,0,rfl⟩
 ·rw[ofE_2 b hc];have H:∀w:World,Calls Tryz.prog 139 #[.float .f64 b] w fun e w'=>e=.returned (.int .i64 2)∧w=w':=fun w=>by
   have:=class_any b h w;rw[hc]at this;exact this
  have H':=aH H;clear H hc hlow;go_enter Tryz.func76,Tryz.ntmps76;go_wp2_with (go_at_call 139;refine(H'.out _).mono ?_;rintro e w' ⟨rfl,rfl⟩)
  go_ret2
  exact⟨rfl,0,rfl⟩
 ·rw[ofE_3 b hc];have H:∀w:World,Calls Tryz.prog 139 #[.float .f64 b] w fun e w'=>e=.returned (.int .i64 3)∧w=w':=fun w=>by
   have:=class_any b h w;rw[hc]at this;exact this
  have H':=aH H;clear H hc hlow;go_enter Tryz.func76,Tryz.ntmps76;go_wp2_with (go_at_call 139;refine(H'.out _).mono ?_;rintro e w' ⟨rfl,rfl⟩)
  go_ret2
  exact⟨rfl,0,rfl⟩
theorem of_minus (b:Nat) (h:b<18446744073709551616) (h4:4≤cls b) (hm:mns b=true) (w:World):Calls Tryz.prog 76 #[.float .f64 b] w fun e w'=>e=.returned (.tuple #[.int .i64 (ofV b),.int .i64 (ofE b)])∧∃d,w'=w.drewN d:=by
 have he:=ofE_m b h4 hm;have hv:=ofV_0 b (by omega);rw[hv,he];have c1:(cls b==1)=false:=by rw[beq_eq_false_iff_ne];omega
 have c2:(cls b==2)=false:=by rw[beq_eq_false_iff_ne];omega
 have c3:(cls b==3)=false:=by rw[beq_eq_false_iff_ne];omega
 clear he hv;go_enter Tryz.func76,Tryz.ntmps76;go_wp2_with (first|(go_at_call 139;refine(class_any _ h _).mono ?_;rintro e w' ⟨rfl,rfl⟩)|(go_at_call 140;refine(minus_any _ h _).mono ?_;rintro e w' ⟨rfl,rfl⟩))
 go_ret2
 exact⟨rfl,0,rfl⟩
theorem of_plus (b:Nat) (h:b<18446744073709551616) (h4:4≤cls b) (hm:mns b=false) (w:World) (hT:Tab w):Calls Tryz.prog 76 #[.float .f64 b] w fun e w'=>e=.returned (.tuple #[.int .i64 (ofV b),.int .i64 (ofE b)])∧∃d,w'=w.drewN d:=by
 obtain⟨_,_,_,o1,o2⟩:=man_odd b h4;have hpe:=pe_bd b;have hn:∀w:World,Calls Tryz.prog 142 #[.int .i64 ((odd b:Int)*1000),.int .i64 (pe b)] w fun e' w'=>e'=.returned (.int .i64 (nanoOf b))∧∃d,w'=w.drewN d:=fun w=>
  nearest_any (odd b*1000) (pe b) (by omega) (by omega) (by omega) w
 have hp:∀w:World,Tab w→Calls Tryz.prog 141 #[.float .f64 b] w fun e w'=>e=.returned (.tuple #[.int .i64 (odd b),.int .i64 (pe b)])∧w=w':=fun w hT=>by
  have:=parts_any b h w hT;rw[pm_plus b h4 hm]at this;exact this
 have he:=ofE_p b h4 hm;have hv1:=ofV_n b h4;have hv0:=ofV_0 b;have HN:=aH hn;have HP:=aH hp;have HE:=aH he;have HV1:=aH hv1;have HV0:=aH hv0;have c1:(cls b==1)=false:=by rw[beq_eq_false_iff_ne];omega
 have c2:(cls b==2)=false:=by rw[beq_eq_false_iff_ne];omega
 have c3:(cls b==3)=false:=by rw[beq_eq_false_iff_ne];omega
 clear hn hp he hv1 hv0;go_enter Tryz.func76,Tryz.ntmps76;go_wp2_with (first|(go_at_call 139;refine(class_any _ h _).mono ?_;rintro e w' ⟨rfl,rfl⟩)|(go_at_call 140;refine(minus_any _ h _).mono ?_;rintro e w' ⟨rfl,rfl⟩)|(go_at_call 141;refine(HP.out _ hT).mono ?_;rintro e w' ⟨rfl,rfl⟩)|(go_at_call 142;refine(HN.out _).mono ?_;rintro e' w' ⟨rfl,d,rfl⟩));all_goals go_ret2
 ·have e1:ofE b=4:=by rw[HE.out,if_pos (by omega)]
  exact⟨ret_ii (by rw[HV0.out (by omega)];rfl) e1.symm,_,rfl⟩
 ·have e1:ofE b=0:=by rw[HE.out,if_neg (by omega)]
  exact⟨ret_ii (by rw[HV1.out e1]) e1.symm,_,rfl⟩
theorem of_any (b:Nat) (h:b<18446744073709551616) (w:World) (hT:Tab w):Calls Tryz.prog 76 #[.float .f64 b] w fun e w'=>e=.returned (.tuple #[.int .i64 (ofV b),.int .i64 (ofE b)])∧∃d,w'=w.drewN d:=by
 by_cases h4:4≤cls b
 ·cases hm:mns b
  ·exact of_plus b h h4 hm w hT
  ·exact of_minus b h h4 hm w
 ·exact of_low b h (by omega) w
theorem Tab.drewN {w:World} (h:Tab w) (d:Nat):Tab (w.drewN d):=h
end Go.Proofs.YtmecohdedghiaaaGreatDoor.Nn
namespace Go.Proofs.YtmecohdedghiaaaGreatDoor.Two
open Go.RowKit Go.Maps
theorem law3:Keyed Tryz.prog 3:=int_keyed Tryz.underlying3
theorem zero53 (w:World):(zeroValue 269).run Tryz.prog w=.ok (.agg #[]) w:=by kernel_rfl
def sd (l:List Int):DataW Unit:=setOf (.agg []) (l.map (Lit.int .i64))
theorem sd_snoc (l:List Int) (x:Int):sd (l++[x])=(sd l).put (.int .i64 x) (.agg []):=by
  unfold sd;rw[List.map_append,List.map_cons,List.map_nil,setOf_snoc]
theorem has_sd (l:List Int) (x:Int):Maps.has (sd l) (.int .i64 x)=decide (x∈l):=by
  unfold sd;rw[has_setOf _ _ _ (by intro y hy;obtain⟨z,_,rfl⟩:=List.mem_map.1 hy;trivial)];rw[List.any_map,Bool.eq_iff_iff,List.any_eq_true,decide_eq_true_eq];simp[Lit.sameKey]
theorem fits_wf {n:Int} (h:fits n):(Lit.int .i64 n).wf=true:=by
  unfold fits at h;simpa [Lit.wf,IntKind.min,IntKind.max,IntKind.signed,IntKind.bits]using h
theorem twice_any (v:Value) (xs:List Int) (w:World) (h:IsL w w.heap.size v xs) (hl:xs.length≤1000000):Calls Tryz.prog 240 #[v] w fun e w'=>(∃t,e=.returned (.int .i64 t)∧Tw xs t)∧Below w.heap.size w w':=by
  have hmm:=@run_makeMap Tryz.prog;obtain⟨⟨A,cap,rfl,hcap,hA⟩,hfit,hlen⟩:=h;have HA:=aH hA;have HF:=aH hfit;clear hA hfit;go_enter Tryz.func240,Tryz.ntmps240;go_wp2
  go_loopw [11] (fun i wr=>∃k:Nat,k≤xs.length∧(∀j,j<k→xs.getD j 0 ∉ xs.take j)∧i=.int .i64 (k:Int)∧wr.ownsMap Tryz.prog 3 unitElem w.heap.size k (sd (xs.take k))∧Below w.heap.size w wr) (fun i _=>xs.length-(intOf i).toNat)
  case atStart=>exact⟨0,Nat.zero_le _,fun j hj=>absurd hj (by omega),rfl,World.ownsMap_made _ _ _ _,(bR _ _).alloc (nR _) _⟩
  case round=>
    obtain⟨k,hk,hno,rfl,hown,hbel⟩:=hrel;have HN:=aH hno;have HO:=aH hown;have HL:=aH hbel;clear hno;by_cases hlt:k<xs.length
    · obtain⟨b,off,rfl,hbB,hcell⟩:=HA.out (by omega)
      have hx:wr.cell? ⟨b,off+k,none⟩=some (.int .i64 (xs.getD k 0)):=(hbel.cell (p:=⟨b,off+k,none⟩) hbB).trans (hcell k hlt);have hkey:keyOf Tryz.prog 3 (.int .i64 (xs.getD k 0))=some (.int .i64 (xs.getD k 0)):=keyOf_int_mk Tryz.underlying3 (fits_wf (getD_fits HF.out k));have hhas:=has_sd (xs.take k) (xs.getD k 0);have HTK:=aH (show sd (xs.take (k+1))=(sd (xs.take k)).put (.int .i64 (xs.getD k 0)) (.agg [])by rw[take_getD xs k hlt,sd_snoc]);have HK:=aH hkey;clear hcell hbel hown hkey;by_cases hm:xs.getD k 0∈xs.take k
      · rw[dT hm]at hhas
        have HM:=aH hm;clear hm;generalize hxx:xs.getD k 0=x at *;have HXX:=aH hxx;clear hxx;go_wp2_with (at_lookup;refine wpList_lookup_own_unit _ rfl _ _ 268 rfl 3 269 law3 Tryz.underlying268 (zero53 _) w.heap.size k _ rfl HO.out _ _ rfl HK.out ?_)
        go_ret
        exact⟨⟨_,rfl,Or.inr ⟨k,hlt,rfl,by rw[HXX.out];exact HM.out,HN.out⟩⟩,HL.out.alloc HL.out.size _⟩
      · rw[dF hm]at hhas
        have HM:=aH hm;clear hm;generalize hxx:xs.getD k 0=x at *;have HXX:=aH hxx;clear hxx;go_wp2_with (first
          |(at_lookup;refine wpList_lookup_own_unit _ rfl _ _ 268 rfl 3 269 law3 Tryz.underlying268 (zero53 _) w.heap.size k _ rfl HO.out _ _ rfl HK.out ?_)
          |(at_mapUpdate;refine wpList_mapUpdate_own _ rfl _ _ _ 268 rfl 3 269 law3 Tryz.underlying268 (unitElem (H:=Unit)) w.heap.size k _ rfl (HO.out.alloc _) (by unfold maxLen;omega) _ _ _ rfl rfl HK.out _ [] unitElem_mk ?_;intro w1 hown1 hgrow1))
        have H1:=aH hown1;have H2:=aH ((HL.out.alloc HL.out.size (.cells #[] 269)).grown hgrow1 (by have:=HL.out.size;simp;omega) (fun j hj=>by cases hj;exact nR _));clear hown1 hgrow1
        go_roundw
        case rel=>
          refine⟨k+1,by omega,fun j hj=>?_,num_i (by omega),by rw[HTK.out];exact H1.out,H2.out⟩;rcases Nat.lt_or_ge j k with h|h
          · exact HN.out j h
          · obtain rfl:j=k:=by omega
            rw[HXX.out];exact HM.out
        case measure=>simp[intOf];omega
    · obtain rfl:k=xs.length:=by omega
      clear hbel hown;go_wp2
      go_ret
      exact⟨⟨_,rfl,Or.inl ⟨rfl,HN.out⟩⟩,HL.out⟩
open Go.RowKit
theorem inc_short (l:List Int) (h:l.length≤1):Inc l:=by
  match l,h with
  |[],_=>exact inc_nil
  |[x],_=>exact List.pairwise_singleton _ _
theorem mk_halves (l:List Int) (k:Nat):mk (mk (l.take k)++mk (l.drop k))=mk l:=mk_of (inc_mk _) fun x=>by
  rw[mem_mk,List.mem_append,mem_mk,mem_mk,←List.mem_append,List.take_append_drop]
theorem from_all:∀(n:Nat) (v:Value) (xs:List Int),xs.length≤n→xs.length≤1000→∀w:World,IsL w w.heap.size v xs→
    Calls Tryz.prog 48 #[v] w fun e w'=>∃v,e=.returned v∧IsL w' w'.heap.size v (mk xs)∧Below w.heap.size w w':=by
  intro n
  induction n with
  |zero=>
    intro v xs hn hl w h;obtain rfl:xs=[]:=List.eq_nil_of_length_eq_zero (by omega);have HR:=aH (right_any v [] w h);have HV:=aH h;clear h;go_enter Tryz.func48,Tryz.ntmps48;go_wp2_with fail;refine(HR.out).mono ?_;rintro e w' ⟨rfl,d,rfl⟩;rw[show decide (Inc [])=true from by decide];go_wp2_with (at_builtin;refine wpList_app _ rfl _ _ rfl w.heap.size w.heap.size _ _ [] [] rfl rfl (Own.nil _ _) HV.out (by simp) (nR _) ?_);intro v1 w1 hown hgrow _;have hb1:=Own.grow' (Own.nil (w.drewN d) w.heap.size) (below_drewN (bR _ _) d) (nR _) hgrow;have H1:=aH (hown.isL (by simp));have H2:=aH hb1;clear hown hgrow hb1;go_wp2
    go_ret
    exact⟨_,rfl,H1.out,H2.out⟩
  |succ n ih=>
    intro v xs hn hl w h;have IH:=aH ih;have HR:=aH (right_any v xs w h);have HV:=aH h;clear ih;by_cases hi:Inc xs
    · have hd:decide (Inc xs)=true:=dT hi
      rw[hd]at HR;have HM:=aH (mk_inc hi);clear h hd hi;go_enter Tryz.func48,Tryz.ntmps48;go_wp2_with fail;refine(HR.out).mono ?_;rintro e w' ⟨rfl,d,rfl⟩;go_wp2_with (at_builtin;refine wpList_app _ rfl _ _ rfl w.heap.size w.heap.size _ _ [] xs rfl rfl (Own.nil _ _) HV.out (by simp;omega) (nR _) ?_);intro v1 w1 hown hgrow _;have hb1:=Own.grow' (Own.nil (w.drewN d) w.heap.size) (below_drewN (bR _ _) d) (nR _) hgrow;have H1:=aH (hown.isL (by omega));have H2:=aH hb1;clear hown hgrow hb1;go_wp2
      go_ret
      exact⟨_,rfl,by rw[HM.out];exact H1.out,H2.out⟩
    · have h2:2≤xs.length:=by
        rcases Nat.lt_or_ge xs.length 2 with h|h
        · exact absurd (inc_short xs (by omega)) hi
        · exact h
      have hd:decide (Inc xs)=false:=dF hi;rw[hd]at HR;clear hi hd;obtain⟨⟨A,cap,rfl,hcap,hA⟩,hfit,hlen⟩:=h;obtain⟨b,off,rfl,hb,hcell⟩:=hA (by omega);obtain⟨hf,hhf,hf1,hf2⟩:∃hf:Nat,(xs.length:Int)/2=(hf:Int)∧1≤hf∧hf<xs.length∧hf≤n∧xs.length-hf≤n:=⟨xs.length/2,by omega,by omega,by omega,by omega,by omega⟩;have HT:=aH (IsL.takeLit (cap:=cap) hb hcell hfit (hf) (by omega) (by omega) hlen);have HD:=aH (IsL.dropIf (cap:=cap) hb hcell hfit (hf) (by omega) hcap hlen);have HD2:=aH (IsL.dropLit (cap:=cap) hb hcell hfit (hf) (by omega) hcap hlen).2;have ht:(xs.take (hf)).length=hf:=(by rw[List.length_take];omega);have hdl:(xs.drop (hf)).length=xs.length-hf:=List.length_drop;have HF1:=aH (fun(W:World) (hW:Below w.heap.size w W)=>IH.out _ (xs.take (hf)) (by omega) (by omega) W ((HT.out.below hW).more hW.size));have HF2:=aH (fun(W:World) (hW:Below w.heap.size w W)=>IH.out _ (xs.drop (hf)) (by omega) (by omega) W ((HD.out.below hW).more hW.size));have HF3:=aH (fun(W:World) (hW:Below w.heap.size w W)=>IH.out _ (xs.drop (hf)) (by omega) (by omega) W ((HD2.out.below hW).more hW.size));have hml1:=mk_len_le (xs.take (hf));have hml2:=mk_len_le (xs.drop (hf));have HEI:=aH (fun(a c:Value) (W:World) (h1:IsL W W.heap.size a (mk (xs.take (hf)))) (h2:IsL W W.heap.size c (mk (xs.drop (hf))))=>either_any a c _ _ W h1 h2 (by omega) (inc_mk _) (inc_mk _));have HMK:=aH (mk_halves xs (hf));have i1:(0:Int)≤(hf:Int):=(by omega);have i2:(hf:Int)≤(xs.length:Int):=(by omega);have i3:(hf:Int)≤(cap:Int):=(by omega);have i4:¬cap=hf:=(by omega);clear hA hfit hcell ht hdl hml1 hml2;go_enter Tryz.func48,Tryz.ntmps48;go_wp2_with fail;refine(HR.out).mono ?_;rintro e w' ⟨rfl,d,rfl⟩;have HW0:=aH (below_drewN (bR w.heap.size w) (d+1));go_wp2
      go_region_with (first
        |(go_at_call 48;with_reducible refine(HF1.out _ HW0.out).mono ?_;rintro e w1 ⟨v1,rfl,hv1,hb1⟩
          have HV1:=aH hv1;have HB1:=aH (HW0.out.trans (hb1.mono (nR _)));clear hv1 hb1)
        |(go_at_call 48;first|with_reducible refine(HF2.out _ HB1.out).mono ?_ |with_reducible refine(HF3.out _ HB1.out).mono ?_
          rintro e w2 ⟨v2,rfl,hv2,hb2⟩;have HV2:=aH hv2;have HV1':=aH ((HV1.out.below hb2).more hb2.size);have HB2:=aH (bC HB1.out hb2);clear hv2 hb2)
        |(go_at_call 81;with_reducible refine(HEI.out _ _ _ HV1'.out HV2.out).mono ?_;rintro e w3 ⟨v3,rfl,hv3,hb3⟩
          have HV3:=aH hv3;have HB3:=aH (bC HB2.out hb3);clear hv3 hb3))
      all_goals
        go_wp2
        go_ret
        exact⟨_,rfl,by rw[←HMK.out];exact HV3.out,HB3.out⟩
theorem from_any (v:Value) (xs:List Int) (w:World) (h:IsL w w.heap.size v xs) (hl:xs.length≤1000):
    Calls Tryz.prog 48 #[v] w fun e w'=>∃v,e=.returned v∧IsL w' w'.heap.size v (mk xs)∧Below w.heap.size w w':=from_all xs.length v xs (nR _) hl w h
end Go.Proofs.YtmecohdedghiaaaGreatDoor.Two
