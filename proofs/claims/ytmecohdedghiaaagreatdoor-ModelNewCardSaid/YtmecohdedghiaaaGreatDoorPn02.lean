/- Lists of floats in memory; no-numbers, bits and the two infinities as the program and the reference have them. -/
import Derived.Test.YtmecohdedghiaaaGreatDoorPn00
import Ieee.Arith
import GoSem.Core.Float
import Derived.Laws.FloatArith
set_option maxRecDepth 100000
set_option maxHeartbeats 8000000
namespace Go.Proofs.YtmecohdedghiaaaGreatDoor
open Ieee
theorem sw:double.signWeight=9223372036854775808:=by decide+kernel
theorem bn:double.binade=4503599627370496:=by decide+kernel
theorem ir:double.infRung=9218868437227405312:=by decide+kernel
theorem lp:double.leastPlace= -1074:=by decide+kernel
theorem fb:double.fractionBits=52:=rfl
theorem pow_mono {a b:Nat} (h:a≤b):2^a≤2^b:=Nat.pow_le_pow_right (by decide) h
def nan (b:Nat):Prop:=9218868437227405312<b%9223372036854775808
instance (b:Nat):Decidable (nan b):=Nat.decLt _ _
def nanb (b:Nat):Bool:=decide (nan b)
def sg (s:Bool) (n:Nat):Int:=if s=true then -(n:Int)else n
def sb (b:Nat):Bool:=b/9223372036854775808%2==1
def rg (b:Nat):Nat:=b%9223372036854775808
def vf (b:Nat):Int:=sg (sb b) (rg b)
def rv (r:Nat):Nat:=if r<4503599627370496 then r else(4503599627370496+r%4503599627370496)*2^(r/4503599627370496-1)
theorem rv_succ (r:Nat):rv r<rv (r+1):=by
 unfold rv;by_cases h:r+1<4503599627370496
 ·rw[if_pos (by omega),if_pos h];omega
 ·by_cases h2:r+1=4503599627370496
  ·rw[if_pos (by omega),if_neg h,h2];simp only[Nat.reduceMod,Nat.reduceDiv,Nat.reduceSub,Nat.pow_zero];omega
  ·rw[if_neg (by omega),if_neg h];by_cases h3:r%4503599627370496+1<4503599627370496
   ·have e1:(r+1)%4503599627370496=r%4503599627370496+1:=(by omega);have e2:(r+1)/4503599627370496=r/4503599627370496:=(by omega);rw[e1,e2];exact Nat.mul_lt_mul_of_pos_right (by omega) (Nat.two_pow_pos _)
   ·have e1:(r+1)%4503599627370496=0:=(by omega);have e2:(r+1)/4503599627370496-1=(r/4503599627370496-1)+1:=(by omega);have e3:r%4503599627370496=4503599627370495:=(by omega);rw[e1,e2,e3,Nat.pow_succ];have:=Nat.two_pow_pos (r/4503599627370496-1);generalize 2^(r/4503599627370496-1)=p at *;omega
theorem rv_lt {r s:Nat} (h:r<s):rv r<rv s:=by
 induction s with
 |zero=>omega
 |succ s ih=>
  by_cases e:r=s
  ·subst e;exact rv_succ r
  ·exact Nat.lt_trans (ih (by omega)) (rv_succ s)
theorem rv_iff (r s:Nat):rv r<rv s↔r<s:=by
 constructor
 ·intro h;apply Nat.lt_of_not_le;intro hh;rcases Nat.lt_or_eq_of_le hh with h2|h2
  ·have:=rv_lt h2;omega
  ·rw[h2]at h;omega
 ·exact rv_lt
theorem rv_eq (r s:Nat):rv r=rv s↔r=s:=by
 constructor
 ·intro h;rcases Nat.lt_trichotomy r s with h1|h1|h1
  ·have:=rv_lt h1;omega
  ·exact h1
  ·have:=rv_lt h1;omega
 ·intro h;rw[h]
theorem rv_0:rv 0=0:=by unfold rv;rw[if_pos (by omega)]
theorem read_fin (b:Nat) (h:rg b<9218868437227405312):∃(m:Nat) (p:Int),double.read b=.number (sb b) m p∧ -1074≤p∧m*2^(p+1074).toNat=rv (rg b):=by
 unfold Format.read;simp only[sw,bn,ir,lp];unfold rg at h⊢;by_cases h1:b%9223372036854775808<4503599627370496
 ·rw[if_pos h1];refine⟨_,_,rfl,by omega,?_⟩;unfold rv;rw[if_pos h1];simp
 ·rw[if_neg h1,if_pos h];refine⟨_,_,rfl,by omega,?_⟩;unfold rv;rw[if_neg h1]
  congr 2
  omega
theorem read_inf (b:Nat) (h:rg b=9218868437227405312):double.read b=.infinity (sb b):=by
 unfold Format.read;simp only[sw,bn,ir,lp];unfold rg at h;rw[h,if_neg (by omega),if_neg (by omega),if_pos rfl];rfl
theorem read_nan (b:Nat) (h:nan b):∃s t,double.read b=.nan s t:=by
 unfold Format.read;simp only[sw,bn,ir,lp];unfold nan at h;rw[if_neg (by omega),if_neg (by omega),if_neg (by omega)];exact⟨_,_,rfl⟩
theorem signed_sg (s:Bool) (m k:Nat):signed s m k=sg s (m*2^k):=by
 unfold signed sg;rw[Nat.shiftLeft_eq]
theorem sg_mul (s:Bool) (n k:Nat):sg s (n*k)=sg s n*(k:Int):=by
 unfold sg
 split
 ·rw[Int.natCast_mul,Int.neg_mul]
 ·rw[Int.natCast_mul]
theorem sg_lt (f:Nat→Nat) (hf:∀x y,f x<f y↔x<y) (he:∀x y,f x=f y↔x=y) (h0:f 0=0) (s t:Bool) (x y:Nat):(sg s (f x)<sg t (f y)↔sg s x<sg t y)∧(sg s (f x)=sg t (f y)↔sg s x=sg t y):=by
 have a:=hf x y;have b:=hf y x;have c:=he x y;have d:=hf 0 x;have e:=hf 0 y;rw[h0]at d e;unfold sg
 cases s<;>cases t<;>simp only[Bool.false_eq_true,if_true,if_false]<;>constructor<;>omega
theorem cmp_congr {a b c d:Int} (h1:a<b↔c<d) (h2:a=b↔c=d):compare a b=compare c d:=by
 simp only[compare,compareOfLessAndEq,h1,h2]
theorem cmp_mul (a b:Int) (k:Nat) (hk:0<k):compare (a*(k:Int)) (b*(k:Int))=compare a b:=by
 have hk':(0:Int)<k:=by omega
 refine cmp_congr ⟨fun h=>Int.lt_of_mul_lt_mul_right h (Int.le_of_lt hk'),fun h=>Int.mul_lt_mul_of_pos_right h hk'⟩ ⟨fun h=>Int.eq_of_mul_eq_mul_right (by omega) h,fun h=>by rw[h]⟩
theorem order_num (a b:Nat) (ha:¬nan a) (hb:¬nan b):double.order a b=some (compare (vf a) (vf b)):=by
 have e:=sg_lt rv rv_iff rv_eq rv_0 (sb a) (sb b) (rg a) (rg b);have ha':rg a≤9218868437227405312:=by unfold nan at ha;unfold rg;omega
 have hb':rg b≤9218868437227405312:=by unfold nan at hb;unfold rg;omega
 unfold Format.order vf;by_cases h1:rg a=9218868437227405312
 ·rw[read_inf a h1];by_cases h2:rg b=9218868437227405312
  ·rw[read_inf b h2,h1,h2];unfold Datum.order sg
   cases sb a<;>cases sb b<;>rfl
  ·obtain⟨m,p,hr,_,_⟩:=read_fin b (by omega);rw[hr,h1];unfold Datum.order sg
   congr 1
   cases sb a<;>cases sb b<;>simp only[Bool.false_eq_true,if_true,if_false,compare,compareOfLessAndEq]<;>(repeat' split)<;>first|rfl|omega
 ·obtain⟨m,p,hr,hp,hv⟩:=read_fin a (by omega);rw[hr];by_cases h2:rg b=9218868437227405312
  ·rw[read_inf b h2,h2];unfold Datum.order sg
   congr 1
   cases sb a<;>cases sb b<;>simp only[Bool.false_eq_true,if_true,if_false,compare,compareOfLessAndEq]<;>(repeat' split)<;>first|rfl|omega
  ·obtain⟨n,q,hr2,hq,hv2⟩:=read_fin b (by omega);rw[hr2];unfold Datum.order
   congr 1
   simp only[signed_sg];rw[←cmp_mul _ _ (2^(min p q+1074).toNat) (Nat.two_pow_pos _),←sg_mul,←sg_mul,Nat.mul_assoc,Nat.mul_assoc,←Nat.pow_add,←Nat.pow_add];rw[show(p-min p q).toNat+(min p q+1074).toNat=(p+1074).toNat by omega,show(q-min p q).toNat+(min p q+1074).toNat=(q+1074).toNat by omega,hv,hv2];exact congrArg some (cmp_congr e.1 e.2)
theorem order_nan (a b:Nat) (h:nan a∨nan b):double.order a b=none:=by
 unfold Format.order;rcases h with h|h
 ·obtain⟨s,t,e⟩:=read_nan a h;rw[e];rfl
 ·obtain⟨s,t,e⟩:=read_nan b h;rw[e]
  cases double.read a<;>rfl
def ltb (a b:Nat):Bool:=FloatKind.f64.format.order a b==some .lt
def gtb (a b:Nat):Bool:=FloatKind.f64.format.order a b==some .gt
def leb (a b:Nat):Bool:=FloatKind.f64.format.order a b==some .lt||FloatKind.f64.format.order a b==some .eq
def geb (a b:Nat):Bool:=FloatKind.f64.format.order a b==some .gt||FloatKind.f64.format.order a b==some .eq
theorem ltb_iff (a b:Nat):ltb a b=true↔¬nan a∧¬nan b∧vf a<vf b:=by
 unfold ltb;by_cases h:nan a∨nan b
 ·rw[show FloatKind.f64.format.order a b=none from order_nan a b h];simp;intro h1 h2;exact absurd h (by simp[h1,h2])
 ·have h1:¬nan a:=fun x=>h (.inl x);have h2:¬nan b:=fun x=>h (.inr x);rw[show FloatKind.f64.format.order a b=_ from order_num a b h1 h2];simp only[h1,h2,not_false_eq_true,true_and,compare,compareOfLessAndEq];(repeat' split)<;>simp<;>omega
theorem gtb_iff (a b:Nat):gtb a b=true↔¬nan a∧¬nan b∧vf b<vf a:=by
 unfold gtb;by_cases h:nan a∨nan b
 ·rw[show FloatKind.f64.format.order a b=none from order_nan a b h];simp;intro h1 h2;exact absurd h (by simp[h1,h2])
 ·have h1:¬nan a:=fun x=>h (.inl x);have h2:¬nan b:=fun x=>h (.inr x);rw[show FloatKind.f64.format.order a b=_ from order_num a b h1 h2];simp only[h1,h2,not_false_eq_true,true_and,compare,compareOfLessAndEq];(repeat' split)<;>simp<;>omega
theorem leb_iff (a b:Nat):leb a b=true↔¬nan a∧¬nan b∧vf a≤vf b:=by
 unfold leb;by_cases h:nan a∨nan b
 ·rw[show FloatKind.f64.format.order a b=none from order_nan a b h];simp;intro h1 h2;exact absurd h (by simp[h1,h2])
 ·have h1:¬nan a:=fun x=>h (.inl x);have h2:¬nan b:=fun x=>h (.inr x);rw[show FloatKind.f64.format.order a b=_ from order_num a b h1 h2];simp only[h1,h2,not_false_eq_true,true_and,compare,compareOfLessAndEq];(repeat' split)<;>simp<;>omega
theorem geb_iff (a b:Nat):geb a b=true↔¬nan a∧¬nan b∧vf b≤vf a:=by
 unfold geb;by_cases h:nan a∨nan b
 ·rw[show FloatKind.f64.format.order a b=none from order_nan a b h];simp;intro h1 h2;exact absurd h (by simp[h1,h2])
 ·have h1:¬nan a:=fun x=>h (.inl x);have h2:¬nan b:=fun x=>h (.inr x);rw[show FloatKind.f64.format.order a b=_ from order_num a b h1 h2];simp only[h1,h2,not_false_eq_true,true_and,compare,compareOfLessAndEq];(repeat' split)<;>simp<;>omega
theorem self_eq (a:Nat):(FloatKind.f64.format.order a a != some .eq)=nanb a:=by
 unfold nanb;by_cases h:nan a
 ·rw[show FloatKind.f64.format.order a a=none from order_nan a a (.inl h),dT h];rfl
 ·rw[show FloatKind.f64.format.order a a=_ from order_num a a h h,dF h];simp[compare,compareOfLessAndEq]
def rne (n k:Nat):Nat:=if 2^k<2*(n%2^k)∨(2^k=2*(n%2^k)∧n/2^k%2=1)then n/2^k+1 else n/2^k
theorem cut_at (neg:Bool) (n d:Nat) (h:d≤n.log2+2):Toward.even.cut neg n d=rne n d:=by
 unfold Toward.cut rne;simp only[Nat.min_eq_left h,Nat.shiftLeft_eq,Nat.one_mul];generalize n%2^d=r;generalize n/2^d=q;generalize 2^d=g;by_cases c:g<2*r∨(g=2*r∧q%2=1)
 ·rw[if_pos c];have:(decide (g<2*r)||g==2*r&&q%2==1)=true:=by simpa using c
  rw[this];rfl
 ·rw[if_neg c];have:(decide (g<2*r)||g==2*r&&q%2==1)=false:=by
   rw[←Bool.not_eq_true];simpa using c
  rw[this];rfl
theorem rne_exact (n k:Nat):rne (n*2^k) k=n:=by
 unfold rne;rw[Nat.mul_div_cancel _ (Nat.two_pow_pos k),Nat.mul_mod_left];have:=Nat.two_pow_pos k;rw[if_neg (by omega)]
theorem rne_mul (n k j:Nat):rne (n*2^j) (k+j)=rne n k:=by
 have hp:=Nat.two_pow_pos j;have e1:n*2^j/2^(k+j)=n/2^k:=by rw[Nat.pow_add,Nat.mul_div_mul_right _ _ hp]
 have e2:n*2^j%2^(k+j)=n%2^k*2^j:=by rw[Nat.pow_add,Nat.mul_mod_mul_right]
 have e3:2^(k+j)=2^k*2^j:=Nat.pow_add _ _ _;unfold rne;rw[e1,e2,e3,←Nat.mul_assoc];have c1:(2^k*2^j<2*(n%2^k)*2^j)↔(2^k<2*(n%2^k)):=Nat.mul_lt_mul_right hp;have c2:(2^k*2^j=2*(n%2^k)*2^j)↔(2^k=2*(n%2^k)):=Nat.mul_right_cancel_iff hp;simp only[c1,c2]
theorem rne_mono (n m k:Nat) (h:n≤m):rne n k≤rne m k:=by
 have hq:n/2^k≤m/2^k:=Nat.div_le_div_right h;have d1:=Nat.div_add_mod n (2^k);have d2:=Nat.div_add_mod m (2^k);unfold rne;by_cases he:n/2^k=m/2^k
 ·rw[he]at d1⊢;have hr:n%2^k≤m%2^k:=by omega
  generalize n%2^k=r at *;generalize m%2^k=s at *;generalize m/2^k=q at *;(repeat' split)<;>omega
 ·(repeat' split)<;>omega
theorem rne_le (n k:Nat):n/2^k≤rne n k∧rne n k≤n/2^k+1:=by
 unfold rne
 split<;>omega
def R (X:Nat):Nat:=min ((X.log2-52)*4503599627370496+rne X (X.log2-52)) 9218868437227405312
theorem R_0:R 0=0:=by
 unfold R rne;rw[Nat.log2_zero];simp
theorem R_le (X:Nat):R X≤9218868437227405312:=by unfold R;omega
theorem log2_shift (m k:Nat) (hm:m≠0):(m*2^k).log2=m.log2+k:=by
 have h1:=Nat.log2_self_le hm;have h2:=@Nat.lt_log2_self m;have hz:m*2^k≠0:=Nat.mul_ne_zero hm (by have:=Nat.two_pow_pos k;omega);have a:m.log2+k≤(m*2^k).log2:=(Nat.le_log2 hz).2 (by rw[Nat.pow_add];exact Nat.mul_le_mul_right _ h1);have b:(m*2^k).log2<m.log2+k+1:=(Nat.log2_lt hz).2 (by
  rw[show m.log2+k+1=(m.log2+1)+k by omega,Nat.pow_add];exact Nat.mul_lt_mul_of_pos_right h2 (Nat.two_pow_pos k))
 omega
theorem kept_R (neg:Bool) (m:Nat) (p l:Int) (d k:Nat) (hp: -1074≤p) (hk:k=(p+1074).toNat) (hd:d=m.log2+k-52) (hl:l=max (p+(m.log2:Int)-52) (-1074)):
  Toward.even.cut neg (m <<< (p-l).toNat) (l-p).toNat=rne (m*2^k) d:=by
 by_cases hlp:l≤p
 ·have e2:(l-p).toNat=0:=by omega
  rw[e2,cut_at _ _ _ (Nat.zero_le _),Nat.shiftLeft_eq];have e3:k=(p-l).toNat+d:=by omega
  have e4:m*2^k=m*2^(p-l).toNat*2^d:=by
   rw[Nat.mul_assoc,←Nat.pow_add,←e3]
  rw[e4,rne_exact];have y:=rne_exact (m*2^(p-l).toNat) 0;rw[Nat.pow_zero,Nat.mul_one]at y;exact y
 ·have e2:(p-l).toNat=0:=by omega
  rw[e2,Nat.shiftLeft_eq,Nat.pow_zero,Nat.mul_one,cut_at _ _ _ (by omega)];have e3:d=(l-p).toNat+k:=by omega
  rw[e3,rne_mul]
theorem nearest_R (neg:Bool) (m:Nat) (p:Int) (hp: -1074≤p):double.nearest neg m p=double.word neg (R (m*2^(p+1074).toNat)):=by
 unfold Format.nearest;by_cases hm:m=0
 ·subst hm;rw[if_pos rfl,Nat.zero_mul,R_0]
 ·rw[if_neg hm];simp only[fb,lp,bn,ir];have e0:=kept_R neg m p _ _ _ hp rfl rfl rfl;have e1:(max (p+(m.log2:Int)-((52:Nat):Int)) (-1074)- -1074).toNat=m.log2+(p+1074).toNat-52:=by omega
  unfold R;rw[log2_shift m _ hm,←e0,e1];rfl
theorem top_ge (Y l d:Nat) (hy:2^l≤Y) (hd:l=52+d):2^52≤Y/2^d:=by
 subst hd;rw[Nat.pow_add]at hy;exact(Nat.le_div_iff_mul_le (Nat.two_pow_pos _)).2 hy
theorem top_lt (X l d:Nat) (hx:X<2^(l+1)) (hd:l+1≤53+d):X/2^d<2^53:=by
 rw[Nat.div_lt_iff_lt_mul (Nat.two_pow_pos _),←Nat.pow_add];exact nL hx (pow_mono hd)
theorem p52:(2:Nat)^52=4503599627370496:=by decide
theorem p53:(2:Nat)^53=9007199254740992:=by decide
theorem low_R (l m a b:Nat) (hl:l<m) (hm:52<m) (hb:4503599627370496≤b) (ha:a≤9007199254740992) (hs:l<52→a≤4503599627370496):(l-52)*4503599627370496+a≤(m-52)*4503599627370496+b:=by
 by_cases h:l<52
 ·have:=hs h;omega
 ·omega
theorem R_mono {X Y:Nat} (h:X≤Y):R X≤R Y:=by
 by_cases hx:X=0
 ·rw[hx,R_0];exact Nat.zero_le _
 have hy:Y≠0:=fun h0=>hx (by rw[h0]at h;exact Nat.le_zero.1 h);have x1:=Nat.log2_self_le hx;have x2:=@Nat.lt_log2_self X;have y1:=Nat.log2_self_le hy;have hl:X.log2≤Y.log2:=(Nat.le_log2 hy).2 (Nat.le_trans x1 h);have key:(X.log2-52)*4503599627370496+rne X (X.log2-52)≤(Y.log2-52)*4503599627370496+rne Y (Y.log2-52):=by
  by_cases he:X.log2=Y.log2
  ·rw[he];exact Nat.add_le_add_left (rne_mono X Y _ h) _
  ·by_cases hs:Y.log2≤52
   ·have e1:X.log2-52=0:=(by clear x1 x2 y1;omega);have e2:Y.log2-52=0:=(by clear x1 x2 y1;omega);rw[e1,e2];exact Nat.add_le_add_left (rne_mono X Y _ h) _
   ·have t1:=top_ge Y Y.log2 (Y.log2-52) y1 (by clear x1 x2 y1;omega);have t2:=top_lt X X.log2 (X.log2-52) x2 (by clear x1 x2 y1;omega);rw[p52]at t1;rw[p53]at t2;have r1:=(rne_le Y (Y.log2-52)).1;have r2:=(rne_le X (X.log2-52)).2;refine low_R _ _ _ _ (by clear x1 x2 y1;omega) (by clear x1 x2 y1;omega) (Nat.le_trans t1 r1) (Nat.le_trans r2 t2) fun hlt=>?_;have e1:X.log2-52=0:=(by clear x1 x2 y1;omega);rw[e1];have hb:X<2^52:=nL x2 (pow_mono (by clear x1 x2 y1;omega));have r3:=(rne_le X 0).2;rw[Nat.pow_zero,Nat.div_one]at r3;rw[p52]at hb;exact Nat.le_trans r3 hb
 unfold R;exact Nat.le_min.2 ⟨Nat.le_trans (Nat.min_le_left _ _) key,Nat.min_le_right _ _⟩
theorem R_rv (r:Nat) (h:r≤9218868437227405312):R (rv r)=r:=by
 unfold rv;by_cases h1:r<4503599627370496
 ·rw[if_pos h1];by_cases h0:r=0
  ·rw[h0,R_0]
  ·have hl:r.log2<52:=(Nat.log2_lt h0).2 (by omega);unfold R;rw[show r.log2-52=0 by omega];have y:=rne_exact r 0;rw[Nat.pow_zero,Nat.mul_one]at y;rw[y];omega
 ·rw[if_neg h1];have hl:(4503599627370496+r%4503599627370496).log2=52:=by
   have hz:4503599627370496+r%4503599627370496≠0:=(by omega);have a:=(Nat.le_log2 hz (k:=52)).2 (by omega);have b:=(Nat.log2_lt hz (k:=53)).2 (by omega);omega
  unfold R;rw[log2_shift _ _ (by omega),hl,show 52+(r/4503599627370496-1)-52=r/4503599627370496-1 by omega,rne_exact];omega
def RI (T:Int):Int:=sg (decide (T<0)) (R T.natAbs)
theorem RI_mono {S T:Int} (h:S≤T):RI S≤RI T:=by
 unfold RI sg;by_cases h1:S<0
 ·rw[dT h1,if_pos rfl];by_cases h2:T<0
  ·rw[dT h2,if_pos rfl];have:=R_mono (X:=T.natAbs) (Y:=S.natAbs) (by omega);omega
  ·rw[dF h2,if_neg (by simp)];omega
 ·rw[dF h1,dF (by omega),if_neg (by simp),if_neg (by simp)];have:=R_mono (X:=S.natAbs) (Y:=T.natAbs) (by omega);omega
def big:Nat:=2*rv 9218868437227405312
def rw' (r:Nat):Nat:=if r<9218868437227405312 then rv r else big
def xv (b:Nat):Int:=sg (sb b) (rw' (rg b))
theorem rv_top (r:Nat) (h:r<9218868437227405312):rv r<rv 9218868437227405312:=rv_lt h
theorem rw_lt (r s:Nat) (hr:r≤9218868437227405312) (hs:s≤9218868437227405312) (h:r≤s):rw' r≤rw' s:=by
 unfold rw' big;by_cases h2:s<9218868437227405312
 ·rw[if_pos (by omega),if_pos h2];rcases Nat.lt_or_eq_of_le h with h3|h3
  ·exact Nat.le_of_lt (rv_lt h3)
  ·rw[h3];omega
 ·rw[if_neg h2]
  split
  ·rename_i h4
   have:=rv_top r h4;omega
  ·omega
theorem rw_0:rw' 0=0:=by unfold rw';rw[if_pos (by omega),rv_0]
theorem R_rw (r:Nat) (h:r≤9218868437227405312):R (rw' r)=r:=by
 unfold rw'
 split
 ·exact R_rv r h
 ·have e:r=9218868437227405312:=by omega
  have h1:=R_mono (X:=rv 9218868437227405312) (Y:=big) (by unfold big;omega);rw[R_rv _ (by omega)]at h1;have:=R_le big;omega
theorem not_nan (b:Nat) (h:¬nan b):rg b≤9218868437227405312:=by unfold nan at h;unfold rg;omega
theorem RI_xv (b:Nat) (h:¬nan b):RI (xv b)=vf b:=by
 have hb:=not_nan b h;have e:=R_rw (rg b) hb;have h0:=R_0;unfold RI xv vf;generalize hx:rw' (rg b)=x at *;unfold sg
 cases sb b
 ·simp only[Bool.false_eq_true,if_false];rw[dF (by omega),if_neg (by simp),Int.natAbs_natCast,e]
 ·simp only[if_true];rw[Int.natAbs_neg,Int.natAbs_natCast,e];by_cases hz:x=0
  ·rw[hz,h0]at e;rw[←e]
   split<;>rfl
  ·rw[dT (by omega),if_pos rfl]
theorem xv_mono {a b:Nat} (ha:¬nan a) (hb:¬nan b) (h:vf a≤vf b):xv a≤xv b:=by
 have h1:=not_nan a ha;have h2:=not_nan b hb;have h0:=rw_0;unfold xv vf sg at *;have m1:=rw_lt (rg a) (rg b) h1 h2;have m2:=rw_lt (rg b) (rg a) h2 h1;have z1:=rw_lt (rg a) 0 h1 (by omega);have z2:=rw_lt (rg b) 0 h2 (by omega);rw[h0]at z1 z2;generalize rw' (rg a)=x at *;generalize rw' (rg b)=y at *;revert h
 cases sb a<;>cases sb b<;>simp only[Bool.false_eq_true,if_true,if_false]<;>omega
theorem word_vf (neg:Bool) (r:Nat) (h:r≤9218868437227405312):vf (double.word neg r)=sg neg r∧¬nan (double.word neg r)∧double.word neg r<18446744073709551616:=by
 unfold Format.word vf sb rg nan;rw[sw]
 cases neg
 ·simp only[Bool.false_eq_true,if_false];have e1:(r/9223372036854775808%2==1)=false:=by rw[beq_eq_false_iff_ne];omega
  have e2:r%9223372036854775808=r:=by omega
  rw[e1,e2];exact⟨rfl,by omega,by omega⟩
 ·simp only[if_true];have e1:((9223372036854775808+r)/9223372036854775808%2==1)=true:=by rw[beq_iff_eq];omega
  have e2:(9223372036854775808+r)%9223372036854775808=r:=by omega
  rw[e1,e2];exact⟨rfl,by omega,by omega⟩
def clash (a b:Nat):Prop:=rg a=9218868437227405312∧rg b=9218868437227405312∧sb a≠sb b
theorem R_big (X:Nat) (h:rv 9218868437227405312≤X):R X=9218868437227405312:=by
 have h1:=R_mono h;rw[R_rv _ (by omega)]at h1;have:=R_le X;omega
theorem RI_pos (T:Int) (h:(rv 9218868437227405312:Int)≤T):RI T=9218868437227405312:=by
 unfold RI sg;rw[dF (by omega),if_neg (by simp),R_big _ (by omega)];rfl
theorem RI_neg (T:Int) (h:T≤ -(rv 9218868437227405312:Int)):RI T= -9218868437227405312:=by
 have hz:0<rv 9218868437227405312:=by
  have:=rv_top 0 (by omega);omega
 unfold RI sg;rw[dT (by omega),if_pos rfl,R_big _ (by omega)];rfl
theorem xv_fin (b:Nat) (h:rg b<9218868437227405312):xv b=sg (sb b) (rv (rg b)):=by unfold xv rw';rw[if_pos h]
theorem xv_inf (b:Nat) (h:rg b=9218868437227405312):xv b=sg (sb b) (2*rv 9218868437227405312):=by unfold xv rw' big;rw[if_neg (by omega)]
theorem fin_bd (b:Nat) (h:rg b<9218868437227405312): -(rv 9218868437227405312:Int)≤xv b∧xv b≤rv 9218868437227405312:=by
 have:=rv_top _ h;rw[xv_fin b h];unfold sg
 split<;>omega
theorem inf_sum (s:Bool) (T x:Int) (h:T=sg s (2*rv 9218868437227405312)+x) (h1: -(rv 9218868437227405312:Int)≤x∧x≤rv 9218868437227405312):RI T=sg s 9218868437227405312:=by
 subst h
 cases s
 ·exact RI_pos _ (by unfold sg;rw[if_neg (by simp)];omega)
 ·exact RI_neg _ (by unfold sg;rw[if_pos rfl];omega)
theorem write_inf (s:Bool):double.write (.infinity s)=double.word s 9218868437227405312:=by
 unfold Format.write;rw[ir]
theorem add_some (a b:Nat) (ha:¬nan a) (hb:¬nan b) (hc:¬clash a b):∃p,double.add a b=some p∧¬nan p∧p<18446744073709551616∧vf p=RI (xv a+xv b):=by
 have h1:=not_nan a ha;have h2:=not_nan b hb;unfold Format.add;by_cases ia:rg a=9218868437227405312
 ·rw[read_inf a ia];by_cases ib:rg b=9218868437227405312
  ·rw[read_inf b ib];have hs:sb a=sb b:=by
    apply Decidable.byContradiction;intro hh;exact hc ⟨ia,ib,hh⟩
   simp only[Datum.sum,hs,if_true,Option.map_some,write_inf];obtain⟨w1,w2,w3⟩:=word_vf (sb b) 9218868437227405312 (by omega);refine⟨_,rfl,w2,w3,?_⟩;rw[w1,xv_inf a ia,xv_inf b ib,hs];have hz:0<rv 9218868437227405312:=by
    have:=rv_top 0 (by omega);omega
   cases sb b
   ·exact(RI_pos _ (by unfold sg;rw[if_neg (by simp)];omega)).symm
   ·exact(RI_neg _ (by unfold sg;rw[if_pos rfl];omega)).symm
  ·obtain⟨n,q,hr2,_,_⟩:=read_fin b (by omega);rw[hr2];simp only[Datum.sum,Option.map_some,write_inf];obtain⟨w1,w2,w3⟩:=word_vf (sb a) 9218868437227405312 (by omega);refine⟨_,rfl,w2,w3,?_⟩;rw[w1];exact(inf_sum (sb a) _ (xv b) (by rw[xv_inf a ia]) (fin_bd b (by omega))).symm
 ·obtain⟨m,p,hr,hp,hv⟩:=read_fin a (by omega);rw[hr];by_cases ib:rg b=9218868437227405312
  ·rw[read_inf b ib];simp only[Datum.sum,Option.map_some,write_inf];obtain⟨w1,w2,w3⟩:=word_vf (sb b) 9218868437227405312 (by omega);refine⟨_,rfl,w2,w3,?_⟩;rw[w1];exact(inf_sum (sb b) _ (xv a) (by rw[xv_inf b ib,Int.add_comm]) (fin_bd a (by omega))).symm
  ·obtain⟨n,q,hr2,hq,hv2⟩:=read_fin b (by omega);rw[hr2];simp only[Datum.sum,Option.map_some,Format.write];have hbase: -1074≤min p q:=(by omega);rw[nearest_R _ _ _ hbase];have hT:(signed (sb a) m (p-min p q).toNat+signed (sb b) n (q-min p q).toNat)*((2^(min p q+1074).toNat:Nat):Int)=xv a+xv b:=by
    rw[xv_fin a (by omega),xv_fin b (by omega),Int.add_mul,signed_sg,signed_sg,←sg_mul,←sg_mul,Nat.mul_assoc,Nat.mul_assoc,←Nat.pow_add,←Nat.pow_add];rw[show(p-min p q).toNat+(min p q+1074).toNat=(p+1074).toNat by omega,show(q-min p q).toNat+(min p q+1074).toNat=(q+1074).toNat by omega,hv,hv2]
   rw[←hT];have hk:=Nat.two_pow_pos (min p q+1074).toNat;generalize 2^(min p q+1074).toNat=k at *;generalize signed (sb a) m (p-min p q).toNat+signed (sb b) n (q-min p q).toNat=T at *;obtain⟨w1,w2,w3⟩:=word_vf (if T=0 then sb a&&sb b else decide (T<0)) (R (T.natAbs*k)) (R_le _);refine⟨_,rfl,w2,w3,?_⟩;rw[w1];unfold RI;rw[Int.natAbs_mul,Int.natAbs_natCast];by_cases hz:T=0
   ·subst hz;rw[if_pos rfl,Int.zero_mul,Int.natAbs_zero,Nat.zero_mul,R_0];unfold sg;simp
   ·rw[if_neg hz]
    congr 1
    rw[decide_eq_decide];have hk':(0:Int)<k:=(by omega);constructor
    ·intro h;exact Int.mul_neg_of_neg_of_pos h hk'
    ·intro h;apply Int.lt_of_not_ge;intro hh;have:=Int.mul_nonneg hh (Int.le_of_lt hk');omega
theorem add_none (a b:Nat) (h:nan a∨nan b∨clash a b):double.add a b=none:=by
 unfold Format.add;rcases h with h|h|⟨ia,ib,hs⟩
 ·obtain⟨s,t,e⟩:=read_nan a h;rw[e];rfl
 ·obtain⟨s,t,e⟩:=read_nan b h;rw[e]
  cases double.read a<;>rfl
 ·rw[read_inf a ia,read_inf b ib];simp only[Datum.sum,if_neg hs,Option.map_none]
def flip (b:Nat):Nat:=if 9223372036854775808≤b then b-9223372036854775808 else b+9223372036854775808
theorem flip_parts (b:Nat) (h:b<18446744073709551616):rg (flip b)=rg b∧sb (flip b)= !sb b:=by
 unfold flip rg sb
 split
 ·refine⟨by omega,?_⟩;have e1:(b/9223372036854775808%2==1)=true:=by rw[beq_iff_eq];omega
  have e2:((b-9223372036854775808)/9223372036854775808%2==1)=false:=by rw[beq_eq_false_iff_ne];omega
  rw[e1,e2];rfl
 ·refine⟨by omega,?_⟩;have e1:(b/9223372036854775808%2==1)=false:=by rw[beq_eq_false_iff_ne];omega
  have e2:((b+9223372036854775808)/9223372036854775808%2==1)=true:=by rw[beq_iff_eq];omega
  rw[e1,e2];rfl
theorem nan_rg (b:Nat):nan b↔9218868437227405312<rg b:=Iff.rfl
theorem sub_flip (a b:Nat) (h:b<18446744073709551616):double.sub a b=double.add a (flip b):=by
 obtain⟨h1,h2⟩:=flip_parts b h;have e:double.read (flip b)=(double.read b).opposite:=by
  unfold rg at h1;unfold sb at h2;unfold Format.read;simp only[sw,bn,ir,lp];rw[h1,h2];(repeat' split)<;>rfl
 unfold Format.sub Format.add;rw[e]
theorem xv_flip (b:Nat) (h:b<18446744073709551616):xv (flip b)= -xv b:=by
 obtain⟨h1,h2⟩:=flip_parts b h;unfold xv sg;rw[h1,h2]
 cases sb b<;>simp
def clashS (a b:Nat):Prop:=rg a=9218868437227405312∧rg b=9218868437227405312∧sb a=sb b
theorem clash_flip (a b:Nat) (h:b<18446744073709551616):clash a (flip b)↔clashS a b:=by
 obtain⟨h1,h2⟩:=flip_parts b h;unfold clash clashS;rw[h1,h2]
 cases sb a<;>cases sb b<;>simp
theorem sub_some (a b:Nat) (h64:b<18446744073709551616) (ha:¬nan a) (hb:¬nan b) (hc:¬clashS a b):∃p,double.sub a b=some p∧¬nan p∧p<18446744073709551616∧vf p=RI (xv a-xv b):=by
 obtain⟨h1,_⟩:=flip_parts b h64;have hb':¬nan (flip b):=by rw[nan_rg,h1];exact hb
 obtain⟨p,e1,e2,e3,e4⟩:=add_some a (flip b) ha hb' (by rw[clash_flip a b h64];exact hc);refine⟨p,by rw[sub_flip a b h64];exact e1,e2,e3,?_⟩;rw[e4,xv_flip b h64];rfl
theorem sub_none (a b:Nat) (h64:b<18446744073709551616) (h:nan a∨nan b∨clashS a b):double.sub a b=none:=by
 obtain⟨h1,_⟩:=flip_parts b h64;rw[sub_flip a b h64];refine add_none _ _ ?_;rcases h with h|h|h
 ·exact .inl h
 ·exact .inr (.inl (by rw[nan_rg,h1];exact h))
 ·exact .inr (.inr ((clash_flip a b h64).2 h))
open Go.RowKit
noncomputable def KF:Lk Tryz.prog Nat where
 S:=22
 E:=84
 n:=1
 zero:=.float .f64 0
 bytes:=8
 cells x:=[.float .f64 x]
 dflt:=0
 ok x:=x<18446744073709551616
 und:=Tryz.underlying22
 info:=by kernel_rfl
 zs:=rfl
 pos:=by decide
 small:=by decide
 len _:=rfl
 one x u hu:=by rw[List.mem_singleton]at hu;subst hu;rfl
theorem KF.cells {w:World} {B:Nat} {v:Value} {xs:List Nat} (h:KF.IsL w B v xs) (h0:0<xs.length):∃b off cap,v=.slice (some ⟨b,off,none⟩) xs.length cap∧xs.length≤cap∧b<B∧xs.length≤9223372036854775807∧
  (∀i,i<xs.length→w.cell? ⟨b,off+i,none⟩=some (.float .f64 (xs.getD i 0)))∧(∀i,i<xs.length→xs.getD i 0<18446744073709551616):=by
 obtain⟨⟨A,cap,rfl,hc,hA⟩,hf,hl⟩:=h;obtain⟨b,off,rfl,hb,hcell⟩:=hA h0;refine⟨b,off,cap,rfl,hc,hb,hl,fun i hi=>?_,fun i hi=>hf _ (getD_mem' xs i 0 hi)⟩;have:=hcell i hi 0 (.float .f64 (xs.getD i 0)) rfl;simpa [KF]using this
theorem run_bits (b:Nat) (w:World):(callFunc 200 #[.float .f64 b]).run Tryz.prog w=.ok (.value (.int .u64 b)) w:=by
 rw[run_callFunc_extern Tryz.func200 (by kernel_rfl) (by kernel_rfl) (by kernel_rfl) (e:=Extern.MathFloatBits.float64bits) (by kernel_rfl)];rfl
theorem bits_any (b:Nat) (w:World):Calls Tryz.prog 250 #[.float .f64 b] w fun e w'=>e=.returned (.int .u64 b)∧w=w':=by
 have hb:=fun b=>run_bits b;go_enter Tryz.func250,Tryz.ntmps250;go_wp2
 go_ret
 exact⟨rfl,rfl⟩
def cls (b:Nat):Int:=
 if b/4503599627370496%2048=2047 then(if b%4503599627370496=0 then 2 else 1)
 else if b/4503599627370496%2048=0 then(if b%4503599627370496=0 then 3 else 4)else 5
theorem cls_nan (b:Nat):(cls b=1)↔nan b:=by
 unfold cls nan;(repeat' split)<;>omega
theorem rclass_any (b:Nat) (w:World):Calls Tryz.prog 211 #[.int .u64 b] w fun e w'=>e=.returned (.int .i64 (cls b))∧w=w':=by
 go_enter Tryz.func211,Tryz.ntmps211;go_wp2;all_goals
  go_ret
  refine⟨ret_i ?_,rfl⟩;simp only[beq_iff_eq,beq_eq_false_iff_ne,bne_iff_ne,bne_eq_false_iff_eq]at *;unfold cls;(repeat' split)<;>omega
theorem rnone_any (b:Nat) (w:World):Calls Tryz.prog 223 #[.float .f64 b] w fun e w'=>e=.returned (.bool (nanb b))∧w=w':=by
 go_enter Tryz.func223,Tryz.ntmps223;go_wp2_with fail;refine(bits_any _ _).mono ?_;rintro e w' ⟨rfl,rfl⟩;go_wp2_with fail;refine(rclass_any _ _).mono ?_;rintro e w' ⟨rfl,rfl⟩;go_wp2_with fail
 go_ret
 refine⟨ret_b ?_,rfl⟩;rw[Bool.eq_iff_iff,beq_iff_eq];unfold nanb;rw[decide_eq_true_eq];exact cls_nan b
theorem isNone_any (b:Nat) (w:World):Calls Tryz.prog 247 #[.float .f64 b] w fun e w'=>e=.returned (.bool (nanb b))∧w=w':=by
 have hs:=self_eq b;go_enter Tryz.func247,Tryz.ntmps247;go_wp2
 go_ret
 exact⟨rfl,rfl⟩
end Go.Proofs.YtmecohdedghiaaaGreatDoor
