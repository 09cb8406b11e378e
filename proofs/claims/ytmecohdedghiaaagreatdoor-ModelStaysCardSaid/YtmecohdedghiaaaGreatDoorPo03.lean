/- Words for decks in memory; whether a plate, a rack may be: what the program and the reference answer. -/
import Derived.Test.YtmecohdedghiaaaGreatDoorPo00
import Derived.Test.YtmecohdedghiaaaGreatDoorPo02
set_option maxRecDepth 100000
set_option maxHeartbeats 8000000
open Go.Proofs.Tryz
namespace Go.Proofs.YtmecohdedghiaaaGreatDoor
open Ieee
def lg (n k:Nat):Nat:=if 2^k<2*(n%2^k)∨(2^k=2*(n%2^k)∧n/2^k%2=1)then n/2^k+1 else n/2^k
theorem rH (neg:Bool) (n d:Nat) (h:d≤n.log2+2):Toward.even.cut neg n d=lg n d:=by
 unfold Toward.cut lg;simp only[Nat.min_eq_left h,Nat.shiftLeft_eq,Nat.one_mul];generalize n%2^d=r;generalize n/2^d=q;generalize 2^d=g;by_cases c:g<2*r∨(g=2*r∧q%2=1)
 ·rw[if_pos c];have:(decide (g<2*r)||g==2*r&&q%2==1)=true:=by simpa using c
  rw[this];rfl
 ·rw[if_neg c];have:(decide (g<2*r)||g==2*r&&q%2==1)=false:=by
   rw[←Bool.not_eq_true];simpa using c
  rw[this];rfl
theorem eF (n k:Nat):lg (n*2^k) k=n:=by
 unfold lg;rw[Nat.mul_div_cancel _ (Nat.two_pow_pos k),Nat.mul_mod_left];have:=Nat.two_pow_pos k;rw[if_neg (by omega)]
theorem wj (n k j:Nat):lg (n*2^j) (k+j)=lg n k:=by
 have hp:=Nat.two_pow_pos j;have e1:n*2^j/2^(k+j)=n/2^k:=by rw[Nat.pow_add,Nat.mul_div_mul_right _ _ hp]
 have e2:n*2^j%2^(k+j)=n%2^k*2^j:=by rw[Nat.pow_add,Nat.mul_mod_mul_right]
 have e3:2^(k+j)=2^k*2^j:=Nat.pow_add _ _ _;unfold lg;rw[e1,e2,e3,←Nat.mul_assoc];have c1:(2^k*2^j<2*(n%2^k)*2^j)↔(2^k<2*(n%2^k)):=Nat.mul_lt_mul_right hp;have c2:(2^k*2^j=2*(n%2^k)*2^j)↔(2^k=2*(n%2^k)):=Nat.mul_right_cancel_iff hp;simp only[c1,c2]
theorem lD (n m k:Nat) (h:n≤m):lg n k≤lg m k:=by
 have hq:n/2^k≤m/2^k:=Nat.div_le_div_right h;have d1:=Nat.div_add_mod n (2^k);have d2:=Nat.div_add_mod m (2^k);unfold lg;by_cases he:n/2^k=m/2^k
 ·rw[he]at d1⊢;have hr:n%2^k≤m%2^k:=by omega
  generalize n%2^k=r at *;generalize m%2^k=s at *;generalize m/2^k=q at *;(repeat' split)<;>omega
 ·(repeat' split)<;>omega
theorem nK (n k:Nat):n/2^k≤lg n k∧lg n k≤n/2^k+1:=by
 unfold lg
 split<;>omega
def R (X:Nat):Nat:=min ((X.log2-52)*4503599627370496+lg X (X.log2-52)) 9218868437227405312
theorem Af:R 0=0:=by
 unfold R lg;rw[Nat.log2_zero];simp
theorem zY (X:Nat):R X≤9218868437227405312:=by unfold R;omega
theorem ii (m k:Nat) (hm:m≠0):(m*2^k).log2=m.log2+k:=by
 have h1:=Nat.log2_self_le hm;have h2:=@Nat.lt_log2_self m;have hz:m*2^k≠0:=Nat.mul_ne_zero hm (by have:=Nat.two_pow_pos k;omega);have a:m.log2+k≤(m*2^k).log2:=(Nat.le_log2 hz).2 (by rw[Nat.pow_add];exact Nat.mul_le_mul_right _ h1);have b:(m*2^k).log2<m.log2+k+1:=(Nat.log2_lt hz).2 (by
  rw[show m.log2+k+1=(m.log2+1)+k by omega,Nat.pow_add];exact Nat.mul_lt_mul_of_pos_right h2 (Nat.two_pow_pos k))
 omega
theorem zz (neg:Bool) (m:Nat) (p l:Int) (d k:Nat) (hp: -1074≤p) (hk:k=(p+1074).toNat) (hd:d=m.log2+k-52) (hl:l=max (p+(m.log2:Int)-52) (-1074)):
  Toward.even.cut neg (m <<< (p-l).toNat) (l-p).toNat=lg (m*2^k) d:=by
 by_cases OV:l≤p
 ·have e2:(l-p).toNat=0:=by omega
  rw[e2,rH _ _ _ (Nat.zero_le _),Nat.shiftLeft_eq];have e3:k=(p-l).toNat+d:=by omega
  have e4:m*2^k=m*2^(p-l).toNat*2^d:=by
   rw[Nat.mul_assoc,←Nat.pow_add,←e3]
  rw[e4,eF];have y:=eF (m*2^(p-l).toNat) 0;rw[Nat.pow_zero,Nat.mul_one]at y;exact y
 ·have e2:(p-l).toNat=0:=by omega
  rw[e2,Nat.shiftLeft_eq,Nat.pow_zero,Nat.mul_one,rH _ _ _ (by omega)];have e3:d=(l-p).toNat+k:=by omega
  rw[e3,wj]
theorem qW (neg:Bool) (m:Nat) (p:Int) (hp: -1074≤p):double.nearest neg m p=double.word neg (R (m*2^(p+1074).toNat)):=by
 unfold Format.nearest;by_cases hm:m=0
 ·subst hm;rw[if_pos rfl,Nat.zero_mul,Af]
 ·rw[if_neg hm];simp only[fb,lp,bn,ir];have e0:=zz neg m p _ _ _ hp rfl rfl rfl;have e1:(max (p+(m.log2:Int)-((52:Nat):Int)) (-1074)- -1074).toNat=m.log2+(p+1074).toNat-52:=by omega
  unfold R;rw[ii m _ hm,←e0,e1];rfl
theorem zt (Y l d:Nat) (hy:2^l≤Y) (hd:l=52+d):2^52≤Y/2^d:=by
 subst hd;rw[Nat.pow_add]at hy;exact(Nat.le_div_iff_mul_le (Nat.two_pow_pos _)).2 hy
theorem zK (X l d:Nat) (hx:X<2^(l+1)) (hd:l+1≤53+d):X/2^d<2^53:=by
 rw[Nat.div_lt_iff_lt_mul (Nat.two_pow_pos _),←Nat.pow_add];exact nL hx (cw hd)
theorem Cm:(2:Nat)^52=4503599627370496:=by decide
theorem Cw:(2:Nat)^53=9007199254740992:=by decide
theorem AJ (l m a b:Nat) (hl:l<m) (hm:52<m) (hb:4503599627370496≤b) (ha:a≤9007199254740992) (hs:l<52→a≤4503599627370496):(l-52)*4503599627370496+a≤(m-52)*4503599627370496+b:=by
 by_cases h:l<52
 ·have:=hs h;omega
 ·omega
theorem kH {X Y:Nat} (h:X≤Y):R X≤R Y:=by
 by_cases hx:X=0
 ·rw[hx,Af];exact Nat.zero_le _
 have hy:Y≠0:=fun h0=>hx (by rw[h0]at h;exact Nat.le_zero.1 h);have x1:=Nat.log2_self_le hx;have x2:=@Nat.lt_log2_self X;have y1:=Nat.log2_self_le hy;have hl:X.log2≤Y.log2:=(Nat.le_log2 hy).2 (Nat.le_trans x1 h);have key:(X.log2-52)*4503599627370496+lg X (X.log2-52)≤(Y.log2-52)*4503599627370496+lg Y (Y.log2-52):=by
  by_cases he:X.log2=Y.log2
  ·rw[he];exact Nat.add_le_add_left (lD X Y _ h) _
  ·by_cases hs:Y.log2≤52
   ·have e1:X.log2-52=0:=(by clear x1 x2 y1;omega);have e2:Y.log2-52=0:=(by clear x1 x2 y1;omega);rw[e1,e2];exact Nat.add_le_add_left (lD X Y _ h) _
   ·have t1:=zt Y Y.log2 (Y.log2-52) y1 (by clear x1 x2 y1;omega);have t2:=zK X X.log2 (X.log2-52) x2 (by clear x1 x2 y1;omega);rw[Cm]at t1;rw[Cw]at t2;have r1:=(nK Y (Y.log2-52)).1;have r2:=(nK X (X.log2-52)).2;refine AJ _ _ _ _ (by clear x1 x2 y1;omega) (by clear x1 x2 y1;omega) (Nat.le_trans t1 r1) (Nat.le_trans r2 t2) fun CI=>?_;have e1:X.log2-52=0:=(by clear x1 x2 y1;omega);rw[e1];have hb:X<2^52:=nL x2 (cw (by clear x1 x2 y1;omega));have r3:=(nK X 0).2;rw[Nat.pow_zero,Nat.div_one]at r3;rw[Cm]at hb;exact Nat.le_trans r3 hb
 unfold R;exact Nat.le_min.2 ⟨Nat.le_trans (Nat.min_le_left _ _) key,Nat.min_le_right _ _⟩
theorem zM (r:Nat) (h:r≤9218868437227405312):R (rv r)=r:=by
 unfold rv;by_cases h1:r<4503599627370496
 ·rw[if_pos h1];by_cases h0:r=0
  ·rw[h0,Af]
  ·have hl:r.log2<52:=(Nat.log2_lt h0).2 (by omega);unfold R;rw[show r.log2-52=0 by omega];have y:=eF r 0;rw[Nat.pow_zero,Nat.mul_one]at y;rw[y];omega
 ·rw[if_neg h1];have hl:(4503599627370496+r%4503599627370496).log2=52:=by
   have hz:4503599627370496+r%4503599627370496≠0:=(by omega);have a:=(Nat.le_log2 hz (k:=52)).2 (by omega);have b:=(Nat.log2_lt hz (k:=53)).2 (by omega);omega
  unfold R;rw[ii _ _ (by omega),hl,show 52+(r/4503599627370496-1)-52=r/4503599627370496-1 by omega,eF];omega
def RI (T:Int):Int:=sg (decide (T<0)) (R T.natAbs)
theorem oW {S T:Int} (h:S≤T):RI S≤RI T:=by
 unfold RI sg;by_cases h1:S<0
 ·rw[dT h1,if_pos rfl];by_cases h2:T<0
  ·rw[dT h2,if_pos rfl];have:=kH (X:=T.natAbs) (Y:=S.natAbs) (by omega);omega
  ·rw[dF h2,if_neg (by simp)];omega
 ·rw[dF h1,dF (by omega),if_neg (by simp),if_neg (by simp)];have:=kH (X:=S.natAbs) (Y:=T.natAbs) (by omega);omega
def Ai:Nat:=2*rv 9218868437227405312
def ro (r:Nat):Nat:=if r<9218868437227405312 then rv r else Ai
def xv (b:Nat):Int:=sg (sb b) (ro (rg b))
theorem kh (r:Nat) (h:r<9218868437227405312):rv r<rv 9218868437227405312:=jP h
theorem po (r s:Nat) (hr:r≤9218868437227405312) (hs:s≤9218868437227405312) (h:r≤s):ro r≤ro s:=by
 unfold ro Ai;by_cases h2:s<9218868437227405312
 ·rw[if_pos (by omega),if_pos h2];rcases Nat.lt_or_eq_of_le h with h3|h3
  ·exact Nat.le_of_lt (jP h3)
  ·rw[h3];omega
 ·rw[if_neg h2]
  split
  ·rename_i h4
   have:=kh r h4;omega
  ·omega
theorem Am:ro 0=0:=by unfold ro;rw[if_pos (by omega),AZ]
theorem Cg (r:Nat) (h:r≤9218868437227405312):R (ro r)=r:=by
 unfold ro
 split
 ·exact zM r h
 ·have e:r=9218868437227405312:=by omega
  have h1:=kH (X:=rv 9218868437227405312) (Y:=Ai) (by unfold Ai;omega);rw[zM _ (by omega)]at h1;have:=zY Ai;omega
theorem e7 (b:Nat) (h:¬nan b):rg b≤9218868437227405312:=by unfold nan at h;unfold rg;omega
theorem ym (b:Nat) (h:¬nan b):RI (xv b)=vf b:=by
 have hb:=e7 b h;have e:=Cg (rg b) hb;have h0:=Af;unfold RI xv vf;generalize hx:ro (rg b)=x at *;unfold sg
 cases sb b
 ·simp only[Bool.false_eq_true,if_false];rw[dF (by omega),if_neg (by simp),Int.natAbs_natCast,e]
 ·simp only[if_true];rw[Int.natAbs_neg,Int.natAbs_natCast,e];by_cases hz:x=0
  ·rw[hz,h0]at e;rw[←e]
   split<;>rfl
  ·rw[dT (by omega),if_pos rfl]
theorem vu {a b:Nat} (ha:¬nan a) (hb:¬nan b) (h:vf a≤vf b):xv a≤xv b:=by
 have h1:=e7 a ha;have h2:=e7 b hb;have h0:=Am;unfold xv vf sg at *;have m1:=po (rg a) (rg b) h1 h2;have m2:=po (rg b) (rg a) h2 h1;have z1:=po (rg a) 0 h1 (by omega);have z2:=po (rg b) 0 h2 (by omega);rw[h0]at z1 z2;generalize ro (rg a)=x at *;generalize ro (rg b)=y at *;revert h
 cases sb a<;>cases sb b<;>simp only[Bool.false_eq_true,if_true,if_false]<;>omega
theorem gQ (neg:Bool) (r:Nat) (h:r≤9218868437227405312):vf (double.word neg r)=sg neg r∧¬nan (double.word neg r)∧double.word neg r<18446744073709551616:=by
 unfold Format.word vf sb rg nan;rw[sw]
 cases neg
 ·simp only[Bool.false_eq_true,if_false];have e1:(r/9223372036854775808%2==1)=false:=by rw[beq_eq_false_iff_ne];omega
  have e2:r%9223372036854775808=r:=by omega
  rw[e1,e2];exact⟨rfl,by omega,by omega⟩
 ·simp only[if_true];have e1:((9223372036854775808+r)/9223372036854775808%2==1)=true:=by rw[beq_iff_eq];omega
  have e2:(9223372036854775808+r)%9223372036854775808=r:=by omega
  rw[e1,e2];exact⟨rfl,by omega,by omega⟩
def jX (a b:Nat):Prop:=rg a=9218868437227405312∧rg b=9218868437227405312∧sb a≠sb b
theorem yy (X:Nat) (h:rv 9218868437227405312≤X):R X=9218868437227405312:=by
 have h1:=kH h;rw[zM _ (by omega)]at h1;have:=zY X;omega
theorem tn (T:Int) (h:(rv 9218868437227405312:Int)≤T):RI T=9218868437227405312:=by
 unfold RI sg;rw[dF (by omega),if_neg (by simp),yy _ (by omega)];rfl
theorem sL (T:Int) (h:T≤ -(rv 9218868437227405312:Int)):RI T= -9218868437227405312:=by
 have hz:0<rv 9218868437227405312:=by
  have:=kh 0 (by omega);omega
 unfold RI sg;rw[dT (by omega),if_pos rfl,yy _ (by omega)];rfl
theorem nG (b:Nat) (h:rg b<9218868437227405312):xv b=sg (sb b) (rv (rg b)):=by unfold xv ro;rw[if_pos h]
theorem kU (b:Nat) (h:rg b=9218868437227405312):xv b=sg (sb b) (2*rv 9218868437227405312):=by unfold xv ro Ai;rw[if_neg (by omega)]
theorem sC (b:Nat) (h:rg b<9218868437227405312): -(rv 9218868437227405312:Int)≤xv b∧xv b≤rv 9218868437227405312:=by
 have:=kh _ h;rw[nG b h];unfold sg
 split<;>omega
theorem pp (s:Bool) (T x:Int) (h:T=sg s (2*rv 9218868437227405312)+x) (h1: -(rv 9218868437227405312:Int)≤x∧x≤rv 9218868437227405312):RI T=sg s 9218868437227405312:=by
 subst h
 cases s
 ·exact tn _ (by unfold sg;rw[if_neg (by simp)];omega)
 ·exact sL _ (by unfold sg;rw[if_pos rfl];omega)
theorem fM (s:Bool):double.write (.infinity s)=double.word s 9218868437227405312:=by
 unfold Format.write;rw[ir]
theorem iw (a b:Nat) (ha:¬nan a) (hb:¬nan b) (hc:¬jX a b):∃p,double.add a b=some p∧¬nan p∧p<18446744073709551616∧vf p=RI (xv a+xv b):=by
 have h1:=e7 a ha;have h2:=e7 b hb;unfold Format.add;by_cases ia:rg a=9218868437227405312
 ·rw[cB a ia];by_cases ib:rg b=9218868437227405312
  ·rw[cB b ib];have hs:sb a=sb b:=by
    apply Decidable.byContradiction;intro hh;exact hc ⟨ia,ib,hh⟩
   simp only[Datum.sum,hs,if_true,Option.map_some,fM];obtain⟨w1,w2,w3⟩:=gQ (sb b) 9218868437227405312 (by omega);refine⟨_,rfl,w2,w3,?_⟩;rw[w1,kU a ia,kU b ib,hs];have hz:0<rv 9218868437227405312:=by
    have:=kh 0 (by omega);omega
   cases sb b
   ·exact(tn _ (by unfold sg;rw[if_neg (by simp)];omega)).symm
   ·exact(sL _ (by unfold sg;rw[if_pos rfl];omega)).symm
  ·obtain⟨n,q,hr2,_,_⟩:=dl b (by omega);rw[hr2];simp only[Datum.sum,Option.map_some,fM];obtain⟨w1,w2,w3⟩:=gQ (sb a) 9218868437227405312 (by omega);refine⟨_,rfl,w2,w3,?_⟩;rw[w1];exact(pp (sb a) _ (xv b) (by rw[kU a ia]) (sC b (by omega))).symm
 ·obtain⟨m,p,hr,hp,hv⟩:=dl a (by omega);rw[hr];by_cases ib:rg b=9218868437227405312
  ·rw[cB b ib];simp only[Datum.sum,Option.map_some,fM];obtain⟨w1,w2,w3⟩:=gQ (sb b) 9218868437227405312 (by omega);refine⟨_,rfl,w2,w3,?_⟩;rw[w1];exact(pp (sb b) _ (xv a) (by rw[kU b ib,Int.add_comm]) (sC a (by omega))).symm
  ·obtain⟨n,q,hr2,hq,hv2⟩:=dl b (by omega);rw[hr2];simp only[Datum.sum,Option.map_some,Format.write];have Nj: -1074≤min p q:=(by omega);rw[qW _ _ _ Nj];have hT:(signed (sb a) m (p-min p q).toNat+signed (sb b) n (q-min p q).toNat)*((2^(min p q+1074).toNat:Nat):Int)=xv a+xv b:=by
    rw[nG a (by omega),nG b (by omega),Int.add_mul,gm,gm,←kR,←kR,Nat.mul_assoc,Nat.mul_assoc,←Nat.pow_add,←Nat.pow_add];rw[show(p-min p q).toNat+(min p q+1074).toNat=(p+1074).toNat by omega,show(q-min p q).toNat+(min p q+1074).toNat=(q+1074).toNat by omega,hv,hv2]
   rw[←hT];have hk:=Nat.two_pow_pos (min p q+1074).toNat;generalize 2^(min p q+1074).toNat=k at *;generalize signed (sb a) m (p-min p q).toNat+signed (sb b) n (q-min p q).toNat=T at *;obtain⟨w1,w2,w3⟩:=gQ (if T=0 then sb a&&sb b else decide (T<0)) (R (T.natAbs*k)) (zY _);refine⟨_,rfl,w2,w3,?_⟩;rw[w1];unfold RI;rw[Int.natAbs_mul,Int.natAbs_natCast];by_cases hz:T=0
   ·subst hz;rw[if_pos rfl,Int.zero_mul,Int.natAbs_zero,Nat.zero_mul,Af];unfold sg;simp
   ·rw[if_neg hz]
    congr 1
    rw[decide_eq_decide];have MT:(0:Int)<k:=(by omega);constructor
    ·intro h;exact Int.mul_neg_of_neg_of_pos h MT
    ·intro h;apply Int.lt_of_not_ge;intro hh;have:=Int.mul_nonneg hh (Int.le_of_lt MT);omega
theorem fo (a b:Nat) (h:nan a∨nan b∨jX a b):double.add a b=none:=by
 unfold Format.add;rcases h with h|h|⟨ia,ib,hs⟩
 ·obtain⟨s,t,e⟩:=fz a h;rw[e];rfl
 ·obtain⟨s,t,e⟩:=fz b h;rw[e]
  cases double.read a<;>rfl
 ·rw[cB a ia,cB b ib];simp only[Datum.sum,if_neg hs,Option.map_none]
def kV (b:Nat):Nat:=if 9223372036854775808≤b then b-9223372036854775808 else b+9223372036854775808
theorem dc (b:Nat) (h:b<18446744073709551616):rg (kV b)=rg b∧sb (kV b)= !sb b:=by
 unfold kV rg sb
 split
 ·refine⟨by omega,?_⟩;have e1:(b/9223372036854775808%2==1)=true:=by rw[beq_iff_eq];omega
  have e2:((b-9223372036854775808)/9223372036854775808%2==1)=false:=by rw[beq_eq_false_iff_ne];omega
  rw[e1,e2];rfl
 ·refine⟨by omega,?_⟩;have e1:(b/9223372036854775808%2==1)=false:=by rw[beq_eq_false_iff_ne];omega
  have e2:((b+9223372036854775808)/9223372036854775808%2==1)=true:=by rw[beq_iff_eq];omega
  rw[e1,e2];rfl
theorem ub (b:Nat):nan b↔9218868437227405312<rg b:=Iff.rfl
theorem lK (a b:Nat) (h:b<18446744073709551616):double.sub a b=double.add a (kV b):=by
 obtain⟨h1,h2⟩:=dc b h;have e:double.read (kV b)=(double.read b).opposite:=by
  unfold rg at h1;unfold sb at h2;unfold Format.read;simp only[sw,bn,ir,lp];rw[h1,h2];(repeat' split)<;>rfl
 unfold Format.sub Format.add;rw[e]
theorem vW (b:Nat) (h:b<18446744073709551616):xv (kV b)= -xv b:=by
 obtain⟨h1,h2⟩:=dc b h;unfold xv sg;rw[h1,h2]
 cases sb b<;>simp
def gh (a b:Nat):Prop:=rg a=9218868437227405312∧rg b=9218868437227405312∧sb a=sb b
theorem iL (a b:Nat) (h:b<18446744073709551616):jX a (kV b)↔gh a b:=by
 obtain⟨h1,h2⟩:=dc b h;unfold jX gh;rw[h1,h2]
 cases sb a<;>cases sb b<;>simp
theorem lI (a b:Nat) (h64:b<18446744073709551616) (ha:¬nan a) (hb:¬nan b) (hc:¬gh a b):∃p,double.sub a b=some p∧¬nan p∧p<18446744073709551616∧vf p=RI (xv a-xv b):=by
 obtain⟨h1,_⟩:=dc b h64;have Gw:¬nan (kV b):=by rw[ub,h1];exact hb
 obtain⟨p,e1,e2,e3,e4⟩:=iw a (kV b) ha Gw (by rw[iL a b h64];exact hc);refine⟨p,by rw[lK a b h64];exact e1,e2,e3,?_⟩;rw[e4,vW b h64];rfl
theorem mj (a b:Nat) (h64:b<18446744073709551616) (h:nan a∨nan b∨gh a b):double.sub a b=none:=by
 obtain⟨h1,_⟩:=dc b h64;rw[lK a b h64];refine fo _ _ ?_;rcases h with h|h|h
 ·exact .inl h
 ·exact .inr (.inl (by rw[ub,h1];exact h))
 ·exact .inr (.inr ((iL a b h64).2 h))
open Go.RowKit
noncomputable def KF:Lk prog Nat where
 S:=22
 E:=84
 n:=1
 zero:=.float .f64 0
 bytes:=8
 cells x:=[.float .f64 x]
 dflt:=0
 ok x:=x<18446744073709551616
 und:=underlying22
 info:=by kernel_rfl
 zs:=rfl
 pos:=by decide
 small:=by decide
 len _:=rfl
 one x u hu:=by rw[List.mem_singleton]at hu;subst hu;rfl
theorem KF.cells {w:World} {B:Nat} {v:Value} {xs:List Nat} (h:KF.IsL w B v xs) (h0:0<xs.length):∃b off cap,v=.slice (some ⟨b,off,none⟩) xs.length cap∧xs.length≤cap∧b<B∧xs.length≤9223372036854775807∧
  (∀i,i<xs.length→w.cell? ⟨b,off+i,none⟩=some (.float .f64 (xs.getD i 0)))∧(∀i,i<xs.length→xs.getD i 0<18446744073709551616):=by
 obtain⟨⟨A,cap,rfl,hc,hA⟩,hf,hl⟩:=h;obtain⟨b,off,rfl,hb,CD⟩:=hA h0;refine⟨b,off,cap,rfl,hc,hb,hl,fun i hi=>?_,fun i hi=>hf _ (af xs i 0 hi)⟩;have:=CD i hi 0 (.float .f64 (xs.getD i 0)) rfl;simpa [KF]using this
theorem cx (b:Nat) (w:World):(callFunc 200 #[.float .f64 b]).run prog w=.ok (.value (.int .u64 b)) w:=by
 rw[run_callFunc_extern func200 (by kernel_rfl) (by kernel_rfl) (by kernel_rfl) (e:=Extern.MathFloatBits.float64bits) (by kernel_rfl)];rfl
theorem mg (b:Nat) (w:World):Calls prog 250 #[.float .f64 b] w fun e w'=>e=.returned (.int .u64 b)∧w=w':=by
 have hb:=fun b=>cx b;go_enter func250,ntmps250;go_wp2
 go_ret
 exact⟨rfl,rfl⟩
def bJ (b:Nat):Int:=
 if b/4503599627370496%2048=2047 then(if b%4503599627370496=0 then 2 else 1)
 else if b/4503599627370496%2048=0 then(if b%4503599627370496=0 then 3 else 4)else 5
theorem wa (b:Nat):(bJ b=1)↔nan b:=by
 unfold bJ nan;(repeat' split)<;>omega
theorem cX (b:Nat) (w:World):Calls prog 211 #[.int .u64 b] w fun e w'=>e=.returned (.int .i64 (bJ b))∧w=w':=by
 go_enter func211,ntmps211;go_wp2;all_goals
  go_ret
  refine⟨aS ?_,rfl⟩;simp only[beq_iff_eq,beq_eq_false_iff_ne,bne_iff_ne,bne_eq_false_iff_eq]at *;unfold bJ;(repeat' split)<;>omega
theorem bH (b:Nat) (w:World):Calls prog 223 #[.float .f64 b] w fun e w'=>e=.returned (.bool (aR b))∧w=w':=by
 go_enter func223,ntmps223;go_wp2_with fail;refine(mg _ _).mono ?_;rintro e w' ⟨rfl,rfl⟩;go_wp2_with fail;refine(cX _ _).mono ?_;rintro e w' ⟨rfl,rfl⟩;go_wp2_with fail
 go_ret
 refine⟨aj ?_,rfl⟩;rw[Bool.eq_iff_iff,beq_iff_eq];unfold aR;rw[decide_eq_true_eq];exact wa b
theorem aY (b:Nat) (w:World):Calls prog 247 #[.float .f64 b] w fun e w'=>e=.returned (.bool (aR b))∧w=w':=by
 have hs:=kG b;go_enter func247,ntmps247;go_wp2
 go_ret
 exact⟨rfl,rfl⟩
theorem cP (w:World) (a b:Nat):∃d,(w.drewN a).drewN b=w.drewN d:=⟨a+b,by simp[World.drewN,Nat.add_assoc]⟩
def chkAt (l:List Nat) (i:Nat):Int:=
 if i<l.length then
  (if aR (l.getD i 0)=true then 20
  else if 0<i∧mT (l.getD i 0) (l.getD (i-1) 0)=true then 70
  else chkAt l (i+1))
 else 0
termination_by l.length-i
def aZ (l:List Nat):Int:=if l.length<2 then 1 else if 25<l.length then 2 else chkAt l 0
theorem pI (l:List Nat) (i:Nat) (h:l.length≤i):chkAt l i=0:=by rw[chkAt,if_neg (by omega)]
theorem oP (l:List Nat) (i:Nat) (h:i<l.length) (hn:aR (l.getD i 0)=true):chkAt l i=20:=by rw[chkAt,if_pos h,if_pos hn]
theorem py (l:List Nat) (i:Nat) (h:i<l.length) (hn:aR (l.getD i 0)=false) (h0:0<i) (hb:mT (l.getD i 0) (l.getD (i-1) 0)=true):chkAt l i=70:=by
 rw[chkAt,if_pos h,if_neg (by simp only[hn];simp),if_pos ⟨h0,hb⟩]
theorem lF (l:List Nat) (i:Nat) (h:i<l.length) (hn:aR (l.getD i 0)=false) (hb:i=0∨mT (l.getD i 0) (l.getD (i-1) 0)=false):chkAt l (i+1)=chkAt l i:=by
 rw[chkAt.eq_def l i,if_pos h,if_neg (by simp only[hn];simp),if_neg];rintro⟨h0,CM⟩;rcases hb with hb|hb
 ·omega
 ·rw[hb]at CM;cases CM
theorem jU (v:Value) (xs:List Nat) (w:World) (h:KF.IsL w w.heap.size v xs):Calls prog 214 #[v] w fun e w'=>e=.returned (.int .i64 (aZ xs))∧w=w':=by
 by_cases h2:xs.length<2
 ·obtain⟨⟨A,cap,rfl,hc,hA⟩,hf,hl⟩:=h;go_enter func214,ntmps214;go_wp2
  go_step3
  go_wp2;rw[Exit.noGoto_ret]
  go_ret
  exact⟨aS (by unfold aZ;rw[if_pos h2]),rfl⟩
 obtain⟨b,off,cap,rfl,hc,hb,hl,CD,CI⟩:=KF.cells h (by omega);clear h;by_cases h25:25<xs.length
 ·go_enter func214,ntmps214;go_wp2
  go_step3
  go_wp2;rw[Exit.noGoto_ret]
  go_ret
  exact⟨aS (by unfold aZ;rw[if_neg h2,if_pos h25]),rfl⟩
 have HE:=aH (show aZ xs=chkAt xs 0 by unfold aZ;rw[if_neg h2,if_neg h25]);have HC:=aH CD;have HL:=aH CI;have HX:=aH (fun i=>lF xs i);have HN:=aH (fun i=>oP xs i);have HB:=aH (fun i=>py xs i);have HD:=aH (fun i=>pI xs i);have ole:∀a b,(FloatKind.f64.format.order a b==some .lt||FloatKind.f64.format.order a b==some .eq)=mT a b:=fun _ _=>rfl;clear CD CI;go_enter func214,ntmps214;go_wp2
 go_step3
 go_wp2
 go_step3
 go_wp2
 go_loop [3,16] (fun e i=>∃k:Nat,k≤xs.length∧e=.int .i64 0∧i=.int .i64 k∧chkAt xs k=chkAt xs 0) (fun _ i=>xs.length-(intOf i).toNat)
 case atStart=>exact⟨0,by omega,rfl,rfl,rfl⟩
 case round=>
  obtain⟨k,hk,rfl,rfl,E7⟩:=hrel;have HG:=aH E7;clear E7;by_cases CI:k<xs.length
  ·have CD:=HC.out k CI;have Mh:=aH (HX.out k CI);have JK:=aH (HN.out k CI);have Ps:=aH (HB.out k CI);by_cases h0:0<k
   ·have My:=HC.out (k-1) (by omega);generalize xs.getD (k-1) 0=g at *;generalize xs.getD k 0=f at *;rcases Bool.eq_false_or_eq_true (aR f)with hn|hn
    ·have HR:=aH (JK.out hn);go_wp2_with (go_at_call 247;refine(aY _ _).mono ?_;rintro e w' ⟨rfl,rfl⟩);rw[Exit.noGoto_ret]
     go_ret
     exact⟨aS (by rw[HE.out,←HG.out,HR.out]),rfl⟩
    ·rcases Bool.eq_false_or_eq_true (mT f g)with hb|hb
     ·have HR:=aH (Ps.out hn h0 hb);go_wp2_with (go_at_call 247;refine(aY _ _).mono ?_;rintro e w' ⟨rfl,rfl⟩);rw[Exit.noGoto_ret]
      go_ret
      exact⟨aS (by rw[HE.out,←HG.out,HR.out]),rfl⟩
     ·have HR:=aH (Mh.out hn (.inr hb));go_wp2_with (go_at_call 247;refine(aY _ _).mono ?_;rintro e w' ⟨rfl,rfl⟩)
      go_round
      case rel=>exact⟨k+1,by omega,rfl,ai (by omega),by rw[HR.out,HG.out]⟩
      case measure=>simp[intOf];omega
   ·generalize xs.getD k 0=f at *;rcases Bool.eq_false_or_eq_true (aR f)with hn|hn
    ·have HR:=aH (JK.out hn);go_wp2_with (go_at_call 247;refine(aY _ _).mono ?_;rintro e w' ⟨rfl,rfl⟩);rw[Exit.noGoto_ret]
     go_ret
     exact⟨aS (by rw[HE.out,←HG.out,HR.out]),rfl⟩
    ·have HR:=aH (Mh.out hn (.inl (by omega)));go_wp2_with (go_at_call 247;refine(aY _ _).mono ?_;rintro e w' ⟨rfl,rfl⟩)
     go_round
     case rel=>exact⟨k+1,by omega,rfl,ai (by omega),by rw[HR.out,HG.out]⟩
     case measure=>simp[intOf];omega
  ·go_wp2
   go_ret
   exact⟨aS (by rw[HE.out,←HG.out,HD.out k (by omega)]),rfl⟩
theorem eQ (v:Value) (xs:List Nat) (w:World) (h:KF.IsL w w.heap.size v xs):Calls prog 161 #[v] w fun e w'=>e=.returned (.int .i64 (aZ xs))∧∃d,w'=w.drewN d:=by
 by_cases h2:xs.length<2
 ·obtain⟨⟨A,cap,rfl,hc,hA⟩,hf,hl⟩:=h;go_enter func161,ntmps161;go_wp2
  go_ret
  exact⟨aS (by unfold aZ;rw[if_pos h2]),0,rfl⟩
 obtain⟨b,off,cap,rfl,hc,hb,hl,CD,CI⟩:=KF.cells h (by omega);clear h;by_cases h25:25<xs.length
 ·go_enter func161,ntmps161;go_wp2
  go_ret
  exact⟨aS (by unfold aZ;rw[if_neg h2,if_pos h25]),0,rfl⟩
 have HE:=aH (show aZ xs=chkAt xs 0 by unfold aZ;rw[if_neg h2,if_neg h25]);have HC:=aH CD;have HX:=aH (fun i=>lF xs i);have HN:=aH (fun i=>oP xs i);have HB:=aH (fun i=>py xs i);have HD:=aH (fun i=>pI xs i);have ole:∀a b,(FloatKind.f64.format.order a b==some .lt||FloatKind.f64.format.order a b==some .eq)=mT a b:=fun _ _=>rfl;clear CD CI;go_enter func161,ntmps161;go_wp2
 go_loopw [3] (fun i wr=>∃k d:Nat,k≤xs.length∧i=.int .i64 k∧chkAt xs k=chkAt xs 0∧wr=w.drewN d) (fun i _=>xs.length-(intOf i).toNat)
 case atStart=>exact⟨0,0,by omega,rfl,rfl,rfl⟩
 case round=>
  obtain⟨k,d,hk,rfl,E7,hw⟩:=hrel;have HW:=aH hw;clear hw;have HG:=aH E7;clear E7;by_cases CI:k<xs.length
  ·have CD:wr.cell? ⟨b,off+k,none⟩=some (.float .f64 (xs.getD k 0)):=(by rw[HW.out];exact HC.out k CI);have Mh:=aH (HX.out k CI);have JK:=aH (HN.out k CI);have Ps:=aH (HB.out k CI);by_cases h0:0<k
   ·have hd:decide (0<(k:Int))=true:=dT (by omega);have My:wr.cell? ⟨b,off+(k-1),none⟩=some (.float .f64 (xs.getD (k-1) 0)):=(by rw[HW.out];exact HC.out (k-1) (by omega));generalize xs.getD (k-1) 0=g at *;generalize xs.getD k 0=f at *;rcases Bool.eq_false_or_eq_true (aR f)with hn|hn
    ·have HR:=aH (JK.out hn);go_wp2_with (go_at_call 223;refine(bH _ _).mono ?_;rintro e w' ⟨rfl,rfl⟩)
     go_ret
     exact⟨aS (by rw[HE.out,←HG.out,HR.out]),by rw[HW.out];first|exact⟨_,rfl⟩|exact cP _ _ _⟩
    ·rcases Bool.eq_false_or_eq_true (mT f g)with hb|hb
     ·have HR:=aH (Ps.out hn h0 hb);go_wp2_with (go_at_call 223;refine(bH _ _).mono ?_;rintro e w' ⟨rfl,rfl⟩);go_quiet (fail);go_wp2
      go_ret
      exact⟨aS (by rw[HE.out,←HG.out,HR.out]),by rw[HW.out];first|exact⟨_,rfl⟩|exact cP _ _ _⟩
     ·have HR:=aH (Mh.out hn (.inr hb));go_wp2_with (go_at_call 223;refine(bH _ _).mono ?_;rintro e w' ⟨rfl,rfl⟩);go_quiet (fail);go_wp2
      go_roundw
      case rel=>obtain⟨d2,Ll⟩:=cP w d nq;exact⟨k+1,d2,by omega,ai (by omega),by rw[HR.out,HG.out],by rw[HW.out];exact Ll⟩
      case measure=>simp[intOf];omega
   ·have hd:decide (0<(k:Int))=false:=dF (by omega);generalize xs.getD k 0=f at *;rcases Bool.eq_false_or_eq_true (aR f)with hn|hn
    ·have HR:=aH (JK.out hn);go_wp2_with (go_at_call 223;refine(bH _ _).mono ?_;rintro e w' ⟨rfl,rfl⟩)
     go_ret
     exact⟨aS (by rw[HE.out,←HG.out,HR.out]),by rw[HW.out];first|exact⟨_,rfl⟩|exact cP _ _ _⟩
    ·have HR:=aH (Mh.out hn (.inl (by omega)));go_wp2_with (go_at_call 223;refine(bH _ _).mono ?_;rintro e w' ⟨rfl,rfl⟩);go_quiet (fail);go_wp2
     go_roundw
     case rel=>obtain⟨d2,Ll⟩:=cP w d nq;exact⟨k+1,d2,by omega,ai (by omega),by rw[HR.out,HG.out],by rw[HW.out];exact Ll⟩
     case measure=>simp[intOf];omega
  ·go_wp2
   go_ret
   exact⟨aS (by rw[HE.out,←HG.out,HD.out k (by omega)]),_,HW.out⟩
structure Rise (l:List Nat):Prop where
 two:2≤l.length
 most:l.length≤25
 num:∀i,i<l.length→¬nan (l.getD i 0)
 lt:∀i j,i<j→j<l.length→vf (l.getD i 0)<vf (l.getD j 0)
theorem Rise.le {l:List Nat} (h:Rise l) (i j:Nat) (Im:i≤j) (hj:j<l.length):vf (l.getD i 0)≤vf (l.getD j 0):=by
 rcases Nat.lt_or_eq_of_le Im with h1|h1
 ·exact Int.le_of_lt (h.lt i j h1 hj)
 ·rw[h1];omega
theorem wb (l:List Nat):∀n i,n=l.length-i→chkAt l i=0→∀j,i≤j→j<l.length→¬nan (l.getD j 0)∧(0<j→mT (l.getD j 0) (l.getD (j-1) 0)=false):=by
 intro n
 induction n with
 |zero=>intro i hn _ j h1 h2;omega
 |succ n ih=>
  intro i hn hc j h1 h2;rw[chkAt,if_pos (by omega)]at hc;by_cases hnan:aR (l.getD i 0)=true
  ·rw[if_pos hnan]at hc;omega
  rw[if_neg hnan]at hc;by_cases hb:0<i∧mT (l.getD i 0) (l.getD (i-1) 0)=true
  ·rw[if_pos hb]at hc;omega
  rw[if_neg hb]at hc;by_cases Im:i=j
  ·subst Im;refine⟨by unfold aR at hnan;simpa using hnan,fun h0=>?_⟩;rw[←Bool.not_eq_true];exact fun hh=>hb ⟨h0,hh⟩
  ·exact ih (i+1) (by omega) hc j (by omega) h2
theorem kw (l:List Nat) (h:aZ l=0):Rise l:=by
 unfold aZ at h;by_cases h1:l.length<2
 ·rw[if_pos h1]at h;omega
 rw[if_neg h1]at h;by_cases h2:25<l.length
 ·rw[if_pos h2]at h;omega
 rw[if_neg h2]at h;have ha:=wb l _ 0 rfl h;have KG:∀i,i<l.length→¬nan (l.getD i 0):=fun i hi=>(ha i (Nat.zero_le _) hi).1;have step:∀i,i+1<l.length→vf (l.getD i 0)<vf (l.getD (i+1) 0):=fun i hi=>by
  have h3:=(ha (i+1) (Nat.zero_le _) hi).2 (by omega);rw[Nat.add_sub_cancel]at h3;apply Int.lt_of_not_ge;intro hh;have:=(pJ (l.getD (i+1) 0) (l.getD i 0)).2 ⟨KG _ hi,KG _ (by omega),hh⟩;rw[this]at h3
  cases h3
 refine⟨by omega,by omega,KG,fun i j Im=>?_⟩
 induction j with
 |zero=>omega
 |succ j ih=>
  intro hj;by_cases e:i=j
  ·subst e;exact step i hj
  ·exact Int.lt_trans (ih (by omega) (by omega)) (step j hj)
theorem dN {a b:Nat} (ha:¬nan a) (hb:¬nan b):ey a b=decide (vf a<vf b):=by
 rw[Bool.eq_iff_iff,pL,decide_eq_true_eq];exact⟨fun h=>h.2.2,fun h=>⟨ha,hb,h⟩⟩
theorem qh {a b:Nat} (ha:¬nan a) (hb:¬nan b):mT a b=decide (vf a≤vf b):=by
 rw[Bool.eq_iff_iff,pJ,decide_eq_true_eq];exact⟨fun h=>h.2.2,fun h=>⟨ha,hb,h⟩⟩
theorem pS {a b:Nat} (ha:¬nan a) (hb:¬nan b):uK a b=decide (vf b<vf a):=by
 rw[Bool.eq_iff_iff,xF,decide_eq_true_eq];exact⟨fun h=>h.2.2,fun h=>⟨ha,hb,h⟩⟩
theorem lf {a b:Nat} (ha:¬nan a) (hb:¬nan b):qo a b=decide (vf b≤vf a):=by
 rw[Bool.eq_iff_iff,pK,decide_eq_true_eq];exact⟨fun h=>h.2.2,fun h=>⟨ha,hb,h⟩⟩
def loV (l:List Nat) (a:Nat) (k:Nat):Nat:=if k+2<l.length∧qo a (l.getD (k+1) 0)=true then loV l a (k+1)else k
termination_by l.length-k
def hiV (l:List Nat) (b:Nat):Nat→Nat
 |0=>0
 |k+1=>if ey b (l.getD (k+1) 0)=true then hiV l b k else k+1
theorem u6 (l:List Nat) (a k:Nat) (h:k+2<l.length) (hg:qo a (l.getD (k+1) 0)=true):loV l a (k+1)=loV l a k:=by
 rw[loV.eq_def l a k,if_pos ⟨h,hg⟩]
theorem zH (l:List Nat) (a k:Nat) (h:l.length≤k+2∨qo a (l.getD (k+1) 0)=false):loV l a k=k:=by
 rw[loV,if_neg];rintro⟨h1,h2⟩;rcases h with h|h
 ·omega
 ·rw[h]at h2;cases h2
theorem vJ (l:List Nat) (b k:Nat) (hg:ey b (l.getD k 0)=true) (h0:ey b (l.getD 0 0)=false):0<k∧hiV l b (k-1)=hiV l b k:=by
 cases k with
 |zero=>rw[h0]at hg;cases hg
 |succ k=>
  refine⟨by omega,?_⟩;rw[Nat.add_sub_cancel,hiV.eq_def l b (k+1)];simp only[hg,if_true]
theorem yG (l:List Nat) (b k:Nat) (hg:ey b (l.getD k 0)=false):hiV l b k=k:=by
 cases k with
 |zero=>rfl
 |succ k=>
  rw[hiV,hg,if_neg (by simp)]
def eJ (l:List Nat) (a b:Nat):Bool:=uK a (l.getD (l.length-1) 0)||ey b (l.getD 0 0)
theorem wU (l:List Nat) (h:Rise l) (a:Nat) (ha:¬nan a):∀n k,n=l.length-k→k+2≤l.length→(∀j,j<k→vf (l.getD (j+1) 0)≤vf a)→
  loV l a k+2≤l.length∧(∀j,j<loV l a k→vf (l.getD (j+1) 0)≤vf a)∧(loV l a k+2=l.length∨vf a<vf (l.getD (loV l a k+1) 0)):=by
 intro n
 induction n with
 |zero=>intro k h1 h2;omega
 |succ n ih=>
  intro k hn hk hj;by_cases hc:k+2<l.length∧qo a (l.getD (k+1) 0)=true
  ·rw[loV,if_pos hc];refine ih (k+1) (by omega) (by omega) fun j hj2=>?_;by_cases e:j=k
   ·subst e;exact((pK _ _).1 hc.2).2.2
   ·exact hj j (by omega)
  ·rw[loV,if_neg hc];refine⟨hk,hj,?_⟩;by_cases e:k+2=l.length
   ·exact .inl e
   ·right;have hg:¬qo a (l.getD (k+1) 0)=true:=fun hh=>hc ⟨by omega,hh⟩;rw[lf ha (h.num _ (by omega)),decide_eq_true_eq]at hg;omega
theorem xJ (l:List Nat) (h:Rise l) (b:Nat) (hb:¬nan b) (h0:vf (l.getD 0 0)≤vf b):∀k,k<l.length→
  hiV l b k≤k∧vf (l.getD (hiV l b k) 0)≤vf b∧∀j,hiV l b k<j→j≤k→vf b<vf (l.getD j 0):=by
 intro k
 induction k with
 |zero=>intro _;exact⟨nR _,h0,fun j h1 h2=>by unfold hiV at h1;omega⟩
 |succ k ih=>
  intro hk;obtain⟨i1,i2,i3⟩:=ih (by omega);by_cases hc:ey b (l.getD (k+1) 0)=true
  ·rw[hiV,if_pos hc];refine⟨by omega,i2,fun j h1 h2=>?_⟩;by_cases e:j=k+1
   ·subst e;exact((pL _ _).1 hc).2.2
   ·exact i3 j h1 (by omega)
  ·rw[hiV,if_neg hc];rw[dN hb (h.num _ hk),decide_eq_true_eq]at hc;exact⟨nR _,by omega,fun j h1 h2=>by omega⟩
theorem dC (l:List Nat) (h:Rise l) (a b:Nat) (ha:¬nan a) (hb:¬nan b) (Dg:vf a≤vf b) (ho:eJ l a b=false):
  loV l a 0≤hiV l b (l.length-2)∧hiV l b (l.length-2)+2≤l.length∧(∀j,j<loV l a 0→vf (l.getD (j+1) 0)≤vf a)∧(loV l a 0+2=l.length∨vf a<vf (l.getD (loV l a 0+1) 0))∧
  vf (l.getD (hiV l b (l.length-2)) 0)≤vf b∧(∀j,hiV l b (l.length-2)<j→j+2≤l.length→vf b<vf (l.getD j 0))∧vf a≤vf (l.getD (l.length-1) 0)∧vf (l.getD 0 0)≤vf b:=by
 have h2:=h.two;unfold eJ at ho;rw[Bool.or_eq_false_iff,pS ha (h.num _ (by omega)),dN hb (h.num _ (by omega)),decide_eq_false_iff_not,decide_eq_false_iff_not]at ho;obtain⟨o1,o2⟩:=ho;obtain⟨a1,a2,a3⟩:=wU l h a ha _ 0 rfl (by omega) (fun j hj=>by omega);obtain⟨b1,b2,b3⟩:=xJ l h b hb (by omega) (l.length-2) (by omega);refine⟨?_,by omega,a2,a3,b2,fun j j1 j2=>b3 j j1 (by omega),by omega,by omega⟩;apply Nat.le_of_not_lt;intro hh;have x:=b3 (hiV l b (l.length-2)+1) (by omega) (by omega);have y:=a2 (hiV l b (l.length-2)) hh;omega
def gJ (l:List Nat) (a b k:Nat):Bool:=(if k+2=l.length then mT a (l.getD (k+1) 0)else ey a (l.getD (k+1) 0))&&qo b (l.getD k 0)
theorem vz (l:List Nat) (h:Rise l) (a b:Nat) (ha:¬nan a) (hb:¬nan b) (Dg:vf a≤vf b) (ho:eJ l a b=false) (k:Nat) (hk:k+2≤l.length):
  gJ l a b k=true↔loV l a 0≤k∧k≤hiV l b (l.length-2):=by
 obtain⟨s1,s2,s3,s4,s5,s6,s7,s8⟩:=dC l h a b ha hb Dg ho;unfold gJ;rw[Bool.and_eq_true,lf hb (h.num _ (by omega)),decide_eq_true_eq];constructor
 ·rintro⟨t1,t2⟩;constructor
  ·apply Nat.le_of_not_lt;intro hh;have x:=s3 k hh;rw[if_neg (by omega),dN ha (h.num _ (by omega)),decide_eq_true_eq]at t1;omega
  ·apply Nat.le_of_not_lt;intro hh;have x:=s6 k hh hk;omega
 ·rintro⟨t1,t2⟩;constructor
  ·by_cases e:k+2=l.length
   ·rw[if_pos e,qh ha (h.num _ (by omega)),decide_eq_true_eq];rw[show k+1=l.length-1 by omega];exact s7
   ·rw[if_neg e,dN ha (h.num _ (by omega)),decide_eq_true_eq];rcases s4 with s4|s4
    ·omega
    ·have:=h.le (loV l a 0+1) (k+1) (by omega) (by omega);omega
  ·have:=h.le k _ t2 (by omega);omega
theorem xq (l:List Nat) (h:Rise l) (a b:Nat) (ha:¬nan a) (hb:¬nan b) (ho:eJ l a b=true) (k:Nat) (hk:k+2≤l.length):gJ l a b k=false:=by
 have h2:=h.two;unfold eJ at ho;rw[Bool.or_eq_true,pS ha (h.num _ (by omega)),dN hb (h.num _ (by omega)),decide_eq_true_eq,decide_eq_true_eq]at ho;rw[←Bool.not_eq_true];unfold gJ;rw[Bool.and_eq_true,lf hb (h.num _ (by omega)),decide_eq_true_eq];rintro⟨t1,t2⟩;rcases ho with ho|ho
 ·have x:=h.le (k+1) (l.length-1) (by omega) (by omega);by_cases e:k+2=l.length
  ·rw[if_pos e,qh ha (h.num _ (by omega)),decide_eq_true_eq]at t1;omega
  ·rw[if_neg e,dN ha (h.num _ (by omega)),decide_eq_true_eq]at t1;omega
 ·have x:=h.le 0 k (by omega) (by omega);omega
def fZ (l:List Nat) (a b:Nat) (k:Nat):List Nat:=(List.range k).filter (gJ l a b)
theorem te (l:List Nat) (h:Rise l) (a b:Nat) (ha:¬nan a) (hb:¬nan b) (ho:eJ l a b=true):fZ l a b (l.length-1)=[]:=by
 unfold fZ;rw[List.filter_eq_nil_iff];intro k hk;rw[List.mem_range]at hk;rw[xq l h a b ha hb ho k (by omega)];simp
theorem wJ (l:List Nat) (h:Rise l) (a b:Nat) (ha:¬nan a) (hb:¬nan b) (Dg:vf a≤vf b) (ho:eJ l a b=false):
  fZ l a b (l.length-1)=List.range' (loV l a 0) (hiV l b (l.length-2)-loV l a 0+1):=by
 obtain⟨s1,s2,_⟩:=dC l h a b ha hb Dg ho;have QH:=vz l h a b ha hb Dg ho;generalize loV l a 0=lo at *;generalize hiV l b (l.length-2)=hi at *;unfold fZ;have Dr:((List.range (l.length-1)).filter (gJ l a b)).Pairwise (· < ·):=List.Pairwise.filter _ List.pairwise_lt_range;have Dz:(List.range' lo (hi-lo+1)).Pairwise (· < ·):=List.pairwise_lt_range';refine List.Perm.eq_of_pairwise (le:=(· < ·)) (fun x y _ _ h1 h2=>by omega) Dr Dz ?_;refine(List.perm_ext_iff_of_nodup (Dr.imp (fun h=>Nat.ne_of_lt h)) (Dz.imp (fun h=>Nat.ne_of_lt h))).2 fun k=>?_;rw[List.mem_filter,List.mem_range,List.mem_range'_1];constructor
 ·rintro⟨h1,h2⟩;have:=(QH k (by omega)).1 h2;omega
 ·rintro⟨h1,h2⟩;exact⟨by omega,(QH k (by omega)).2 (by omega)⟩
structure Pl where
 rows:Int
 cols:Int
 x:Nat
 p:Nat
 r:Nat
 cap:Int
 sA:Option Addr
 sn:Nat
 sc:Nat
 st:List Int
structure Rk where
 rows:Int
 cols:Int
 x:Nat
 p:Nat
 r:Nat
structure Q4 where
 a:Int
 b:Int
 c:Int
 d:Int
 deriving DecidableEq
def pH (q:Pl):List Value:=[.int .i64 q.rows,.int .i64 q.cols,.float .f64 q.x,.float .f64 q.p,.float .f64 q.r,.int .i64 q.cap,.slice q.sA q.sn q.sc]
def oV (q:Rk):List Value:=[.int .i64 q.rows,.int .i64 q.cols,.float .f64 q.x,.float .f64 q.p,.float .f64 q.r]
def fj (q:Q4):List Value:=[.int .i64 q.a,.int .i64 q.b,.int .i64 q.c,.int .i64 q.d]
noncomputable def KP:Lk prog Pl where
 S:=23
 E:=86
 n:=7
 zero:=.agg #[.int .i64 0,.int .i64 0,.float .f64 0,.float .f64 0,.float .f64 0,.int .i64 0,.slice none 0 0]
 bytes:=72
 cells:=pH
 dflt:=⟨0,0,0,0,0,0,none,0,0,[]⟩
 ok q:=ae q.rows∧ae q.cols∧q.x<18446744073709551616∧q.p<18446744073709551616∧q.r<18446744073709551616∧ae q.cap
 und:=underlying23
 info:=by kernel_rfl
 zs:=rfl
 pos:=by decide
 small:=by decide
 len _:=rfl
 one x u hu:=by
  simp only[pH,List.mem_cons,List.not_mem_nil,or_false]at hu;rcases hu with rfl|rfl|rfl|rfl|rfl|rfl|rfl<;>rfl
noncomputable def KR:Lk prog Rk where
 S:=24
 E:=118
 n:=5
 zero:=.agg #[.int .i64 0,.int .i64 0,.float .f64 0,.float .f64 0,.float .f64 0]
 bytes:=40
 cells:=oV
 dflt:=⟨0,0,0,0,0⟩
 ok q:=ae q.rows∧ae q.cols∧q.x<18446744073709551616∧q.p<18446744073709551616∧q.r<18446744073709551616
 und:=underlying24
 info:=by kernel_rfl
 zs:=rfl
 pos:=by decide
 small:=by decide
 len _:=rfl
 one x u hu:=by
  simp only[oV,List.mem_cons,List.not_mem_nil,or_false]at hu;rcases hu with rfl|rfl|rfl|rfl|rfl<;>rfl
noncomputable def KU:Lk prog Q4 where
 S:=255
 E:=258
 n:=4
 zero:=.agg #[.int .i64 0,.int .i64 0,.int .i64 0,.int .i64 0]
 bytes:=32
 cells:=fj
 dflt:=⟨0,0,0,0⟩
 ok q:=ae q.a∧ae q.b∧ae q.c∧ae q.d
 und:=underlying255
 info:=by kernel_rfl
 zs:=rfl
 pos:=by decide
 small:=by decide
 len _:=rfl
 one x u hu:=by
  simp only[fj,List.mem_cons,List.not_mem_nil,or_false]at hu;rcases hu with rfl|rfl|rfl|rfl<;>rfl
noncomputable def KQ:Lk prog Q4 where
 S:=93
 E:=153
 n:=4
 zero:=.agg #[.int .i64 0,.int .i64 0,.int .i64 0,.int .i64 0]
 bytes:=32
 cells:=fj
 dflt:=⟨0,0,0,0⟩
 ok q:=ae q.a∧ae q.b∧ae q.c∧ae q.d
 und:=underlying93
 info:=by kernel_rfl
 zs:=rfl
 pos:=by decide
 small:=by decide
 len _:=rfl
 one x u hu:=by
  simp only[fj,List.mem_cons,List.not_mem_nil,or_false]at hu;rcases hu with rfl|rfl|rfl|rfl<;>rfl
theorem Lk.IsL.len {P:Program} {α:Type} {K:Lk P α} {w:World} {B:Nat} {A:Option Addr} {n c:Nat} {xs:List α} (h:K.IsL w B (.slice A n c) xs):n=xs.length:=by
 obtain⟨⟨A',c',hv,_⟩,_⟩:=h;injection hv
theorem Lk.IsL.elem {P:Program} {α:Type} {K:Lk P α} {w:World} {B:Nat} {A:Option Addr} {n c:Nat} {xs:List α} (h:K.IsL w B (.slice A n c) xs) (h0:0<xs.length):∃b off,A=some ⟨b,off,none⟩∧b<B∧xs.length≤c∧
  ∀i,i<xs.length→∀j u,(K.cells (xs.getD i K.dflt))[j]? =some u→w.cell? ⟨b,off+(i*K.n+j),none⟩=some u:=by
 obtain⟨⟨A',c',hv,hc,hA⟩,_⟩:=h;obtain⟨b,off,rfl,hb,CD⟩:=hA h0;injection hv with e1 e2 e3
 exact⟨b,off,e1,hb,by omega,CD⟩
theorem Lk.IsL.okAt {P:Program} {α:Type} {K:Lk P α} {w:World} {B:Nat} {v:Value} {xs:List α} (h:K.IsL w B v xs) (i:Nat) (hi:i<xs.length):K.ok (xs.getD i K.dflt):=h.2.1 _ (af xs i _ hi)
structure Dk where
 bA:Option Addr
 bn:Nat
 bc:Nat
 bl:List Nat
 pA:Option Addr
 pn:Nat
 pc:Nat
 pl:List Pl
 rA:Option Addr
 rn:Nat
 rc:Nat
 rl:List Rk
 arms:Int
abbrev Dk.v (d:Dk):Value:=.agg #[.slice d.bA d.bn d.bc,.slice d.pA d.pn d.pc,.slice d.rA d.rn d.rc,.int .i64 d.arms]
structure Dk.In (w:World) (B:Nat) (d:Dk):Prop where
 b:KF.IsL w B (.slice d.bA d.bn d.bc) d.bl
 p:KP.IsL w B (.slice d.pA d.pn d.pc) d.pl
 r:KR.IsL w B (.slice d.rA d.rn d.rc) d.rl
 s:∀q∈d.pl,KI.IsL w B (.slice q.sA q.sn q.sc) q.st
 a:ae d.arms
theorem Dk.In.below {w w':World} {B:Nat} {d:Dk} (h:d.In w B) (hb:Below B w w'):d.In w' B:=⟨h.b.below hb,h.p.below hb,h.r.below hb,fun q hq=>(h.s q hq).below hb,h.a⟩
theorem Dk.In.more {w:World} {B B':Nat} {d:Dk} (h:d.In w B) (hB:B≤B'):d.In w B':=⟨h.b.more hB,h.p.more hB,h.r.more hB,fun q hq=>(h.s q hq).more hB,h.a⟩
theorem Dk.In.then {w w':World} {d:Dk} (h:d.In w w.heap.size) (hb:Bw w w'):d.In w' w'.heap.size:=(h.below hb).more hb.size
theorem Dk.In.drewN {w:World} {B:Nat} {d:Dk} (h:d.In w B) (n:Nat):d.In (w.drewN n) B:=⟨h.b,h.p,h.r,h.s,h.a⟩
def bG (r c:Int):Bool:=decide (1≤r∧r≤32∧1≤c∧c≤48)
theorem bv (r c:Int) (w:World):Calls prog 216 #[.int .i64 r,.int .i64 c] w fun e w'=>e=.returned (.bool (bG r c))∧w=w':=by
 by_cases h1:1≤r<;>by_cases h2:r≤32<;>by_cases h3:1≤c;all_goals (try (exfalso;omega;done))
 all_goals
  go_enter func216,ntmps216;go_wp2
  go_ret
  exact⟨aj (by first|exact(dF (by omega)).symm|exact(dT (by omega)).symm|(rw[bG,Bool.eq_iff_iff];simp only[decide_eq_true_eq];omega)),rfl⟩
theorem dD (r c:Int) (w:World):Calls prog 163 #[.int .i64 r,.int .i64 c] w fun e w'=>e=.returned (.bool (bG r c))∧w=w':=by
 by_cases h1:1≤r<;>by_cases h2:r≤32<;>by_cases h3:1≤c;all_goals (try (exfalso;omega;done))
 all_goals
  go_enter func163,ntmps163;go_wp2
  go_ret
  exact⟨aj (by first|exact(dF (by omega)).symm|exact(dT (by omega)).symm|(rw[bG,Bool.eq_iff_iff];simp only[decide_eq_true_eq];omega)),rfl⟩
theorem dP {r c:Int} (h:bG r c=true):1≤r∧r≤32∧1≤c∧c≤48:=by unfold bG at h;simpa using h
theorem bB {r c:Int} (h:bG r c=true):1≤r*c∧r*c≤1536:=by
 obtain⟨h1,h2,h3,h4⟩:=dP h;have a:=Int.mul_le_mul h2 h4 (by omega) (by omega);have b:=Int.mul_le_mul h1 h3 (by omega) (by omega);omega
abbrev Dk.ob (d:Dk):Obj:=.cells #[.slice d.bA d.bn d.bc,.slice d.pA d.pn d.pc,.slice d.rA d.rn d.rc,.int .i64 d.arms] 26
end Go.Proofs.YtmecohdedghiaaaGreatDoor
