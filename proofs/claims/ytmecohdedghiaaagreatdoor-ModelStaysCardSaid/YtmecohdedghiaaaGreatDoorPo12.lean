/- Cells: moves. -/
import Derived.Test.YtmecohdedghiaaaGreatDoorPo00
import Derived.Test.YtmecohdedghiaaaGreatDoorPo11
import Derived.Test.YtmecohdedghiaaaGreatDoorPo04
set_option maxRecDepth 100000
set_option maxHeartbeats 8000000
open Go.Proofs.Tryz
namespace Go.Proofs.YtmecohdedghiaaaGreatDoor.Cel
open Go.RowKit
structure Ce where
 a:Int
 b:Int
 c:Int
abbrev Ce.v (x:Ce):Value:=.agg #[.int .i64 x.a,.int .i64 x.b,.int .i64 x.c]
structure Ce.Fit (x:Ce):Prop where
 a:ae x.a
 b:ae x.b
 c:ae x.c
def Ce.Right (x:Ce):Prop:=1≤x.a∧x.a≤1099511627776∧0≤x.b∧x.b≤x.a∧0≤x.c∧x.c≤2147483647
instance (x:Ce):Decidable x.Right:=by unfold Ce.Right;infer_instance
def rightB (x:Ce):Bool:=decide x.Right
def chE (x:Ce) (n:Int):Int:=if ¬x.Right then 100 else if n=0 then 1 else if x.c=2147483647 then 101 else if x.b+n<0 then 102 else if x.a<x.b+n then 103 else 0
def cZ:Ce:=⟨0,0,0⟩
def chV (x:Ce) (n:Int):Ce:=if chE x n=0 then⟨x.a,x.b+n,x.c+1⟩else cZ
theorem Below.box {w w':World} (o:Obj) (h:Below (w.alloc o).heap.size (w.alloc o) w'):Bw w w':=bC (bL (bR _ _) o) h
theorem tX {a b:Int} (ha:0≤a) (hb:ae b) (hk:a≤1099511627776):¬ae (a+b)→0<a+b:=by unfold ae at *;omega
theorem right_any (x:Ce) (w:World):Calls prog 164 #[x.v] w fun e w'=>e=.returned (.bool (rightB x))∧Bw w w':=by
 obtain⟨a,b,c⟩:=x;show Calls prog 164 #[.agg #[.int .i64 a,.int .i64 b,.int .i64 c]] w fun e w'=>e=.returned (.bool (decide (1≤a∧a≤1099511627776∧0≤b∧b≤a∧0≤c∧c≤2147483647)))∧Bw w w';by_cases h1:1≤a
 ·by_cases h2:a≤1099511627776
  ·by_cases h3:0≤b
   ·by_cases h4:b≤a
    ·by_cases h5:0≤c
     ·by_cases h6:c≤2147483647
      ·rw[show decide (1≤a∧a≤1099511627776∧0≤b∧b≤a∧0≤c∧c≤2147483647)=true from dT ⟨h1,h2,h3,h4,h5,h6⟩];go_enter func164,ntmps164;go_wp2
       go_ret
       exact⟨aj (by simp),bL (bR _ _) _⟩
      ·rw[show decide (1≤a∧a≤1099511627776∧0≤b∧b≤a∧0≤c∧c≤2147483647)=false from dF (by omega)];go_enter func164,ntmps164;go_wp2
       go_ret
       exact⟨aj (by simp),bL (bR _ _) _⟩
     ·rw[show decide (1≤a∧a≤1099511627776∧0≤b∧b≤a∧0≤c∧c≤2147483647)=false from dF (by omega)];go_enter func164,ntmps164;go_wp2
      go_ret
      exact⟨aj (by simp),bL (bR _ _) _⟩
    ·rw[show decide (1≤a∧a≤1099511627776∧0≤b∧b≤a∧0≤c∧c≤2147483647)=false from dF (by omega)];go_enter func164,ntmps164;go_wp2
     go_ret
     exact⟨aj (by simp),bL (bR _ _) _⟩
   ·rw[show decide (1≤a∧a≤1099511627776∧0≤b∧b≤a∧0≤c∧c≤2147483647)=false from dF (by omega)];go_enter func164,ntmps164;go_wp2
    go_ret
    exact⟨aj (by simp),bL (bR _ _) _⟩
  ·rw[show decide (1≤a∧a≤1099511627776∧0≤b∧b≤a∧0≤c∧c≤2147483647)=false from dF (by omega)];go_enter func164,ntmps164;go_wp2
   go_ret
   exact⟨aj (by simp),bL (bR _ _) _⟩
 ·rw[show decide (1≤a∧a≤1099511627776∧0≤b∧b≤a∧0≤c∧c≤2147483647)=false from dF (by omega)];go_enter func164,ntmps164;go_wp2
  go_ret
  exact⟨aj (by simp),bL (bR _ _) _⟩
theorem rright_any (x:Ce) (w:World):Calls prog 112 #[x.v] w fun e w'=>e=.returned (.bool (rightB x))∧Bw w w':=by
 obtain⟨a,b,c⟩:=x;show Calls prog 112 #[.agg #[.int .i64 a,.int .i64 b,.int .i64 c]] w fun e w'=>e=.returned (.bool (decide (1≤a∧a≤1099511627776∧0≤b∧b≤a∧0≤c∧c≤2147483647)))∧Bw w w';by_cases h1:1≤a
 ·by_cases h2:a≤1099511627776
  ·by_cases h3:0≤b
   ·by_cases h4:b≤a
    ·by_cases h5:0≤c
     ·by_cases h6:c≤2147483647
      ·rw[show decide (1≤a∧a≤1099511627776∧0≤b∧b≤a∧0≤c∧c≤2147483647)=true from dT ⟨h1,h2,h3,h4,h5,h6⟩];go_enter func112,ntmps112;go_wp2
       go_ret
       exact⟨aj (by simp),bL (bR _ _) _⟩
      ·rw[show decide (1≤a∧a≤1099511627776∧0≤b∧b≤a∧0≤c∧c≤2147483647)=false from dF (by omega)];go_enter func112,ntmps112;go_wp2
       go_ret
       exact⟨aj (by simp),bL (bR _ _) _⟩
     ·rw[show decide (1≤a∧a≤1099511627776∧0≤b∧b≤a∧0≤c∧c≤2147483647)=false from dF (by omega)];go_enter func112,ntmps112;go_wp2
      go_ret
      exact⟨aj (by simp),bL (bR _ _) _⟩
    ·rw[show decide (1≤a∧a≤1099511627776∧0≤b∧b≤a∧0≤c∧c≤2147483647)=false from dF (by omega)];go_enter func112,ntmps112;go_wp2
     go_ret
     exact⟨aj (by simp),bL (bR _ _) _⟩
   ·rw[show decide (1≤a∧a≤1099511627776∧0≤b∧b≤a∧0≤c∧c≤2147483647)=false from dF (by omega)];go_enter func112,ntmps112;go_wp2
    go_ret
    exact⟨aj (by simp),bL (bR _ _) _⟩
  ·rw[show decide (1≤a∧a≤1099511627776∧0≤b∧b≤a∧0≤c∧c≤2147483647)=false from dF (by omega)];go_enter func112,ntmps112;go_wp2
   go_ret
   exact⟨aj (by simp),bL (bR _ _) _⟩
 ·rw[show decide (1≤a∧a≤1099511627776∧0≤b∧b≤a∧0≤c∧c≤2147483647)=false from dF (by omega)];go_enter func112,ntmps112;go_wp2
  go_ret
  exact⟨aj (by simp),bL (bR _ _) _⟩
abbrev ceE (x:Ce) (e:Int):Value:=.tuple #[.agg #[.int .i64 x.a,.int .i64 x.b,.int .i64 x.c],.int .i64 e]
theorem right_t {a b c:Int} (h:(Ce.mk a b c).Right) (w:World):Calls prog 164 #[.agg #[.int .i64 a,.int .i64 b,.int .i64 c]] w fun e w'=>e=.returned (.bool true)∧Bw w w':=by
 have:=right_any ⟨a,b,c⟩ w
 rwa [show rightB ⟨a,b,c⟩=true from dT h]at this
theorem right_f {a b c:Int} (h:¬(Ce.mk a b c).Right) (w:World):Calls prog 164 #[.agg #[.int .i64 a,.int .i64 b,.int .i64 c]] w fun e w'=>e=.returned (.bool false)∧Bw w w':=by
 have:=right_any ⟨a,b,c⟩ w
 rwa [show rightB ⟨a,b,c⟩=false from dF h]at this
theorem aT (x:Ce) (n:Int) (hx:x.Fit) (hn:ae n) (w:World):Calls prog 265 #[x.v,.int .i64 n] w fun e w'=>e=.returned (ceE (chV x n) (chE x n))∧Bw w w':=by
 obtain⟨a,b,c⟩:=x;by_cases hr:(Ce.mk a b c).Right
 ·have HK:=aH (fun w=>right_t hr w);have HR:=aH hr;obtain⟨r1,r2,r3,r4,r5,r6⟩:=hr;dsimp only at r1 r2 r3 r4 r5 r6;have HA:=aH (fun w=>xk b n hx.b hn w);have HN:=aH hn;clear hx hn;by_cases h1:n=0
  ·subst h1;have T:chE ⟨a,b,c⟩ 0=1:=(by unfold chE;rw[if_neg (by simpa using HR.out),if_pos rfl]);have U:chV ⟨a,b,c⟩ 0=cZ:=(by unfold chV;rw[T];rfl);rw[T,U];go_enter func265,ntmps265;go_wp2_with fail;refine(HK.out _).mono ?_;rintro e w1 ⟨rfl,CE⟩;obtain⟨Dn,Ep⟩:=aL CE;have CH:=aH CE;have Dd:w.heap.size<w1.heap.size:=(by(have:=CE.size;(try simp at this)<;>omega));have Dc:w.heap.size+1<w1.heap.size:=(by(have:=CE.size;(try simp at this)<;>omega));clear CE;go_wp2;refine bP (v:=.tuple #[.agg #[.int .i64 0,.int .i64 0,.int .i64 0],.int .i64 1]) (by simp[results,results265,go_sem,Dn]) rfl ⟨rfl,?_⟩;(repeat (first|exact bR _ _|(with_reducible refine bS ?_ (by simp<;>omega))|(with_reducible refine bL ?_ _)|(with_reducible refine bC ?_ CH.out)))
  ·by_cases h2:c=2147483647
   ·have T:chE ⟨a,b,c⟩ n=101:=(by unfold chE;rw[if_neg (by simpa using HR.out),if_neg h1,if_pos h2]);have U:chV ⟨a,b,c⟩ n=cZ:=(by unfold chV;rw[T];rfl);rw[T,U];have q2:(c==2147483647)=true:=(by rw[beq_iff_eq];exact h2);clear T U h2;go_enter func265,ntmps265;go_wp2_with fail;refine(HK.out _).mono ?_;rintro e w1 ⟨rfl,CE⟩;obtain⟨Dn,Ep⟩:=aL CE;have CH:=aH CE;have Dd:w.heap.size<w1.heap.size:=(by(have:=CE.size;(try simp at this)<;>omega));have Dc:w.heap.size+1<w1.heap.size:=(by(have:=CE.size;(try simp at this)<;>omega));clear CE;go_wp2;refine bP (v:=.tuple #[.agg #[.int .i64 0,.int .i64 0,.int .i64 0],.int .i64 101]) (by simp[results,results265,go_sem,Dn]) rfl ⟨rfl,?_⟩;(repeat (first|exact bR _ _|(with_reducible refine bS ?_ (by simp<;>omega))|(with_reducible refine bL ?_ _)|(with_reducible refine bC ?_ CH.out)))
   ·by_cases h3:ae (b+n)
    ·have e1:bW (b+n)=b+n:=if_pos h3;have e2:cj (b+n)=0:=if_pos h3;rw[e1,e2]at HA;clear e1 e2;have H3:=aH h3;clear h3;by_cases h4:b+n<0
     ·have T:chE ⟨a,b,c⟩ n=102:=(by unfold chE;rw[if_neg (by simpa using HR.out),if_neg h1,if_neg h2,if_pos h4]);have U:chV ⟨a,b,c⟩ n=cZ:=(by unfold chV;rw[T];rfl);rw[T,U];go_enter func265,ntmps265;go_wp2_with fail;refine(HK.out _).mono ?_;rintro e w1 ⟨rfl,CE⟩;obtain⟨Dn,Ep⟩:=aL CE;have CH:=aH CE;have Dd:w.heap.size<w1.heap.size:=(by(have:=CE.size;(try simp at this)<;>omega));have Dc:w.heap.size+1<w1.heap.size:=(by(have:=CE.size;(try simp at this)<;>omega));clear CE;go_wp2_with fail;refine(HA.out _).mono ?_;rintro e w2 ⟨rfl,rfl⟩;go_wp2;refine bP (v:=.tuple #[.agg #[.int .i64 0,.int .i64 0,.int .i64 0],.int .i64 102]) (by simp[results,results265,go_sem,Dn]) rfl ⟨rfl,?_⟩;(repeat (first|exact bR _ _|(with_reducible refine bS ?_ (by simp<;>omega))|(with_reducible refine bL ?_ _)|(with_reducible refine bC ?_ CH.out)))
     ·by_cases h5:a<b+n
      ·have T:chE ⟨a,b,c⟩ n=103:=(by unfold chE;rw[if_neg (by simpa using HR.out),if_neg h1,if_neg h2,if_neg h4,if_pos h5]);have U:chV ⟨a,b,c⟩ n=cZ:=(by unfold chV;rw[T];rfl);rw[T,U];go_enter func265,ntmps265;go_wp2_with fail;refine(HK.out _).mono ?_;rintro e w1 ⟨rfl,CE⟩;obtain⟨Dn,Ep⟩:=aL CE;have CH:=aH CE;have Dd:w.heap.size<w1.heap.size:=(by(have:=CE.size;(try simp at this)<;>omega));have Dc:w.heap.size+1<w1.heap.size:=(by(have:=CE.size;(try simp at this)<;>omega));clear CE;go_wp2_with fail;refine(HA.out _).mono ?_;rintro e w2 ⟨rfl,rfl⟩;go_wp2;refine bP (v:=.tuple #[.agg #[.int .i64 0,.int .i64 0,.int .i64 0],.int .i64 103]) (by simp[results,results265,go_sem,Dn]) rfl ⟨rfl,?_⟩;(repeat (first|exact bR _ _|(with_reducible refine bS ?_ (by simp<;>omega))|(with_reducible refine bL ?_ _)|(with_reducible refine bC ?_ CH.out)))
      ·have T:chE ⟨a,b,c⟩ n=0:=(by unfold chE;rw[if_neg (by simpa using HR.out),if_neg h1,if_neg h2,if_neg h4,if_neg h5]);have U:chV ⟨a,b,c⟩ n=⟨a,b+n,c+1⟩:=(by unfold chV;rw[if_pos T]);rw[T,U];go_enter func265,ntmps265;go_wp2_with fail;refine(HK.out _).mono ?_;rintro e w1 ⟨rfl,CE⟩;obtain⟨Dn,Ep⟩:=aL CE;have CH:=aH CE;have Dd:w.heap.size<w1.heap.size:=(by(have:=CE.size;(try simp at this)<;>omega));have Dc:w.heap.size+1<w1.heap.size:=(by(have:=CE.size;(try simp at this)<;>omega));clear CE;go_wp2_with fail;refine(HA.out _).mono ?_;rintro e w2 ⟨rfl,rfl⟩;go_wp2;refine bP (v:=.tuple #[.agg #[.int .i64 a,.int .i64 (b+n),.int .i64 (c+1)],.int .i64 0]) (by simp[results,results265,go_sem,Dn]) rfl ⟨rfl,?_⟩;(repeat (first|exact bR _ _|(with_reducible refine bS ?_ (by simp<;>omega))|(with_reducible refine bL ?_ _)|(with_reducible refine bC ?_ CH.out)))
    ·have hp:0<b+n:=tX (a:=b) r3 HN.out (by omega) h3;have e1:bW (b+n)=0:=if_neg h3;have e2:cj (b+n)=4:=if_neg h3;rw[e1,e2]at HA;have T:chE ⟨a,b,c⟩ n=103:=by
      unfold ae at h3;unfold chE;rw[if_neg (by simpa using HR.out),if_neg h1,if_neg h2,if_neg (show ¬b+n<0 by omega),if_pos (show a<b+n by omega)]
     have U:chV ⟨a,b,c⟩ n=cZ:=(by unfold chV;rw[T];rfl);rw[T,U];clear e1 e2 h3 hp;go_enter func265,ntmps265;go_wp2_with fail;refine(HK.out _).mono ?_;rintro e w1 ⟨rfl,CE⟩;obtain⟨Dn,Ep⟩:=aL CE;have CH:=aH CE;have Dd:w.heap.size<w1.heap.size:=(by(have:=CE.size;(try simp at this)<;>omega));have Dc:w.heap.size+1<w1.heap.size:=(by(have:=CE.size;(try simp at this)<;>omega));clear CE;go_wp2_with fail;refine(HA.out _).mono ?_;rintro e w2 ⟨rfl,rfl⟩;go_wp2;refine bP (v:=.tuple #[.agg #[.int .i64 0,.int .i64 0,.int .i64 0],.int .i64 103]) (by simp[results,results265,go_sem,Dn]) rfl ⟨rfl,?_⟩;(repeat (first|exact bR _ _|(with_reducible refine bS ?_ (by simp<;>omega))|(with_reducible refine bL ?_ _)|(with_reducible refine bC ?_ CH.out)))
 ·have HK:=aH (fun w=>right_f hr w);have T:chE ⟨a,b,c⟩ n=100:=by unfold chE;rw[if_pos hr]
  have U:chV ⟨a,b,c⟩ n=cZ:=by unfold chV;rw[T];rfl
  rw[T,U];clear hx hn hr;go_enter func265,ntmps265;go_wp2_with fail;refine(HK.out _).mono ?_;rintro e w1 ⟨rfl,CE⟩;obtain⟨Dn,Ep⟩:=aL CE;have CH:=aH CE;have Dd:w.heap.size<w1.heap.size:=by(have:=CE.size;(try simp at this)<;>omega)
  have Dc:w.heap.size+1<w1.heap.size:=by(have:=CE.size;(try simp at this)<;>omega)
  clear CE;go_wp2;refine bP (v:=.tuple #[.agg #[.int .i64 0,.int .i64 0,.int .i64 0],.int .i64 100]) (by simp[results,results265,go_sem,Dn]) rfl ⟨rfl,?_⟩;(repeat (first|exact bR _ _|(with_reducible refine bS ?_ (by simp<;>omega))|(with_reducible refine bL ?_ _)|(with_reducible refine bC ?_ CH.out)))
def newE (a b:Int):Int:=if (Ce.mk a b 0).Right then 0 else 100
def newV (a b:Int):Ce:=if (Ce.mk a b 0).Right then⟨a,b,0⟩else cZ
theorem new_any (a b:Int) (w:World):Calls prog 158 #[.int .i64 a,.int .i64 b] w fun e w'=>e=.returned (ceE (newV a b) (newE a b))∧Bw w w':=by
 by_cases hr:(Ce.mk a b 0).Right
 ·have HK:=aH (fun w=>right_t hr w);have T:newE a b=0:=by unfold newE;rw[if_pos hr]
  have U:newV a b=⟨a,b,0⟩:=by unfold newV;rw[if_pos hr]
  rw[T,U];clear T U hr;have hq:w.heap.size<w.heap.size+1+1:=by omega
  go_enter func158,ntmps158;go_wp2_with fail;refine(HK.out _).mono ?_;rintro e w1 ⟨rfl,CE⟩;obtain⟨Dn,Ep⟩:=aL CE;have CH:=aH CE;have Dd:w.heap.size<w1.heap.size:=by(have:=CE.size;(try simp at this)<;>omega)
  have Dc:w.heap.size+1<w1.heap.size:=by(have:=CE.size;(try simp at this)<;>omega)
  clear CE;go_wp2;refine bP (v:=.tuple #[.agg #[.int .i64 a,.int .i64 b,.int .i64 0],.int .i64 0]) (by simp[results,results158,go_sem,Dn,hq]) rfl ⟨rfl,?_⟩;(repeat (first|exact bR _ _|(with_reducible refine bS ?_ (by simp<;>omega))|(with_reducible refine bL ?_ _)|(with_reducible refine bC ?_ CH.out)))
 ·have HK:=aH (fun w=>right_f hr w);have T:newE a b=100:=by unfold newE;rw[if_neg hr]
  have U:newV a b=cZ:=by unfold newV;rw[if_neg hr]
  rw[T,U];clear T U hr;have hq:w.heap.size<w.heap.size+1+1:=by omega
  go_enter func158,ntmps158;go_wp2_with fail;refine(HK.out _).mono ?_;rintro e w1 ⟨rfl,CE⟩;obtain⟨Dn,Ep⟩:=aL CE;have CH:=aH CE;have Dd:w.heap.size<w1.heap.size:=by(have:=CE.size;(try simp at this)<;>omega)
  have Dc:w.heap.size+1<w1.heap.size:=by(have:=CE.size;(try simp at this)<;>omega)
  clear CE;go_wp2;refine bP (v:=.tuple #[.agg #[.int .i64 0,.int .i64 0,.int .i64 0],.int .i64 100]) (by simp[results,results158,go_sem,Dn,hq]) rfl ⟨rfl,?_⟩;(repeat (first|exact bR _ _|(with_reducible refine bS ?_ (by simp<;>omega))|(with_reducible refine bL ?_ _)|(with_reducible refine bC ?_ CH.out)))
theorem pour_any (x:Ce) (n:Int) (hx:x.Fit) (hn:ae n) (w:World):Calls prog 258 #[x.v,.int .i64 n] w fun e w'=>e=.returned (ceE (chV x (max n 0)) (chE x (max n 0)))∧Bw w w':=by
 obtain⟨a,b,c⟩:=x;by_cases hl:n<0
 ·rw[show max n 0=0 by omega];have HK:=aH (fun w=>aT ⟨a,b,c⟩ (0) hx (by unfold ae at *;omega) w);generalize chV ⟨a,b,c⟩ (0)=y at *;generalize chE ⟨a,b,c⟩ (0)=z at *;obtain⟨p,q,r⟩:=y;unfold ae at hn;clear hx;go_enter func258,ntmps258;go_wp2_with fail;refine(HK.out _).mono ?_;rintro e w1 ⟨rfl,CE⟩;obtain⟨Dn,Ep⟩:=aL CE;have CH:=aH CE;have Dd:w.heap.size<w1.heap.size:=by(have:=CE.size;(try simp at this)<;>omega)
  have Dc:w.heap.size+1<w1.heap.size:=by(have:=CE.size;(try simp at this)<;>omega)
  clear CE;go_wp2;refine bP (v:=.tuple #[.agg #[.int .i64 p,.int .i64 q,.int .i64 r],.int .i64 z]) (by simp[results,results258,go_sem,Dn]) rfl ⟨rfl,?_⟩;(repeat (first|exact bR _ _|(with_reducible refine bS ?_ (by simp<;>omega))|(with_reducible refine bL ?_ _)|(with_reducible refine bC ?_ CH.out)))
 ·by_cases h0:n=0
  ·subst h0;rw[show max (0:Int) 0=0 by omega];have HK:=aH (fun w=>aT ⟨a,b,c⟩ (0) hx (by unfold ae at *;omega) w);generalize chV ⟨a,b,c⟩ (0)=y at *;generalize chE ⟨a,b,c⟩ (0)=z at *;obtain⟨p,q,r⟩:=y;unfold ae at hn;clear hx;go_enter func258,ntmps258;go_wp2_with fail;refine(HK.out _).mono ?_;rintro e w1 ⟨rfl,CE⟩;obtain⟨Dn,Ep⟩:=aL CE;have CH:=aH CE;have Dd:w.heap.size<w1.heap.size:=(by(have:=CE.size;(try simp at this)<;>omega));have Dc:w.heap.size+1<w1.heap.size:=(by(have:=CE.size;(try simp at this)<;>omega));clear CE;go_wp2;refine bP (v:=.tuple #[.agg #[.int .i64 p,.int .i64 q,.int .i64 r],.int .i64 z]) (by simp[results,results258,go_sem,Dn]) rfl ⟨rfl,?_⟩;(repeat (first|exact bR _ _|(with_reducible refine bS ?_ (by simp<;>omega))|(with_reducible refine bL ?_ _)|(with_reducible refine bC ?_ CH.out)))
  ·rw[show max n 0=n by omega];have HK:=aH (fun w=>aT ⟨a,b,c⟩ (n) hx (by unfold ae at *;omega) w);generalize chV ⟨a,b,c⟩ (n)=y at *;generalize chE ⟨a,b,c⟩ (n)=z at *;obtain⟨p,q,r⟩:=y;unfold ae at hn;clear hx;go_enter func258,ntmps258;go_wp2_with fail;refine(HK.out _).mono ?_;rintro e w1 ⟨rfl,CE⟩;obtain⟨Dn,Ep⟩:=aL CE;have CH:=aH CE;have Dd:w.heap.size<w1.heap.size:=(by(have:=CE.size;(try simp at this)<;>omega));have Dc:w.heap.size+1<w1.heap.size:=(by(have:=CE.size;(try simp at this)<;>omega));clear CE;go_wp2;refine bP (v:=.tuple #[.agg #[.int .i64 p,.int .i64 q,.int .i64 r],.int .i64 z]) (by simp[results,results258,go_sem,Dn]) rfl ⟨rfl,?_⟩;(repeat (first|exact bR _ _|(with_reducible refine bS ?_ (by simp<;>omega))|(with_reducible refine bL ?_ _)|(with_reducible refine bC ?_ CH.out)))
theorem draw_any (x:Ce) (n:Int) (hx:x.Fit) (hn:ae n) (w:World):Calls prog 260 #[x.v,.int .i64 n] w fun e w'=>e=.returned (ceE (chV x (-(max n 0))) (chE x (-(max n 0))))∧Bw w w':=by
 obtain⟨a,b,c⟩:=x;by_cases hl:n<0
 ·rw[show max n 0=0 by omega];rw[Int.neg_zero];have HK:=aH (fun w=>aT ⟨a,b,c⟩ (0) hx (by unfold ae at *;omega) w);generalize chV ⟨a,b,c⟩ (0)=y at *;generalize chE ⟨a,b,c⟩ (0)=z at *;obtain⟨p,q,r⟩:=y;unfold ae at hn;clear hx;go_enter func260,ntmps260;go_wp2_with fail;refine(HK.out _).mono ?_;rintro e w1 ⟨rfl,CE⟩;obtain⟨Dn,Ep⟩:=aL CE;have CH:=aH CE;have Dd:w.heap.size<w1.heap.size:=by(have:=CE.size;(try simp at this)<;>omega)
  have Dc:w.heap.size+1<w1.heap.size:=by(have:=CE.size;(try simp at this)<;>omega)
  clear CE;go_wp2;refine bP (v:=.tuple #[.agg #[.int .i64 p,.int .i64 q,.int .i64 r],.int .i64 z]) (by simp[results,results260,go_sem,Dn]) rfl ⟨rfl,?_⟩;(repeat (first|exact bR _ _|(with_reducible refine bS ?_ (by simp<;>omega))|(with_reducible refine bL ?_ _)|(with_reducible refine bC ?_ CH.out)))
 ·by_cases h0:n=0
  ·subst h0;rw[show max (0:Int) 0=0 by omega];rw[Int.neg_zero];have HK:=aH (fun w=>aT ⟨a,b,c⟩ (0) hx (by unfold ae at *;omega) w);generalize chV ⟨a,b,c⟩ (0)=y at *;generalize chE ⟨a,b,c⟩ (0)=z at *;obtain⟨p,q,r⟩:=y;unfold ae at hn;clear hx;go_enter func260,ntmps260;go_wp2_with fail;refine(HK.out _).mono ?_;rintro e w1 ⟨rfl,CE⟩;obtain⟨Dn,Ep⟩:=aL CE;have CH:=aH CE;have Dd:w.heap.size<w1.heap.size:=(by(have:=CE.size;(try simp at this)<;>omega));have Dc:w.heap.size+1<w1.heap.size:=(by(have:=CE.size;(try simp at this)<;>omega));clear CE;go_wp2;refine bP (v:=.tuple #[.agg #[.int .i64 p,.int .i64 q,.int .i64 r],.int .i64 z]) (by simp[results,results260,go_sem,Dn]) rfl ⟨rfl,?_⟩;(repeat (first|exact bR _ _|(with_reducible refine bS ?_ (by simp<;>omega))|(with_reducible refine bL ?_ _)|(with_reducible refine bC ?_ CH.out)))
  ·rw[show max n 0=n by omega];have HK:=aH (fun w=>aT ⟨a,b,c⟩ (-n) hx (by unfold ae at *;omega) w);generalize chV ⟨a,b,c⟩ (-n)=y at *;generalize chE ⟨a,b,c⟩ (-n)=z at *;obtain⟨p,q,r⟩:=y;unfold ae at hn;clear hx;go_enter func260,ntmps260;go_wp2_with fail;refine(HK.out _).mono ?_;rintro e w1 ⟨rfl,CE⟩;obtain⟨Dn,Ep⟩:=aL CE;have CH:=aH CE;have Dd:w.heap.size<w1.heap.size:=(by(have:=CE.size;(try simp at this)<;>omega));have Dc:w.heap.size+1<w1.heap.size:=(by(have:=CE.size;(try simp at this)<;>omega));clear CE;go_wp2;refine bP (v:=.tuple #[.agg #[.int .i64 p,.int .i64 q,.int .i64 r],.int .i64 z]) (by simp[results,results260,go_sem,Dn]) rfl ⟨rfl,?_⟩;(repeat (first|exact bR _ _|(with_reducible refine bS ?_ (by simp<;>omega))|(with_reducible refine bL ?_ _)|(with_reducible refine bC ?_ CH.out)))
end Go.Proofs.YtmecohdedghiaaaGreatDoor.Cel
namespace Go.Proofs.YtmecohdedghiaaaGreatDoor
open Go.RowKit
def Cells6 (V:World) (D:Nat) (x0 x1 x2 x3 x4 x5:Value):Prop:=
 V.cell? ⟨D,0,none⟩=some x0∧V.cell? ⟨D,1,none⟩=some x1∧V.cell? ⟨D,2,none⟩=some x2∧V.cell? ⟨D,3,none⟩=some x3∧V.cell? ⟨D,4,none⟩=some x4∧V.cell? ⟨D,5,none⟩=some x5∧
 V.frozen? ⟨D,0,none⟩=false∧V.frozen? ⟨D,1,none⟩=false∧V.frozen? ⟨D,2,none⟩=false∧V.frozen? ⟨D,3,none⟩=false∧V.frozen? ⟨D,4,none⟩=false∧V.frozen? ⟨D,5,none⟩=false∧D<V.heap.size
theorem Cells6.new (V:World) (t:TypeId) (x0 x1 x2 x3 x4 x5:Value):Cells6 (V.alloc (.cells #[x0,x1,x2,x3,x4,x5] t)) V.heap.size x0 x1 x2 x3 x4 x5:=
 ⟨by rw[ah];rfl,by rw[ah];rfl,by rw[ah];rfl,by rw[ah];rfl,by rw[ah];rfl,by rw[ah];rfl,by simp,by simp,by simp,by simp,by simp,by simp,by simp⟩
theorem Cells6.below {V V':World} {D:Nat} {x0 x1 x2 x3 x4 x5:Value} (h:Cells6 V D x0 x1 x2 x3 x4 x5) (hb:Bw V V'):Cells6 V' D x0 x1 x2 x3 x4 x5:=by
 obtain⟨h0,h1,h2,h3,h4,h5,z0,z1,z2,z3,z4,z5,hs⟩:=h;refine⟨kK hb h0,kK hb h1,kK hb h2,kK hb h3,kK hb h4,kK hb h5,?_,?_,?_,?_,?_,?_,nL hs hb.size⟩
 ·rw[hb.frozen (p:=⟨D,0,none⟩) hs];exact z0
 ·rw[hb.frozen (p:=⟨D,1,none⟩) hs];exact z1
 ·rw[hb.frozen (p:=⟨D,2,none⟩) hs];exact z2
 ·rw[hb.frozen (p:=⟨D,3,none⟩) hs];exact z3
 ·rw[hb.frozen (p:=⟨D,4,none⟩) hs];exact z4
 ·rw[hb.frozen (p:=⟨D,5,none⟩) hs];exact z5
theorem Cells6.set {V:World} {D:Nat} {x0 x1 x2 x3 x4 x5:Value} (h:Cells6 V D x0 x1 x2 x3 x4 x5) (p0 p1 p2 p3 p4 p5:Value):Cells6 ((((((V.setCell ⟨D,0,none⟩ p0).setCell ⟨D,1,none⟩ p1).setCell ⟨D,2,none⟩ p2).setCell ⟨D,3,none⟩ p3).setCell ⟨D,4,none⟩ p4).setCell ⟨D,5,none⟩ p5) D p0 p1 p2 p3 p4 p5:=by
 obtain⟨h0,h1,h2,h3,h4,h5,z0,z1,z2,z3,z4,z5,hs⟩:=h;refine⟨sO (sO (sO (sO (sO (ag (h0)) (aN (.inr (by decide)))) (aN (.inr (by decide)))) (aN (.inr (by decide)))) (aN (.inr (by decide)))) (aN (.inr (by decide))),sO (sO (sO (sO (ag (sO (h1) (aN (.inr (by decide))))) (aN (.inr (by decide)))) (aN (.inr (by decide)))) (aN (.inr (by decide)))) (aN (.inr (by decide))),sO (sO (sO (ag (sO (sO (h2) (aN (.inr (by decide)))) (aN (.inr (by decide))))) (aN (.inr (by decide)))) (aN (.inr (by decide)))) (aN (.inr (by decide))),sO (sO (ag (sO (sO (sO (h3) (aN (.inr (by decide)))) (aN (.inr (by decide)))) (aN (.inr (by decide))))) (aN (.inr (by decide)))) (aN (.inr (by decide))),sO (ag (sO (sO (sO (sO (h4) (aN (.inr (by decide)))) (aN (.inr (by decide)))) (aN (.inr (by decide)))) (aN (.inr (by decide))))) (aN (.inr (by decide))),ag (sO (sO (sO (sO (sO (h5) (aN (.inr (by decide)))) (aN (.inr (by decide)))) (aN (.inr (by decide)))) (aN (.inr (by decide)))) (aN (.inr (by decide)))),sF (sF (sF (sF (sF (sF (z0)))))),sF (sF (sF (sF (sF (sF (z1)))))),sF (sF (sF (sF (sF (sF (z2)))))),sF (sF (sF (sF (sF (sF (z3)))))),sF (sF (sF (sF (sF (sF (z4)))))),sF (sF (sF (sF (sF (sF (z5)))))),?_⟩;simpa using hs
theorem Cells6.s {V:World} {D:Nat} {x0 x1 x2 x3 x4 x5:Value} (h:Cells6 V D x0 x1 x2 x3 x4 x5) (p:Value):Cells6 (V.setCell ⟨D,0,none⟩ p) D p x1 x2 x3 x4 x5∧Cells6 (V.setCell ⟨D,1,none⟩ p) D x0 p x2 x3 x4 x5∧Cells6 (V.setCell ⟨D,2,none⟩ p) D x0 x1 p x3 x4 x5∧
  Cells6 (V.setCell ⟨D,3,none⟩ p) D x0 x1 x2 p x4 x5∧Cells6 (V.setCell ⟨D,4,none⟩ p) D x0 x1 x2 x3 p x5∧Cells6 (V.setCell ⟨D,5,none⟩ p) D x0 x1 x2 x3 x4 p:=by
 obtain⟨h0,h1,h2,h3,h4,h5,z0,z1,z2,z3,z4,z5,hs⟩:=h;have ne:∀ {i j:Nat},i≠j→(⟨D,i,none⟩:Addr)≠⟨D,j,none⟩:=fun h=>aN (.inr h);exact⟨⟨ag h0,sO h1 (ne (by decide)),sO h2 (ne (by decide)),sO h3 (ne (by decide)),sO h4 (ne (by decide)),sO h5 (ne (by decide)),sF z0,sF z1,sF z2,sF z3,sF z4,sF z5,by simpa using hs⟩,
  ⟨sO h0 (ne (by decide)),ag h1,sO h2 (ne (by decide)),sO h3 (ne (by decide)),sO h4 (ne (by decide)),sO h5 (ne (by decide)),sF z0,sF z1,sF z2,sF z3,sF z4,sF z5,by simpa using hs⟩,
  ⟨sO h0 (ne (by decide)),sO h1 (ne (by decide)),ag h2,sO h3 (ne (by decide)),sO h4 (ne (by decide)),sO h5 (ne (by decide)),sF z0,sF z1,sF z2,sF z3,sF z4,sF z5,by simpa using hs⟩,
  ⟨sO h0 (ne (by decide)),sO h1 (ne (by decide)),sO h2 (ne (by decide)),ag h3,sO h4 (ne (by decide)),sO h5 (ne (by decide)),sF z0,sF z1,sF z2,sF z3,sF z4,sF z5,by simpa using hs⟩,
  ⟨sO h0 (ne (by decide)),sO h1 (ne (by decide)),sO h2 (ne (by decide)),sO h3 (ne (by decide)),ag h4,sO h5 (ne (by decide)),sF z0,sF z1,sF z2,sF z3,sF z4,sF z5,by simpa using hs⟩,
  ⟨sO h0 (ne (by decide)),sO h1 (ne (by decide)),sO h2 (ne (by decide)),sO h3 (ne (by decide)),sO h4 (ne (by decide)),ag h5,sF z0,sF z1,sF z2,sF z3,sF z4,sF z5,by simpa using hs⟩⟩
theorem Cells3.apart6 {V:World} {D G:Nat} {x0 x1 x2:Value} (h:Cells3 V G x0 x1 x2) (CJ:D≠G) (p0 p1 p2 p3 p4 p5:Value):Cells3 ((((((V.setCell ⟨D,0,none⟩ p0).setCell ⟨D,1,none⟩ p1).setCell ⟨D,2,none⟩ p2).setCell ⟨D,3,none⟩ p3).setCell ⟨D,4,none⟩ p4).setCell ⟨D,5,none⟩ p5) G x0 x1 x2:=by
 have o:∀ {V:World} (o:Nat) (p:Value),Cells3 V G x0 x1 x2→Cells3 (V.setCell ⟨D,o,none⟩ p) G x0 x1 x2:=fun o p ⟨h0,h1,h2,z0,z1,z2,hs⟩=>⟨sO h0 (aN (.inl CJ)),sO h1 (aN (.inl CJ)),sO h2 (aN (.inl CJ)),sF z0,sF z1,sF z2,by simpa using hs⟩;exact o 5 _ (o 4 _ (o 3 _ (o 2 _ (o 1 _ (o 0 _ h)))))
theorem Cells3.apart35 {V:World} {D G:Nat} {x0 x1 x2:Value} (h:Cells3 V G x0 x1 x2) (CJ:D≠G) (p3 p4 p5:Value):Cells3 (((V.setCell ⟨D,3,none⟩ p3).setCell ⟨D,4,none⟩ p4).setCell ⟨D,5,none⟩ p5) G x0 x1 x2:=by
 have o:∀ {V:World} (o:Nat) (p:Value),Cells3 V G x0 x1 x2→Cells3 (V.setCell ⟨D,o,none⟩ p) G x0 x1 x2:=fun o p ⟨h0,h1,h2,z0,z1,z2,hs⟩=>⟨sO h0 (aN (.inl CJ)),sO h1 (aN (.inl CJ)),sO h2 (aN (.inl CJ)),sF z0,sF z1,sF z2,by simpa using hs⟩;exact o 5 _ (o 4 _ (o 3 _ h))
theorem Cells6.set3 {V:World} {D:Nat} {x0 x1 x2 x3 x4 x5:Value} (h:Cells6 V D x0 x1 x2 x3 x4 x5) (p0 p1 p2:Value):Cells6 (((V.setCell ⟨D,0,none⟩ p0).setCell ⟨D,1,none⟩ p1).setCell ⟨D,2,none⟩ p2) D p0 p1 p2 x3 x4 x5:=(((h.s p0).1.s p1).2.1.s p2).2.2.1
theorem Cells6.set35 {V:World} {D:Nat} {x0 x1 x2 x3 x4 x5:Value} (h:Cells6 V D x0 x1 x2 x3 x4 x5) (p3 p4 p5:Value):Cells6 (((V.setCell ⟨D,3,none⟩ p3).setCell ⟨D,4,none⟩ p4).setCell ⟨D,5,none⟩ p5) D x0 x1 x2 p3 p4 p5:=(((h.s p3).2.2.2.1.s p4).2.2.2.2.1.s p5).2.2.2.2.2
end Go.Proofs.YtmecohdedghiaaaGreatDoor
namespace Go.Proofs.YtmecohdedghiaaaGreatDoor.Cel
open Go.RowKit
def yQ (P:Program) (c:Code) (Q:Exit→Act→World→Prop) (a:Act) (w:World):Prop:=
 ∀(b:Frame) (k:List Item) (cs:List Frame),∃e a' w',Q e a' w'∧Arrives P (lone (b.at a (.code c:: .inLoop c::k)) cs w) b k cs e a' w'
theorem i7 {P:Program} {c:Code} {Q:Exit→Act→World→Prop} {a:Act} {w:World} (h:yQ P c Q a w):(Code.loop c).wp P Q a w:=by
 intro b k cs;obtain⟨e,a',w',hq,harr⟩:=h b k cs;exact⟨e,a',w',hq,.of_steps (.one step_loop) harr⟩
theorem fg {P:Program} {c:Code} {Q:Exit→Act→World→Prop} {a:Act} {w:World} (round:c.wp P (Exit.then (yQ P c Q) Q) a w):yQ P c Q a w:=by
 intro b k cs;obtain⟨e,a₁,w₁,hq,harr⟩:=round b (.inLoop c::k) cs
 cases e with
 |normal=>
  obtain⟨e₂,a₂,w₂,hq₂,harr₂⟩:=hq b k cs;exact⟨e₂,a₂,w₂,hq₂,.of_steps (Steps.trans harr (.one step_inLoop)) harr₂⟩
 |exit id=>exact⟨_,a₁,w₁,hq,.pass (x:=.inLoop c) rfl (fun _ _=>.inl (by simp)) harr⟩
 |goto l=>exact⟨_,a₁,w₁,hq,.pass (x:=.inLoop c) rfl (fun _ _=>.inl (by simp)) harr⟩
 |ret=>exact⟨_,a₁,w₁,hq,.pass (x:=.inLoop c) rfl (fun _ _=>.inl (by simp)) harr⟩
 |panic ch=>exact⟨_,a₁,w₁,hq,.pass (x:=.inLoop c) rfl (fun _ _=>.inl (by simp)) harr⟩
 |outgrown=>exact⟨_,a₁,w₁,hq,.pass (x:=.inLoop c) rfl (fun _ _=>.inl (by simp)) harr⟩
theorem uY (a b c f g h:Int) (w:World):(Instr.index 272 (.agg #[.int .i64 a,.int .i64 b,.int .i64 c,.int .i64 f,.int .i64 g,.int .i64 h]) (.int .i64 0)).run prog w=.ok (.agg #[.int .i64 a,.int .i64 b,.int .i64 c]) w:=by kernel_rfl
theorem wL (a b c f g h:Int) (w:World):(Instr.index 272 (.agg #[.int .i64 a,.int .i64 b,.int .i64 c,.int .i64 f,.int .i64 g,.int .i64 h]) (.int .i64 1)).run prog w=.ok (.agg #[.int .i64 f,.int .i64 g,.int .i64 h]) w:=by kernel_rfl
theorem aN {b b' o o':Nat} (h:b≠b'∨o≠o'):(⟨b,o,none⟩:Addr)≠⟨b',o',none⟩:=by
 intro e
 cases e
 rcases h with h|h<;>exact h rfl
def mvE (x y:Ce) (n:Int):Int:=if chE x (-(max n 0))=0 then chE y (max n 0)else chE x (-(max n 0))
def mvX (x y:Ce) (n:Int):Ce:=if mvE x y n=0 then chV x (-(max n 0))else cZ
def mvY (x y:Ce) (n:Int):Ce:=if mvE x y n=0 then chV y (max n 0)else cZ
abbrev BN (x y:Ce) (e:Int):Value:=.tuple #[.agg #[.int .i64 x.a,.int .i64 x.b,.int .i64 x.c],.agg #[.int .i64 y.a,.int .i64 y.b,.int .i64 y.c],.int .i64 e]
theorem move_any (x y:Ce) (n:Int) (hx:x.Fit) (hy:y.Fit) (hn:ae n) (w:World):Calls prog 254 #[x.v,y.v,.int .i64 n] w fun e w'=>e=.returned (BN (mvX x y n) (mvY x y n) (mvE x y n))∧Bw w w':=by
 obtain⟨a,b,c⟩:=x;obtain⟨f,g,h⟩:=y;have HK:=aH (fun w=>draw_any ⟨a,b,c⟩ n hx hn w);have HP:=aH (fun w=>pour_any ⟨f,g,h⟩ n hy hn w);unfold mvX mvY mvE;generalize chE ⟨a,b,c⟩ (-(max n 0))=z at *;generalize chE ⟨f,g,h⟩ (max n 0)=y at *;generalize chV ⟨a,b,c⟩ (-(max n 0))=r at *;generalize chV ⟨f,g,h⟩ (max n 0)=t at *;obtain⟨p,q,r⟩:=r;obtain⟨s,t,u⟩:=t;clear hx hy hn;have Ub:=fun w=>uY a b c f g h w;have Oh:=fun w=>wL a b c f g h w;have hc:z≠0∨z=0∧y≠0∨z=0∧y=0:=by omega
 rcases hc with hh|⟨rfl,hh⟩|⟨rfl,rfl⟩
 ·have q1:(z != 0)=true:=bne_iff_ne.2 hh;simp only[if_neg hh];clear hh;go_enter func254,ntmps254;go_wp2_with fail
  go_step3
  go_wp2_with fail
  go_step3
  go_wp2_with fail;refine i7 (fg ?_);go_wp2_with fail;refine(HK.out _).mono ?_;rintro e w1 ⟨rfl,CE⟩;have A2:=aH (show Cells3 w1 (w.heap.size+1+1) (.int .i64 0) (.int .i64 0) (.int .i64 0)from Cells3.below (by refine⟨?_,?_,?_,?_,?_,?_,?_⟩<;>simp[go_sem, *]) CE);have A3:=aH (show Cells3 w1 (w.heap.size+1+1+1) (.int .i64 0) (.int .i64 0) (.int .i64 0)from Cells3.below (by refine⟨?_,?_,?_,?_,?_,?_,?_⟩<;>simp[go_sem, *]) CE);have A4:=aH (show Cells6 w1 (w.heap.size+1+1+1+1) (.int .i64 0) (.int .i64 0) (.int .i64 0) (.int .i64 0) (.int .i64 0) (.int .i64 0)from Cells6.below (by refine⟨?_,?_,?_,?_,?_,?_,?_,?_,?_,?_,?_,?_,?_⟩<;>simp[go_sem, *]) CE);have HB:=aH (bC (bL (bL (bL (bL (bL (bL (bR _ _) _) _) _) _) _) _) CE);clear CE;obtain⟨k20,k21,k22,z20,z21,z22,_⟩:=A2.out;obtain⟨k30,k31,k32,z30,z31,z32,_⟩:=A3.out;obtain⟨k40,k41,k42,k43,k44,k45,z40,z41,z42,z43,z44,z45,_⟩:=A4.out;go_wp2_with fail;clear k20 k21 k22 z20 z21 z22 k30 k31 k32 z30 z31 z32 k40 k41 k42 k43 k44 k45 z40 z41 z42 z43 z44 z45;obtain⟨W,hW⟩:∃W,W=(((((((((w1.setCell ⟨w.heap.size+1+1+1+1,0,none⟩ (.int .i64 p)).setCell ⟨w.heap.size+1+1+1+1,1,none⟩ (.int .i64 q)).setCell ⟨w.heap.size+1+1+1+1,2,none⟩ (.int .i64 r)).setCell ⟨w.heap.size+1+1+1+1,0,none⟩ (.int .i64 0)).setCell ⟨w.heap.size+1+1+1+1,1,none⟩ (.int .i64 0)).setCell ⟨w.heap.size+1+1+1+1,2,none⟩ (.int .i64 0)).setCell ⟨w.heap.size+1+1+1+1,3,none⟩ (.int .i64 0)).setCell ⟨w.heap.size+1+1+1+1,4,none⟩ (.int .i64 0)).setCell ⟨w.heap.size+1+1+1+1,5,none⟩ (.int .i64 0)):=⟨_,rfl⟩;rw[←hW]
  replace HB:=aH (show Bw w W by rw[hW];exact bS (bS (bS (bS (bS (bS (bS (bS (bS (HB.out) (by show w.heap.size≤w.heap.size+1+1+1+1;omega)) (by show w.heap.size≤w.heap.size+1+1+1+1;omega)) (by show w.heap.size≤w.heap.size+1+1+1+1;omega)) (by show w.heap.size≤w.heap.size+1+1+1+1;omega)) (by show w.heap.size≤w.heap.size+1+1+1+1;omega)) (by show w.heap.size≤w.heap.size+1+1+1+1;omega)) (by show w.heap.size≤w.heap.size+1+1+1+1;omega)) (by show w.heap.size≤w.heap.size+1+1+1+1;omega)) (by show w.heap.size≤w.heap.size+1+1+1+1;omega));replace A2:=aH (show Cells3 W _ _ _ _ by rw[hW];exact((A2.out.apart (by omega) (.int .i64 p) (.int .i64 q) (.int .i64 r)).apart6 (by omega) (.int .i64 0) (.int .i64 0) (.int .i64 0) (.int .i64 0) (.int .i64 0) (.int .i64 0)));replace A3:=aH (show Cells3 W _ _ _ _ by rw[hW];exact((A3.out.apart (by omega) (.int .i64 p) (.int .i64 q) (.int .i64 r)).apart6 (by omega) (.int .i64 0) (.int .i64 0) (.int .i64 0) (.int .i64 0) (.int .i64 0) (.int .i64 0)));replace A4:=aH (show Cells6 W _ _ _ _ _ _ _ by rw[hW];exact((A4.out.set3 (.int .i64 p) (.int .i64 q) (.int .i64 r)).set (.int .i64 0) (.int .i64 0) (.int .i64 0) (.int .i64 0) (.int .i64 0) (.int .i64 0)));clear hW;obtain⟨k20,k21,k22,z20,z21,z22,_⟩:=A2.out;obtain⟨k30,k31,k32,z30,z31,z32,_⟩:=A3.out;obtain⟨k40,k41,k42,k43,k44,k45,z40,z41,z42,z43,z44,z45,_⟩:=A4.out
  go_region
  go_wp2;rw[Exit.noGoto_ret];refine bP (v:=.tuple #[.agg #[.int .i64 0,.int .i64 0,.int .i64 0],.agg #[.int .i64 0,.int .i64 0,.int .i64 0],.int .i64 z]) (by simp[results,results254,go_sem, *]) rfl ⟨rfl,?_⟩;exact(bS (bS (bS (bS (bS (bS (HB.out) (by show w.heap.size≤w.heap.size+1+1;omega)) (by show w.heap.size≤w.heap.size+1+1;omega)) (by show w.heap.size≤w.heap.size+1+1;omega)) (by show w.heap.size≤w.heap.size+1+1+1;omega)) (by show w.heap.size≤w.heap.size+1+1+1;omega)) (by show w.heap.size≤w.heap.size+1+1+1;omega)).drew
 all_goals simp only[↓reduceIte]
 all_goals try (have q1:(y != 0)=true:=bne_iff_ne.2 hh;simp only[if_neg hh];clear hh)
 all_goals
  go_enter func254,ntmps254;go_wp2_with fail
  go_step3
  go_wp2_with fail
  go_step3
  go_wp2_with fail;refine i7 (fg ?_);go_wp2_with fail;refine(HK.out _).mono ?_;rintro e w1 ⟨rfl,CE⟩;have A2:=aH (show Cells3 w1 (w.heap.size+1+1) (.int .i64 0) (.int .i64 0) (.int .i64 0)from Cells3.below (by refine⟨?_,?_,?_,?_,?_,?_,?_⟩<;>simp[go_sem, *]) CE);have A3:=aH (show Cells3 w1 (w.heap.size+1+1+1) (.int .i64 0) (.int .i64 0) (.int .i64 0)from Cells3.below (by refine⟨?_,?_,?_,?_,?_,?_,?_⟩<;>simp[go_sem, *]) CE);have A4:=aH (show Cells6 w1 (w.heap.size+1+1+1+1) (.int .i64 0) (.int .i64 0) (.int .i64 0) (.int .i64 0) (.int .i64 0) (.int .i64 0)from Cells6.below (by refine⟨?_,?_,?_,?_,?_,?_,?_,?_,?_,?_,?_,?_,?_⟩<;>simp[go_sem, *]) CE);have HB:=aH (bC (bL (bL (bL (bL (bL (bL (bR _ _) _) _) _) _) _) _) CE);clear CE;obtain⟨k20,k21,k22,z20,z21,z22,_⟩:=A2.out;obtain⟨k30,k31,k32,z30,z31,z32,_⟩:=A3.out;obtain⟨k40,k41,k42,k43,k44,k45,z40,z41,z42,z43,z44,z45,_⟩:=A4.out;go_wp2_with fail;clear k20 k21 k22 z20 z21 z22 k30 k31 k32 z30 z31 z32 k40 k41 k42 k43 k44 k45 z40 z41 z42 z43 z44 z45;obtain⟨W,hW⟩:∃W,W=(((w1.setCell ⟨w.heap.size+1+1+1+1,0,none⟩ (.int .i64 p)).setCell ⟨w.heap.size+1+1+1+1,1,none⟩ (.int .i64 q)).setCell ⟨w.heap.size+1+1+1+1,2,none⟩ (.int .i64 r)):=⟨_,rfl⟩;rw[←hW];replace HB:=aH (show Bw w W by rw[hW];exact bS (bS (bS (HB.out) (by show w.heap.size≤w.heap.size+1+1+1+1;omega)) (by show w.heap.size≤w.heap.size+1+1+1+1;omega)) (by show w.heap.size≤w.heap.size+1+1+1+1;omega));replace A2:=aH (show Cells3 W _ _ _ _ by rw[hW];exact(A2.out.apart (by omega) (.int .i64 p) (.int .i64 q) (.int .i64 r)));replace A3:=aH (show Cells3 W _ _ _ _ by rw[hW];exact(A3.out.apart (by omega) (.int .i64 p) (.int .i64 q) (.int .i64 r)));replace A4:=aH (show Cells6 W _ _ _ _ _ _ _ by rw[hW];exact(A4.out.set3 (.int .i64 p) (.int .i64 q) (.int .i64 r)))
  clear hW;refine fg ?_;obtain⟨k20,k21,k22,z20,z21,z22,_⟩:=A2.out;obtain⟨k30,k31,k32,z30,z31,z32,_⟩:=A3.out;obtain⟨k40,k41,k42,k43,k44,k45,z40,z41,z42,z43,z44,z45,_⟩:=A4.out;go_wp2_with fail;refine(HP.out _).mono ?_;rintro e w2 ⟨rfl,CM⟩;clear k20 k21 k22 z20 z21 z22 k30 k31 k32 z30 z31 z32 k40 k41 k42 k43 k44 k45 z40 z41 z42 z43 z44 z45;have CO:=bC (bL (bR _ _) _) CM;clear CM;replace A2:=aH (A2.out.below CO);replace A3:=aH (A3.out.below CO);replace A4:=aH (A4.out.below CO);replace HB:=aH (bC HB.out CO);clear CO;obtain⟨k20,k21,k22,z20,z21,z22,_⟩:=A2.out;obtain⟨k30,k31,k32,z30,z31,z32,_⟩:=A3.out;obtain⟨k40,k41,k42,k43,k44,k45,z40,z41,z42,z43,z44,z45,_⟩:=A4.out;go_wp2_with fail
 ·clear k20 k21 k22 z20 z21 z22 k30 k31 k32 z30 z31 z32 k40 k41 k42 k43 k44 k45 z40 z41 z42 z43 z44 z45;obtain⟨X,hW⟩:∃W,W=(((((((((w2.setCell ⟨w.heap.size+1+1+1+1,3,none⟩ (.int .i64 s)).setCell ⟨w.heap.size+1+1+1+1,4,none⟩ (.int .i64 t)).setCell ⟨w.heap.size+1+1+1+1,5,none⟩ (.int .i64 u)).setCell ⟨w.heap.size+1+1+1+1,0,none⟩ (.int .i64 0)).setCell ⟨w.heap.size+1+1+1+1,1,none⟩ (.int .i64 0)).setCell ⟨w.heap.size+1+1+1+1,2,none⟩ (.int .i64 0)).setCell ⟨w.heap.size+1+1+1+1,3,none⟩ (.int .i64 0)).setCell ⟨w.heap.size+1+1+1+1,4,none⟩ (.int .i64 0)).setCell ⟨w.heap.size+1+1+1+1,5,none⟩ (.int .i64 0)):=⟨_,rfl⟩;rw[←hW];replace HB:=aH (show Bw w X by rw[hW];exact bS (bS (bS (bS (bS (bS (bS (bS (bS (HB.out) (by show w.heap.size≤w.heap.size+1+1+1+1;omega)) (by show w.heap.size≤w.heap.size+1+1+1+1;omega)) (by show w.heap.size≤w.heap.size+1+1+1+1;omega)) (by show w.heap.size≤w.heap.size+1+1+1+1;omega)) (by show w.heap.size≤w.heap.size+1+1+1+1;omega)) (by show w.heap.size≤w.heap.size+1+1+1+1;omega)) (by show w.heap.size≤w.heap.size+1+1+1+1;omega)) (by show w.heap.size≤w.heap.size+1+1+1+1;omega)) (by show w.heap.size≤w.heap.size+1+1+1+1;omega));replace A2:=aH (show Cells3 X _ _ _ _ by rw[hW];exact((A2.out.apart35 (by omega) (.int .i64 s) (.int .i64 t) (.int .i64 u)).apart6 (by omega) (.int .i64 0) (.int .i64 0) (.int .i64 0) (.int .i64 0) (.int .i64 0) (.int .i64 0)));replace A3:=aH (show Cells3 X _ _ _ _ by rw[hW];exact((A3.out.apart35 (by omega) (.int .i64 s) (.int .i64 t) (.int .i64 u)).apart6 (by omega) (.int .i64 0) (.int .i64 0) (.int .i64 0) (.int .i64 0) (.int .i64 0) (.int .i64 0)))
  replace A4:=aH (show Cells6 X _ _ _ _ _ _ _ by rw[hW];exact((A4.out.set35 (.int .i64 s) (.int .i64 t) (.int .i64 u)).set (.int .i64 0) (.int .i64 0) (.int .i64 0) (.int .i64 0) (.int .i64 0) (.int .i64 0)));clear hW;obtain⟨k20,k21,k22,z20,z21,z22,_⟩:=A2.out;obtain⟨k30,k31,k32,z30,z31,z32,_⟩:=A3.out;obtain⟨k40,k41,k42,k43,k44,k45,z40,z41,z42,z43,z44,z45,_⟩:=A4.out
  go_region
  go_wp2;rw[Exit.noGoto_ret];refine bP (v:=.tuple #[.agg #[.int .i64 0,.int .i64 0,.int .i64 0],.agg #[.int .i64 0,.int .i64 0,.int .i64 0],.int .i64 y]) (by simp[results,results254,go_sem, *]) rfl ⟨rfl,?_⟩;exact(bS (bS (bS (bS (bS (bS (HB.out) (by show w.heap.size≤w.heap.size+1+1;omega)) (by show w.heap.size≤w.heap.size+1+1;omega)) (by show w.heap.size≤w.heap.size+1+1;omega)) (by show w.heap.size≤w.heap.size+1+1+1;omega)) (by show w.heap.size≤w.heap.size+1+1+1;omega)) (by show w.heap.size≤w.heap.size+1+1+1;omega)).drew
 ·refine fg ?_;go_wp2_with fail;clear k20 k21 k22 z20 z21 z22 k30 k31 k32 z30 z31 z32 k40 k41 k42 k43 k44 k45 z40 z41 z42 z43 z44 z45;obtain⟨X,hW⟩:∃W,W=(((w2.setCell ⟨w.heap.size+1+1+1+1,3,none⟩ (.int .i64 s)).setCell ⟨w.heap.size+1+1+1+1,4,none⟩ (.int .i64 t)).setCell ⟨w.heap.size+1+1+1+1,5,none⟩ (.int .i64 u)):=⟨_,rfl⟩;rw[←hW];replace HB:=aH (show Bw w X by rw[hW];exact bS (bS (bS (HB.out) (by show w.heap.size≤w.heap.size+1+1+1+1;omega)) (by show w.heap.size≤w.heap.size+1+1+1+1;omega)) (by show w.heap.size≤w.heap.size+1+1+1+1;omega));replace A2:=aH (show Cells3 X _ _ _ _ by rw[hW];exact(A2.out.apart35 (by omega) (.int .i64 s) (.int .i64 t) (.int .i64 u)));replace A3:=aH (show Cells3 X _ _ _ _ by rw[hW];exact(A3.out.apart35 (by omega) (.int .i64 s) (.int .i64 t) (.int .i64 u)));replace A4:=aH (show Cells6 X _ _ _ _ _ _ _ by rw[hW];exact(A4.out.set35 (.int .i64 s) (.int .i64 t) (.int .i64 u)));clear hW;obtain⟨k20,k21,k22,z20,z21,z22,_⟩:=A2.out;obtain⟨k30,k31,k32,z30,z31,z32,_⟩:=A3.out;obtain⟨k40,k41,k42,k43,k44,k45,z40,z41,z42,z43,z44,z45,_⟩:=A4.out
  go_region
  go_wp2;rw[Exit.noGoto_ret];refine bP (v:=.tuple #[.agg #[.int .i64 p,.int .i64 q,.int .i64 r],.agg #[.int .i64 s,.int .i64 t,.int .i64 u],.int .i64 0]) (by simp[results,results254,go_sem, *]) rfl ⟨rfl,?_⟩;exact(bS (bS (bS (bS (bS (bS (HB.out) (by show w.heap.size≤w.heap.size+1+1;omega)) (by show w.heap.size≤w.heap.size+1+1;omega)) (by show w.heap.size≤w.heap.size+1+1;omega)) (by show w.heap.size≤w.heap.size+1+1+1;omega)) (by show w.heap.size≤w.heap.size+1+1+1;omega)) (by show w.heap.size≤w.heap.size+1+1+1;omega)).drew
end Go.Proofs.YtmecohdedghiaaaGreatDoor.Cel
