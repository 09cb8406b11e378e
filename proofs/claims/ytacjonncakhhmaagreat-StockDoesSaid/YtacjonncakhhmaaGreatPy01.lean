/- Cells: what becomes of them, as the program tells it. -/
import Derived.Test.YtacjonncakhhmaaGreatPy00
set_option maxRecDepth 100000
set_option maxHeartbeats 8000000
namespace Go.Proofs.YtacjonncakhhmaaGreat.Cel
open Go.RowKit
structure Ce where
 a:Int
 b:Int
 c:Int
abbrev Ce.v (x:Ce):Value:=.agg #[.int .i64 x.a,.int .i64 x.b,.int .i64 x.c]
structure Ce.Fit (x:Ce):Prop where
 a:fits x.a
 b:fits x.b
 c:fits x.c
def Ce.Right (x:Ce):Prop:=1≤x.a∧x.a≤1099511627776∧0≤x.b∧x.b≤x.a∧0≤x.c∧x.c≤2147483647
instance (x:Ce):Decidable x.Right:=by unfold Ce.Right;infer_instance
def rightB (x:Ce):Bool:=decide x.Right
def chE (x:Ce) (n:Int):Int:=if ¬x.Right then 100 else if n=0 then 1 else if x.c=2147483647 then 101 else if x.b+n<0 then 102 else if x.a<x.b+n then 103 else 0
def nought:Ce:=⟨0,0,0⟩
def chV (x:Ce) (n:Int):Ce:=if chE x n=0 then⟨x.a,x.b+n,x.c+1⟩else nought
theorem Below.box {w w':World} (o:Obj) (h:Below (w.alloc o).heap.size (w.alloc o) w'):Below w.heap.size w w':=bC (bL (bR _ _) o) h
theorem fits_add {a b:Int} (ha:0≤a) (hb:fits b) (hk:a≤1099511627776):¬fits (a+b)→0<a+b:=by unfold fits at *;omega
theorem right_any (x:Ce) (w:World):Calls Tryz.prog 60 #[x.v] w fun e w'=>e=.returned (.bool (rightB x))∧Below w.heap.size w w':=by
 obtain⟨a,b,c⟩:=x;show Calls Tryz.prog 60 #[.agg #[.int .i64 a,.int .i64 b,.int .i64 c]] w fun e w'=>e=.returned (.bool (decide (1≤a∧a≤1099511627776∧0≤b∧b≤a∧0≤c∧c≤2147483647)))∧Below w.heap.size w w';by_cases h1:1≤a
 ·by_cases h2:a≤1099511627776
  ·by_cases h3:0≤b
   ·by_cases h4:b≤a
    ·by_cases h5:0≤c
     ·by_cases h6:c≤2147483647
      ·rw[show decide (1≤a∧a≤1099511627776∧0≤b∧b≤a∧0≤c∧c≤2147483647)=true from dT ⟨h1,h2,h3,h4,h5,h6⟩];go_enter Tryz.func60,Tryz.ntmps60;go_wp2
       go_ret
       exact⟨ret_b (by simp),bL (bR _ _) _⟩
      ·rw[show decide (1≤a∧a≤1099511627776∧0≤b∧b≤a∧0≤c∧c≤2147483647)=false from dF (by omega)];go_enter Tryz.func60,Tryz.ntmps60;go_wp2
       go_ret
       exact⟨ret_b (by simp),bL (bR _ _) _⟩
     ·rw[show decide (1≤a∧a≤1099511627776∧0≤b∧b≤a∧0≤c∧c≤2147483647)=false from dF (by omega)];go_enter Tryz.func60,Tryz.ntmps60;go_wp2
      go_ret
      exact⟨ret_b (by simp),bL (bR _ _) _⟩
    ·rw[show decide (1≤a∧a≤1099511627776∧0≤b∧b≤a∧0≤c∧c≤2147483647)=false from dF (by omega)];go_enter Tryz.func60,Tryz.ntmps60;go_wp2
     go_ret
     exact⟨ret_b (by simp),bL (bR _ _) _⟩
   ·rw[show decide (1≤a∧a≤1099511627776∧0≤b∧b≤a∧0≤c∧c≤2147483647)=false from dF (by omega)];go_enter Tryz.func60,Tryz.ntmps60;go_wp2
    go_ret
    exact⟨ret_b (by simp),bL (bR _ _) _⟩
  ·rw[show decide (1≤a∧a≤1099511627776∧0≤b∧b≤a∧0≤c∧c≤2147483647)=false from dF (by omega)];go_enter Tryz.func60,Tryz.ntmps60;go_wp2
   go_ret
   exact⟨ret_b (by simp),bL (bR _ _) _⟩
 ·rw[show decide (1≤a∧a≤1099511627776∧0≤b∧b≤a∧0≤c∧c≤2147483647)=false from dF (by omega)];go_enter Tryz.func60,Tryz.ntmps60;go_wp2
  go_ret
  exact⟨ret_b (by simp),bL (bR _ _) _⟩
theorem rright_any (x:Ce) (w:World):Calls Tryz.prog 80 #[x.v] w fun e w'=>e=.returned (.bool (rightB x))∧Below w.heap.size w w':=by
 obtain⟨a,b,c⟩:=x;show Calls Tryz.prog 80 #[.agg #[.int .i64 a,.int .i64 b,.int .i64 c]] w fun e w'=>e=.returned (.bool (decide (1≤a∧a≤1099511627776∧0≤b∧b≤a∧0≤c∧c≤2147483647)))∧Below w.heap.size w w';by_cases h1:1≤a
 ·by_cases h2:a≤1099511627776
  ·by_cases h3:0≤b
   ·by_cases h4:b≤a
    ·by_cases h5:0≤c
     ·by_cases h6:c≤2147483647
      ·rw[show decide (1≤a∧a≤1099511627776∧0≤b∧b≤a∧0≤c∧c≤2147483647)=true from dT ⟨h1,h2,h3,h4,h5,h6⟩];go_enter Tryz.func80,Tryz.ntmps80;go_wp2
       go_ret
       exact⟨ret_b (by simp),bL (bR _ _) _⟩
      ·rw[show decide (1≤a∧a≤1099511627776∧0≤b∧b≤a∧0≤c∧c≤2147483647)=false from dF (by omega)];go_enter Tryz.func80,Tryz.ntmps80;go_wp2
       go_ret
       exact⟨ret_b (by simp),bL (bR _ _) _⟩
     ·rw[show decide (1≤a∧a≤1099511627776∧0≤b∧b≤a∧0≤c∧c≤2147483647)=false from dF (by omega)];go_enter Tryz.func80,Tryz.ntmps80;go_wp2
      go_ret
      exact⟨ret_b (by simp),bL (bR _ _) _⟩
    ·rw[show decide (1≤a∧a≤1099511627776∧0≤b∧b≤a∧0≤c∧c≤2147483647)=false from dF (by omega)];go_enter Tryz.func80,Tryz.ntmps80;go_wp2
     go_ret
     exact⟨ret_b (by simp),bL (bR _ _) _⟩
   ·rw[show decide (1≤a∧a≤1099511627776∧0≤b∧b≤a∧0≤c∧c≤2147483647)=false from dF (by omega)];go_enter Tryz.func80,Tryz.ntmps80;go_wp2
    go_ret
    exact⟨ret_b (by simp),bL (bR _ _) _⟩
  ·rw[show decide (1≤a∧a≤1099511627776∧0≤b∧b≤a∧0≤c∧c≤2147483647)=false from dF (by omega)];go_enter Tryz.func80,Tryz.ntmps80;go_wp2
   go_ret
   exact⟨ret_b (by simp),bL (bR _ _) _⟩
 ·rw[show decide (1≤a∧a≤1099511627776∧0≤b∧b≤a∧0≤c∧c≤2147483647)=false from dF (by omega)];go_enter Tryz.func80,Tryz.ntmps80;go_wp2
  go_ret
  exact⟨ret_b (by simp),bL (bR _ _) _⟩
abbrev ceV (a b c:Int):Value:=.agg #[.int .i64 a,.int .i64 b,.int .i64 c]
abbrev ceE (x:Ce) (e:Int):Value:=.tuple #[.agg #[.int .i64 x.a,.int .i64 x.b,.int .i64 x.c],.int .i64 e]
theorem right_t {a b c:Int} (h:(Ce.mk a b c).Right) (w:World):Calls Tryz.prog 60 #[.agg #[.int .i64 a,.int .i64 b,.int .i64 c]] w fun e w'=>e=.returned (.bool true)∧Below w.heap.size w w':=by
 have:=right_any ⟨a,b,c⟩ w
 rwa [show rightB ⟨a,b,c⟩=true from dT h]at this
theorem right_f {a b c:Int} (h:¬(Ce.mk a b c).Right) (w:World):Calls Tryz.prog 60 #[.agg #[.int .i64 a,.int .i64 b,.int .i64 c]] w fun e w'=>e=.returned (.bool false)∧Below w.heap.size w w':=by
 have:=right_any ⟨a,b,c⟩ w
 rwa [show rightB ⟨a,b,c⟩=false from dF h]at this
theorem rright_t {a b c:Int} (h:(Ce.mk a b c).Right) (w:World):Calls Tryz.prog 80 #[.agg #[.int .i64 a,.int .i64 b,.int .i64 c]] w fun e w'=>e=.returned (.bool true)∧Below w.heap.size w w':=by
 have:=rright_any ⟨a,b,c⟩ w
 rwa [show rightB ⟨a,b,c⟩=true from dT h]at this
theorem rright_f {a b c:Int} (h:¬(Ce.mk a b c).Right) (w:World):Calls Tryz.prog 80 #[.agg #[.int .i64 a,.int .i64 b,.int .i64 c]] w fun e w'=>e=.returned (.bool false)∧Below w.heap.size w w':=by
 have:=rright_any ⟨a,b,c⟩ w
 rwa [show rightB ⟨a,b,c⟩=false from dF h]at this
theorem change_any (x:Ce) (n:Int) (hx:x.Fit) (hn:fits n) (w:World):Calls Tryz.prog 78 #[x.v,.int .i64 n] w fun e w'=>e=.returned (ceE (chV x n) (chE x n))∧Below w.heap.size w w':=by
 obtain⟨a,b,c⟩:=x;by_cases hr:(Ce.mk a b c).Right
 ·have HK:=aH (fun w=>right_t hr w);have HR:=aH hr;obtain⟨r1,r2,r3,r4,r5,r6⟩:=hr;dsimp only at r1 r2 r3 r4 r5 r6;have HA:=aH (fun w=>add_any b n hx.b hn w);have HN:=aH hn;clear hx hn;by_cases h1:n=0
  ·subst h1;have T:chE ⟨a,b,c⟩ 0=1:=by unfold chE;rw[if_neg (by simpa using HR.out),if_pos rfl]
   have U:chV ⟨a,b,c⟩ 0=nought:=by unfold chV;rw[T];rfl
   rw[T,U];go_enter Tryz.func78,Tryz.ntmps78;go_wp2_with fail;refine(HK.out _).mono ?_;rintro e w1 ⟨rfl,hb1⟩;obtain⟨hc1,hf1⟩:=bcell hb1;have HB1:=aH hb1;have hz1_0:w.heap.size<w1.heap.size:=by(have:=hb1.size;(try simp at this) <;> omega)
   have hz1_1:w.heap.size+1<w1.heap.size:=by(have:=hb1.size;(try simp at this) <;> omega)
   clear hb1;go_wp2;refine bP (v:=.tuple #[.agg #[.int .i64 0,.int .i64 0,.int .i64 0],.int .i64 1]) (by simp[results,Tryz.results78,go_sem,hc1]) rfl ⟨rfl,?_⟩
   (repeat (first | exact bR _ _ | (with_reducible refine bS ?_ (by simp <;> omega)) | (with_reducible refine bL ?_ _) | (with_reducible refine bC ?_ HB1.out)))
  ·by_cases h2:c=2147483647
   ·have T:chE ⟨a,b,c⟩ n=101:=by unfold chE;rw[if_neg (by simpa using HR.out),if_neg h1,if_pos h2]
    have U:chV ⟨a,b,c⟩ n=nought:=by unfold chV;rw[T];rfl
    rw[T,U];have q2:(c==2147483647)=true:=by rw[beq_iff_eq];exact h2
    clear T U h2;go_enter Tryz.func78,Tryz.ntmps78;go_wp2_with fail;refine(HK.out _).mono ?_;rintro e w1 ⟨rfl,hb1⟩;obtain⟨hc1,hf1⟩:=bcell hb1;have HB1:=aH hb1;have hz1_0:w.heap.size<w1.heap.size:=by(have:=hb1.size;(try simp at this) <;> omega)
    have hz1_1:w.heap.size+1<w1.heap.size:=by(have:=hb1.size;(try simp at this) <;> omega)
    clear hb1;go_wp2;refine bP (v:=.tuple #[.agg #[.int .i64 0,.int .i64 0,.int .i64 0],.int .i64 101]) (by simp[results,Tryz.results78,go_sem,hc1]) rfl ⟨rfl,?_⟩
    (repeat (first | exact bR _ _ | (with_reducible refine bS ?_ (by simp <;> omega)) | (with_reducible refine bL ?_ _) | (with_reducible refine bC ?_ HB1.out)))
   ·by_cases h3:fits (b+n)
    ·have e1:fitV (b+n)=b+n:=if_pos h3;have e2:fitE (b+n)=0:=if_pos h3;rw[e1,e2]at HA;clear e1 e2;have H3:=aH h3;clear h3;by_cases h4:b+n<0
     ·have T:chE ⟨a,b,c⟩ n=102:=by unfold chE;rw[if_neg (by simpa using HR.out),if_neg h1,if_neg h2,if_pos h4]
      have U:chV ⟨a,b,c⟩ n=nought:=by unfold chV;rw[T];rfl
      rw[T,U];go_enter Tryz.func78,Tryz.ntmps78;go_wp2_with fail;refine(HK.out _).mono ?_;rintro e w1 ⟨rfl,hb1⟩;obtain⟨hc1,hf1⟩:=bcell hb1;have HB1:=aH hb1;have hz1_0:w.heap.size<w1.heap.size:=by(have:=hb1.size;(try simp at this) <;> omega)
      have hz1_1:w.heap.size+1<w1.heap.size:=by(have:=hb1.size;(try simp at this) <;> omega)
      clear hb1;go_wp2_with fail;refine(HA.out _).mono ?_;rintro e w2 ⟨rfl,rfl⟩;go_wp2;refine bP (v:=.tuple #[.agg #[.int .i64 0,.int .i64 0,.int .i64 0],.int .i64 102]) (by simp[results,Tryz.results78,go_sem,hc1]) rfl ⟨rfl,?_⟩
      (repeat (first | exact bR _ _ | (with_reducible refine bS ?_ (by simp <;> omega)) | (with_reducible refine bL ?_ _) | (with_reducible refine bC ?_ HB1.out)))
     ·by_cases h5:a<b+n
      ·have T:chE ⟨a,b,c⟩ n=103:=by unfold chE;rw[if_neg (by simpa using HR.out),if_neg h1,if_neg h2,if_neg h4,if_pos h5]
       have U:chV ⟨a,b,c⟩ n=nought:=by unfold chV;rw[T];rfl
       rw[T,U];go_enter Tryz.func78,Tryz.ntmps78;go_wp2_with fail;refine(HK.out _).mono ?_;rintro e w1 ⟨rfl,hb1⟩;obtain⟨hc1,hf1⟩:=bcell hb1;have HB1:=aH hb1;have hz1_0:w.heap.size<w1.heap.size:=by(have:=hb1.size;(try simp at this) <;> omega)
       have hz1_1:w.heap.size+1<w1.heap.size:=by(have:=hb1.size;(try simp at this) <;> omega)
       clear hb1;go_wp2_with fail;refine(HA.out _).mono ?_;rintro e w2 ⟨rfl,rfl⟩;go_wp2;refine bP (v:=.tuple #[.agg #[.int .i64 0,.int .i64 0,.int .i64 0],.int .i64 103]) (by simp[results,Tryz.results78,go_sem,hc1]) rfl ⟨rfl,?_⟩
       (repeat (first | exact bR _ _ | (with_reducible refine bS ?_ (by simp <;> omega)) | (with_reducible refine bL ?_ _) | (with_reducible refine bC ?_ HB1.out)))
      ·have T:chE ⟨a,b,c⟩ n=0:=by unfold chE;rw[if_neg (by simpa using HR.out),if_neg h1,if_neg h2,if_neg h4,if_neg h5]
       have U:chV ⟨a,b,c⟩ n=⟨a,b+n,c+1⟩:=by unfold chV;rw[if_pos T]
       rw[T,U];go_enter Tryz.func78,Tryz.ntmps78;go_wp2_with fail;refine(HK.out _).mono ?_;rintro e w1 ⟨rfl,hb1⟩;obtain⟨hc1,hf1⟩:=bcell hb1;have HB1:=aH hb1;have hz1_0:w.heap.size<w1.heap.size:=by(have:=hb1.size;(try simp at this) <;> omega)
       have hz1_1:w.heap.size+1<w1.heap.size:=by(have:=hb1.size;(try simp at this) <;> omega)
       clear hb1;go_wp2_with fail;refine(HA.out _).mono ?_;rintro e w2 ⟨rfl,rfl⟩;go_wp2;refine bP (v:=.tuple #[.agg #[.int .i64 a,.int .i64 (b+n),.int .i64 (c+1)],.int .i64 0]) (by simp[results,Tryz.results78,go_sem,hc1]) rfl ⟨rfl,?_⟩
       (repeat (first | exact bR _ _ | (with_reducible refine bS ?_ (by simp <;> omega)) | (with_reducible refine bL ?_ _) | (with_reducible refine bC ?_ HB1.out)))
    ·have hp:0<b+n:=fits_add (a:=b) r3 HN.out (by omega) h3;have e1:fitV (b+n)=0:=if_neg h3;have e2:fitE (b+n)=4:=if_neg h3;rw[e1,e2]at HA;have T:chE ⟨a,b,c⟩ n=103:=by
      unfold fits at h3;unfold chE;rw[if_neg (by simpa using HR.out),if_neg h1,if_neg h2,if_neg (show ¬b+n<0 by omega),if_pos (show a<b+n by omega)]
     have U:chV ⟨a,b,c⟩ n=nought:=by unfold chV;rw[T];rfl
     rw[T,U];clear e1 e2 h3 hp;go_enter Tryz.func78,Tryz.ntmps78;go_wp2_with fail;refine(HK.out _).mono ?_;rintro e w1 ⟨rfl,hb1⟩;obtain⟨hc1,hf1⟩:=bcell hb1;have HB1:=aH hb1;have hz1_0:w.heap.size<w1.heap.size:=by(have:=hb1.size;(try simp at this) <;> omega)
     have hz1_1:w.heap.size+1<w1.heap.size:=by(have:=hb1.size;(try simp at this) <;> omega)
     clear hb1;go_wp2_with fail;refine(HA.out _).mono ?_;rintro e w2 ⟨rfl,rfl⟩;go_wp2;refine bP (v:=.tuple #[.agg #[.int .i64 0,.int .i64 0,.int .i64 0],.int .i64 103]) (by simp[results,Tryz.results78,go_sem,hc1]) rfl ⟨rfl,?_⟩
     (repeat (first | exact bR _ _ | (with_reducible refine bS ?_ (by simp <;> omega)) | (with_reducible refine bL ?_ _) | (with_reducible refine bC ?_ HB1.out)))
 ·have HK:=aH (fun w=>right_f hr w);have T:chE ⟨a,b,c⟩ n=100:=by unfold chE;rw[if_pos hr]
  have U:chV ⟨a,b,c⟩ n=nought:=by unfold chV;rw[T];rfl
  rw[T,U];clear hx hn hr;go_enter Tryz.func78,Tryz.ntmps78;go_wp2_with fail;refine(HK.out _).mono ?_;rintro e w1 ⟨rfl,hb1⟩;obtain⟨hc1,hf1⟩:=bcell hb1;have HB1:=aH hb1;have hz1_0:w.heap.size<w1.heap.size:=by(have:=hb1.size;(try simp at this) <;> omega)
  have hz1_1:w.heap.size+1<w1.heap.size:=by(have:=hb1.size;(try simp at this) <;> omega)
  clear hb1;go_wp2;refine bP (v:=.tuple #[.agg #[.int .i64 0,.int .i64 0,.int .i64 0],.int .i64 100]) (by simp[results,Tryz.results78,go_sem,hc1]) rfl ⟨rfl,?_⟩
  (repeat (first | exact bR _ _ | (with_reducible refine bS ?_ (by simp <;> omega)) | (with_reducible refine bL ?_ _) | (with_reducible refine bC ?_ HB1.out)))
theorem chE_no {x:Ce} (n:Int) (h:¬x.Right):chE x n=100:=by unfold chE;rw[if_pos h]
theorem chE_0 {x:Ce} (h:x.Right):chE x 0=1:=by unfold chE;rw[if_neg (by simpa using h),if_pos rfl]
theorem chV_no {x:Ce} {n:Int} {e:Int} (h:chE x n=e) (he:e≠0):chV x n=nought:=by unfold chV;rw[if_neg (by rw[h];exact he)]
theorem max_lo {n:Int} (h:n<1):max n 0=0:=by omega
theorem max_hi {n:Int} (h:¬n<1):max n 0=n:=by omega
def newE (a b:Int):Int:=if (Ce.mk a b 0).Right then 0 else 100
def newV (a b:Int):Ce:=if (Ce.mk a b 0).Right then⟨a,b,0⟩else nought
theorem new_any (a b:Int) (w:World):Calls Tryz.prog 68 #[.int .i64 a,.int .i64 b] w fun e w'=>e=.returned (ceE (newV a b) (newE a b))∧Below w.heap.size w w':=by
 by_cases hr:(Ce.mk a b 0).Right
 ·have HK:=aH (fun w=>right_t hr w);have T:newE a b=0:=by unfold newE;rw[if_pos hr]
  have U:newV a b=⟨a,b,0⟩:=by unfold newV;rw[if_pos hr]
  rw[T,U];clear T U hr;have hq:w.heap.size<w.heap.size+1+1:=by omega
  go_enter Tryz.func68,Tryz.ntmps68;go_wp2_with fail;refine(HK.out _).mono ?_;rintro e w1 ⟨rfl,hb1⟩;obtain⟨hc1,hf1⟩:=bcell hb1;have HB1:=aH hb1;have hz1_0:w.heap.size<w1.heap.size:=by(have:=hb1.size;(try simp at this) <;> omega)
  have hz1_1:w.heap.size+1<w1.heap.size:=by(have:=hb1.size;(try simp at this) <;> omega)
  clear hb1;go_wp2;refine bP (v:=.tuple #[.agg #[.int .i64 a,.int .i64 b,.int .i64 0],.int .i64 0]) (by simp[results,Tryz.results68,go_sem,hc1,hq]) rfl ⟨rfl,?_⟩
  (repeat (first | exact bR _ _ | (with_reducible refine bS ?_ (by simp <;> omega)) | (with_reducible refine bL ?_ _) | (with_reducible refine bC ?_ HB1.out)))
 ·have HK:=aH (fun w=>right_f hr w);have T:newE a b=100:=by unfold newE;rw[if_neg hr]
  have U:newV a b=nought:=by unfold newV;rw[if_neg hr]
  rw[T,U];clear T U hr;have hq:w.heap.size<w.heap.size+1+1:=by omega
  go_enter Tryz.func68,Tryz.ntmps68;go_wp2_with fail;refine(HK.out _).mono ?_;rintro e w1 ⟨rfl,hb1⟩;obtain⟨hc1,hf1⟩:=bcell hb1;have HB1:=aH hb1;have hz1_0:w.heap.size<w1.heap.size:=by(have:=hb1.size;(try simp at this) <;> omega)
  have hz1_1:w.heap.size+1<w1.heap.size:=by(have:=hb1.size;(try simp at this) <;> omega)
  clear hb1;go_wp2;refine bP (v:=.tuple #[.agg #[.int .i64 0,.int .i64 0,.int .i64 0],.int .i64 100]) (by simp[results,Tryz.results68,go_sem,hc1,hq]) rfl ⟨rfl,?_⟩
  (repeat (first | exact bR _ _ | (with_reducible refine bS ?_ (by simp <;> omega)) | (with_reducible refine bL ?_ _) | (with_reducible refine bC ?_ HB1.out)))
theorem pour_any (x:Ce) (n:Int) (hx:x.Fit) (hn:fits n) (w:World):Calls Tryz.prog 46 #[x.v,.int .i64 n] w fun e w'=>e=.returned (ceE (chV x (max n 0)) (chE x (max n 0)))∧Below w.heap.size w w':=by
 obtain⟨a,b,c⟩:=x;by_cases hl:n<0
 ·rw[show max n 0=0 by omega];have HK:=aH (fun w=>change_any ⟨a,b,c⟩ (0) hx (by unfold fits at *;omega) w);generalize chV ⟨a,b,c⟩ (0)=y at *;generalize chE ⟨a,b,c⟩ (0)=z at *;obtain⟨p,q,r⟩:=y;unfold fits at hn;clear hx;go_enter Tryz.func46,Tryz.ntmps46;go_wp2_with fail;refine(HK.out _).mono ?_;rintro e w1 ⟨rfl,hb1⟩;obtain⟨hc1,hf1⟩:=bcell hb1;have HB1:=aH hb1;have hz1_0:w.heap.size<w1.heap.size:=by(have:=hb1.size;(try simp at this) <;> omega)
  have hz1_1:w.heap.size+1<w1.heap.size:=by(have:=hb1.size;(try simp at this) <;> omega)
  clear hb1;go_wp2;refine bP (v:=.tuple #[.agg #[.int .i64 p,.int .i64 q,.int .i64 r],.int .i64 z]) (by simp[results,Tryz.results46,go_sem,hc1]) rfl ⟨rfl,?_⟩
  (repeat (first | exact bR _ _ | (with_reducible refine bS ?_ (by simp <;> omega)) | (with_reducible refine bL ?_ _) | (with_reducible refine bC ?_ HB1.out)))
 ·by_cases h0:n=0
  ·subst h0;rw[show max (0:Int) 0=0 by omega];have HK:=aH (fun w=>change_any ⟨a,b,c⟩ (0) hx (by unfold fits at *;omega) w);generalize chV ⟨a,b,c⟩ (0)=y at *;generalize chE ⟨a,b,c⟩ (0)=z at *;obtain⟨p,q,r⟩:=y;unfold fits at hn;clear hx;go_enter Tryz.func46,Tryz.ntmps46;go_wp2_with fail;refine(HK.out _).mono ?_;rintro e w1 ⟨rfl,hb1⟩;obtain⟨hc1,hf1⟩:=bcell hb1;have HB1:=aH hb1;have hz1_0:w.heap.size<w1.heap.size:=by(have:=hb1.size;(try simp at this) <;> omega)
   have hz1_1:w.heap.size+1<w1.heap.size:=by(have:=hb1.size;(try simp at this) <;> omega)
   clear hb1;go_wp2;refine bP (v:=.tuple #[.agg #[.int .i64 p,.int .i64 q,.int .i64 r],.int .i64 z]) (by simp[results,Tryz.results46,go_sem,hc1]) rfl ⟨rfl,?_⟩
   (repeat (first | exact bR _ _ | (with_reducible refine bS ?_ (by simp <;> omega)) | (with_reducible refine bL ?_ _) | (with_reducible refine bC ?_ HB1.out)))
  ·rw[show max n 0=n by omega];have HK:=aH (fun w=>change_any ⟨a,b,c⟩ (n) hx (by unfold fits at *;omega) w);generalize chV ⟨a,b,c⟩ (n)=y at *;generalize chE ⟨a,b,c⟩ (n)=z at *;obtain⟨p,q,r⟩:=y;unfold fits at hn;clear hx;go_enter Tryz.func46,Tryz.ntmps46;go_wp2_with fail;refine(HK.out _).mono ?_;rintro e w1 ⟨rfl,hb1⟩;obtain⟨hc1,hf1⟩:=bcell hb1;have HB1:=aH hb1;have hz1_0:w.heap.size<w1.heap.size:=by(have:=hb1.size;(try simp at this) <;> omega)
   have hz1_1:w.heap.size+1<w1.heap.size:=by(have:=hb1.size;(try simp at this) <;> omega)
   clear hb1;go_wp2;refine bP (v:=.tuple #[.agg #[.int .i64 p,.int .i64 q,.int .i64 r],.int .i64 z]) (by simp[results,Tryz.results46,go_sem,hc1]) rfl ⟨rfl,?_⟩
   (repeat (first | exact bR _ _ | (with_reducible refine bS ?_ (by simp <;> omega)) | (with_reducible refine bL ?_ _) | (with_reducible refine bC ?_ HB1.out)))
theorem draw_any (x:Ce) (n:Int) (hx:x.Fit) (hn:fits n) (w:World):Calls Tryz.prog 48 #[x.v,.int .i64 n] w fun e w'=>e=.returned (ceE (chV x (-(max n 0))) (chE x (-(max n 0))))∧Below w.heap.size w w':=by
 obtain⟨a,b,c⟩:=x;by_cases hl:n<0
 ·rw[show max n 0=0 by omega];rw[Int.neg_zero];have HK:=aH (fun w=>change_any ⟨a,b,c⟩ (0) hx (by unfold fits at *;omega) w);generalize chV ⟨a,b,c⟩ (0)=y at *;generalize chE ⟨a,b,c⟩ (0)=z at *;obtain⟨p,q,r⟩:=y;unfold fits at hn;clear hx;go_enter Tryz.func48,Tryz.ntmps48;go_wp2_with fail;refine(HK.out _).mono ?_;rintro e w1 ⟨rfl,hb1⟩;obtain⟨hc1,hf1⟩:=bcell hb1;have HB1:=aH hb1;have hz1_0:w.heap.size<w1.heap.size:=by(have:=hb1.size;(try simp at this) <;> omega)
  have hz1_1:w.heap.size+1<w1.heap.size:=by(have:=hb1.size;(try simp at this) <;> omega)
  clear hb1;go_wp2;refine bP (v:=.tuple #[.agg #[.int .i64 p,.int .i64 q,.int .i64 r],.int .i64 z]) (by simp[results,Tryz.results48,go_sem,hc1]) rfl ⟨rfl,?_⟩
  (repeat (first | exact bR _ _ | (with_reducible refine bS ?_ (by simp <;> omega)) | (with_reducible refine bL ?_ _) | (with_reducible refine bC ?_ HB1.out)))
 ·by_cases h0:n=0
  ·subst h0;rw[show max (0:Int) 0=0 by omega];rw[Int.neg_zero];have HK:=aH (fun w=>change_any ⟨a,b,c⟩ (0) hx (by unfold fits at *;omega) w);generalize chV ⟨a,b,c⟩ (0)=y at *;generalize chE ⟨a,b,c⟩ (0)=z at *;obtain⟨p,q,r⟩:=y;unfold fits at hn;clear hx;go_enter Tryz.func48,Tryz.ntmps48;go_wp2_with fail;refine(HK.out _).mono ?_;rintro e w1 ⟨rfl,hb1⟩;obtain⟨hc1,hf1⟩:=bcell hb1;have HB1:=aH hb1;have hz1_0:w.heap.size<w1.heap.size:=by(have:=hb1.size;(try simp at this) <;> omega)
   have hz1_1:w.heap.size+1<w1.heap.size:=by(have:=hb1.size;(try simp at this) <;> omega)
   clear hb1;go_wp2;refine bP (v:=.tuple #[.agg #[.int .i64 p,.int .i64 q,.int .i64 r],.int .i64 z]) (by simp[results,Tryz.results48,go_sem,hc1]) rfl ⟨rfl,?_⟩
   (repeat (first | exact bR _ _ | (with_reducible refine bS ?_ (by simp <;> omega)) | (with_reducible refine bL ?_ _) | (with_reducible refine bC ?_ HB1.out)))
  ·rw[show max n 0=n by omega];have HK:=aH (fun w=>change_any ⟨a,b,c⟩ (-n) hx (by unfold fits at *;omega) w);generalize chV ⟨a,b,c⟩ (-n)=y at *;generalize chE ⟨a,b,c⟩ (-n)=z at *;obtain⟨p,q,r⟩:=y;unfold fits at hn;clear hx;go_enter Tryz.func48,Tryz.ntmps48;go_wp2_with fail;refine(HK.out _).mono ?_;rintro e w1 ⟨rfl,hb1⟩;obtain⟨hc1,hf1⟩:=bcell hb1;have HB1:=aH hb1;have hz1_0:w.heap.size<w1.heap.size:=by(have:=hb1.size;(try simp at this) <;> omega)
   have hz1_1:w.heap.size+1<w1.heap.size:=by(have:=hb1.size;(try simp at this) <;> omega)
   clear hb1;go_wp2;refine bP (v:=.tuple #[.agg #[.int .i64 p,.int .i64 q,.int .i64 r],.int .i64 z]) (by simp[results,Tryz.results48,go_sem,hc1]) rfl ⟨rfl,?_⟩
   (repeat (first | exact bR _ _ | (with_reducible refine bS ?_ (by simp <;> omega)) | (with_reducible refine bL ?_ _) | (with_reducible refine bC ?_ HB1.out)))
end Go.Proofs.YtacjonncakhhmaaGreat.Cel
