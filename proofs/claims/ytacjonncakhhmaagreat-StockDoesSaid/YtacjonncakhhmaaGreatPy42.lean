/- Cells: what becomes of them, as the reference tells it. -/
import Derived.Test.YtacjonncakhhmaaGreatPy00
import Derived.Test.YtacjonncakhhmaaGreatPy02
import Derived.Deep.Cut
set_option maxRecDepth 100000
set_option maxHeartbeats 8000000
namespace Go.Proofs.YtacjonncakhhmaaGreat.Cel
open Go.RowKit
theorem rchange0_any (a b c n:Int) (hr:(Ce.mk a b c).Right) (hn:fits n) (h1:n≠0) (w:World):Calls Tryz.prog 106 #[ceV a b c,.int .i64 n] w fun e w'=>e=.returned (ceE (chV ⟨a,b,c⟩ n) (chE ⟨a,b,c⟩ n))∧Below w.heap.size w w':=by
 have HR:=aH hr;obtain⟨r1,r2,r3,r4,r5,r6⟩:=hr;dsimp only at r1 r2 r3 r4 r5 r6;unfold fits at hn;by_cases h2:c=2147483647
 ·have T:chE ⟨a,b,c⟩ n=101:=by unfold chE;rw[if_neg (by simpa using HR.out),if_neg h1,if_pos h2]
  rw[chV_no T (by decide),T];have q2:(c==2147483647)=true:=by rw[beq_iff_eq];exact h2
  clear T h2;go_enter Tryz.func106,Tryz.ntmps106;go_wp2;refine bP (v:=.tuple #[.agg #[.int .i64 0,.int .i64 0,.int .i64 0],.int .i64 101]) (by simp[results,Tryz.results106,go_sem]) rfl ⟨rfl,?_⟩
  (repeat (first | exact bR _ _ | (with_reducible refine bS ?_ (by simp <;> omega)) | (with_reducible refine bL ?_ _)))
 ·by_cases h4:b+n<0
  ·have T:chE ⟨a,b,c⟩ n=102:=by unfold chE;rw[if_neg (by simpa using HR.out),if_neg h1,if_neg h2,if_pos h4]
   rw[chV_no T (by decide),T];go_enter Tryz.func106,Tryz.ntmps106;go_wp2;refine bP (v:=.tuple #[.agg #[.int .i64 0,.int .i64 0,.int .i64 0],.int .i64 102]) (by simp[results,Tryz.results106,go_sem]) rfl ⟨rfl,?_⟩
   (repeat (first | exact bR _ _ | (with_reducible refine bS ?_ (by simp <;> omega)) | (with_reducible refine bL ?_ _)))
  ·by_cases h5:a<b+n
   ·have T:chE ⟨a,b,c⟩ n=103:=by unfold chE;rw[if_neg (by simpa using HR.out),if_neg h1,if_neg h2,if_neg h4,if_pos h5]
    rw[chV_no T (by decide),T];go_enter Tryz.func106,Tryz.ntmps106;go_wp2;refine bP (v:=.tuple #[.agg #[.int .i64 0,.int .i64 0,.int .i64 0],.int .i64 103]) (by simp[results,Tryz.results106,go_sem]) rfl ⟨rfl,?_⟩
    (repeat (first | exact bR _ _ | (with_reducible refine bS ?_ (by simp <;> omega)) | (with_reducible refine bL ?_ _)))
   ·have T:chE ⟨a,b,c⟩ n=0:=by unfold chE;rw[if_neg (by simpa using HR.out),if_neg h1,if_neg h2,if_neg h4,if_neg h5]
    have U:chV ⟨a,b,c⟩ n=⟨a,b+n,c+1⟩:=by unfold chV;rw[if_pos T]
    rw[U,T];go_enter Tryz.func106,Tryz.ntmps106;go_wp2;refine bP (v:=.tuple #[.agg #[.int .i64 a,.int .i64 (b+n),.int .i64 (c+1)],.int .i64 0]) (by simp[results,Tryz.results106,go_sem]) rfl ⟨rfl,?_⟩
    (repeat (first | exact bR _ _ | (with_reducible refine bS ?_ (by simp <;> omega)) | (with_reducible refine bL ?_ _)))
theorem rchange_any (x:Ce) (n:Int) (hn:fits n) (w:World):Calls Tryz.prog 81 #[x.v,.int .i64 n] w fun e w'=>e=.returned (ceE (chV x n) (chE x n))∧Below w.heap.size w w':=by
 obtain⟨a,b,c⟩:=x;by_cases hr:(Ce.mk a b c).Right
 ·have HK:=aH (fun w=>rright_t hr w);by_cases h1:n=0
  ·subst h1;rw[chV_no (chE_0 hr) (by decide),chE_0 hr];clear hr hn;go_enter Tryz.func81,Tryz.ntmps81;go_wp2_with fail;refine(HK.out _).mono ?_;rintro e w1 ⟨rfl,hb1⟩;obtain⟨hc1,hf1⟩:=bcell hb1;have HB1:=aH hb1;have hz1_0:w.heap.size<w1.heap.size:=by(have:=hb1.size;(try simp at this) <;> omega)
   have hz1_1:w.heap.size+1<w1.heap.size:=by(have:=hb1.size;(try simp at this) <;> omega)
   clear hb1;go_wp2;refine bP (v:=.tuple #[.agg #[.int .i64 0,.int .i64 0,.int .i64 0],.int .i64 1]) (by simp[results,Tryz.results81,go_sem,hc1]) rfl ⟨rfl,?_⟩
   (repeat (first | exact bR _ _ | (with_reducible refine bS ?_ (by simp <;> omega)) | (with_reducible refine bL ?_ _) | (with_reducible refine bC ?_ HB1.out)))
  ·have HC:=aH (fun w=>rchange0_any a b c n hr hn h1 w);generalize chV ⟨a,b,c⟩ n=y at *;generalize chE ⟨a,b,c⟩ n=z at *;obtain⟨p,q,r⟩:=y;clear hr hn;go_enter Tryz.func81,Tryz.ntmps81;go_wp2_with fail;refine(HK.out _).mono ?_;rintro e w1 ⟨rfl,hb1⟩;obtain⟨hc1,hf1⟩:=bcell hb1;have HB1:=aH hb1;have hz1_0:w.heap.size<w1.heap.size:=by(have:=hb1.size;(try simp at this) <;> omega)
   have hz1_1:w.heap.size+1<w1.heap.size:=by(have:=hb1.size;(try simp at this) <;> omega)
   clear hb1;go_wp2_with fail;refine(HC.out _).mono ?_;rintro e w2 ⟨rfl,hb2⟩;obtain⟨hc2,hf2⟩:=bcell hb2;have HB2:=aH hb2;have hz2_0:w.heap.size<w2.heap.size:=by(have:=hb2.size;(try simp at this) <;> omega)
   have hz2_1:w.heap.size+1<w2.heap.size:=by(have:=hb2.size;(try simp at this) <;> omega)
   clear hb2;go_wp2;refine bP (v:=.tuple #[.agg #[.int .i64 p,.int .i64 q,.int .i64 r],.int .i64 z]) (by simp[results,Tryz.results81,go_sem,hc1,hc2,hz1_1]) rfl ⟨rfl,?_⟩
   (repeat (first | exact bR _ _ | (with_reducible refine bS ?_ (by simp <;> omega)) | (with_reducible refine bL ?_ _) | (with_reducible refine bC ?_ HB1.out) | (with_reducible refine bC ?_ HB2.out)))
 ·have HK:=aH (fun w=>rright_f hr w);rw[chV_no (chE_no n hr) (by decide),chE_no n hr];clear hr hn;go_enter Tryz.func81,Tryz.ntmps81;go_wp2_with fail;refine(HK.out _).mono ?_;rintro e w1 ⟨rfl,hb1⟩;obtain⟨hc1,hf1⟩:=bcell hb1;have HB1:=aH hb1;have hz1_0:w.heap.size<w1.heap.size:=by(have:=hb1.size;(try simp at this) <;> omega)
  have hz1_1:w.heap.size+1<w1.heap.size:=by(have:=hb1.size;(try simp at this) <;> omega)
  clear hb1;go_wp2;refine bP (v:=.tuple #[.agg #[.int .i64 0,.int .i64 0,.int .i64 0],.int .i64 100]) (by simp[results,Tryz.results81,go_sem,hc1]) rfl ⟨rfl,?_⟩
  (repeat (first | exact bR _ _ | (with_reducible refine bS ?_ (by simp <;> omega)) | (with_reducible refine bL ?_ _) | (with_reducible refine bC ?_ HB1.out)))
theorem rpour_any (x:Ce) (n:Int) (hn:fits n) (w:World):Calls Tryz.prog 53 #[x.v,.int .i64 n] w fun e w'=>e=.returned (ceE (chV x (max n 0)) (chE x (max n 0)))∧Below w.heap.size w w':=by
 obtain⟨a,b,c⟩:=x;by_cases hr:(Ce.mk a b c).Right
 ·have HK:=aH (fun w=>rright_t hr w);by_cases h1:n<1
  ·rw[max_lo h1];rw[chV_no (chE_0 hr) (by decide),chE_0 hr];clear hr hn;go_enter Tryz.func53,Tryz.ntmps53;go_wp2_with fail;refine(HK.out _).mono ?_;rintro e w1 ⟨rfl,hb1⟩;obtain⟨hc1,hf1⟩:=bcell hb1;have HB1:=aH hb1;have hz1_0:w.heap.size<w1.heap.size:=by(have:=hb1.size;(try simp at this) <;> omega)
   have hz1_1:w.heap.size+1<w1.heap.size:=by(have:=hb1.size;(try simp at this) <;> omega)
   clear hb1;go_wp2;refine bP (v:=.tuple #[.agg #[.int .i64 0,.int .i64 0,.int .i64 0],.int .i64 1]) (by simp[results,Tryz.results53,go_sem,hc1]) rfl ⟨rfl,?_⟩
   (repeat (first | exact bR _ _ | (with_reducible refine bS ?_ (by simp <;> omega)) | (with_reducible refine bL ?_ _) | (with_reducible refine bC ?_ HB1.out)))
  ·rw[max_hi h1];have HC:=aH (fun w=>rchange_any ⟨a,b,c⟩ (n) (by unfold fits at *;omega) w);generalize chV ⟨a,b,c⟩ (n)=y at *;generalize chE ⟨a,b,c⟩ (n)=z at *;obtain⟨p,q,r⟩:=y;unfold fits at hn;clear hr;go_enter Tryz.func53,Tryz.ntmps53;go_wp2_with fail;refine(HK.out _).mono ?_;rintro e w1 ⟨rfl,hb1⟩;obtain⟨hc1,hf1⟩:=bcell hb1;have HB1:=aH hb1;have hz1_0:w.heap.size<w1.heap.size:=by(have:=hb1.size;(try simp at this) <;> omega)
   have hz1_1:w.heap.size+1<w1.heap.size:=by(have:=hb1.size;(try simp at this) <;> omega)
   clear hb1;go_wp2_with fail;refine(HC.out _).mono ?_;rintro e w2 ⟨rfl,hb2⟩;obtain⟨hc2,hf2⟩:=bcell hb2;have HB2:=aH hb2;have hz2_0:w.heap.size<w2.heap.size:=by(have:=hb2.size;(try simp at this) <;> omega)
   have hz2_1:w.heap.size+1<w2.heap.size:=by(have:=hb2.size;(try simp at this) <;> omega)
   clear hb2;go_wp2;refine bP (v:=.tuple #[.agg #[.int .i64 p,.int .i64 q,.int .i64 r],.int .i64 z]) (by simp[results,Tryz.results53,go_sem,hc1,hc2,hz1_1]) rfl ⟨rfl,?_⟩
   (repeat (first | exact bR _ _ | (with_reducible refine bS ?_ (by simp <;> omega)) | (with_reducible refine bL ?_ _) | (with_reducible refine bC ?_ HB1.out) | (with_reducible refine bC ?_ HB2.out)))
 ·have HK:=aH (fun w=>rright_f hr w);have HC:=aH (fun w=>rchange_any ⟨a,b,c⟩ n hn w);rw[chV_no (chE_no n hr) (by decide),chE_no n hr]at HC;rw[chV_no (chE_no (max n 0) hr) (by decide),chE_no (max n 0) hr];clear hr hn;go_enter Tryz.func53,Tryz.ntmps53;go_wp2_with fail;refine(HK.out _).mono ?_;rintro e w1 ⟨rfl,hb1⟩;obtain⟨hc1,hf1⟩:=bcell hb1;have HB1:=aH hb1;have hz1_0:w.heap.size<w1.heap.size:=by(have:=hb1.size;(try simp at this) <;> omega)
  have hz1_1:w.heap.size+1<w1.heap.size:=by(have:=hb1.size;(try simp at this) <;> omega)
  clear hb1;go_wp2_with fail;refine(HC.out _).mono ?_;rintro e w2 ⟨rfl,hb2⟩;obtain⟨hc2,hf2⟩:=bcell hb2;have HB2:=aH hb2;have hz2_0:w.heap.size<w2.heap.size:=by(have:=hb2.size;(try simp at this) <;> omega)
  have hz2_1:w.heap.size+1<w2.heap.size:=by(have:=hb2.size;(try simp at this) <;> omega)
  clear hb2;go_wp2;refine bP (v:=.tuple #[.agg #[.int .i64 0,.int .i64 0,.int .i64 0],.int .i64 100]) (by simp[results,Tryz.results53,go_sem,hc1,hc2,hz1_1,nought]) rfl ⟨rfl,?_⟩
  (repeat (first | exact bR _ _ | (with_reducible refine bS ?_ (by simp <;> omega)) | (with_reducible refine bL ?_ _) | (with_reducible refine bC ?_ HB1.out) | (with_reducible refine bC ?_ HB2.out)))
theorem rdraw_any (x:Ce) (n:Int) (hn:fits n) (w:World):Calls Tryz.prog 55 #[x.v,.int .i64 n] w fun e w'=>e=.returned (ceE (chV x (-(max n 0))) (chE x (-(max n 0))))∧Below w.heap.size w w':=by
 obtain⟨a,b,c⟩:=x;by_cases hr:(Ce.mk a b c).Right
 ·have HK:=aH (fun w=>rright_t hr w);by_cases h1:n<1
  ·rw[max_lo h1];rw[Int.neg_zero];rw[chV_no (chE_0 hr) (by decide),chE_0 hr];clear hr hn;go_enter Tryz.func55,Tryz.ntmps55;go_wp2_with fail;refine(HK.out _).mono ?_;rintro e w1 ⟨rfl,hb1⟩;obtain⟨hc1,hf1⟩:=bcell hb1;have HB1:=aH hb1;have hz1_0:w.heap.size<w1.heap.size:=by(have:=hb1.size;(try simp at this) <;> omega)
   have hz1_1:w.heap.size+1<w1.heap.size:=by(have:=hb1.size;(try simp at this) <;> omega)
   clear hb1;go_wp2;refine bP (v:=.tuple #[.agg #[.int .i64 0,.int .i64 0,.int .i64 0],.int .i64 1]) (by simp[results,Tryz.results55,go_sem,hc1]) rfl ⟨rfl,?_⟩
   (repeat (first | exact bR _ _ | (with_reducible refine bS ?_ (by simp <;> omega)) | (with_reducible refine bL ?_ _) | (with_reducible refine bC ?_ HB1.out)))
  ·rw[max_hi h1];have HC:=aH (fun w=>rchange_any ⟨a,b,c⟩ (-n) (by unfold fits at *;omega) w);generalize chV ⟨a,b,c⟩ (-n)=y at *;generalize chE ⟨a,b,c⟩ (-n)=z at *;obtain⟨p,q,r⟩:=y;unfold fits at hn;clear hr;go_enter Tryz.func55,Tryz.ntmps55;go_wp2_with fail;refine(HK.out _).mono ?_;rintro e w1 ⟨rfl,hb1⟩;obtain⟨hc1,hf1⟩:=bcell hb1;have HB1:=aH hb1;have hz1_0:w.heap.size<w1.heap.size:=by(have:=hb1.size;(try simp at this) <;> omega)
   have hz1_1:w.heap.size+1<w1.heap.size:=by(have:=hb1.size;(try simp at this) <;> omega)
   clear hb1;go_wp2_with fail;refine(HC.out _).mono ?_;rintro e w2 ⟨rfl,hb2⟩;obtain⟨hc2,hf2⟩:=bcell hb2;have HB2:=aH hb2;have hz2_0:w.heap.size<w2.heap.size:=by(have:=hb2.size;(try simp at this) <;> omega)
   have hz2_1:w.heap.size+1<w2.heap.size:=by(have:=hb2.size;(try simp at this) <;> omega)
   clear hb2;go_wp2;refine bP (v:=.tuple #[.agg #[.int .i64 p,.int .i64 q,.int .i64 r],.int .i64 z]) (by simp[results,Tryz.results55,go_sem,hc1,hc2,hz1_1]) rfl ⟨rfl,?_⟩
   (repeat (first | exact bR _ _ | (with_reducible refine bS ?_ (by simp <;> omega)) | (with_reducible refine bL ?_ _) | (with_reducible refine bC ?_ HB1.out) | (with_reducible refine bC ?_ HB2.out)))
 ·have HK:=aH (fun w=>rright_f hr w);rw[chV_no (chE_no (-(max n 0)) hr) (by decide),chE_no (-(max n 0)) hr];by_cases h1:n<1
  ·clear hr hn;go_enter Tryz.func55,Tryz.ntmps55;go_wp2_with fail;refine(HK.out _).mono ?_;rintro e w1 ⟨rfl,hb1⟩;obtain⟨hc1,hf1⟩:=bcell hb1;have HB1:=aH hb1;have hz1_0:w.heap.size<w1.heap.size:=by(have:=hb1.size;(try simp at this) <;> omega)
   have hz1_1:w.heap.size+1<w1.heap.size:=by(have:=hb1.size;(try simp at this) <;> omega)
   clear hb1;go_wp2;refine bP (v:=.tuple #[.agg #[.int .i64 0,.int .i64 0,.int .i64 0],.int .i64 100]) (by simp[results,Tryz.results55,go_sem,hc1]) rfl ⟨rfl,?_⟩
   (repeat (first | exact bR _ _ | (with_reducible refine bS ?_ (by simp <;> omega)) | (with_reducible refine bL ?_ _) | (with_reducible refine bC ?_ HB1.out)))
  ·have HC:=aH (fun w=>rchange_any ⟨a,b,c⟩ (-n) (by unfold fits at *;omega) w);rw[chV_no (chE_no (-n) hr) (by decide),chE_no (-n) hr]at HC;unfold fits at hn;clear hr;go_enter Tryz.func55,Tryz.ntmps55;go_wp2_with fail;refine(HK.out _).mono ?_;rintro e w1 ⟨rfl,hb1⟩;obtain⟨hc1,hf1⟩:=bcell hb1;have HB1:=aH hb1;have hz1_0:w.heap.size<w1.heap.size:=by(have:=hb1.size;(try simp at this) <;> omega)
   have hz1_1:w.heap.size+1<w1.heap.size:=by(have:=hb1.size;(try simp at this) <;> omega)
   clear hb1;go_wp2_with fail;refine(HC.out _).mono ?_;rintro e w2 ⟨rfl,hb2⟩;obtain⟨hc2,hf2⟩:=bcell hb2;have HB2:=aH hb2;have hz2_0:w.heap.size<w2.heap.size:=by(have:=hb2.size;(try simp at this) <;> omega)
   have hz2_1:w.heap.size+1<w2.heap.size:=by(have:=hb2.size;(try simp at this) <;> omega)
   clear hb2;go_wp2;refine bP (v:=.tuple #[.agg #[.int .i64 0,.int .i64 0,.int .i64 0],.int .i64 100]) (by simp[results,Tryz.results55,go_sem,hc1,hc2,hz1_1,nought]) rfl ⟨rfl,?_⟩
   (repeat (first | exact bR _ _ | (with_reducible refine bS ?_ (by simp <;> omega)) | (with_reducible refine bL ?_ _) | (with_reducible refine bC ?_ HB1.out) | (with_reducible refine bC ?_ HB2.out)))
theorem rmove_any (x y:Ce) (n:Int) (hn:fits n) (w:World):Calls Tryz.prog 56 #[x.v,y.v,.int .i64 n] w fun e w'=>e=.returned (ceEE (mvX x y n) (mvY x y n) (mvE x y n))∧Below w.heap.size w w':=by
 obtain⟨a,b,c⟩:=x;obtain⟨f,g,h⟩:=y;have HK:=aH (fun w=>rdraw_any ⟨a,b,c⟩ n hn w);have HP:=aH (fun w=>rpour_any ⟨f,g,h⟩ n hn w);have hq2:w.heap.size<w.heap.size+1+1:=by omega
 have hq3:w.heap.size<w.heap.size+1+1+1:=by omega
 have hq4:w.heap.size<w.heap.size+1+1+1+1:=by omega
 by_cases e1:chE ⟨a,b,c⟩ (-(max n 0))=0
 ·rw[e1]at HK;have T0:mvE ⟨a,b,c⟩ ⟨f,g,h⟩ n=chE ⟨f,g,h⟩ (max n 0):=by unfold mvE;rw[if_pos e1]
  by_cases e2:chE ⟨f,g,h⟩ (max n 0)=0
  ·have T:=T0.trans e2;have U:mvX ⟨a,b,c⟩ ⟨f,g,h⟩ n=chV ⟨a,b,c⟩ (-(max n 0)):=by unfold mvX;rw[if_pos T]
   have V:mvY ⟨a,b,c⟩ ⟨f,g,h⟩ n=chV ⟨f,g,h⟩ (max n 0):=by unfold mvY;rw[if_pos T]
   rw[T,U,V];rw[e2]at HP;generalize chV ⟨a,b,c⟩ (-(max n 0))=r at *;generalize chV ⟨f,g,h⟩ (max n 0)=t at *;obtain⟨p,q,r⟩:=r;obtain⟨s,t,u⟩:=t;clear T0 T U V e1 e2 hn;go_enter Tryz.func56,Tryz.ntmps56;go_wp2_with fail;refine(HK.out _).mono ?_;rintro e w1 ⟨rfl,hb1⟩;have k2_0:w1.cell? ⟨w.heap.size+1+1,0,none⟩=some (.int .i64 0):=by exact kK hb1 (by simp[go_sem, *])
   have z2_0:w1.frozen? ⟨w.heap.size+1+1,0,none⟩=false:=by rw[hb1.frozen (p:=⟨w.heap.size+1+1,0,none⟩) (by simp[go_sem, *])];simp[go_sem, *]
   have k2_1:w1.cell? ⟨w.heap.size+1+1,1,none⟩=some (.int .i64 0):=by exact kK hb1 (by simp[go_sem, *])
   have z2_1:w1.frozen? ⟨w.heap.size+1+1,1,none⟩=false:=by rw[hb1.frozen (p:=⟨w.heap.size+1+1,1,none⟩) (by simp[go_sem, *])];simp[go_sem, *]
   have k2_2:w1.cell? ⟨w.heap.size+1+1,2,none⟩=some (.int .i64 0):=by exact kK hb1 (by simp[go_sem, *])
   have z2_2:w1.frozen? ⟨w.heap.size+1+1,2,none⟩=false:=by rw[hb1.frozen (p:=⟨w.heap.size+1+1,2,none⟩) (by simp[go_sem, *])];simp[go_sem, *]
   have k3_0:w1.cell? ⟨w.heap.size+1+1+1,0,none⟩=some (.int .i64 0):=by exact kK hb1 (by simp[go_sem, *])
   have z3_0:w1.frozen? ⟨w.heap.size+1+1+1,0,none⟩=false:=by rw[hb1.frozen (p:=⟨w.heap.size+1+1+1,0,none⟩) (by simp[go_sem, *])];simp[go_sem, *]
   have k3_1:w1.cell? ⟨w.heap.size+1+1+1,1,none⟩=some (.int .i64 0):=by exact kK hb1 (by simp[go_sem, *])
   have z3_1:w1.frozen? ⟨w.heap.size+1+1+1,1,none⟩=false:=by rw[hb1.frozen (p:=⟨w.heap.size+1+1+1,1,none⟩) (by simp[go_sem, *])];simp[go_sem, *]
   have k3_2:w1.cell? ⟨w.heap.size+1+1+1,2,none⟩=some (.int .i64 0):=by exact kK hb1 (by simp[go_sem, *])
   have z3_2:w1.frozen? ⟨w.heap.size+1+1+1,2,none⟩=false:=by rw[hb1.frozen (p:=⟨w.heap.size+1+1+1,2,none⟩) (by simp[go_sem, *])];simp[go_sem, *]
   have k1_0:w1.cell? ⟨w.heap.size+1,0,none⟩=some (.int .i64 f):=by exact kK hb1 (by simp[go_sem, *])
   have k1_1:w1.cell? ⟨w.heap.size+1,1,none⟩=some (.int .i64 g):=by exact kK hb1 (by simp[go_sem, *])
   have k1_2:w1.cell? ⟨w.heap.size+1,2,none⟩=some (.int .i64 h):=by exact kK hb1 (by simp[go_sem, *])
   have HB1:=aH (bC (bL (bL (bL (bL (bR _ _) _) _) _) _) hb1);have hs1:w.heap.size+1+1+1<w1.heap.size:=by(have:=hb1.size;(try simp at this) <;> omega)
   have hs1b:w.heap.size+1+1<w1.heap.size:=by omega
   have hs1c:w.heap.size+1<w1.heap.size:=by omega
   clear hb1;go_wp2_with fail;refine(HP.out _).mono ?_;rintro e w2 ⟨rfl,hb2⟩;have hb3:=bC (bL (bR _ _) _) hb2;have kA_0:w2.cell? ⟨w1.heap.size,0,none⟩=some (.int .i64 p):=by exact kK hb2 (by simp[go_sem])
   have kA_1:w2.cell? ⟨w1.heap.size,1,none⟩=some (.int .i64 q):=by exact kK hb2 (by simp[go_sem])
   have kA_2:w2.cell? ⟨w1.heap.size,2,none⟩=some (.int .i64 r):=by exact kK hb2 (by simp[go_sem])
   have m2_0:w2.cell? ⟨w.heap.size+1+1,0,none⟩=some (.int .i64 0):=by exact kK hb3 k2_0
   have y2_0:w2.frozen? ⟨w.heap.size+1+1,0,none⟩=false:=by rw[hb3.frozen (p:=⟨w.heap.size+1+1,0,none⟩) (wB _ _ k2_0)];exact z2_0
   have m2_1:w2.cell? ⟨w.heap.size+1+1,1,none⟩=some (.int .i64 0):=by exact kK hb3 k2_1
   have y2_1:w2.frozen? ⟨w.heap.size+1+1,1,none⟩=false:=by rw[hb3.frozen (p:=⟨w.heap.size+1+1,1,none⟩) (wB _ _ k2_1)];exact z2_1
   have m2_2:w2.cell? ⟨w.heap.size+1+1,2,none⟩=some (.int .i64 0):=by exact kK hb3 k2_2
   have y2_2:w2.frozen? ⟨w.heap.size+1+1,2,none⟩=false:=by rw[hb3.frozen (p:=⟨w.heap.size+1+1,2,none⟩) (wB _ _ k2_2)];exact z2_2
   have m3_0:w2.cell? ⟨w.heap.size+1+1+1,0,none⟩=some (.int .i64 0):=by exact kK hb3 k3_0
   have y3_0:w2.frozen? ⟨w.heap.size+1+1+1,0,none⟩=false:=by rw[hb3.frozen (p:=⟨w.heap.size+1+1+1,0,none⟩) (wB _ _ k3_0)];exact z3_0
   have m3_1:w2.cell? ⟨w.heap.size+1+1+1,1,none⟩=some (.int .i64 0):=by exact kK hb3 k3_1
   have y3_1:w2.frozen? ⟨w.heap.size+1+1+1,1,none⟩=false:=by rw[hb3.frozen (p:=⟨w.heap.size+1+1+1,1,none⟩) (wB _ _ k3_1)];exact z3_1
   have m3_2:w2.cell? ⟨w.heap.size+1+1+1,2,none⟩=some (.int .i64 0):=by exact kK hb3 k3_2
   have y3_2:w2.frozen? ⟨w.heap.size+1+1+1,2,none⟩=false:=by rw[hb3.frozen (p:=⟨w.heap.size+1+1+1,2,none⟩) (wB _ _ k3_2)];exact z3_2
   have HB2:=aH (bC HB1.out hb3);have hs2:w1.heap.size<w2.heap.size:=by(have:=hb2.size;(try simp at this) <;> omega)
   have hs3:w.heap.size+1+1+1<w2.heap.size:=by omega
   have hs3b:w.heap.size+1+1<w2.heap.size:=by omega
   clear hb2 hb3;clear k2_0 z2_0 k2_1 z2_1 k2_2 z2_2 k3_0 z3_0 k3_1 z3_1 k3_2 z3_2;go_wp2_with fail;obtain⟨W,hW⟩:∃W,W=w2.alloc (.cells #[.int .i64 s,.int .i64 t,.int .i64 u] 58):=⟨_,rfl⟩;rw[←hW];have HBW:=aH (show Below w.heap.size w W by rw[hW];exact bL HB2.out _);have hb:=(show Below w2.heap.size w2 W by rw[hW];exact bL (bR _ _) _);have nA_0:W.cell? ⟨w1.heap.size,0,none⟩=some (.int .i64 p):=kK hb kA_0;have nA_1:W.cell? ⟨w1.heap.size,1,none⟩=some (.int .i64 q):=kK hb kA_1;have nA_2:W.cell? ⟨w1.heap.size,2,none⟩=some (.int .i64 r):=kK hb kA_2;have nB_0:W.cell? ⟨w2.heap.size,0,none⟩=some (.int .i64 s):=by rw[hW];simp[go_sem]
   have nB_1:W.cell? ⟨w2.heap.size,1,none⟩=some (.int .i64 t):=by rw[hW];simp[go_sem]
   have nB_2:W.cell? ⟨w2.heap.size,2,none⟩=some (.int .i64 u):=by rw[hW];simp[go_sem]
   have n2_0:W.cell? ⟨w.heap.size+1+1,0,none⟩=some (.int .i64 0):=kK hb m2_0;have x2_0:W.frozen? ⟨w.heap.size+1+1,0,none⟩=false:=by rw[hb.frozen (p:=⟨w.heap.size+1+1,0,none⟩) (wB _ _ m2_0)];exact y2_0
   have n2_1:W.cell? ⟨w.heap.size+1+1,1,none⟩=some (.int .i64 0):=kK hb m2_1;have x2_1:W.frozen? ⟨w.heap.size+1+1,1,none⟩=false:=by rw[hb.frozen (p:=⟨w.heap.size+1+1,1,none⟩) (wB _ _ m2_1)];exact y2_1
   have n2_2:W.cell? ⟨w.heap.size+1+1,2,none⟩=some (.int .i64 0):=kK hb m2_2;have x2_2:W.frozen? ⟨w.heap.size+1+1,2,none⟩=false:=by rw[hb.frozen (p:=⟨w.heap.size+1+1,2,none⟩) (wB _ _ m2_2)];exact y2_2
   have n3_0:W.cell? ⟨w.heap.size+1+1+1,0,none⟩=some (.int .i64 0):=kK hb m3_0;have x3_0:W.frozen? ⟨w.heap.size+1+1+1,0,none⟩=false:=by rw[hb.frozen (p:=⟨w.heap.size+1+1+1,0,none⟩) (wB _ _ m3_0)];exact y3_0
   have n3_1:W.cell? ⟨w.heap.size+1+1+1,1,none⟩=some (.int .i64 0):=kK hb m3_1;have x3_1:W.frozen? ⟨w.heap.size+1+1+1,1,none⟩=false:=by rw[hb.frozen (p:=⟨w.heap.size+1+1+1,1,none⟩) (wB _ _ m3_1)];exact y3_1
   have n3_2:W.cell? ⟨w.heap.size+1+1+1,2,none⟩=some (.int .i64 0):=kK hb m3_2;have x3_2:W.frozen? ⟨w.heap.size+1+1+1,2,none⟩=false:=by rw[hb.frozen (p:=⟨w.heap.size+1+1+1,2,none⟩) (wB _ _ m3_2)];exact y3_2
   clear hb hW HB2 m2_0 y2_0 m2_1 y2_1 m2_2 y2_2 m3_0 y3_0 m3_1 y3_1 m3_2 y3_2 kA_0 kA_1 kA_2;have g1:w.heap.size+1+1≠w1.heap.size:=by omega
   have g2:w.heap.size+1+1+1≠w1.heap.size:=by omega
   have g3:w.heap.size+1+1≠w2.heap.size:=by omega
   have g4:w.heap.size+1+1+1≠w2.heap.size:=by omega
   go_region
   go_wp2;refine bP (v:=.tuple #[.agg #[.int .i64 p,.int .i64 q,.int .i64 r],.agg #[.int .i64 s,.int .i64 t,.int .i64 u],.int .i64 0]) (by simp[results,Tryz.results56,go_sem,n2_0,n2_1,n2_2,n3_0,n3_1,n3_2]) rfl ⟨rfl,?_⟩;exact(bS ((bS ((bS ((bS ((bS ((bS (HBW.out) (by show w.heap.size≤w.heap.size+1+1;omega))) (by show w.heap.size≤w.heap.size+1+1;omega))) (by show w.heap.size≤w.heap.size+1+1;omega))) (by show w.heap.size≤w.heap.size+1+1+1;omega))) (by show w.heap.size≤w.heap.size+1+1+1;omega))) (by show w.heap.size≤w.heap.size+1+1+1;omega)).drew
  ·have U:mvX ⟨a,b,c⟩ ⟨f,g,h⟩ n=nought:=by unfold mvX;rw[if_neg (by rw[T0];exact e2)]
   have V:mvY ⟨a,b,c⟩ ⟨f,g,h⟩ n=nought:=by unfold mvY;rw[if_neg (by rw[T0];exact e2)]
   rw[T0,U,V];have q1:(chE ⟨f,g,h⟩ (max n 0) != 0)=true:=by rw[bne_iff_ne];exact e2
   generalize chE ⟨f,g,h⟩ (max n 0)=z at *;generalize chV ⟨a,b,c⟩ (-(max n 0))=r at *;generalize chV ⟨f,g,h⟩ (max n 0)=t at *;obtain⟨p,q,r⟩:=r;obtain⟨s,t,u⟩:=t;clear T0 U V e1 e2 hn;go_enter Tryz.func56,Tryz.ntmps56;go_wp2_with fail;refine(HK.out _).mono ?_;rintro e w1 ⟨rfl,hb1⟩;have k2_0:w1.cell? ⟨w.heap.size+1+1,0,none⟩=some (.int .i64 0):=by exact kK hb1 (by simp[go_sem, *])
   have z2_0:w1.frozen? ⟨w.heap.size+1+1,0,none⟩=false:=by rw[hb1.frozen (p:=⟨w.heap.size+1+1,0,none⟩) (by simp[go_sem, *])];simp[go_sem, *]
   have k2_1:w1.cell? ⟨w.heap.size+1+1,1,none⟩=some (.int .i64 0):=by exact kK hb1 (by simp[go_sem, *])
   have z2_1:w1.frozen? ⟨w.heap.size+1+1,1,none⟩=false:=by rw[hb1.frozen (p:=⟨w.heap.size+1+1,1,none⟩) (by simp[go_sem, *])];simp[go_sem, *]
   have k2_2:w1.cell? ⟨w.heap.size+1+1,2,none⟩=some (.int .i64 0):=by exact kK hb1 (by simp[go_sem, *])
   have z2_2:w1.frozen? ⟨w.heap.size+1+1,2,none⟩=false:=by rw[hb1.frozen (p:=⟨w.heap.size+1+1,2,none⟩) (by simp[go_sem, *])];simp[go_sem, *]
   have k3_0:w1.cell? ⟨w.heap.size+1+1+1,0,none⟩=some (.int .i64 0):=by exact kK hb1 (by simp[go_sem, *])
   have z3_0:w1.frozen? ⟨w.heap.size+1+1+1,0,none⟩=false:=by rw[hb1.frozen (p:=⟨w.heap.size+1+1+1,0,none⟩) (by simp[go_sem, *])];simp[go_sem, *]
   have k3_1:w1.cell? ⟨w.heap.size+1+1+1,1,none⟩=some (.int .i64 0):=by exact kK hb1 (by simp[go_sem, *])
   have z3_1:w1.frozen? ⟨w.heap.size+1+1+1,1,none⟩=false:=by rw[hb1.frozen (p:=⟨w.heap.size+1+1+1,1,none⟩) (by simp[go_sem, *])];simp[go_sem, *]
   have k3_2:w1.cell? ⟨w.heap.size+1+1+1,2,none⟩=some (.int .i64 0):=by exact kK hb1 (by simp[go_sem, *])
   have z3_2:w1.frozen? ⟨w.heap.size+1+1+1,2,none⟩=false:=by rw[hb1.frozen (p:=⟨w.heap.size+1+1+1,2,none⟩) (by simp[go_sem, *])];simp[go_sem, *]
   have k1_0:w1.cell? ⟨w.heap.size+1,0,none⟩=some (.int .i64 f):=by exact kK hb1 (by simp[go_sem, *])
   have k1_1:w1.cell? ⟨w.heap.size+1,1,none⟩=some (.int .i64 g):=by exact kK hb1 (by simp[go_sem, *])
   have k1_2:w1.cell? ⟨w.heap.size+1,2,none⟩=some (.int .i64 h):=by exact kK hb1 (by simp[go_sem, *])
   have HB1:=aH (bC (bL (bL (bL (bL (bR _ _) _) _) _) _) hb1);have hs1:w.heap.size+1+1+1<w1.heap.size:=by(have:=hb1.size;(try simp at this) <;> omega)
   have hs1b:w.heap.size+1+1<w1.heap.size:=by omega
   have hs1c:w.heap.size+1<w1.heap.size:=by omega
   clear hb1;go_wp2_with fail;refine(HP.out _).mono ?_;rintro e w2 ⟨rfl,hb2⟩;have hb3:=bC (bL (bR _ _) _) hb2;have kA_0:w2.cell? ⟨w1.heap.size,0,none⟩=some (.int .i64 p):=by exact kK hb2 (by simp[go_sem])
   have kA_1:w2.cell? ⟨w1.heap.size,1,none⟩=some (.int .i64 q):=by exact kK hb2 (by simp[go_sem])
   have kA_2:w2.cell? ⟨w1.heap.size,2,none⟩=some (.int .i64 r):=by exact kK hb2 (by simp[go_sem])
   have m2_0:w2.cell? ⟨w.heap.size+1+1,0,none⟩=some (.int .i64 0):=by exact kK hb3 k2_0
   have y2_0:w2.frozen? ⟨w.heap.size+1+1,0,none⟩=false:=by rw[hb3.frozen (p:=⟨w.heap.size+1+1,0,none⟩) (wB _ _ k2_0)];exact z2_0
   have m2_1:w2.cell? ⟨w.heap.size+1+1,1,none⟩=some (.int .i64 0):=by exact kK hb3 k2_1
   have y2_1:w2.frozen? ⟨w.heap.size+1+1,1,none⟩=false:=by rw[hb3.frozen (p:=⟨w.heap.size+1+1,1,none⟩) (wB _ _ k2_1)];exact z2_1
   have m2_2:w2.cell? ⟨w.heap.size+1+1,2,none⟩=some (.int .i64 0):=by exact kK hb3 k2_2
   have y2_2:w2.frozen? ⟨w.heap.size+1+1,2,none⟩=false:=by rw[hb3.frozen (p:=⟨w.heap.size+1+1,2,none⟩) (wB _ _ k2_2)];exact z2_2
   have m3_0:w2.cell? ⟨w.heap.size+1+1+1,0,none⟩=some (.int .i64 0):=by exact kK hb3 k3_0
   have y3_0:w2.frozen? ⟨w.heap.size+1+1+1,0,none⟩=false:=by rw[hb3.frozen (p:=⟨w.heap.size+1+1+1,0,none⟩) (wB _ _ k3_0)];exact z3_0
   have m3_1:w2.cell? ⟨w.heap.size+1+1+1,1,none⟩=some (.int .i64 0):=by exact kK hb3 k3_1
   have y3_1:w2.frozen? ⟨w.heap.size+1+1+1,1,none⟩=false:=by rw[hb3.frozen (p:=⟨w.heap.size+1+1+1,1,none⟩) (wB _ _ k3_1)];exact z3_1
   have m3_2:w2.cell? ⟨w.heap.size+1+1+1,2,none⟩=some (.int .i64 0):=by exact kK hb3 k3_2
   have y3_2:w2.frozen? ⟨w.heap.size+1+1+1,2,none⟩=false:=by rw[hb3.frozen (p:=⟨w.heap.size+1+1+1,2,none⟩) (wB _ _ k3_2)];exact z3_2
   have HB2:=aH (bC HB1.out hb3);have hs2:w1.heap.size<w2.heap.size:=by(have:=hb2.size;(try simp at this) <;> omega)
   have hs3:w.heap.size+1+1+1<w2.heap.size:=by omega
   have hs3b:w.heap.size+1+1<w2.heap.size:=by omega
   clear hb2 hb3;clear k2_0 z2_0 k2_1 z2_1 k2_2 z2_2 k3_0 z3_0 k3_1 z3_1 k3_2 z3_2
   go_upto_region 6 with fail
   obtain⟨W,hW⟩:∃W,W=w2.alloc (.cells #[.int .i64 s,.int .i64 t,.int .i64 u] 58):=⟨_,rfl⟩;rw[←hW];have HBW:=aH (show Below w.heap.size w W by rw[hW];exact bL HB2.out _);have hb:=(show Below w2.heap.size w2 W by rw[hW];exact bL (bR _ _) _);have n2_0:W.cell? ⟨w.heap.size+1+1,0,none⟩=some (.int .i64 0):=kK hb m2_0;have x2_0:W.frozen? ⟨w.heap.size+1+1,0,none⟩=false:=by rw[hb.frozen (p:=⟨w.heap.size+1+1,0,none⟩) (wB _ _ m2_0)];exact y2_0
   have n2_1:W.cell? ⟨w.heap.size+1+1,1,none⟩=some (.int .i64 0):=kK hb m2_1;have x2_1:W.frozen? ⟨w.heap.size+1+1,1,none⟩=false:=by rw[hb.frozen (p:=⟨w.heap.size+1+1,1,none⟩) (wB _ _ m2_1)];exact y2_1
   have n2_2:W.cell? ⟨w.heap.size+1+1,2,none⟩=some (.int .i64 0):=kK hb m2_2;have x2_2:W.frozen? ⟨w.heap.size+1+1,2,none⟩=false:=by rw[hb.frozen (p:=⟨w.heap.size+1+1,2,none⟩) (wB _ _ m2_2)];exact y2_2
   have n3_0:W.cell? ⟨w.heap.size+1+1+1,0,none⟩=some (.int .i64 0):=kK hb m3_0;have x3_0:W.frozen? ⟨w.heap.size+1+1+1,0,none⟩=false:=by rw[hb.frozen (p:=⟨w.heap.size+1+1+1,0,none⟩) (wB _ _ m3_0)];exact y3_0
   have n3_1:W.cell? ⟨w.heap.size+1+1+1,1,none⟩=some (.int .i64 0):=kK hb m3_1;have x3_1:W.frozen? ⟨w.heap.size+1+1+1,1,none⟩=false:=by rw[hb.frozen (p:=⟨w.heap.size+1+1+1,1,none⟩) (wB _ _ m3_1)];exact y3_1
   have n3_2:W.cell? ⟨w.heap.size+1+1+1,2,none⟩=some (.int .i64 0):=kK hb m3_2;have x3_2:W.frozen? ⟨w.heap.size+1+1+1,2,none⟩=false:=by rw[hb.frozen (p:=⟨w.heap.size+1+1+1,2,none⟩) (wB _ _ m3_2)];exact y3_2
   clear hb hW m2_0 y2_0 m2_1 y2_1 m2_2 y2_2 m3_0 y3_0 m3_1 y3_1 m3_2 y3_2;go_wp2;refine bP (v:=.tuple #[.agg #[.int .i64 0,.int .i64 0,.int .i64 0],.agg #[.int .i64 0,.int .i64 0,.int .i64 0],.int .i64 z]) (by simp[results,Tryz.results56,go_sem,n2_0,n2_1,n2_2,n3_0,n3_1,n3_2]) rfl ⟨rfl,?_⟩;exact(bS ((bS ((bS ((bS ((bS ((bS (HBW.out) (by show w.heap.size≤w.heap.size+1+1;omega))) (by show w.heap.size≤w.heap.size+1+1;omega))) (by show w.heap.size≤w.heap.size+1+1;omega))) (by show w.heap.size≤w.heap.size+1+1+1;omega))) (by show w.heap.size≤w.heap.size+1+1+1;omega))) (by show w.heap.size≤w.heap.size+1+1+1;omega))
 ·have T:mvE ⟨a,b,c⟩ ⟨f,g,h⟩ n=chE ⟨a,b,c⟩ (-(max n 0)):=by unfold mvE;rw[if_neg e1]
  have U:mvX ⟨a,b,c⟩ ⟨f,g,h⟩ n=nought:=by unfold mvX;rw[if_neg (by rw[T];exact e1)]
  have V:mvY ⟨a,b,c⟩ ⟨f,g,h⟩ n=nought:=by unfold mvY;rw[if_neg (by rw[T];exact e1)]
  rw[T,U,V];have q1:(chE ⟨a,b,c⟩ (-(max n 0)) != 0)=true:=by rw[bne_iff_ne];exact e1
  generalize chE ⟨a,b,c⟩ (-(max n 0))=z at *;generalize chV ⟨a,b,c⟩ (-(max n 0))=r at *;obtain⟨p,q,r⟩:=r;clear T U V e1 HP hn;go_enter Tryz.func56,Tryz.ntmps56;go_wp2_with fail;refine(HK.out _).mono ?_;rintro e w1 ⟨rfl,hb1⟩;have k2_0:w1.cell? ⟨w.heap.size+1+1,0,none⟩=some (.int .i64 0):=by exact kK hb1 (by simp[go_sem, *])
  have z2_0:w1.frozen? ⟨w.heap.size+1+1,0,none⟩=false:=by rw[hb1.frozen (p:=⟨w.heap.size+1+1,0,none⟩) (by simp[go_sem, *])];simp[go_sem, *]
  have k2_1:w1.cell? ⟨w.heap.size+1+1,1,none⟩=some (.int .i64 0):=by exact kK hb1 (by simp[go_sem, *])
  have z2_1:w1.frozen? ⟨w.heap.size+1+1,1,none⟩=false:=by rw[hb1.frozen (p:=⟨w.heap.size+1+1,1,none⟩) (by simp[go_sem, *])];simp[go_sem, *]
  have k2_2:w1.cell? ⟨w.heap.size+1+1,2,none⟩=some (.int .i64 0):=by exact kK hb1 (by simp[go_sem, *])
  have z2_2:w1.frozen? ⟨w.heap.size+1+1,2,none⟩=false:=by rw[hb1.frozen (p:=⟨w.heap.size+1+1,2,none⟩) (by simp[go_sem, *])];simp[go_sem, *]
  have k3_0:w1.cell? ⟨w.heap.size+1+1+1,0,none⟩=some (.int .i64 0):=by exact kK hb1 (by simp[go_sem, *])
  have z3_0:w1.frozen? ⟨w.heap.size+1+1+1,0,none⟩=false:=by rw[hb1.frozen (p:=⟨w.heap.size+1+1+1,0,none⟩) (by simp[go_sem, *])];simp[go_sem, *]
  have k3_1:w1.cell? ⟨w.heap.size+1+1+1,1,none⟩=some (.int .i64 0):=by exact kK hb1 (by simp[go_sem, *])
  have z3_1:w1.frozen? ⟨w.heap.size+1+1+1,1,none⟩=false:=by rw[hb1.frozen (p:=⟨w.heap.size+1+1+1,1,none⟩) (by simp[go_sem, *])];simp[go_sem, *]
  have k3_2:w1.cell? ⟨w.heap.size+1+1+1,2,none⟩=some (.int .i64 0):=by exact kK hb1 (by simp[go_sem, *])
  have z3_2:w1.frozen? ⟨w.heap.size+1+1+1,2,none⟩=false:=by rw[hb1.frozen (p:=⟨w.heap.size+1+1+1,2,none⟩) (by simp[go_sem, *])];simp[go_sem, *]
  have k1_0:w1.cell? ⟨w.heap.size+1,0,none⟩=some (.int .i64 f):=by exact kK hb1 (by simp[go_sem, *])
  have k1_1:w1.cell? ⟨w.heap.size+1,1,none⟩=some (.int .i64 g):=by exact kK hb1 (by simp[go_sem, *])
  have k1_2:w1.cell? ⟨w.heap.size+1,2,none⟩=some (.int .i64 h):=by exact kK hb1 (by simp[go_sem, *])
  have HB1:=aH (bC (bL (bL (bL (bL (bR _ _) _) _) _) _) hb1);have hs1:w.heap.size+1+1+1<w1.heap.size:=by(have:=hb1.size;(try simp at this) <;> omega)
  have hs1b:w.heap.size+1+1<w1.heap.size:=by omega
  have hs1c:w.heap.size+1<w1.heap.size:=by omega
  clear hb1
  go_upto_region 3 with fail
  obtain⟨W,hW⟩:∃W,W=w1.alloc (.cells #[.int .i64 p,.int .i64 q,.int .i64 r] 58):=⟨_,rfl⟩;rw[←hW];have HBW:=aH (show Below w.heap.size w W by rw[hW];exact bL HB1.out _);have hb:=(show Below w1.heap.size w1 W by rw[hW];exact bL (bR _ _) _);have n2_0:W.cell? ⟨w.heap.size+1+1,0,none⟩=some (.int .i64 0):=kK hb k2_0;have x2_0:W.frozen? ⟨w.heap.size+1+1,0,none⟩=false:=by rw[hb.frozen (p:=⟨w.heap.size+1+1,0,none⟩) (wB _ _ k2_0)];exact z2_0
  have n2_1:W.cell? ⟨w.heap.size+1+1,1,none⟩=some (.int .i64 0):=kK hb k2_1;have x2_1:W.frozen? ⟨w.heap.size+1+1,1,none⟩=false:=by rw[hb.frozen (p:=⟨w.heap.size+1+1,1,none⟩) (wB _ _ k2_1)];exact z2_1
  have n2_2:W.cell? ⟨w.heap.size+1+1,2,none⟩=some (.int .i64 0):=kK hb k2_2;have x2_2:W.frozen? ⟨w.heap.size+1+1,2,none⟩=false:=by rw[hb.frozen (p:=⟨w.heap.size+1+1,2,none⟩) (wB _ _ k2_2)];exact z2_2
  have n3_0:W.cell? ⟨w.heap.size+1+1+1,0,none⟩=some (.int .i64 0):=kK hb k3_0;have x3_0:W.frozen? ⟨w.heap.size+1+1+1,0,none⟩=false:=by rw[hb.frozen (p:=⟨w.heap.size+1+1+1,0,none⟩) (wB _ _ k3_0)];exact z3_0
  have n3_1:W.cell? ⟨w.heap.size+1+1+1,1,none⟩=some (.int .i64 0):=kK hb k3_1;have x3_1:W.frozen? ⟨w.heap.size+1+1+1,1,none⟩=false:=by rw[hb.frozen (p:=⟨w.heap.size+1+1+1,1,none⟩) (wB _ _ k3_1)];exact z3_1
  have n3_2:W.cell? ⟨w.heap.size+1+1+1,2,none⟩=some (.int .i64 0):=kK hb k3_2;have x3_2:W.frozen? ⟨w.heap.size+1+1+1,2,none⟩=false:=by rw[hb.frozen (p:=⟨w.heap.size+1+1+1,2,none⟩) (wB _ _ k3_2)];exact z3_2
  clear hb hW k2_0 z2_0 k2_1 z2_1 k2_2 z2_2 k3_0 z3_0 k3_1 z3_1 k3_2 z3_2;go_wp2;refine bP (v:=.tuple #[.agg #[.int .i64 0,.int .i64 0,.int .i64 0],.agg #[.int .i64 0,.int .i64 0,.int .i64 0],.int .i64 z]) (by simp[results,Tryz.results56,go_sem,n2_0,n2_1,n2_2,n3_0,n3_1,n3_2]) rfl ⟨rfl,?_⟩;exact(bS ((bS ((bS ((bS ((bS ((bS (HBW.out) (by show w.heap.size≤w.heap.size+1+1;omega))) (by show w.heap.size≤w.heap.size+1+1;omega))) (by show w.heap.size≤w.heap.size+1+1;omega))) (by show w.heap.size≤w.heap.size+1+1+1;omega))) (by show w.heap.size≤w.heap.size+1+1+1;omega))) (by show w.heap.size≤w.heap.size+1+1+1;omega))
end Go.Proofs.YtacjonncakhhmaaGreat.Cel
