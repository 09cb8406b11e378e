/- Stocks: a hand, by the reference. -/
import Derived.Test.YtacjonncakhhmaaGreatPv00
import Derived.Test.YtacjonncakhhmaaGreatPv27
import Derived.Test.YtacjonncakhhmaaGreatPv29
import Derived.Test.YtacjonncakhhmaaGreatPv30
import Derived.Test.YtacjonncakhhmaaGreatPv03
import Derived.Deep.Cut
import Derived.Test.YtacjonncakhhmaaGreatPv04
import Derived.Test.YtacjonncakhhmaaGreatPv25
import Derived.Test.YtacjonncakhhmaaGreatPv28
set_option maxRecDepth 100000
set_option maxHeartbeats 8000000
namespace Go.Proofs.YtacjonncakhhmaaGreat
open Go.RowKit
theorem cgE_no {d:Dk} {a:Ab} {b':Int} (E:Int) (h:cgE d a b' 0≠0):cgE d a b' E=cgE d a b' 0:=by
 unfold cgE at h⊢;by_cases h1:rgS d a=true
 ·rw[if_pos h1]at h⊢;by_cases h2:1≤b'∧b'≤d.arms
  ·rw[if_pos h2]at h;exact absurd rfl h
  ·rw[if_neg h2,if_pos h1,if_neg h2]
 ·rw[if_neg h1,if_neg h1]
theorem cgE_yes {d:Dk} {a:Ab} {b':Int} (h:cgE d a b' 0=0):rgS d a=true∧∀E,cgE d a b' E=E:=by
 obtain⟨h1,h2,h3,-⟩:=cg_ok h;exact⟨h1,fun E=>cgE_ok E h1 h2 h3⟩
theorem rmay_any (d:Dk) (s:Stk) (b':Int) (w:World) (hd:d.In w w.heap.size) (hs:s.In w w.heap.size):Calls Tryz.prog 51 #[d.v,s.v,.int .i64 b'] w fun e w'=>e=.returned (.int .i64 (cgE d s.ab b' 0))∧Below w.heap.size w w':=by
 obtain⟨w0,hw0⟩:∃w0,w0=(w.alloc d.ob).alloc s.ob:=⟨_,rfl⟩;have HB0:=aH (show Below w.heap.size w w0 by rw[hw0];exact bL (bL (bR _ _) _) _);have HD0:=aH (hd.then HB0.out);have HS0:=aH (hs.then HB0.out);have HK0:=aH (show DkAt w0 w.heap.size d by rw[hw0];exact(Cells4.new w _ _ _ _ _).below (bL (bR _ _) _));have HT0:=aH (show SkAt w0 (w.heap.size+1) s by
  have e:(w.alloc d.ob).heap.size=w.heap.size+1:=by simp
  rw[hw0,←e];exact Cells6.new (w.alloc d.ob) 31 _ _ _ _ _ _)
 have HRG:=aH (rright_s d s w0 HD0.out HS0.out);have HV:=aH (show cgE d s.ab b' 0=(if rgS d s.ab=true then(if 1≤b'∧b'≤d.arms then 0 else 1)else 130)from rfl);generalize cgE d s.ab b' 0=m at *;generalize rgS d s.ab=r at *;obtain⟨t0,t1,t2,t3,t4,t5,-⟩:=HT0.out;obtain⟨d0,d1,d2,d3,-⟩:=HK0.out;rw[hw0]at t0 t1 t2 t3 t4 t5 d0 d1 d2 d3;clear hd hs;go_enter Tryz.func51,Tryz.ntmps51;go_wp2_with fail;rw[←hw0];clear hw0 t0 t1 t2 t3 t4 t5 d0 d1 d2 d3;refine HRG.out.mono ?_;rintro e w1 ⟨rfl,hb1⟩;have HB1:=aH (bC HB0.out hb1);have HK1:=aH (HK0.out.below hb1);clear hb1;obtain⟨d0,d1,d2,d3,-⟩:=HK1.out
 cases r
 case false=>
  have hm:m=130:=by rw[HV.out];rfl
  subst hm;go_wp2
  go_ret
  exact⟨rfl,HB1.out⟩
 by_cases h1:b'<1
 ·have hm:m=1:=by rw[HV.out,if_pos rfl,if_neg (by omega)]
  subst hm;go_wp2
  go_ret
  exact⟨rfl,HB1.out⟩
 by_cases h2:d.arms<b'
 ·have hm:m=1:=by rw[HV.out,if_pos rfl,if_neg (by omega)]
  subst hm;go_wp2
  go_ret
  exact⟨rfl,HB1.out⟩
 have hm:m=0:=by rw[HV.out,if_pos rfl,if_pos (by omega)]
 subst hm;go_wp2
 go_ret
 exact⟨rfl,HB1.out⟩
end Go.Proofs.YtacjonncakhhmaaGreat
namespace Go.Proofs.YtacjonncakhhmaaGreat.Cel
open Go.RowKit
theorem rchange0_any (a b c n:Int) (hr:(Ce.mk a b c).Right) (hn:fits n) (h1:n≠0) (w:World):Calls Tryz.prog 106 #[ceV a b c,.int .i64 n] w fun e w'=>e=.returned (ceE (chV ⟨a,b,c⟩ n) (chE ⟨a,b,c⟩ n))∧Below w.heap.size w w':=by
 have HR:=aH hr;obtain⟨r1,r2,r3,r4,r5,r6⟩:=hr;dsimp only at r1 r2 r3 r4 r5 r6;unfold fits at hn;by_cases h2:c=2147483647
 ·have T:chE ⟨a,b,c⟩ n=101:=by unfold chE;rw[if_neg (by simpa using HR.out),if_neg h1,if_pos h2]
  rw[chV_no T (by decide),T];have q2:(c==2147483647)=true:=by rw[beq_iff_eq];exact h2
  clear T h2;go_enter Tryz.func106,Tryz.ntmps106;go_wp2;refine bP (v:=.tuple #[.agg #[.int .i64 0,.int .i64 0,.int .i64 0],.int .i64 101]) (by simp[results,Tryz.results106,go_sem]) rfl ⟨rfl,?_⟩;(repeat (first|exact bR _ _|(with_reducible refine bS ?_ (by simp<;>omega))|(with_reducible refine bL ?_ _)))
 ·by_cases h4:b+n<0
  ·have T:chE ⟨a,b,c⟩ n=102:=(by unfold chE;rw[if_neg (by simpa using HR.out),if_neg h1,if_neg h2,if_pos h4]);rw[chV_no T (by decide),T];go_enter Tryz.func106,Tryz.ntmps106;go_wp2;refine bP (v:=.tuple #[.agg #[.int .i64 0,.int .i64 0,.int .i64 0],.int .i64 102]) (by simp[results,Tryz.results106,go_sem]) rfl ⟨rfl,?_⟩;(repeat (first|exact bR _ _|(with_reducible refine bS ?_ (by simp<;>omega))|(with_reducible refine bL ?_ _)))
  ·by_cases h5:a<b+n
   ·have T:chE ⟨a,b,c⟩ n=103:=(by unfold chE;rw[if_neg (by simpa using HR.out),if_neg h1,if_neg h2,if_neg h4,if_pos h5]);rw[chV_no T (by decide),T];go_enter Tryz.func106,Tryz.ntmps106;go_wp2;refine bP (v:=.tuple #[.agg #[.int .i64 0,.int .i64 0,.int .i64 0],.int .i64 103]) (by simp[results,Tryz.results106,go_sem]) rfl ⟨rfl,?_⟩;(repeat (first|exact bR _ _|(with_reducible refine bS ?_ (by simp<;>omega))|(with_reducible refine bL ?_ _)))
   ·have T:chE ⟨a,b,c⟩ n=0:=(by unfold chE;rw[if_neg (by simpa using HR.out),if_neg h1,if_neg h2,if_neg h4,if_neg h5]);have U:chV ⟨a,b,c⟩ n=⟨a,b+n,c+1⟩:=(by unfold chV;rw[if_pos T]);rw[U,T];go_enter Tryz.func106,Tryz.ntmps106;go_wp2;refine bP (v:=.tuple #[.agg #[.int .i64 a,.int .i64 (b+n),.int .i64 (c+1)],.int .i64 0]) (by simp[results,Tryz.results106,go_sem]) rfl ⟨rfl,?_⟩;(repeat (first|exact bR _ _|(with_reducible refine bS ?_ (by simp<;>omega))|(with_reducible refine bL ?_ _)))
theorem rchange_any (x:Ce) (n:Int) (hn:fits n) (w:World):Calls Tryz.prog 81 #[x.v,.int .i64 n] w fun e w'=>e=.returned (ceE (chV x n) (chE x n))∧Below w.heap.size w w':=by
 obtain⟨a,b,c⟩:=x;by_cases hr:(Ce.mk a b c).Right
 ·have HK:=aH (fun w=>rright_t hr w);by_cases h1:n=0
  ·subst h1;rw[chV_no (chE_0 hr) (by decide),chE_0 hr];clear hr hn;go_enter Tryz.func81,Tryz.ntmps81;go_wp2_with fail;refine(HK.out _).mono ?_;rintro e w1 ⟨rfl,hb1⟩;obtain⟨hc1,hf1⟩:=bcell hb1;have HB1:=aH hb1;have hz1_0:w.heap.size<w1.heap.size:=(by(have:=hb1.size;(try simp at this)<;>omega));have hz1_1:w.heap.size+1<w1.heap.size:=(by(have:=hb1.size;(try simp at this)<;>omega));clear hb1;go_wp2;refine bP (v:=.tuple #[.agg #[.int .i64 0,.int .i64 0,.int .i64 0],.int .i64 1]) (by simp[results,Tryz.results81,go_sem,hc1]) rfl ⟨rfl,?_⟩;(repeat (first|exact bR _ _|(with_reducible refine bS ?_ (by simp<;>omega))|(with_reducible refine bL ?_ _)|(with_reducible refine bC ?_ HB1.out)))
  ·have HC:=aH (fun w=>rchange0_any a b c n hr hn h1 w);generalize chV ⟨a,b,c⟩ n=y at *;generalize chE ⟨a,b,c⟩ n=z at *;obtain⟨p,q,r⟩:=y;clear hr hn;go_enter Tryz.func81,Tryz.ntmps81;go_wp2_with fail;refine(HK.out _).mono ?_;rintro e w1 ⟨rfl,hb1⟩;obtain⟨hc1,hf1⟩:=bcell hb1;have HB1:=aH hb1;have hz1_0:w.heap.size<w1.heap.size:=(by(have:=hb1.size;(try simp at this)<;>omega));have hz1_1:w.heap.size+1<w1.heap.size:=(by(have:=hb1.size;(try simp at this)<;>omega));clear hb1;go_wp2_with fail;refine(HC.out _).mono ?_;rintro e w2 ⟨rfl,hb2⟩;obtain⟨hc2,hf2⟩:=bcell hb2;have HB2:=aH hb2;have hz2_0:w.heap.size<w2.heap.size:=(by(have:=hb2.size;(try simp at this)<;>omega));have hz2_1:w.heap.size+1<w2.heap.size:=(by(have:=hb2.size;(try simp at this)<;>omega));clear hb2;go_wp2;refine bP (v:=.tuple #[.agg #[.int .i64 p,.int .i64 q,.int .i64 r],.int .i64 z]) (by simp[results,Tryz.results81,go_sem,hc1,hc2,hz1_1]) rfl ⟨rfl,?_⟩;(repeat (first|exact bR _ _|(with_reducible refine bS ?_ (by simp<;>omega))|(with_reducible refine bL ?_ _)|(with_reducible refine bC ?_ HB1.out)|(with_reducible refine bC ?_ HB2.out)))
 ·have HK:=aH (fun w=>rright_f hr w);rw[chV_no (chE_no n hr) (by decide),chE_no n hr];clear hr hn;go_enter Tryz.func81,Tryz.ntmps81;go_wp2_with fail;refine(HK.out _).mono ?_;rintro e w1 ⟨rfl,hb1⟩;obtain⟨hc1,hf1⟩:=bcell hb1;have HB1:=aH hb1;have hz1_0:w.heap.size<w1.heap.size:=by(have:=hb1.size;(try simp at this)<;>omega)
  have hz1_1:w.heap.size+1<w1.heap.size:=by(have:=hb1.size;(try simp at this)<;>omega)
  clear hb1;go_wp2;refine bP (v:=.tuple #[.agg #[.int .i64 0,.int .i64 0,.int .i64 0],.int .i64 100]) (by simp[results,Tryz.results81,go_sem,hc1]) rfl ⟨rfl,?_⟩;(repeat (first|exact bR _ _|(with_reducible refine bS ?_ (by simp<;>omega))|(with_reducible refine bL ?_ _)|(with_reducible refine bC ?_ HB1.out)))
theorem rpour_any (x:Ce) (n:Int) (hn:fits n) (w:World):Calls Tryz.prog 53 #[x.v,.int .i64 n] w fun e w'=>e=.returned (ceE (chV x (max n 0)) (chE x (max n 0)))∧Below w.heap.size w w':=by
 obtain⟨a,b,c⟩:=x;by_cases hr:(Ce.mk a b c).Right
 ·have HK:=aH (fun w=>rright_t hr w);by_cases h1:n<1
  ·rw[max_lo h1];rw[chV_no (chE_0 hr) (by decide),chE_0 hr];clear hr hn;go_enter Tryz.func53,Tryz.ntmps53;go_wp2_with fail;refine(HK.out _).mono ?_;rintro e w1 ⟨rfl,hb1⟩;obtain⟨hc1,hf1⟩:=bcell hb1;have HB1:=aH hb1;have hz1_0:w.heap.size<w1.heap.size:=(by(have:=hb1.size;(try simp at this)<;>omega));have hz1_1:w.heap.size+1<w1.heap.size:=(by(have:=hb1.size;(try simp at this)<;>omega));clear hb1;go_wp2;refine bP (v:=.tuple #[.agg #[.int .i64 0,.int .i64 0,.int .i64 0],.int .i64 1]) (by simp[results,Tryz.results53,go_sem,hc1]) rfl ⟨rfl,?_⟩;(repeat (first|exact bR _ _|(with_reducible refine bS ?_ (by simp<;>omega))|(with_reducible refine bL ?_ _)|(with_reducible refine bC ?_ HB1.out)))
  ·rw[max_hi h1];have HC:=aH (fun w=>rchange_any ⟨a,b,c⟩ (n) (by unfold fits at *;omega) w);generalize chV ⟨a,b,c⟩ (n)=y at *;generalize chE ⟨a,b,c⟩ (n)=z at *;obtain⟨p,q,r⟩:=y;unfold fits at hn;clear hr;go_enter Tryz.func53,Tryz.ntmps53;go_wp2_with fail;refine(HK.out _).mono ?_;rintro e w1 ⟨rfl,hb1⟩;obtain⟨hc1,hf1⟩:=bcell hb1;have HB1:=aH hb1;have hz1_0:w.heap.size<w1.heap.size:=(by(have:=hb1.size;(try simp at this)<;>omega));have hz1_1:w.heap.size+1<w1.heap.size:=(by(have:=hb1.size;(try simp at this)<;>omega));clear hb1;go_wp2_with fail;refine(HC.out _).mono ?_;rintro e w2 ⟨rfl,hb2⟩;obtain⟨hc2,hf2⟩:=bcell hb2;have HB2:=aH hb2;have hz2_0:w.heap.size<w2.heap.size:=(by(have:=hb2.size;(try simp at this)<;>omega));have hz2_1:w.heap.size+1<w2.heap.size:=(by(have:=hb2.size;(try simp at this)<;>omega));clear hb2;go_wp2;refine bP (v:=.tuple #[.agg #[.int .i64 p,.int .i64 q,.int .i64 r],.int .i64 z]) (by simp[results,Tryz.results53,go_sem,hc1,hc2,hz1_1]) rfl ⟨rfl,?_⟩;(repeat (first|exact bR _ _|(with_reducible refine bS ?_ (by simp<;>omega))|(with_reducible refine bL ?_ _)|(with_reducible refine bC ?_ HB1.out)|(with_reducible refine bC ?_ HB2.out)))
 ·have HK:=aH (fun w=>rright_f hr w);have HC:=aH (fun w=>rchange_any ⟨a,b,c⟩ n hn w);rw[chV_no (chE_no n hr) (by decide),chE_no n hr]at HC;rw[chV_no (chE_no (max n 0) hr) (by decide),chE_no (max n 0) hr];clear hr hn;go_enter Tryz.func53,Tryz.ntmps53;go_wp2_with fail;refine(HK.out _).mono ?_;rintro e w1 ⟨rfl,hb1⟩;obtain⟨hc1,hf1⟩:=bcell hb1;have HB1:=aH hb1;have hz1_0:w.heap.size<w1.heap.size:=by(have:=hb1.size;(try simp at this)<;>omega)
  have hz1_1:w.heap.size+1<w1.heap.size:=by(have:=hb1.size;(try simp at this)<;>omega)
  clear hb1;go_wp2_with fail;refine(HC.out _).mono ?_;rintro e w2 ⟨rfl,hb2⟩;obtain⟨hc2,hf2⟩:=bcell hb2;have HB2:=aH hb2;have hz2_0:w.heap.size<w2.heap.size:=by(have:=hb2.size;(try simp at this)<;>omega)
  have hz2_1:w.heap.size+1<w2.heap.size:=by(have:=hb2.size;(try simp at this)<;>omega)
  clear hb2;go_wp2;refine bP (v:=.tuple #[.agg #[.int .i64 0,.int .i64 0,.int .i64 0],.int .i64 100]) (by simp[results,Tryz.results53,go_sem,hc1,hc2,hz1_1,nought]) rfl ⟨rfl,?_⟩;(repeat (first|exact bR _ _|(with_reducible refine bS ?_ (by simp<;>omega))|(with_reducible refine bL ?_ _)|(with_reducible refine bC ?_ HB1.out)|(with_reducible refine bC ?_ HB2.out)))
theorem rdraw_any (x:Ce) (n:Int) (hn:fits n) (w:World):Calls Tryz.prog 55 #[x.v,.int .i64 n] w fun e w'=>e=.returned (ceE (chV x (-(max n 0))) (chE x (-(max n 0))))∧Below w.heap.size w w':=by
 obtain⟨a,b,c⟩:=x;by_cases hr:(Ce.mk a b c).Right
 ·have HK:=aH (fun w=>rright_t hr w);by_cases h1:n<1
  ·rw[max_lo h1];rw[Int.neg_zero];rw[chV_no (chE_0 hr) (by decide),chE_0 hr];clear hr hn;go_enter Tryz.func55,Tryz.ntmps55;go_wp2_with fail;refine(HK.out _).mono ?_;rintro e w1 ⟨rfl,hb1⟩;obtain⟨hc1,hf1⟩:=bcell hb1;have HB1:=aH hb1;have hz1_0:w.heap.size<w1.heap.size:=(by(have:=hb1.size;(try simp at this)<;>omega));have hz1_1:w.heap.size+1<w1.heap.size:=(by(have:=hb1.size;(try simp at this)<;>omega));clear hb1;go_wp2;refine bP (v:=.tuple #[.agg #[.int .i64 0,.int .i64 0,.int .i64 0],.int .i64 1]) (by simp[results,Tryz.results55,go_sem,hc1]) rfl ⟨rfl,?_⟩;(repeat (first|exact bR _ _|(with_reducible refine bS ?_ (by simp<;>omega))|(with_reducible refine bL ?_ _)|(with_reducible refine bC ?_ HB1.out)))
  ·rw[max_hi h1];have HC:=aH (fun w=>rchange_any ⟨a,b,c⟩ (-n) (by unfold fits at *;omega) w);generalize chV ⟨a,b,c⟩ (-n)=y at *;generalize chE ⟨a,b,c⟩ (-n)=z at *;obtain⟨p,q,r⟩:=y;unfold fits at hn;clear hr;go_enter Tryz.func55,Tryz.ntmps55;go_wp2_with fail;refine(HK.out _).mono ?_;rintro e w1 ⟨rfl,hb1⟩;obtain⟨hc1,hf1⟩:=bcell hb1;have HB1:=aH hb1;have hz1_0:w.heap.size<w1.heap.size:=(by(have:=hb1.size;(try simp at this)<;>omega));have hz1_1:w.heap.size+1<w1.heap.size:=(by(have:=hb1.size;(try simp at this)<;>omega));clear hb1;go_wp2_with fail;refine(HC.out _).mono ?_;rintro e w2 ⟨rfl,hb2⟩;obtain⟨hc2,hf2⟩:=bcell hb2;have HB2:=aH hb2;have hz2_0:w.heap.size<w2.heap.size:=(by(have:=hb2.size;(try simp at this)<;>omega));have hz2_1:w.heap.size+1<w2.heap.size:=(by(have:=hb2.size;(try simp at this)<;>omega));clear hb2;go_wp2;refine bP (v:=.tuple #[.agg #[.int .i64 p,.int .i64 q,.int .i64 r],.int .i64 z]) (by simp[results,Tryz.results55,go_sem,hc1,hc2,hz1_1]) rfl ⟨rfl,?_⟩;(repeat (first|exact bR _ _|(with_reducible refine bS ?_ (by simp<;>omega))|(with_reducible refine bL ?_ _)|(with_reducible refine bC ?_ HB1.out)|(with_reducible refine bC ?_ HB2.out)))
 ·have HK:=aH (fun w=>rright_f hr w);rw[chV_no (chE_no (-(max n 0)) hr) (by decide),chE_no (-(max n 0)) hr];by_cases h1:n<1
  ·clear hr hn;go_enter Tryz.func55,Tryz.ntmps55;go_wp2_with fail;refine(HK.out _).mono ?_;rintro e w1 ⟨rfl,hb1⟩;obtain⟨hc1,hf1⟩:=bcell hb1;have HB1:=aH hb1;have hz1_0:w.heap.size<w1.heap.size:=(by(have:=hb1.size;(try simp at this)<;>omega));have hz1_1:w.heap.size+1<w1.heap.size:=(by(have:=hb1.size;(try simp at this)<;>omega));clear hb1;go_wp2;refine bP (v:=.tuple #[.agg #[.int .i64 0,.int .i64 0,.int .i64 0],.int .i64 100]) (by simp[results,Tryz.results55,go_sem,hc1]) rfl ⟨rfl,?_⟩;(repeat (first|exact bR _ _|(with_reducible refine bS ?_ (by simp<;>omega))|(with_reducible refine bL ?_ _)|(with_reducible refine bC ?_ HB1.out)))
  ·have HC:=aH (fun w=>rchange_any ⟨a,b,c⟩ (-n) (by unfold fits at *;omega) w);rw[chV_no (chE_no (-n) hr) (by decide),chE_no (-n) hr]at HC;unfold fits at hn;clear hr;go_enter Tryz.func55,Tryz.ntmps55;go_wp2_with fail;refine(HK.out _).mono ?_;rintro e w1 ⟨rfl,hb1⟩;obtain⟨hc1,hf1⟩:=bcell hb1;have HB1:=aH hb1;have hz1_0:w.heap.size<w1.heap.size:=(by(have:=hb1.size;(try simp at this)<;>omega));have hz1_1:w.heap.size+1<w1.heap.size:=(by(have:=hb1.size;(try simp at this)<;>omega));clear hb1;go_wp2_with fail;refine(HC.out _).mono ?_;rintro e w2 ⟨rfl,hb2⟩;obtain⟨hc2,hf2⟩:=bcell hb2;have HB2:=aH hb2;have hz2_0:w.heap.size<w2.heap.size:=(by(have:=hb2.size;(try simp at this)<;>omega));have hz2_1:w.heap.size+1<w2.heap.size:=(by(have:=hb2.size;(try simp at this)<;>omega));clear hb2;go_wp2;refine bP (v:=.tuple #[.agg #[.int .i64 0,.int .i64 0,.int .i64 0],.int .i64 100]) (by simp[results,Tryz.results55,go_sem,hc1,hc2,hz1_1,nought]) rfl ⟨rfl,?_⟩;(repeat (first|exact bR _ _|(with_reducible refine bS ?_ (by simp<;>omega))|(with_reducible refine bL ?_ _)|(with_reducible refine bC ?_ HB1.out)|(with_reducible refine bC ?_ HB2.out)))
theorem rmove_any (x y:Ce) (n:Int) (hn:fits n) (w:World):Calls Tryz.prog 56 #[x.v,y.v,.int .i64 n] w fun e w'=>e=.returned (ceEE (mvX x y n) (mvY x y n) (mvE x y n))∧Below w.heap.size w w':=by
 obtain⟨a,b,c⟩:=x;obtain⟨f,g,h⟩:=y;have HK:=aH (fun w=>rdraw_any ⟨a,b,c⟩ n hn w);have HP:=aH (fun w=>rpour_any ⟨f,g,h⟩ n hn w);unfold mvX mvY mvE;generalize chE ⟨a,b,c⟩ (-(max n 0))=z at *;generalize chE ⟨f,g,h⟩ (max n 0)=y at *;generalize chV ⟨a,b,c⟩ (-(max n 0))=r at *;generalize chV ⟨f,g,h⟩ (max n 0)=t at *;obtain⟨p,q,r⟩:=r;obtain⟨s,t,u⟩:=t;clear hn;have hc:z≠0∨z=0∧y≠0∨z=0∧y=0:=by omega
 rcases hc with hh|⟨rfl,hh⟩|⟨rfl,rfl⟩
 ·have q1:(z != 0)=true:=bne_iff_ne.2 hh;simp only[if_neg hh];clear hh;go_enter Tryz.func56,Tryz.ntmps56;go_wp2_with fail;refine(HK.out _).mono ?_;rintro e w1 ⟨rfl,hb1⟩;have A1:=aH (show Cells3 w1 (w.heap.size+1) (.int .i64 f) (.int .i64 g) (.int .i64 h)from Cells3.below (by refine⟨?_,?_,?_,?_,?_,?_,?_⟩<;>simp[go_sem, *]) hb1);have A2:=aH (show Cells3 w1 (w.heap.size+1+1) (.int .i64 0) (.int .i64 0) (.int .i64 0)from Cells3.below (by refine⟨?_,?_,?_,?_,?_,?_,?_⟩<;>simp[go_sem, *]) hb1);have A3:=aH (show Cells3 w1 (w.heap.size+1+1+1) (.int .i64 0) (.int .i64 0) (.int .i64 0)from Cells3.below (by refine⟨?_,?_,?_,?_,?_,?_,?_⟩<;>simp[go_sem, *]) hb1);have HB:=aH (bC (bL (bL (bL (bL (bR _ _) _) _) _) _) hb1);have hs1:w.heap.size+1+1+1<w1.heap.size:=A3.out.2.2.2.2.2.2;have hs1b:w.heap.size+1+1<w1.heap.size:=by omega
  have hs1c:w.heap.size+1<w1.heap.size:=by omega
  clear hb1
  go_upto_region 3 with fail
  obtain⟨W,hW⟩:∃W,W=w1.alloc (.cells #[.int .i64 p,.int .i64 q,.int .i64 r] 58):=⟨_,rfl⟩;rw[←hW];have hb:=(show Below w1.heap.size w1 W by rw[hW];exact bL (bR _ _) _);replace A2:=aH (A2.out.below hb);replace A3:=aH (A3.out.below hb);replace HB:=aH (bC HB.out hb);clear hb hW;obtain⟨k20,k21,k22,z20,z21,z22,-⟩:=A2.out;obtain⟨k30,k31,k32,z30,z31,z32,-⟩:=A3.out;go_wp2;refine bP (v:=.tuple #[.agg #[.int .i64 0,.int .i64 0,.int .i64 0],.agg #[.int .i64 0,.int .i64 0,.int .i64 0],.int .i64 z]) (by simp[results,Tryz.results56,go_sem,k20,k21,k22,k30,k31,k32]) rfl ⟨rfl,?_⟩;exact(bS (bS (bS (bS (bS (bS (HB.out) (by show w.heap.size≤w.heap.size+1+1;omega)) (by show w.heap.size≤w.heap.size+1+1;omega)) (by show w.heap.size≤w.heap.size+1+1;omega)) (by show w.heap.size≤w.heap.size+1+1+1;omega)) (by show w.heap.size≤w.heap.size+1+1+1;omega)) (by show w.heap.size≤w.heap.size+1+1+1;omega))
 all_goals simp only[↓reduceIte]
 all_goals try (have q1:(y != 0)=true:=bne_iff_ne.2 hh;simp only[if_neg hh];clear hh)
 all_goals
  go_enter Tryz.func56,Tryz.ntmps56;go_wp2_with fail;refine(HK.out _).mono ?_;rintro e w1 ⟨rfl,hb1⟩;have A1:=aH (show Cells3 w1 (w.heap.size+1) (.int .i64 f) (.int .i64 g) (.int .i64 h)from Cells3.below (by refine⟨?_,?_,?_,?_,?_,?_,?_⟩<;>simp[go_sem, *]) hb1);have A2:=aH (show Cells3 w1 (w.heap.size+1+1) (.int .i64 0) (.int .i64 0) (.int .i64 0)from Cells3.below (by refine⟨?_,?_,?_,?_,?_,?_,?_⟩<;>simp[go_sem, *]) hb1);have A3:=aH (show Cells3 w1 (w.heap.size+1+1+1) (.int .i64 0) (.int .i64 0) (.int .i64 0)from Cells3.below (by refine⟨?_,?_,?_,?_,?_,?_,?_⟩<;>simp[go_sem, *]) hb1);have HB:=aH (bC (bL (bL (bL (bL (bR _ _) _) _) _) _) hb1);have hs1:w.heap.size+1+1+1<w1.heap.size:=A3.out.2.2.2.2.2.2;have hs1b:w.heap.size+1+1<w1.heap.size:=by omega
  have hs1c:w.heap.size+1<w1.heap.size:=by omega
  clear hb1;obtain⟨k10,k11,k12,-⟩:=A1.out;obtain⟨k20,k21,k22,z20,z21,z22,-⟩:=A2.out;obtain⟨k30,k31,k32,z30,z31,z32,-⟩:=A3.out;go_wp2_with fail;refine(HP.out _).mono ?_;rintro e w2 ⟨rfl,hb2⟩;clear k10 k11 k12 k20 k21 k22 z20 z21 z22 k30 k31 k32 z30 z31 z32;have hb3:=bC (bL (bR _ _) _) hb2;have A4:=aH (Cells3.below (Cells3.new w1 58 (.int .i64 p) (.int .i64 q) (.int .i64 r)) hb2);replace A2:=aH (A2.out.below hb3);replace A3:=aH (A3.out.below hb3);replace HB:=aH (bC HB.out hb3);have hs2:w1.heap.size<w2.heap.size:=A4.out.2.2.2.2.2.2;have hs3:w.heap.size+1+1+1<w2.heap.size:=by omega
  have hs3b:w.heap.size+1+1<w2.heap.size:=by omega
  clear hb2 hb3 A1
 ·go_upto_region 6 with fail
  obtain⟨W,hW⟩:∃W,W=w2.alloc (.cells #[.int .i64 s,.int .i64 t,.int .i64 u] 58):=⟨_,rfl⟩;rw[←hW];have hb:=(show Below w2.heap.size w2 W by rw[hW];exact bL (bR _ _) _);replace A2:=aH (A2.out.below hb);replace A3:=aH (A3.out.below hb);replace HB:=aH (bC HB.out hb);clear hb hW A4;obtain⟨k20,k21,k22,z20,z21,z22,-⟩:=A2.out;obtain⟨k30,k31,k32,z30,z31,z32,-⟩:=A3.out;go_wp2;refine bP (v:=.tuple #[.agg #[.int .i64 0,.int .i64 0,.int .i64 0],.agg #[.int .i64 0,.int .i64 0,.int .i64 0],.int .i64 y]) (by simp[results,Tryz.results56,go_sem,k20,k21,k22,k30,k31,k32]) rfl ⟨rfl,?_⟩;exact(bS (bS (bS (bS (bS (bS (HB.out) (by show w.heap.size≤w.heap.size+1+1;omega)) (by show w.heap.size≤w.heap.size+1+1;omega)) (by show w.heap.size≤w.heap.size+1+1;omega)) (by show w.heap.size≤w.heap.size+1+1+1;omega)) (by show w.heap.size≤w.heap.size+1+1+1;omega)) (by show w.heap.size≤w.heap.size+1+1+1;omega))
 ·go_wp2_with fail;obtain⟨W,hW⟩:∃W,W=w2.alloc (.cells #[.int .i64 s,.int .i64 t,.int .i64 u] 58):=⟨_,rfl⟩;rw[←hW];have hb:=(show Below w2.heap.size w2 W by rw[hW];exact bL (bR _ _) _);replace A2:=aH (A2.out.below hb);replace A3:=aH (A3.out.below hb);replace HB:=aH (bC HB.out hb);obtain⟨n0,n1,n2,-⟩:=A4.out.below hb;obtain⟨m0,m1,m2,-⟩:=(show Cells3 W w2.heap.size (.int .i64 s) (.int .i64 t) (.int .i64 u)by rw[hW];exact Cells3.new _ _ _ _ _);clear hb hW A4;obtain⟨k20,k21,k22,z20,z21,z22,-⟩:=A2.out;obtain⟨k30,k31,k32,z30,z31,z32,-⟩:=A3.out
  go_region
  go_wp2;refine bP (v:=.tuple #[.agg #[.int .i64 p,.int .i64 q,.int .i64 r],.agg #[.int .i64 s,.int .i64 t,.int .i64 u],.int .i64 0]) (by simp[results,Tryz.results56,go_sem,k20,k21,k22,k30,k31,k32]) rfl ⟨rfl,?_⟩;exact(bS (bS (bS (bS (bS (bS (HB.out) (by show w.heap.size≤w.heap.size+1+1;omega)) (by show w.heap.size≤w.heap.size+1+1;omega)) (by show w.heap.size≤w.heap.size+1+1;omega)) (by show w.heap.size≤w.heap.size+1+1+1;omega)) (by show w.heap.size≤w.heap.size+1+1+1;omega)) (by show w.heap.size≤w.heap.size+1+1+1;omega)).drew
end Go.Proofs.YtacjonncakhhmaaGreat.Cel
namespace Go.Proofs.YtacjonncakhhmaaGreat.Tp
open Go.RowKit
theorem rtake_any (s b a:Int) (w:World):Calls Tryz.prog 58 #[tpV s b,.int .i64 a] w fun e w'=>e=.returned (tpE (tkV s b a) (tkE s b a))∧Below w.heap.size w w':=by
 have HR:=aH (fun w=>rright_any s b w);have HA:=aH (fun w=>rarm_any a w);by_cases h0:ofV s b=0
 ·have T:tkE s b a=120:=by unfold tkE;rw[if_pos h0]
  have U:tkV s b a=(0,0):=by unfold tkV;rw[T];rfl
  rw[T,U];rw[show(!(ofV s b==0))=false by simp[h0]]at HR;clear T U h0;go_enter Tryz.func58,Tryz.ntmps58;go_wp2_with fail;refine(HR.out _).mono ?_;rintro e w1 ⟨rfl,hb1⟩;obtain⟨hc1,hf1⟩:=bcell hb1;have HB1:=aH hb1;have hz1_0:w.heap.size<w1.heap.size:=by(have:=hb1.size;(try simp at this)<;>omega)
  have hz1_1:w.heap.size+1<w1.heap.size:=by(have:=hb1.size;(try simp at this)<;>omega)
  clear hb1;go_wp2;refine bP (v:=.tuple #[.agg #[.int .i64 0,.int .i64 0],.int .i64 120]) (by simp[results,Tryz.results58,go_sem,hc1]) rfl ⟨rfl,?_⟩;(repeat (first|exact bR _ _|(with_reducible refine bS ?_ (by simp<;>omega))|(with_reducible refine bL ?_ _)|(with_reducible refine bC ?_ HB1.out)))
 ·rw[show(!(ofV s b==0))=true by simp[h0]]at HR;have hs:ofV s b=s:=(of_cases s b).resolve_left h0;by_cases h1:armB a=false
  ·have T:tkE s b a=1:=(by unfold tkE;rw[if_neg h0,if_pos h1]);have U:tkV s b a=(0,0):=(by unfold tkV;rw[T];rfl);rw[T,U];rw[h1]at HA;clear T U h0 h1 hs;go_enter Tryz.func58,Tryz.ntmps58;go_wp2_with fail;refine(HR.out _).mono ?_;rintro e w1 ⟨rfl,hb1⟩;obtain⟨hc1,hf1⟩:=bcell hb1;have HB1:=aH hb1;have hz1_0:w.heap.size<w1.heap.size:=(by(have:=hb1.size;(try simp at this)<;>omega));have hz1_1:w.heap.size+1<w1.heap.size:=(by(have:=hb1.size;(try simp at this)<;>omega));clear hb1;go_wp2_with fail;refine(HA.out _).mono ?_;rintro e w2 ⟨rfl,rfl⟩;go_wp2;refine bP (v:=.tuple #[.agg #[.int .i64 0,.int .i64 0],.int .i64 1]) (by simp[results,Tryz.results58,go_sem,hc1]) rfl ⟨rfl,?_⟩;(repeat (first|exact bR _ _|(with_reducible refine bS ?_ (by simp<;>omega))|(with_reducible refine bL ?_ _)|(with_reducible refine bC ?_ HB1.out)))
  ·rw[show armB a=true by simpa using h1]at HA;by_cases h2:s=1
   ·have T:tkE s b a=0:=(by unfold tkE;rw[if_neg h0,if_neg h1,if_pos (hs.trans h2)]);have U:tkV s b a=(2,a):=(by unfold tkV;rw[if_pos T]);rw[T,U];clear T U h0 h1 hs;subst h2;go_enter Tryz.func58,Tryz.ntmps58;go_wp2_with fail;refine(HR.out _).mono ?_;rintro e w1 ⟨rfl,hb1⟩;obtain⟨hc1,hf1⟩:=bcell hb1;have HB1:=aH hb1;have hz1_0:w.heap.size<w1.heap.size:=(by(have:=hb1.size;(try simp at this)<;>omega));have hz1_1:w.heap.size+1<w1.heap.size:=(by(have:=hb1.size;(try simp at this)<;>omega));clear hb1;go_wp2_with fail;refine(HA.out _).mono ?_;rintro e w2 ⟨rfl,rfl⟩;go_wp2;refine bP (v:=.tuple #[.agg #[.int .i64 2,.int .i64 a],.int .i64 0]) (by simp[results,Tryz.results58,go_sem,hc1]) rfl ⟨rfl,?_⟩;(repeat (first|exact bR _ _|(with_reducible refine bS ?_ (by simp<;>omega))|(with_reducible refine bL ?_ _)|(with_reducible refine bC ?_ HB1.out)))
   ·have T:tkE s b a=121:=(by unfold tkE;rw[if_neg h0,if_neg h1,if_neg (by rw[hs];exact h2)]);have U:tkV s b a=(0,0):=(by unfold tkV;rw[T];rfl);rw[T,U];clear T U h0 h1 hs;go_enter Tryz.func58,Tryz.ntmps58;go_wp2_with fail;refine(HR.out _).mono ?_;rintro e w1 ⟨rfl,hb1⟩;obtain⟨hc1,hf1⟩:=bcell hb1;have HB1:=aH hb1;have hz1_0:w.heap.size<w1.heap.size:=(by(have:=hb1.size;(try simp at this)<;>omega));have hz1_1:w.heap.size+1<w1.heap.size:=(by(have:=hb1.size;(try simp at this)<;>omega));clear hb1;go_wp2_with fail;refine(HA.out _).mono ?_;rintro e w2 ⟨rfl,rfl⟩;go_wp2;refine bP (v:=.tuple #[.agg #[.int .i64 0,.int .i64 0],.int .i64 121]) (by simp[results,Tryz.results58,go_sem,hc1]) rfl ⟨rfl,?_⟩;(repeat (first|exact bR _ _|(with_reducible refine bS ?_ (by simp<;>omega))|(with_reducible refine bL ?_ _)|(with_reducible refine bC ?_ HB1.out)))
end Go.Proofs.YtacjonncakhhmaaGreat.Tp
namespace Go.Proofs.YtacjonncakhhmaaGreat
open Go.RowKit
def rhP (xs:List (Int×Int)) (b':Int) (i:Nat):Bool:=(xs.getD i (0,0)).1==2&&(xs.getD i (0,0)).2==b'
def rhV (xs:List (Int×Int)) (b':Int):Int:=if (Tp.fstV (rhP xs b') xs.length).2=true then(Tp.fstV (rhP xs b') xs.length).1 else -1
theorem rh_hit {xs:List (Int×Int)} {b':Int} {k:Nat} (hk:k<xs.length) (h:rhP xs b' k=true) (hn:∀j,j<k→rhP xs b' j=false):rhV xs b'=k:=by
 unfold rhV;rw[Tp.fst_hit _ _ _ hk h hn,if_pos rfl]
theorem rh_none {xs:List (Int×Int)} {b':Int} (hn:∀j,j<xs.length→rhP xs b' j=false):rhV xs b'= -1:=by
 unfold rhV;rw[Tp.fst_none _ _ hn,if_neg (by simp)]
theorem fst_same (p q:Nat→Bool) (n:Nat) (h:∀i,i<n→p i=q i):Tp.fstV p n=Tp.fstV q n:=by
 by_cases he:∃i,i<n∧p i=true
 ·obtain⟨i,hi,hp⟩:=he;obtain⟨m,hm,hmin⟩:∃m,(m<n∧p m=true)∧∀j,j<m→¬(j<n∧p j=true):=by
   induction i using Nat.strongRecOn with
   |ind i ih=>
    by_cases hj:∃j,j<i∧(j<n∧p j=true)
    ·obtain⟨j,h1,h2,h3⟩:=hj;exact ih j h1 h2 h3
    ·exact⟨i,⟨hi,hp⟩,fun j h1 h2=>hj ⟨j,h1,h2⟩⟩
  have hf:∀j,j<m→p j=false:=fun j hj=>by
   cases e:p j with
   |false=>rfl
   |true=>exact absurd ⟨by omega,e⟩ (hmin j hj)
  rw[Tp.fst_hit p n m hm.1 hm.2 hf,Tp.fst_hit q n m hm.1 (by rw[←h m hm.1];exact hm.2) (fun j hj=>by rw[←h j (by omega)];exact hf j hj)]
 ·have hf:∀j,j<n→p j=false:=fun j hj=>by
   cases e:p j with
   |false=>rfl
   |true=>exact absurd ⟨j,hj,e⟩ he
  rw[Tp.fst_none p n hf,Tp.fst_none q n (fun j hj=>by rw[←h j hj];exact hf j hj)]
theorem rh_hd {d:Dk} {a:Ab} (hr:rgS d a=true) (b':Int):Tp.fstV (rhP a.t b') a.t.length=hdF a b':=by
 have P:=rg_P d a hr;have hR:=(rt_iff _ _).1 P.r;unfold hdF;refine fst_same _ _ _ (fun i hi=>?_);unfold rhP Tp.hdP;have h1:=(hR i hi).1;have e:(Tp.ofV (a.t.getD i (0,0)).1 (a.t.getD i (0,0)).2==2)=((a.t.getD i (0,0)).1==2):=by
  rw[Bool.eq_iff_iff,ofV_2,beq_iff_eq];constructor
  ·exact fun h=>h.1
  ·intro h;rcases ofV_nz h1 with q|q
   ·omega
   ·exact q
 rw[e,dT (show(0:Int)≤(i:Int)by omega),Bool.true_and]
theorem rhand0_any (s:Stk) (b':Int) (w:World) (hs:s.In w w.heap.size):Calls Tryz.prog 57 #[s.v,.int .i64 b'] w fun e w'=>e=.returned (.int .i64 (rhV s.tl b'))∧Below w.heap.size w w':=by
 obtain⟨w0,hw0⟩:∃w0,w0=w.alloc s.ob:=⟨_,rfl⟩;have HB0:=aH (show Below w.heap.size w w0 by rw[hw0];exact bL (bR _ _) _);have HT:=aH (hs.t.then HB0.out);have HS0:=aH (show SkAt w0 w.heap.size s by rw[hw0];exact Cells6.new w _ _ _ _ _ _ _);have hl9:=hs.t.2.2;clear hs;obtain⟨cA,cc,cl,lA,lc,ll,tA,tc,tl,st,inn,out⟩:=s;dsimp only at *;obtain⟨-,-,g2,-⟩:=HS0.out;dsimp only at g2;have HHIT:=aH (fun k h1 h2 h3=>@rh_hit tl b' k h1 h2 h3);have HNON:=aH (fun h=>@rh_none tl b' h);have HP:=aH (fun k=>show rhP tl b' k=((tl.getD k (0,0)).1==2&&(tl.getD k (0,0)).2==b')from rfl);generalize rhV tl b'=R at *;generalize rhP tl b'=P at *;go_enter Tryz.func57,Tryz.ntmps57;go_wp2_with fail;rw[←hw0];clear hw0
 go_loopw [5] (fun i wr=>∃k:Nat,k≤tl.length∧i=.int .i64 k∧Hid (∀j,j<k→P j=false)∧wr=w0) (fun i _=>tl.length-(intOf i).toNat)
 case atStart=>exact⟨0,Nat.zero_le _,rfl,aH (fun j hj=>absurd hj (Nat.not_lt_zero _)),rfl⟩
 case round=>
  obtain⟨k,hk,rfl,hno,rfl⟩:=hrel;have HNO:=aH hno.out;clear hno;by_cases hlt:k<tl.length
  ·obtain⟨b,off,rfl,hb,hbc,hcell⟩:=tip_cells HT.out (by omega);obtain⟨e1,e2⟩:=hcell k hlt;have HPk:=aH (HP.out k);have HHk:=aH (HHIT.out k hlt);clear hcell;generalize tl.getD k (0,0)=t at *;obtain⟨t1,t2⟩:=t;dsimp only at e1 e2 HPk;by_cases h1:t1=2
   ·have h1b:(t1==2)=true:=(by simpa using h1);by_cases h2:t2=b'
    ·have h2b:(t2==b')=true:=(by simpa using h2);have HR:=aH (HHk.out (by rw[HPk.out,h1b,h2b];rfl) HNO.out);clear h1 h2;go_wp2
     go_ret
     exact⟨by rw[HR.out];rfl,HB0.out⟩
    ·have h2b:(t2==b')=false:=(by simpa using h2);have HF:=aH (show P k=false by rw[HPk.out,h1b,h2b];rfl);clear h1 h2;go_wp2
     go_roundw
     case rel=>exact⟨k+1,by omega,num_i (by omega),aH (fun j hj=>by
      by_cases e:j=k
      ·rw[e];exact HF.out
      ·exact HNO.out j (by omega)),by trivial⟩
     case measure=>simp[intOf];omega
   ·have h1b:(t1==2)=false:=(by simpa using h1);have HF:=aH (show P k=false by rw[HPk.out,h1b];rfl);clear h1;go_wp2
    go_roundw
    case rel=>exact⟨k+1,by omega,num_i (by omega),aH (fun j hj=>by
     by_cases e:j=k
     ·rw[e];exact HF.out
     ·exact HNO.out j (by omega)),by trivial⟩
    case measure=>simp[intOf];omega
  ·obtain rfl:k=tl.length:=(by omega);have HR:=aH (HNON.out HNO.out);go_wp2
   go_ret
   exact⟨by rw[HR.out];rfl,HB0.out⟩
end Go.Proofs.YtacjonncakhhmaaGreat
