/- Elements of own lists of cells, of logs and of tips. -/
import Derived.Test.YtmecohdedghiaaaGreatDoorPn00
import Derived.Test.YtmecohdedghiaaaGreatDoorPn03
import Derived.Test.YtmecohdedghiaaaGreatDoorPn13
set_option maxRecDepth 100000
set_option maxHeartbeats 8000000
namespace Go.Proofs.YtmecohdedghiaaaGreatDoor.Tp
open Go.RowKit
abbrev tpV (s b:Int):Value:=.agg #[.int .i64 s,.int .i64 b]
def armB (b:Int):Bool:=decide (1≤b∧b≤8)
def ofV (s b:Int):Int:=if (s=1∨s=3)∧b=0 then s else if s=2∧1≤b∧b≤8 then 2 else 0
theorem Below.box {w w':World} (o:Obj) (h:Below (w.alloc o).heap.size (w.alloc o) w'):Below w.heap.size w w':=bC (bL (bR _ _) o) h
theorem isArm_any (b:Int) (w:World):Calls Tryz.prog 261 #[.int .i64 b] w fun e w'=>e=.returned (.bool (armB b))∧w=w':=by
 unfold armB;by_cases h1:1≤b
 ·go_enter Tryz.func261,Tryz.ntmps261;go_wp2
  go_ret
  exact⟨ret_b (by simp[h1]),rfl⟩
 ·go_enter Tryz.func261,Tryz.ntmps261;go_wp2
  go_ret
  exact⟨ret_b (by simp;omega),rfl⟩
theorem rarm_any (b:Int) (w:World):Calls Tryz.prog 169 #[.int .i64 b] w fun e w'=>e=.returned (.bool (armB b))∧w=w':=by
 unfold armB;by_cases h1:1≤b
 ·go_enter Tryz.func169,Tryz.ntmps169;go_wp2
  go_ret
  exact⟨ret_b (by simp[h1]),rfl⟩
 ·go_enter Tryz.func169,Tryz.ntmps169;go_wp2
  go_ret
  exact⟨ret_b (by simp;omega),rfl⟩
theorem of_any (s b:Int) (w:World):Calls Tryz.prog 251 #[tpV s b] w fun e w'=>e=.returned (.int .i64 (ofV s b))∧Below w.heap.size w w':=by
 have HA:=aH (fun w=>isArm_any b w);by_cases h1:s=1
 ·subst h1;by_cases h0:b=0
  ·subst h0;go_enter Tryz.func251,Tryz.ntmps251;go_wp2
   go_ret
   exact⟨ret_i rfl,bL (bR _ _) _⟩
  ·rw[show ofV 1 b=0 by unfold ofV;rw[if_neg (by omega),if_neg (by omega)]];go_enter Tryz.func251,Tryz.ntmps251;go_wp2
   go_ret
   exact⟨ret_i rfl,bL (bR _ _) _⟩
 ·by_cases h3:s=3
  ·subst h3;by_cases h0:b=0
   ·subst h0;go_enter Tryz.func251,Tryz.ntmps251;go_wp2
    go_ret
    exact⟨ret_i rfl,bL (bR _ _) _⟩
   ·rw[show ofV 3 b=0 by unfold ofV;rw[if_neg (by omega),if_neg (by omega)]];go_enter Tryz.func251,Tryz.ntmps251;go_wp2
    go_ret
    exact⟨ret_i rfl,bL (bR _ _) _⟩
  ·by_cases h2:s=2
   ·subst h2;by_cases ha:1≤b∧b≤8
    ·rw[show ofV 2 b=2 by unfold ofV;rw[if_neg (by omega),if_pos ⟨rfl,ha⟩]];rw[show armB b=true from dT ha]at HA;clear ha h1 h3;go_enter Tryz.func251,Tryz.ntmps251;go_wp2_with fail;refine(HA.out _).mono ?_;rintro e w1 ⟨rfl,rfl⟩;go_wp2
     go_ret
     exact⟨ret_i rfl,bL (bR _ _) _⟩
    ·rw[show ofV 2 b=0 by unfold ofV;rw[if_neg (by omega),if_neg (by omega)]];rw[show armB b=false from dF ha]at HA;clear ha h1 h3;go_enter Tryz.func251,Tryz.ntmps251;go_wp2_with fail;refine(HA.out _).mono ?_;rintro e w1 ⟨rfl,rfl⟩;go_wp2
     go_ret
     exact⟨ret_i rfl,bL (bR _ _) _⟩
   ·rw[show ofV s b=0 by unfold ofV;rw[if_neg (by omega),if_neg (by omega)]];go_enter Tryz.func251,Tryz.ntmps251;go_wp2
    go_ret
    exact⟨ret_i rfl,bL (bR _ _) _⟩
theorem is_any (k s b:Int) (w:World):Calls Tryz.prog 224 #[.int .i64 k,tpV s b] w fun e w'=>e=.returned (.bool (ofV s b==k))∧Below w.heap.size w w':=by
 have HA:=aH (fun w=>of_any s b w);generalize ofV s b=c at *;go_enter Tryz.func224,Tryz.ntmps224;go_wp2_with fail;refine(HA.out _).mono ?_;rintro e w1 ⟨rfl,hb1⟩;have HB1:=aH hb1;clear hb1;go_wp2
 go_ret
 exact⟨ret_b (by simp),Below.box _ HB1.out⟩
theorem right_any (s b:Int) (w:World):Calls Tryz.prog 165 #[tpV s b] w fun e w'=>e=.returned (.bool (!(ofV s b==0)))∧Below w.heap.size w w':=by
 have HA:=aH (fun w=>is_any 0 s b w);generalize (ofV s b==0)=c at *;go_enter Tryz.func165,Tryz.ntmps165;go_wp2_with fail;refine(HA.out _).mono ?_;rintro e w1 ⟨rfl,hb1⟩;have HB1:=aH hb1;clear hb1;go_wp2
 go_ret
 exact⟨ret_b (by simp),Below.box _ HB1.out⟩
def tkE (s b a:Int):Int:=if ofV s b=0 then 120 else if armB a=false then 1 else if ofV s b=1 then 0 else 121
def tkV (s b a:Int):Int×Int:=if tkE s b a=0 then(2,a)else(0,0)
abbrev tpE (x:Int×Int) (e:Int):Value:=.tuple #[.agg #[.int .i64 x.1,.int .i64 x.2],.int .i64 e]
theorem rright_any (s b:Int) (w:World):Calls Tryz.prog 114 #[tpV s b] w fun e w'=>e=.returned (.bool (!(ofV s b==0)))∧Below w.heap.size w w':=by
 have HA:=aH (fun w=>rarm_any b w);by_cases h1:s=1
 ·subst h1;by_cases h0:b=0
  ·subst h0;go_enter Tryz.func114,Tryz.ntmps114;go_wp2
   go_ret
   exact⟨ret_b (by simp[ofV]),bL (bR _ _) _⟩
  ·rw[show ofV 1 b=0 by unfold ofV;rw[if_neg (by omega),if_neg (by omega)]];go_enter Tryz.func114,Tryz.ntmps114;go_wp2
   go_ret
   exact⟨ret_b (by simpa using h0),bL (bR _ _) _⟩
 ·by_cases h3:s=3
  ·subst h3;by_cases h0:b=0
   ·subst h0;go_enter Tryz.func114,Tryz.ntmps114;go_wp2
    go_ret
    exact⟨ret_b (by simp[ofV]),bL (bR _ _) _⟩
   ·rw[show ofV 3 b=0 by unfold ofV;rw[if_neg (by omega),if_neg (by omega)]];go_enter Tryz.func114,Tryz.ntmps114;go_wp2
    go_ret
    exact⟨ret_b (by simpa using h0),bL (bR _ _) _⟩
  ·by_cases h2:s=2
   ·subst h2;rw[show(!(ofV 2 b==0))=armB b by
     unfold ofV armB;by_cases ha:1≤b∧b≤8
     ·rw[if_neg (by omega),if_pos ⟨rfl,ha⟩,dT ha];rfl
     ·rw[if_neg (by omega),if_neg (by omega),dF ha];rfl]
    generalize armB b=c at *;go_enter Tryz.func114,Tryz.ntmps114;go_wp2_with fail;refine(HA.out _).mono ?_;rintro e w1 ⟨rfl,rfl⟩;go_wp2
    go_ret
    exact⟨ret_b (by simp),bL (bR _ _) _⟩
   ·rw[show ofV s b=0 by unfold ofV;rw[if_neg (by omega),if_neg (by omega)]];go_enter Tryz.func114,Tryz.ntmps114;go_wp2
    go_ret
    exact⟨ret_b (by simp),bL (bR _ _) _⟩
theorem holds_any (a s b:Int) (w:World):Calls Tryz.prog 172 #[.int .i64 a,tpV s b] w fun e w'=>e=.returned (.bool (ofV s b==2&&b==a))∧Below w.heap.size w w':=by
 have HA:=aH (fun w=>is_any 2 s b w);generalize (ofV s b==2)=c at *
 cases c
 all_goals
  go_enter Tryz.func172,Tryz.ntmps172;go_wp2_with fail;refine(HA.out _).mono ?_;rintro e w1 ⟨rfl,hb1⟩;obtain⟨hc1,hf1⟩:=bcell hb1;have HB1:=aH hb1;have hz1:w.heap.size<w1.heap.size:=by(have:=hb1.size;(try simp at this)<;>omega)
  clear hb1;go_wp2
  go_ret
  exact⟨ret_b (by simp),Below.box _ HB1.out⟩
theorem turn_take (s b a:Int) (w:World):Calls Tryz.prog 236 #[tpV s b,.int .i64 a,.func (.func 224) #[.int .i64 1] #[],.int .i64 121,tpV 2 a] w fun e w'=>e=.returned (tpE (tkV s b a) (tkE s b a))∧Below w.heap.size w w':=by
 have HR:=aH (fun w=>right_any s b w);have HA:=aH (fun w=>isArm_any a w);have HP:=aH (fun w=>is_any 1 s b w);by_cases h0:ofV s b=0
 ·have T:tkE s b a=120:=by unfold tkE;rw[if_pos h0]
  have U:tkV s b a=(0,0):=by unfold tkV;rw[T];rfl
  rw[T,U];rw[show(!(ofV s b==0))=false by simp[h0]]at HR;clear T U h0;go_enter Tryz.func236,Tryz.ntmps236;go_wp2_with fail;refine(HR.out _).mono ?_;rintro e w1 ⟨rfl,hb1⟩;obtain⟨hc1,hf1⟩:=bcell hb1;have HB1:=aH hb1;have hz1_0:w.heap.size<w1.heap.size:=by(have:=hb1.size;(try simp at this)<;>omega)
  have hz1_1:w.heap.size+1<w1.heap.size:=by(have:=hb1.size;(try simp at this)<;>omega)
  have hz1_2:w.heap.size+2<w1.heap.size:=by(have:=hb1.size;(try simp at this)<;>omega)
  clear hb1;go_wp2;refine bP (v:=.tuple #[.agg #[.int .i64 0,.int .i64 0],.int .i64 120]) (by simp[results,Tryz.results236,go_sem,hc1]) rfl ⟨rfl,?_⟩;(repeat (first|exact bR _ _|(with_reducible refine bS ?_ (by simp<;>omega))|(with_reducible refine bL ?_ _)|(with_reducible refine bC ?_ HB1.out)))
 ·rw[show(!(ofV s b==0))=true by simp[h0]]at HR;by_cases h1:armB a=false
  ·have T:tkE s b a=1:=(by unfold tkE;rw[if_neg h0,if_pos h1]);have U:tkV s b a=(0,0):=(by unfold tkV;rw[T];rfl);rw[T,U];rw[h1]at HA;clear T U h0 h1;go_enter Tryz.func236,Tryz.ntmps236;go_wp2_with fail;refine(HR.out _).mono ?_;rintro e w1 ⟨rfl,hb1⟩;obtain⟨hc1,hf1⟩:=bcell hb1;have HB1:=aH hb1;have hz1_0:w.heap.size<w1.heap.size:=(by(have:=hb1.size;(try simp at this)<;>omega));have hz1_1:w.heap.size+1<w1.heap.size:=(by(have:=hb1.size;(try simp at this)<;>omega));have hz1_2:w.heap.size+2<w1.heap.size:=(by(have:=hb1.size;(try simp at this)<;>omega));clear hb1;go_wp2_with fail;refine(HA.out _).mono ?_;rintro e w2 ⟨rfl,rfl⟩;go_wp2;refine bP (v:=.tuple #[.agg #[.int .i64 0,.int .i64 0],.int .i64 1]) (by simp[results,Tryz.results236,go_sem,hc1]) rfl ⟨rfl,?_⟩;(repeat (first|exact bR _ _|(with_reducible refine bS ?_ (by simp<;>omega))|(with_reducible refine bL ?_ _)|(with_reducible refine bC ?_ HB1.out)))
  ·rw[show armB a=true by simpa using h1]at HA;by_cases h2:ofV s b=1
   ·have T:tkE s b a=0:=(by unfold tkE;rw[if_neg h0,if_neg h1,if_pos h2]);have U:tkV s b a=(2,a):=(by unfold tkV;rw[if_pos T]);rw[T,U];rw[show(ofV s b==1)=true by simp[h2]]at HP;clear T U h0 h1 h2;go_enter Tryz.func236,Tryz.ntmps236;go_wp2_with fail;refine(HR.out _).mono ?_;rintro e w1 ⟨rfl,hb1⟩;obtain⟨hc1,hf1⟩:=bcell hb1;have HB1:=aH hb1;have hz1_0:w.heap.size<w1.heap.size:=(by(have:=hb1.size;(try simp at this)<;>omega));have hz1_1:w.heap.size+1<w1.heap.size:=(by(have:=hb1.size;(try simp at this)<;>omega));have hz1_2:w.heap.size+2<w1.heap.size:=(by(have:=hb1.size;(try simp at this)<;>omega));clear hb1;go_wp2_with fail;refine(HA.out _).mono ?_;rintro e w2 ⟨rfl,rfl⟩;go_wp2_with fail;refine(HP.out _).mono ?_;rintro e w3 ⟨rfl,hb3⟩;obtain⟨hc3,hf3⟩:=bcell hb3;have HB3:=aH hb3;have hz3_0:w.heap.size<w3.heap.size:=(by(have:=hb3.size;(try simp at this)<;>omega));have hz3_1:w.heap.size+1<w3.heap.size:=(by(have:=hb3.size;(try simp at this)<;>omega));have hz3_2:w.heap.size+2<w3.heap.size:=(by(have:=hb3.size;(try simp at this)<;>omega));clear hb3;go_wp2;refine bP (v:=.tuple #[.agg #[.int .i64 2,.int .i64 a],.int .i64 0]) (by simp[results,Tryz.results236,go_sem,hc1,hc3,hz1_2]) rfl ⟨rfl,?_⟩;(repeat (first|exact bR _ _|(with_reducible refine bS ?_ (by simp<;>omega))|(with_reducible refine bL ?_ _)|(with_reducible refine bC ?_ HB1.out)|(with_reducible refine bC ?_ HB3.out)))
   ·have T:tkE s b a=121:=(by unfold tkE;rw[if_neg h0,if_neg h1,if_neg h2]);have U:tkV s b a=(0,0):=(by unfold tkV;rw[T];rfl);rw[T,U];rw[show(ofV s b==1)=false by simpa using h2]at HP;clear T U h0 h1 h2;go_enter Tryz.func236,Tryz.ntmps236;go_wp2_with fail;refine(HR.out _).mono ?_;rintro e w1 ⟨rfl,hb1⟩;obtain⟨hc1,hf1⟩:=bcell hb1;have HB1:=aH hb1;have hz1_0:w.heap.size<w1.heap.size:=(by(have:=hb1.size;(try simp at this)<;>omega));have hz1_1:w.heap.size+1<w1.heap.size:=(by(have:=hb1.size;(try simp at this)<;>omega));have hz1_2:w.heap.size+2<w1.heap.size:=(by(have:=hb1.size;(try simp at this)<;>omega));clear hb1;go_wp2_with fail;refine(HA.out _).mono ?_;rintro e w2 ⟨rfl,rfl⟩;go_wp2_with fail;refine(HP.out _).mono ?_;rintro e w3 ⟨rfl,hb3⟩;obtain⟨hc3,hf3⟩:=bcell hb3;have HB3:=aH hb3;have hz3_0:w.heap.size<w3.heap.size:=(by(have:=hb3.size;(try simp at this)<;>omega));have hz3_1:w.heap.size+1<w3.heap.size:=(by(have:=hb3.size;(try simp at this)<;>omega));have hz3_2:w.heap.size+2<w3.heap.size:=(by(have:=hb3.size;(try simp at this)<;>omega));clear hb3;go_wp2;refine bP (v:=.tuple #[.agg #[.int .i64 0,.int .i64 0],.int .i64 121]) (by simp[results,Tryz.results236,go_sem,hc1,hc3,hz1_2]) rfl ⟨rfl,?_⟩;(repeat (first|exact bR _ _|(with_reducible refine bS ?_ (by simp<;>omega))|(with_reducible refine bL ?_ _)|(with_reducible refine bC ?_ HB1.out)|(with_reducible refine bC ?_ HB3.out)))
theorem take_any (s b a:Int) (w:World):Calls Tryz.prog 189 #[tpV s b,.int .i64 a] w fun e w'=>e=.returned (tpE (tkV s b a) (tkE s b a))∧Below w.heap.size w w':=by
 have HT:=aH (fun w=>turn_take s b a w);generalize tkV s b a=y at *;generalize tkE s b a=z at *;obtain⟨p,q⟩:=y;have hmf:∀(fn:Fn) (first cap:Array Value) (w:World),(Instr.makeFunc fn first cap).run Tryz.prog w=.ok (.func fn first cap) w:=fun _ _ _ _=>rfl;go_enter Tryz.func189,Tryz.ntmps189;go_wp2_with fail;refine(HT.out _).mono ?_;rintro e w1 ⟨rfl,hb1⟩;obtain⟨hc1,hf1⟩:=bcell hb1;have HB1:=aH hb1;have hz1_0:w.heap.size<w1.heap.size:=by(have:=hb1.size;(try simp at this)<;>omega)
 have hz1_1:w.heap.size+1<w1.heap.size:=by(have:=hb1.size;(try simp at this)<;>omega)
 clear hb1;go_wp2;refine bP (v:=.tuple #[.agg #[.int .i64 p,.int .i64 q],.int .i64 z]) (by simp[results,Tryz.results189,go_sem,hc1]) rfl ⟨rfl,?_⟩;(repeat (first|exact bR _ _|(with_reducible refine bS ?_ (by simp<;>omega))|(with_reducible refine bL ?_ _)|(with_reducible refine bC ?_ HB1.out)))
def fstV (p:Nat→Bool) (n:Nat):Int×Bool:=match (List.range n).find? p with|some i=>((i:Int),true)|none=>(0,false)
theorem fst_hit (p:Nat→Bool) (n i:Nat) (hi:i<n) (hp:p i=true) (h:∀j,j<i→p j=false):fstV p n=((i:Int),true):=by
 have e:(List.range n).find? p=some i:=by
  rw[List.find?_range_eq_some];exact⟨hp,List.mem_range.2 hi,fun j hj=>by simp[h j hj]⟩
 unfold fstV;rw[e]
theorem fst_none (p:Nat→Bool) (n:Nat) (h:∀j,j<n→p j=false):fstV p n=(0,false):=by
 have e:(List.range n).find? p=none:=by
  rw[List.find?_range_eq_none];exact fun j hj=>by simp[h j hj]
 unfold fstV;rw[e]
abbrev fsV (x:Int×Bool):Value:=.tuple #[.int .i64 x.1,.bool x.2]
def hdP (xs:List (Int×Int)) (a f:Int) (i:Nat):Bool:=decide (f≤(i:Int))&&(ofV (xs.getD i (0,0)).1 (xs.getD i (0,0)).2==2&&(xs.getD i (0,0)).2==a)
theorem first_held (a:Int) (v:Value) (xs:List (Int×Int)) (f:Int) (hf:fits f) (w:World) (hv:KT.IsL w w.heap.size v xs):Calls Tryz.prog 171 #[v,.int .i64 f,.func (.func 172) #[.int .i64 a] #[]] w fun e w'=>e=.returned (fsV (fstV (hdP xs a f) xs.length))∧Below w.heap.size w w':=by
 obtain⟨A,c,rfl,hc⟩:=hv.shape;have HV:=aH hv;have hl:=hv.2.2;obtain⟨m,hm⟩:∃m:Nat,max f 0=(m:Int):=⟨(max f 0).toNat,by omega⟩;have HM:=aH hm;have hm1:(m:Int)≤9223372036854775807:=by unfold fits at hf;omega
 clear hv hf;go_enter Tryz.func171,Tryz.ntmps171;go_wp2;all_goals
  go_loopw [8] (fun i wr=>∃k:Nat,i=.int .i64 k∧(k≤m∨k≤xs.length)∧(∀j,j<k→j<xs.length→hdP xs a f j=false)∧(m≤k)∧Below w.heap.size w wr) (fun i _=>xs.length-(intOf i).toNat)
  case atStart=>exact⟨m,num_i (by omega),.inl (nR _),fun j hj _=>by(have:¬f≤(j:Int):=by omega);simp[hdP,this],nR _,bR _ _⟩
  case round=>
   obtain⟨k,rfl,hk,hkp,hmk,hbl⟩:=hrel;have HB:=aH hbl;have HKP:=aH hkp;clear hkp hbl;by_cases hlt:k<xs.length
   ·obtain⟨b,off,rfl,hb,hbc,hcell⟩:=tip_cells (HV.out.below HB.out) (by omega);obtain⟨e1,e2⟩:=hcell k hlt;have hP:hdP xs a f k=(decide (f≤(k:Int))&&(ofV (xs.getD k (0,0)).1 (xs.getD k (0,0)).2==2&&(xs.getD k (0,0)).2==a)):=rfl;rw[show decide (f≤(k:Int))=true from dT (by omega),Bool.true_and]at hP;clear hcell;generalize xs.getD k (0,0)=t at *;obtain⟨t1,t2⟩:=t;dsimp only at *;have HA:=aH (fun w=>holds_any a t1 t2 w);have HP:=aH hP;clear hP;generalize (ofV t1 t2==2&&t2==a)=q at *;have hbw:b<wr.heap.size:=nL hb HB.out.size;go_wp2_with fail;refine(HA.out _).mono ?_;rintro e w2 ⟨rfl,hb2⟩;have HB2:=aH (bC HB.out hb2);clear hb2 e1 e2
    cases q
    ·go_wp2
     go_roundw
     case rel=>exact⟨k+1,num_i (by omega),.inr (by omega),fun j hj hjl=>by
      by_cases h:j=k
      ·subst h;exact HP.out
      ·exact HKP.out j (by omega) hjl,by omega,HB2.out⟩
     case measure=>simp[intOf];omega
    ·go_wp2
     go_ret2
     refine⟨?_,HB2.out⟩;rw[fst_hit _ _ k hlt HP.out fun j hj=>HKP.out j hj (by omega)];rfl
   ·go_wp2
    go_ret2
    refine⟨?_,HB.out⟩;rw[fst_none _ _ fun j hj=>HKP.out j (by omega) hj];rfl
theorem held_any (v:Value) (xs:List (Int×Int)) (a:Int) (w:World) (hv:KT.IsL w w.heap.size v xs):Calls Tryz.prog 116 #[v,.int .i64 a] w fun e w'=>e=.returned (fsV (fstV (hdP xs a 0) xs.length))∧Below w.heap.size w w':=by
 have HF:=aH (first_held a v xs 0 (by unfold fits;omega) w hv);generalize fstV (hdP xs a 0) xs.length=y at *;have hmf:∀(fn:Fn) (first cap:Array Value) (w:World),(Instr.makeFunc fn first cap).run Tryz.prog w=.ok (.func fn first cap) w:=fun _ _ _ _=>rfl;obtain⟨p,q⟩:=y;clear hv;go_enter Tryz.func116,Tryz.ntmps116;go_wp2_with fail;refine HF.out.mono ?_;rintro e w1 ⟨rfl,hb1⟩;have HB1:=aH hb1;clear hb1;go_wp2
 go_ret2
 exact⟨rfl,HB1.out⟩
end Go.Proofs.YtmecohdedghiaaaGreatDoor.Tp
namespace Go.Proofs.YtmecohdedghiaaaGreatDoor
open Go.RowKit
def ceCells (q:Cel.Ce):List Value:=[.int .i64 q.a,.int .i64 q.b,.int .i64 q.c]
def ce0:Cel.Ce:=⟨0,0,0⟩
noncomputable def KE:Lk Tryz.prog Cel.Ce where
 S:=37
 E:=70
 n:=3
 zero:=.agg #[.int .i64 0,.int .i64 0,.int .i64 0]
 bytes:=24
 cells:=ceCells
 dflt:=ce0
 ok:=fun q=>q.Fit
 und:=Tryz.underlying37
 info:=by kernel_rfl
 zs:=rfl
 pos:=by decide
 small:=by decide
 len _:=rfl
 one x u hu:=by
  simp only[ceCells,List.mem_cons,List.not_mem_nil,or_false]at hu;rcases hu with rfl|rfl|rfl<;>rfl
structure Lo where
 r:Int
 l:Int
 A:Option Addr
 c:Nat
 xs:List Ch
def loCells (q:Lo):List Value:=[.int .i64 q.r,.int .i64 q.l,.slice q.A q.xs.length q.c]
def lo0:Lo:=⟨0,0,none,0,[]⟩
noncomputable def KL:Lk Tryz.prog Lo where
 S:=38
 E:=115
 n:=3
 zero:=.agg #[.int .i64 0,.int .i64 0,.slice none 0 0]
 bytes:=40
 cells:=loCells
 dflt:=lo0
 ok:=fun q=>fits q.r∧fits q.l
 und:=Tryz.underlying38
 info:=by kernel_rfl
 zs:=rfl
 pos:=by decide
 small:=by decide
 len _:=rfl
 one x u hu:=by
  simp only[loCells,List.mem_cons,List.not_mem_nil,or_false]at hu;rcases hu with rfl|rfl|rfl<;>rfl
theorem ce_cells {w:World} {B:Nat} {A:Option Addr} {n c:Nat} {xs:List Cel.Ce} (h:KE.IsL w B (.slice A n c) xs) (h0:0<xs.length):∃b off,A=some ⟨b,off,none⟩∧b<B∧xs.length≤c∧
  ∀i,i<xs.length→w.cell? ⟨b,off+i*3,none⟩=some (.int .i64 (xs.getD i ce0).a)∧w.cell? ⟨b,off+i*3+1,none⟩=some (.int .i64 (xs.getD i ce0).b)∧w.cell? ⟨b,off+i*3+2,none⟩=some (.int .i64 (xs.getD i ce0).c):=by
 obtain⟨b,off,e,hb,hc,hcell⟩:=h.elem h0;refine⟨b,off,e,hb,hc,fun i hi=>?_⟩;have q:=fun j u hu=>hcell i hi j u hu;have hn:KE.n=3:=rfl;simp only[hn,←Nat.add_assoc]at q;exact⟨q 0 _ rfl,q 1 _ rfl,q 2 _ rfl⟩
theorem lo_cells {w:World} {B:Nat} {A:Option Addr} {n c:Nat} {xs:List Lo} (h:KL.IsL w B (.slice A n c) xs) (h0:0<xs.length):∃b off,A=some ⟨b,off,none⟩∧b<B∧xs.length≤c∧
  ∀i,i<xs.length→w.cell? ⟨b,off+i*3,none⟩=some (.int .i64 (xs.getD i lo0).r)∧w.cell? ⟨b,off+i*3+1,none⟩=some (.int .i64 (xs.getD i lo0).l)∧w.cell? ⟨b,off+i*3+2,none⟩=some (.slice (xs.getD i lo0).A (xs.getD i lo0).xs.length (xs.getD i lo0).c):=by
 obtain⟨b,off,e,hb,hc,hcell⟩:=h.elem h0;refine⟨b,off,e,hb,hc,fun i hi=>?_⟩;have q:=fun j u hu=>hcell i hi j u hu;have hn:KL.n=3:=rfl;simp only[hn,←Nat.add_assoc]at q;exact⟨q 0 _ rfl,q 1 _ rfl,q 2 _ rfl⟩
structure Stk where
 cA:Option Addr
 cc:Nat
 cl:List Cel.Ce
 lA:Option Addr
 lc:Nat
 ll:List Lo
 tA:Option Addr
 tc:Nat
 tl:List (Int×Int)
 st:Int
 inn:Int
 out:Int
abbrev Stk.v (s:Stk):Value:=.agg #[.slice s.cA s.cl.length s.cc,.slice s.lA s.ll.length s.lc,.slice s.tA s.tl.length s.tc,.int .i64 s.st,.int .i64 s.inn,.int .i64 s.out]
structure Stk.In (w:World) (B:Nat) (s:Stk):Prop where
 c:KE.IsL w B (.slice s.cA s.cl.length s.cc) s.cl
 l:KL.IsL w B (.slice s.lA s.ll.length s.lc) s.ll
 t:KT.IsL w B (.slice s.tA s.tl.length s.tc) s.tl
 x:∀q∈s.ll,KC.IsL w B (.slice q.A q.xs.length q.c) q.xs
 f:fits s.st∧fits s.inn∧fits s.out
theorem Stk.In.below {w w':World} {B:Nat} {s:Stk} (h:s.In w B) (hb:Below B w w'):s.In w' B:=⟨h.c.below hb,h.l.below hb,h.t.below hb,fun q hq=>(h.x q hq).below hb,h.f⟩
theorem Stk.In.more {w:World} {B B':Nat} {s:Stk} (h:s.In w B) (hB:B≤B'):s.In w B':=⟨h.c.more hB,h.l.more hB,h.t.more hB,fun q hq=>(h.x q hq).more hB,h.f⟩
theorem Stk.In.then {w w':World} {s:Stk} (h:s.In w w.heap.size) (hb:Below w.heap.size w w'):s.In w' w'.heap.size:=(h.below hb).more hb.size
structure Ab where
 c:List Cel.Ce
 l:List (Int×Int×List Ch)
 t:List (Int×Int)
 st:Int
 inn:Int
 out:Int
def Lo.ab (q:Lo):Int×Int×List Ch:=(q.r,q.l,q.xs)
def Stk.ab (s:Stk):Ab:=⟨s.cl,s.ll.map Lo.ab,s.tl,s.st,s.inn,s.out⟩
def ab0:Ab:=⟨[],[],[],0,0,0⟩
def stk0:Stk:=⟨none,0,[],none,0,[],none,0,[],0,0,0⟩
theorem stk0_in (w:World) (B:Nat):stk0.In w B:=⟨Lk.IsL.nil _ _ _ _,Lk.IsL.nil _ _ _ _,Lk.IsL.nil _ _ _ _,fun q hq=>by simp[stk0]at hq,by decide,by decide,by decide⟩
def Cells4 (V:World) (D:Nat) (x0 x1 x2 x3:Value):Prop:=
 V.cell? ⟨D,0,none⟩=some x0∧V.cell? ⟨D,1,none⟩=some x1∧V.cell? ⟨D,2,none⟩=some x2∧V.cell? ⟨D,3,none⟩=some x3∧
 V.frozen? ⟨D,0,none⟩=false∧V.frozen? ⟨D,1,none⟩=false∧V.frozen? ⟨D,2,none⟩=false∧V.frozen? ⟨D,3,none⟩=false∧D<V.heap.size
theorem Cells4.new (V:World) (t:TypeId) (x0 x1 x2 x3:Value):Cells4 (V.alloc (.cells #[x0,x1,x2,x3] t)) V.heap.size x0 x1 x2 x3:=
 ⟨by rw[alloc_at];rfl,by rw[alloc_at];rfl,by rw[alloc_at];rfl,by rw[alloc_at];rfl,by simp,by simp,by simp,by simp,by simp⟩
theorem Cells4.below {V V':World} {D:Nat} {x0 x1 x2 x3:Value} (h:Cells4 V D x0 x1 x2 x3) (hb:Below V.heap.size V V'):Cells4 V' D x0 x1 x2 x3:=by
 obtain⟨h0,h1,h2,h3,z0,z1,z2,z3,hs⟩:=h;refine⟨kK hb h0,kK hb h1,kK hb h2,kK hb h3,?_,?_,?_,?_,nL hs hb.size⟩
 ·rw[hb.frozen (p:=⟨D,0,none⟩) hs];exact z0
 ·rw[hb.frozen (p:=⟨D,1,none⟩) hs];exact z1
 ·rw[hb.frozen (p:=⟨D,2,none⟩) hs];exact z2
 ·rw[hb.frozen (p:=⟨D,3,none⟩) hs];exact z3
theorem Cells4.set {V:World} {D:Nat} {x0 x1 x2 x3:Value} (h:Cells4 V D x0 x1 x2 x3) (p0 p1 p2 p3:Value):Cells4 ((((V.setCell ⟨D,0,none⟩ p0).setCell ⟨D,1,none⟩ p1).setCell ⟨D,2,none⟩ p2).setCell ⟨D,3,none⟩ p3) D p0 p1 p2 p3:=by
 obtain⟨h0,h1,h2,h3,z0,z1,z2,z3,hs⟩:=h;refine⟨sO (sO (sO (st_same (h0)) (aN (.inr (by decide)))) (aN (.inr (by decide)))) (aN (.inr (by decide))),sO (sO (st_same (sO (h1) (aN (.inr (by decide))))) (aN (.inr (by decide)))) (aN (.inr (by decide))),sO (st_same (sO (sO (h2) (aN (.inr (by decide)))) (aN (.inr (by decide))))) (aN (.inr (by decide))),st_same (sO (sO (sO (h3) (aN (.inr (by decide)))) (aN (.inr (by decide)))) (aN (.inr (by decide)))),sF (sF (sF (sF (z0)))),sF (sF (sF (sF (z1)))),sF (sF (sF (sF (z2)))),sF (sF (sF (sF (z3)))),?_⟩;simpa using hs
theorem Cells4.apart {V:World} {D G:Nat} {x0 x1 x2 x3:Value} (h:Cells4 V G x0 x1 x2 x3) (hne:D≠G) (p0 p1 p2 p3:Value):Cells4 ((((V.setCell ⟨D,0,none⟩ p0).setCell ⟨D,1,none⟩ p1).setCell ⟨D,2,none⟩ p2).setCell ⟨D,3,none⟩ p3) G x0 x1 x2 x3:=by
 obtain⟨h0,h1,h2,h3,z0,z1,z2,z3,hs⟩:=h;refine⟨sO (sO (sO (sO (h0) (aN (.inl hne))) (aN (.inl hne))) (aN (.inl hne))) (aN (.inl hne)),sO (sO (sO (sO (h1) (aN (.inl hne))) (aN (.inl hne))) (aN (.inl hne))) (aN (.inl hne)),sO (sO (sO (sO (h2) (aN (.inl hne))) (aN (.inl hne))) (aN (.inl hne))) (aN (.inl hne)),sO (sO (sO (sO (h3) (aN (.inl hne))) (aN (.inl hne))) (aN (.inl hne))) (aN (.inl hne)),sF (sF (sF (sF (z0)))),sF (sF (sF (sF (z1)))),sF (sF (sF (sF (z2)))),sF (sF (sF (sF (z3)))),?_⟩;simpa using hs
theorem Cells6.apart {V:World} {D G:Nat} {x0 x1 x2 x3 x4 x5:Value} (h:Cells6 V G x0 x1 x2 x3 x4 x5) (hne:D≠G) (p0 p1 p2 p3 p4 p5:Value):Cells6 ((((((V.setCell ⟨D,0,none⟩ p0).setCell ⟨D,1,none⟩ p1).setCell ⟨D,2,none⟩ p2).setCell ⟨D,3,none⟩ p3).setCell ⟨D,4,none⟩ p4).setCell ⟨D,5,none⟩ p5) G x0 x1 x2 x3 x4 x5:=by
 obtain⟨h0,h1,h2,h3,h4,h5,z0,z1,z2,z3,z4,z5,hs⟩:=h;refine⟨sO (sO (sO (sO (sO (sO (h0) (aN (.inl hne))) (aN (.inl hne))) (aN (.inl hne))) (aN (.inl hne))) (aN (.inl hne))) (aN (.inl hne)),sO (sO (sO (sO (sO (sO (h1) (aN (.inl hne))) (aN (.inl hne))) (aN (.inl hne))) (aN (.inl hne))) (aN (.inl hne))) (aN (.inl hne)),sO (sO (sO (sO (sO (sO (h2) (aN (.inl hne))) (aN (.inl hne))) (aN (.inl hne))) (aN (.inl hne))) (aN (.inl hne))) (aN (.inl hne)),sO (sO (sO (sO (sO (sO (h3) (aN (.inl hne))) (aN (.inl hne))) (aN (.inl hne))) (aN (.inl hne))) (aN (.inl hne))) (aN (.inl hne)),sO (sO (sO (sO (sO (sO (h4) (aN (.inl hne))) (aN (.inl hne))) (aN (.inl hne))) (aN (.inl hne))) (aN (.inl hne))) (aN (.inl hne)),sO (sO (sO (sO (sO (sO (h5) (aN (.inl hne))) (aN (.inl hne))) (aN (.inl hne))) (aN (.inl hne))) (aN (.inl hne))) (aN (.inl hne)),sF (sF (sF (sF (sF (sF (z0)))))),sF (sF (sF (sF (sF (sF (z1)))))),sF (sF (sF (sF (sF (sF (z2)))))),sF (sF (sF (sF (sF (sF (z3)))))),sF (sF (sF (sF (sF (sF (z4)))))),sF (sF (sF (sF (sF (sF (z5)))))),?_⟩;simpa using hs
theorem below_set6 {V w:World} {B D:Nat} (h:Below B w V) (hB:B≤D) (p0 p1 p2 p3 p4 p5:Value):Below B w ((((((V.setCell ⟨D,0,none⟩ p0).setCell ⟨D,1,none⟩ p1).setCell ⟨D,2,none⟩ p2).setCell ⟨D,3,none⟩ p3).setCell ⟨D,4,none⟩ p4).setCell ⟨D,5,none⟩ p5):=((((((h.setCell hB _).setCell hB _).setCell hB _).setCell hB _).setCell hB _).setCell hB _)
theorem Cells6.off {V:World} {D G o:Nat} {x0 x1 x2 x3 x4 x5:Value} (h:Cells6 V G x0 x1 x2 x3 x4 x5) (hne:D≠G) (p:Value):Cells6 (V.setCell ⟨D,o,none⟩ p) G x0 x1 x2 x3 x4 x5:=by
 obtain⟨h0,h1,h2,h3,h4,h5,z0,z1,z2,z3,z4,z5,hs⟩:=h;exact⟨sO h0 (aN (.inl hne)),sO h1 (aN (.inl hne)),sO h2 (aN (.inl hne)),sO h3 (aN (.inl hne)),sO h4 (aN (.inl hne)),sO h5 (aN (.inl hne)),sF z0,sF z1,sF z2,sF z3,sF z4,sF z5,by simpa using hs⟩
theorem Cells4.off {V:World} {D G o:Nat} {x0 x1 x2 x3:Value} (h:Cells4 V G x0 x1 x2 x3) (hne:D≠G) (p:Value):Cells4 (V.setCell ⟨D,o,none⟩ p) G x0 x1 x2 x3:=by
 obtain⟨h0,h1,h2,h3,z0,z1,z2,z3,hs⟩:=h;exact⟨sO h0 (aN (.inl hne)),sO h1 (aN (.inl hne)),sO h2 (aN (.inl hne)),sO h3 (aN (.inl hne)),sF z0,sF z1,sF z2,sF z3,by simpa using hs⟩
theorem Cells4.box (w:World) (d:Dk) (t:TypeId):Cells4 (w.alloc (.cells #[.slice d.bA d.bn d.bc,.slice d.pA d.pn d.pc,.slice d.rA d.rn d.rc,.int .i64 d.arms] t)) w.heap.size (.slice d.bA d.bn d.bc) (.slice d.pA d.pn d.pc) (.slice d.rA d.rn d.rc) (.int .i64 d.arms):=Cells4.new w t _ _ _ _
abbrev DkAt (V:World) (D:Nat) (d:Dk):Prop:=Cells4 V D (.slice d.bA d.bn d.bc) (.slice d.pA d.pn d.pc) (.slice d.rA d.rn d.rc) (.int .i64 d.arms)
abbrev SkAt (V:World) (D:Nat) (s:Stk):Prop:=Cells6 V D (.slice s.cA s.cl.length s.cc) (.slice s.lA s.ll.length s.lc) (.slice s.tA s.tl.length s.tc) (.int .i64 s.st) (.int .i64 s.inn) (.int .i64 s.out)
abbrev Stk.ob (s:Stk):Obj:=.cells #[.slice s.cA s.cl.length s.cc,.slice s.lA s.ll.length s.lc,.slice s.tA s.tl.length s.tc,.int .i64 s.st,.int .i64 s.inn,.int .i64 s.out] 41
theorem Cells6.setS {V:World} {D:Nat} {x0 x1 x2 x3 x4 x5:Value} (h:Cells6 V D x0 x1 x2 x3 x4 x5) (s:Stk):Cells6 ((((((V.setCell ⟨D,0,none⟩ (.slice s.cA s.cl.length s.cc)).setCell ⟨D,1,none⟩ (.slice s.lA s.ll.length s.lc)).setCell ⟨D,2,none⟩ (.slice s.tA s.tl.length s.tc)).setCell ⟨D,3,none⟩ (.int .i64 s.st)).setCell ⟨D,4,none⟩ (.int .i64 s.inn)).setCell ⟨D,5,none⟩ (.int .i64 s.out)) D (.slice s.cA s.cl.length s.cc) (.slice s.lA s.ll.length s.lc) (.slice s.tA s.tl.length s.tc) (.int .i64 s.st) (.int .i64 s.inn) (.int .i64 s.out):=h.set _ _ _ _ _ _
theorem KE.Own.at3 {w:World} {B g n c:Nat} {ys:List _} (h:KE.Own w B (.slice (some ⟨g,0,none⟩) n c) ys) (hn:ys.length=n) (k:Nat) (hk:k<n):
  w.cell? ⟨g,k*3,none⟩=some (.int .i64 (ys.getD k ce0).a)∧w.cell? ⟨g,k*3+1,none⟩=some (.int .i64 (ys.getD k ce0).b)∧w.cell? ⟨g,k*3+2,none⟩=some (.int .i64 (ys.getD k ce0).c)∧w.frozen? ⟨g,k*3,none⟩=false∧w.frozen? ⟨g,k*3+1,none⟩=false∧w.frozen? ⟨g,k*3+2,none⟩=false:=by
 obtain⟨q0,z0⟩:=h.cellAt hn k 0 hk _ rfl;obtain⟨q1,z1⟩:=h.cellAt hn k 1 hk _ rfl;obtain⟨q2,z2⟩:=h.cellAt hn k 2 hk _ rfl;exact⟨q0,q1,q2,z0,z1,z2⟩
theorem KL.Own.at3 {w:World} {B g n c:Nat} {ys:List _} (h:KL.Own w B (.slice (some ⟨g,0,none⟩) n c) ys) (hn:ys.length=n) (k:Nat) (hk:k<n):
  w.cell? ⟨g,k*3,none⟩=some (.int .i64 (ys.getD k lo0).r)∧w.cell? ⟨g,k*3+1,none⟩=some (.int .i64 (ys.getD k lo0).l)∧w.cell? ⟨g,k*3+2,none⟩=some (.slice (ys.getD k lo0).A (ys.getD k lo0).xs.length (ys.getD k lo0).c)∧w.frozen? ⟨g,k*3,none⟩=false∧w.frozen? ⟨g,k*3+1,none⟩=false∧w.frozen? ⟨g,k*3+2,none⟩=false:=by
 obtain⟨q0,z0⟩:=h.cellAt hn k 0 hk _ rfl;obtain⟨q1,z1⟩:=h.cellAt hn k 1 hk _ rfl;obtain⟨q2,z2⟩:=h.cellAt hn k 2 hk _ rfl;exact⟨q0,q1,q2,z0,z1,z2⟩
theorem KT.Own.at2 {w:World} {B g n c:Nat} {ys:List (Int×Int)} (h:KT.Own w B (.slice (some ⟨g,0,none⟩) n c) ys) (hn:ys.length=n) (k:Nat) (hk:k<n):
  w.cell? ⟨g,k*2,none⟩=some (.int .i64 (ys.getD k (0,0)).1)∧w.cell? ⟨g,k*2+1,none⟩=some (.int .i64 (ys.getD k (0,0)).2)∧w.frozen? ⟨g,k*2,none⟩=false∧w.frozen? ⟨g,k*2+1,none⟩=false:=by
 obtain⟨q0,z0⟩:=h.cellAt hn k 0 hk _ rfl;obtain⟨q1,z1⟩:=h.cellAt hn k 1 hk _ rfl;exact⟨q0,q1,z0,z1⟩
end Go.Proofs.YtmecohdedghiaaaGreatDoor
