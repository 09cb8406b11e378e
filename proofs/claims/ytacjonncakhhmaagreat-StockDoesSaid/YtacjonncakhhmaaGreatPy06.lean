/- Tips: what becomes of them, and who holds one, as the program tells it. -/
import Derived.Test.YtacjonncakhhmaaGreatPy00
import Derived.Test.YtacjonncakhhmaaGreatPy05
set_option maxRecDepth 100000
set_option maxHeartbeats 8000000
namespace Go.Proofs.YtacjonncakhhmaaGreat.Tp
open Go.RowKit
abbrev tpV (s b:Int):Value:=.agg #[.int .i64 s,.int .i64 b]
def armB (b:Int):Bool:=decide (1≤b∧b≤8)
def ofV (s b:Int):Int:=if (s=1∨s=3)∧b=0 then s else if s=2∧1≤b∧b≤8 then 2 else 0
theorem Below.box {w w':World} (o:Obj) (h:Below (w.alloc o).heap.size (w.alloc o) w'):Below w.heap.size w w':=bC (bL (bR _ _) o) h
theorem isArm_any (b:Int) (w:World):Calls Tryz.prog 100 #[.int .i64 b] w fun e w'=>e=.returned (.bool (armB b))∧w=w':=by
 unfold armB;by_cases h1:1≤b
 ·go_enter Tryz.func100,Tryz.ntmps100;go_wp2
  go_ret
  exact⟨ret_b (by simp[h1]),rfl⟩
 ·go_enter Tryz.func100,Tryz.ntmps100;go_wp2
  go_ret
  exact⟨ret_b (by simp;omega),rfl⟩
theorem rarm_any (b:Int) (w:World):Calls Tryz.prog 84 #[.int .i64 b] w fun e w'=>e=.returned (.bool (armB b))∧w=w':=by
 unfold armB;by_cases h1:1≤b
 ·go_enter Tryz.func84,Tryz.ntmps84;go_wp2
  go_ret
  exact⟨ret_b (by simp[h1]),rfl⟩
 ·go_enter Tryz.func84,Tryz.ntmps84;go_wp2
  go_ret
  exact⟨ret_b (by simp;omega),rfl⟩
theorem of_any (s b:Int) (w:World):Calls Tryz.prog 101 #[tpV s b] w fun e w'=>e=.returned (.int .i64 (ofV s b))∧Below w.heap.size w w':=by
 have HA:=aH (fun w=>isArm_any b w);by_cases h1:s=1
 ·subst h1;by_cases h0:b=0
  ·subst h0;go_enter Tryz.func101,Tryz.ntmps101;go_wp2
   go_ret
   exact⟨ret_i rfl,bL (bR _ _) _⟩
  ·rw[show ofV 1 b=0 by unfold ofV;rw[if_neg (by omega),if_neg (by omega)]];go_enter Tryz.func101,Tryz.ntmps101;go_wp2
   go_ret
   exact⟨ret_i rfl,bL (bR _ _) _⟩
 ·by_cases h3:s=3
  ·subst h3;by_cases h0:b=0
   ·subst h0;go_enter Tryz.func101,Tryz.ntmps101;go_wp2
    go_ret
    exact⟨ret_i rfl,bL (bR _ _) _⟩
   ·rw[show ofV 3 b=0 by unfold ofV;rw[if_neg (by omega),if_neg (by omega)]];go_enter Tryz.func101,Tryz.ntmps101;go_wp2
    go_ret
    exact⟨ret_i rfl,bL (bR _ _) _⟩
  ·by_cases h2:s=2
   ·subst h2;by_cases ha:1≤b∧b≤8
    ·rw[show ofV 2 b=2 by unfold ofV;rw[if_neg (by omega),if_pos ⟨rfl,ha⟩]];rw[show armB b=true from dT ha]at HA;clear ha h1 h3;go_enter Tryz.func101,Tryz.ntmps101;go_wp2_with fail;refine(HA.out _).mono ?_;rintro e w1 ⟨rfl,rfl⟩;go_wp2
     go_ret
     exact⟨ret_i rfl,bL (bR _ _) _⟩
    ·rw[show ofV 2 b=0 by unfold ofV;rw[if_neg (by omega),if_neg (by omega)]];rw[show armB b=false from dF ha]at HA;clear ha h1 h3;go_enter Tryz.func101,Tryz.ntmps101;go_wp2_with fail;refine(HA.out _).mono ?_;rintro e w1 ⟨rfl,rfl⟩;go_wp2
     go_ret
     exact⟨ret_i rfl,bL (bR _ _) _⟩
   ·rw[show ofV s b=0 by unfold ofV;rw[if_neg (by omega),if_neg (by omega)]];go_enter Tryz.func101,Tryz.ntmps101;go_wp2
    go_ret
    exact⟨ret_i rfl,bL (bR _ _) _⟩
theorem is_any (k s b:Int) (w:World):Calls Tryz.prog 77 #[.int .i64 k,tpV s b] w fun e w'=>e=.returned (.bool (ofV s b==k))∧Below w.heap.size w w':=by
 have HA:=aH (fun w=>of_any s b w);generalize ofV s b=c at *;go_enter Tryz.func77,Tryz.ntmps77;go_wp2_with fail;refine(HA.out _).mono ?_;rintro e w1 ⟨rfl,hb1⟩;have HB1:=aH hb1;clear hb1;go_wp2
 go_ret
 exact⟨ret_b (by simp),Below.box _ HB1.out⟩
theorem right_any (s b:Int) (w:World):Calls Tryz.prog 62 #[tpV s b] w fun e w'=>e=.returned (.bool (!(ofV s b==0)))∧Below w.heap.size w w':=by
 have HA:=aH (fun w=>is_any 0 s b w);generalize (ofV s b==0)=c at *;go_enter Tryz.func62,Tryz.ntmps62;go_wp2_with fail;refine(HA.out _).mono ?_;rintro e w1 ⟨rfl,hb1⟩;have HB1:=aH hb1;clear hb1;go_wp2
 go_ret
 exact⟨ret_b (by simp),Below.box _ HB1.out⟩
def tkE (s b a:Int):Int:=if ofV s b=0 then 120 else if armB a=false then 1 else if ofV s b=1 then 0 else 121
def tkV (s b a:Int):Int×Int:=if tkE s b a=0 then(2,a)else(0,0)
def dpE (s b a:Int):Int:=if ofV s b=0 then 120 else if armB a=false then 1 else if ofV s b=2∧b=a then 0 else 122
def dpV (s b a:Int):Int×Int:=if dpE s b a=0 then(3,0)else(0,0)
abbrev tpE (x:Int×Int) (e:Int):Value:=.tuple #[.agg #[.int .i64 x.1,.int .i64 x.2],.int .i64 e]
theorem of_cases (s b:Int):ofV s b=0∨ofV s b=s:=by
 unfold ofV
 split
 ·exact .inr rfl
 ·split
  ·right;omega
  ·exact .inl rfl
theorem rright_any (s b:Int) (w:World):Calls Tryz.prog 83 #[tpV s b] w fun e w'=>e=.returned (.bool (!(ofV s b==0)))∧Below w.heap.size w w':=by
 have HA:=aH (fun w=>rarm_any b w);by_cases h1:s=1
 ·subst h1;by_cases h0:b=0
  ·subst h0;go_enter Tryz.func83,Tryz.ntmps83;go_wp2
   go_ret
   exact⟨ret_b (by simp[ofV]),bL (bR _ _) _⟩
  ·rw[show ofV 1 b=0 by unfold ofV;rw[if_neg (by omega),if_neg (by omega)]];go_enter Tryz.func83,Tryz.ntmps83;go_wp2
   go_ret
   exact⟨ret_b (by simpa using h0),bL (bR _ _) _⟩
 ·by_cases h3:s=3
  ·subst h3;by_cases h0:b=0
   ·subst h0;go_enter Tryz.func83,Tryz.ntmps83;go_wp2
    go_ret
    exact⟨ret_b (by simp[ofV]),bL (bR _ _) _⟩
   ·rw[show ofV 3 b=0 by unfold ofV;rw[if_neg (by omega),if_neg (by omega)]];go_enter Tryz.func83,Tryz.ntmps83;go_wp2
    go_ret
    exact⟨ret_b (by simpa using h0),bL (bR _ _) _⟩
  ·by_cases h2:s=2
   ·subst h2;rw[show(!(ofV 2 b==0))=armB b by
     unfold ofV armB;by_cases ha:1≤b∧b≤8
     ·rw[if_neg (by omega),if_pos ⟨rfl,ha⟩,dT ha];rfl
     ·rw[if_neg (by omega),if_neg (by omega),dF ha];rfl]
    generalize armB b=c at *;go_enter Tryz.func83,Tryz.ntmps83;go_wp2_with fail;refine(HA.out _).mono ?_;rintro e w1 ⟨rfl,rfl⟩;go_wp2
    go_ret
    exact⟨ret_b (by simp),bL (bR _ _) _⟩
   ·rw[show ofV s b=0 by unfold ofV;rw[if_neg (by omega),if_neg (by omega)]];go_enter Tryz.func83,Tryz.ntmps83;go_wp2
    go_ret
    exact⟨ret_b (by simp),bL (bR _ _) _⟩
theorem holds_any (a s b:Int) (w:World):Calls Tryz.prog 75 #[.int .i64 a,tpV s b] w fun e w'=>e=.returned (.bool (ofV s b==2&&b==a))∧Below w.heap.size w w':=by
 have HA:=aH (fun w=>is_any 2 s b w);generalize (ofV s b==2)=c at *
 cases c
 all_goals
  go_enter Tryz.func75,Tryz.ntmps75;go_wp2_with fail;refine(HA.out _).mono ?_;rintro e w1 ⟨rfl,hb1⟩;obtain⟨hc1,hf1⟩:=bcell hb1;have HB1:=aH hb1;have hz1:w.heap.size<w1.heap.size:=by(have:=hb1.size;(try simp at this) <;> omega)
  clear hb1;go_wp2
  go_ret
  exact⟨ret_b (by simp),Below.box _ HB1.out⟩
theorem turn_take (s b a:Int) (w:World):Calls Tryz.prog 76 #[tpV s b,.int .i64 a,.func (.func 77) #[.int .i64 1] #[],.int .i64 121,tpV 2 a] w fun e w'=>e=.returned (tpE (tkV s b a) (tkE s b a))∧Below w.heap.size w w':=by
 have HR:=aH (fun w=>right_any s b w);have HA:=aH (fun w=>isArm_any a w);have HP:=aH (fun w=>is_any 1 s b w);by_cases h0:ofV s b=0
 ·have T:tkE s b a=120:=by unfold tkE;rw[if_pos h0]
  have U:tkV s b a=(0,0):=by unfold tkV;rw[T];rfl
  rw[T,U];rw[show(!(ofV s b==0))=false by simp[h0]]at HR;clear T U h0;go_enter Tryz.func76,Tryz.ntmps76;go_wp2_with fail;refine(HR.out _).mono ?_;rintro e w1 ⟨rfl,hb1⟩;obtain⟨hc1,hf1⟩:=bcell hb1;have HB1:=aH hb1;have hz1_0:w.heap.size<w1.heap.size:=by(have:=hb1.size;(try simp at this) <;> omega)
  have hz1_1:w.heap.size+1<w1.heap.size:=by(have:=hb1.size;(try simp at this) <;> omega)
  have hz1_2:w.heap.size+2<w1.heap.size:=by(have:=hb1.size;(try simp at this) <;> omega)
  clear hb1;go_wp2;refine bP (v:=.tuple #[.agg #[.int .i64 0,.int .i64 0],.int .i64 120]) (by simp[results,Tryz.results76,go_sem,hc1]) rfl ⟨rfl,?_⟩
  (repeat (first | exact bR _ _ | (with_reducible refine bS ?_ (by simp <;> omega)) | (with_reducible refine bL ?_ _) | (with_reducible refine bC ?_ HB1.out)))
 ·rw[show(!(ofV s b==0))=true by simp[h0]]at HR;by_cases h1:armB a=false
  ·have T:tkE s b a=1:=by unfold tkE;rw[if_neg h0,if_pos h1]
   have U:tkV s b a=(0,0):=by unfold tkV;rw[T];rfl
   rw[T,U];rw[h1]at HA;clear T U h0 h1;go_enter Tryz.func76,Tryz.ntmps76;go_wp2_with fail;refine(HR.out _).mono ?_;rintro e w1 ⟨rfl,hb1⟩;obtain⟨hc1,hf1⟩:=bcell hb1;have HB1:=aH hb1;have hz1_0:w.heap.size<w1.heap.size:=by(have:=hb1.size;(try simp at this) <;> omega)
   have hz1_1:w.heap.size+1<w1.heap.size:=by(have:=hb1.size;(try simp at this) <;> omega)
   have hz1_2:w.heap.size+2<w1.heap.size:=by(have:=hb1.size;(try simp at this) <;> omega)
   clear hb1;go_wp2_with fail;refine(HA.out _).mono ?_;rintro e w2 ⟨rfl,rfl⟩;go_wp2;refine bP (v:=.tuple #[.agg #[.int .i64 0,.int .i64 0],.int .i64 1]) (by simp[results,Tryz.results76,go_sem,hc1]) rfl ⟨rfl,?_⟩
   (repeat (first | exact bR _ _ | (with_reducible refine bS ?_ (by simp <;> omega)) | (with_reducible refine bL ?_ _) | (with_reducible refine bC ?_ HB1.out)))
  ·rw[show armB a=true by simpa using h1]at HA;by_cases h2:ofV s b=1
   ·have T:tkE s b a=0:=by unfold tkE;rw[if_neg h0,if_neg h1,if_pos h2]
    have U:tkV s b a=(2,a):=by unfold tkV;rw[if_pos T]
    rw[T,U];rw[show(ofV s b==1)=true by simp[h2]]at HP;clear T U h0 h1 h2;go_enter Tryz.func76,Tryz.ntmps76;go_wp2_with fail;refine(HR.out _).mono ?_;rintro e w1 ⟨rfl,hb1⟩;obtain⟨hc1,hf1⟩:=bcell hb1;have HB1:=aH hb1;have hz1_0:w.heap.size<w1.heap.size:=by(have:=hb1.size;(try simp at this) <;> omega)
    have hz1_1:w.heap.size+1<w1.heap.size:=by(have:=hb1.size;(try simp at this) <;> omega)
    have hz1_2:w.heap.size+2<w1.heap.size:=by(have:=hb1.size;(try simp at this) <;> omega)
    clear hb1;go_wp2_with fail;refine(HA.out _).mono ?_;rintro e w2 ⟨rfl,rfl⟩;go_wp2_with fail;refine(HP.out _).mono ?_;rintro e w3 ⟨rfl,hb3⟩;obtain⟨hc3,hf3⟩:=bcell hb3;have HB3:=aH hb3;have hz3_0:w.heap.size<w3.heap.size:=by(have:=hb3.size;(try simp at this) <;> omega)
    have hz3_1:w.heap.size+1<w3.heap.size:=by(have:=hb3.size;(try simp at this) <;> omega)
    have hz3_2:w.heap.size+2<w3.heap.size:=by(have:=hb3.size;(try simp at this) <;> omega)
    clear hb3;go_wp2;refine bP (v:=.tuple #[.agg #[.int .i64 2,.int .i64 a],.int .i64 0]) (by simp[results,Tryz.results76,go_sem,hc1,hc3,hz1_2]) rfl ⟨rfl,?_⟩
    (repeat (first | exact bR _ _ | (with_reducible refine bS ?_ (by simp <;> omega)) | (with_reducible refine bL ?_ _) | (with_reducible refine bC ?_ HB1.out) | (with_reducible refine bC ?_ HB3.out)))
   ·have T:tkE s b a=121:=by unfold tkE;rw[if_neg h0,if_neg h1,if_neg h2]
    have U:tkV s b a=(0,0):=by unfold tkV;rw[T];rfl
    rw[T,U];rw[show(ofV s b==1)=false by simpa using h2]at HP;clear T U h0 h1 h2;go_enter Tryz.func76,Tryz.ntmps76;go_wp2_with fail;refine(HR.out _).mono ?_;rintro e w1 ⟨rfl,hb1⟩;obtain⟨hc1,hf1⟩:=bcell hb1;have HB1:=aH hb1;have hz1_0:w.heap.size<w1.heap.size:=by(have:=hb1.size;(try simp at this) <;> omega)
    have hz1_1:w.heap.size+1<w1.heap.size:=by(have:=hb1.size;(try simp at this) <;> omega)
    have hz1_2:w.heap.size+2<w1.heap.size:=by(have:=hb1.size;(try simp at this) <;> omega)
    clear hb1;go_wp2_with fail;refine(HA.out _).mono ?_;rintro e w2 ⟨rfl,rfl⟩;go_wp2_with fail;refine(HP.out _).mono ?_;rintro e w3 ⟨rfl,hb3⟩;obtain⟨hc3,hf3⟩:=bcell hb3;have HB3:=aH hb3;have hz3_0:w.heap.size<w3.heap.size:=by(have:=hb3.size;(try simp at this) <;> omega)
    have hz3_1:w.heap.size+1<w3.heap.size:=by(have:=hb3.size;(try simp at this) <;> omega)
    have hz3_2:w.heap.size+2<w3.heap.size:=by(have:=hb3.size;(try simp at this) <;> omega)
    clear hb3;go_wp2;refine bP (v:=.tuple #[.agg #[.int .i64 0,.int .i64 0],.int .i64 121]) (by simp[results,Tryz.results76,go_sem,hc1,hc3,hz1_2]) rfl ⟨rfl,?_⟩
    (repeat (first | exact bR _ _ | (with_reducible refine bS ?_ (by simp <;> omega)) | (with_reducible refine bL ?_ _) | (with_reducible refine bC ?_ HB1.out) | (with_reducible refine bC ?_ HB3.out)))
theorem take_any (s b a:Int) (w:World):Calls Tryz.prog 43 #[tpV s b,.int .i64 a] w fun e w'=>e=.returned (tpE (tkV s b a) (tkE s b a))∧Below w.heap.size w w':=by
 have HT:=aH (fun w=>turn_take s b a w);generalize tkV s b a=y at *;generalize tkE s b a=z at *;obtain⟨p,q⟩:=y;have hmf:∀(fn:Fn) (first cap:Array Value) (w:World),(Instr.makeFunc fn first cap).run Tryz.prog w=.ok (.func fn first cap) w:=fun _ _ _ _=>rfl;go_enter Tryz.func43,Tryz.ntmps43;go_wp2_with fail;refine(HT.out _).mono ?_;rintro e w1 ⟨rfl,hb1⟩;obtain⟨hc1,hf1⟩:=bcell hb1;have HB1:=aH hb1;have hz1_0:w.heap.size<w1.heap.size:=by(have:=hb1.size;(try simp at this) <;> omega)
 have hz1_1:w.heap.size+1<w1.heap.size:=by(have:=hb1.size;(try simp at this) <;> omega)
 clear hb1;go_wp2;refine bP (v:=.tuple #[.agg #[.int .i64 p,.int .i64 q],.int .i64 z]) (by simp[results,Tryz.results43,go_sem,hc1]) rfl ⟨rfl,?_⟩
 (repeat (first | exact bR _ _ | (with_reducible refine bS ?_ (by simp <;> omega)) | (with_reducible refine bL ?_ _) | (with_reducible refine bC ?_ HB1.out)))
theorem turn_drop (s b a:Int) (w:World):Calls Tryz.prog 76 #[tpV s b,.int .i64 a,.func (.func 75) #[.int .i64 a] #[],.int .i64 122,tpV 3 0] w fun e w'=>e=.returned (tpE (dpV s b a) (dpE s b a))∧Below w.heap.size w w':=by
 have HR:=aH (fun w=>right_any s b w);have HA:=aH (fun w=>isArm_any a w);have HP:=aH (fun w=>holds_any a s b w);by_cases h0:ofV s b=0
 ·have T:dpE s b a=120:=by unfold dpE;rw[if_pos h0]
  have U:dpV s b a=(0,0):=by unfold dpV;rw[T];rfl
  rw[T,U];rw[show(!(ofV s b==0))=false by simp[h0]]at HR;clear T U h0;go_enter Tryz.func76,Tryz.ntmps76;go_wp2_with fail;refine(HR.out _).mono ?_;rintro e w1 ⟨rfl,hb1⟩;obtain⟨hc1,hf1⟩:=bcell hb1;have HB1:=aH hb1;have hz1_0:w.heap.size<w1.heap.size:=by(have:=hb1.size;(try simp at this) <;> omega)
  have hz1_1:w.heap.size+1<w1.heap.size:=by(have:=hb1.size;(try simp at this) <;> omega)
  have hz1_2:w.heap.size+2<w1.heap.size:=by(have:=hb1.size;(try simp at this) <;> omega)
  clear hb1;go_wp2;refine bP (v:=.tuple #[.agg #[.int .i64 0,.int .i64 0],.int .i64 120]) (by simp[results,Tryz.results76,go_sem,hc1]) rfl ⟨rfl,?_⟩
  (repeat (first | exact bR _ _ | (with_reducible refine bS ?_ (by simp <;> omega)) | (with_reducible refine bL ?_ _) | (with_reducible refine bC ?_ HB1.out)))
 ·rw[show(!(ofV s b==0))=true by simp[h0]]at HR;by_cases h1:armB a=false
  ·have T:dpE s b a=1:=by unfold dpE;rw[if_neg h0,if_pos h1]
   have U:dpV s b a=(0,0):=by unfold dpV;rw[T];rfl
   rw[T,U];rw[h1]at HA;clear T U h0 h1;go_enter Tryz.func76,Tryz.ntmps76;go_wp2_with fail;refine(HR.out _).mono ?_;rintro e w1 ⟨rfl,hb1⟩;obtain⟨hc1,hf1⟩:=bcell hb1;have HB1:=aH hb1;have hz1_0:w.heap.size<w1.heap.size:=by(have:=hb1.size;(try simp at this) <;> omega)
   have hz1_1:w.heap.size+1<w1.heap.size:=by(have:=hb1.size;(try simp at this) <;> omega)
   have hz1_2:w.heap.size+2<w1.heap.size:=by(have:=hb1.size;(try simp at this) <;> omega)
   clear hb1;go_wp2_with fail;refine(HA.out _).mono ?_;rintro e w2 ⟨rfl,rfl⟩;go_wp2;refine bP (v:=.tuple #[.agg #[.int .i64 0,.int .i64 0],.int .i64 1]) (by simp[results,Tryz.results76,go_sem,hc1]) rfl ⟨rfl,?_⟩
   (repeat (first | exact bR _ _ | (with_reducible refine bS ?_ (by simp <;> omega)) | (with_reducible refine bL ?_ _) | (with_reducible refine bC ?_ HB1.out)))
  ·rw[show armB a=true by simpa using h1]at HA;by_cases h2:ofV s b=2∧b=a
   ·have T:dpE s b a=0:=by unfold dpE;rw[if_neg h0,if_neg h1,if_pos h2]
    have U:dpV s b a=(3,0):=by unfold dpV;rw[if_pos T]
    rw[T,U];rw[show(ofV s b==2&&b==a)=true by rw[h2.1,h2.2];simp]at HP;clear T U h0 h1 h2;go_enter Tryz.func76,Tryz.ntmps76;go_wp2_with fail;refine(HR.out _).mono ?_;rintro e w1 ⟨rfl,hb1⟩;obtain⟨hc1,hf1⟩:=bcell hb1;have HB1:=aH hb1;have hz1_0:w.heap.size<w1.heap.size:=by(have:=hb1.size;(try simp at this) <;> omega)
    have hz1_1:w.heap.size+1<w1.heap.size:=by(have:=hb1.size;(try simp at this) <;> omega)
    have hz1_2:w.heap.size+2<w1.heap.size:=by(have:=hb1.size;(try simp at this) <;> omega)
    clear hb1;go_wp2_with fail;refine(HA.out _).mono ?_;rintro e w2 ⟨rfl,rfl⟩;go_wp2_with fail;refine(HP.out _).mono ?_;rintro e w3 ⟨rfl,hb3⟩;obtain⟨hc3,hf3⟩:=bcell hb3;have HB3:=aH hb3;have hz3_0:w.heap.size<w3.heap.size:=by(have:=hb3.size;(try simp at this) <;> omega)
    have hz3_1:w.heap.size+1<w3.heap.size:=by(have:=hb3.size;(try simp at this) <;> omega)
    have hz3_2:w.heap.size+2<w3.heap.size:=by(have:=hb3.size;(try simp at this) <;> omega)
    clear hb3;go_wp2;refine bP (v:=.tuple #[.agg #[.int .i64 3,.int .i64 0],.int .i64 0]) (by simp[results,Tryz.results76,go_sem,hc1,hc3,hz1_2]) rfl ⟨rfl,?_⟩
    (repeat (first | exact bR _ _ | (with_reducible refine bS ?_ (by simp <;> omega)) | (with_reducible refine bL ?_ _) | (with_reducible refine bC ?_ HB1.out) | (with_reducible refine bC ?_ HB3.out)))
   ·have T:dpE s b a=122:=by unfold dpE;rw[if_neg h0,if_neg h1,if_neg h2]
    have U:dpV s b a=(0,0):=by unfold dpV;rw[T];rfl
    rw[T,U];rw[show(ofV s b==2&&b==a)=false by simpa using h2]at HP;clear T U h0 h1 h2;go_enter Tryz.func76,Tryz.ntmps76;go_wp2_with fail;refine(HR.out _).mono ?_;rintro e w1 ⟨rfl,hb1⟩;obtain⟨hc1,hf1⟩:=bcell hb1;have HB1:=aH hb1;have hz1_0:w.heap.size<w1.heap.size:=by(have:=hb1.size;(try simp at this) <;> omega)
    have hz1_1:w.heap.size+1<w1.heap.size:=by(have:=hb1.size;(try simp at this) <;> omega)
    have hz1_2:w.heap.size+2<w1.heap.size:=by(have:=hb1.size;(try simp at this) <;> omega)
    clear hb1;go_wp2_with fail;refine(HA.out _).mono ?_;rintro e w2 ⟨rfl,rfl⟩;go_wp2_with fail;refine(HP.out _).mono ?_;rintro e w3 ⟨rfl,hb3⟩;obtain⟨hc3,hf3⟩:=bcell hb3;have HB3:=aH hb3;have hz3_0:w.heap.size<w3.heap.size:=by(have:=hb3.size;(try simp at this) <;> omega)
    have hz3_1:w.heap.size+1<w3.heap.size:=by(have:=hb3.size;(try simp at this) <;> omega)
    have hz3_2:w.heap.size+2<w3.heap.size:=by(have:=hb3.size;(try simp at this) <;> omega)
    clear hb3;go_wp2;refine bP (v:=.tuple #[.agg #[.int .i64 0,.int .i64 0],.int .i64 122]) (by simp[results,Tryz.results76,go_sem,hc1,hc3,hz1_2]) rfl ⟨rfl,?_⟩
    (repeat (first | exact bR _ _ | (with_reducible refine bS ?_ (by simp <;> omega)) | (with_reducible refine bL ?_ _) | (with_reducible refine bC ?_ HB1.out) | (with_reducible refine bC ?_ HB3.out)))
theorem drop_any (s b a:Int) (w:World):Calls Tryz.prog 50 #[tpV s b,.int .i64 a] w fun e w'=>e=.returned (tpE (dpV s b a) (dpE s b a))∧Below w.heap.size w w':=by
 have HT:=aH (fun w=>turn_drop s b a w);generalize dpV s b a=y at *;generalize dpE s b a=z at *;obtain⟨p,q⟩:=y;have hmf:∀(fn:Fn) (first cap:Array Value) (w:World),(Instr.makeFunc fn first cap).run Tryz.prog w=.ok (.func fn first cap) w:=fun _ _ _ _=>rfl;go_enter Tryz.func50,Tryz.ntmps50;go_wp2_with fail;refine(HT.out _).mono ?_;rintro e w1 ⟨rfl,hb1⟩;obtain⟨hc1,hf1⟩:=bcell hb1;have HB1:=aH hb1;have hz1_0:w.heap.size<w1.heap.size:=by(have:=hb1.size;(try simp at this) <;> omega)
 have hz1_1:w.heap.size+1<w1.heap.size:=by(have:=hb1.size;(try simp at this) <;> omega)
 clear hb1;go_wp2;refine bP (v:=.tuple #[.agg #[.int .i64 p,.int .i64 q],.int .i64 z]) (by simp[results,Tryz.results50,go_sem,hc1]) rfl ⟨rfl,?_⟩
 (repeat (first | exact bR _ _ | (with_reducible refine bS ?_ (by simp <;> omega)) | (with_reducible refine bL ?_ _) | (with_reducible refine bC ?_ HB1.out)))
def fstV (p:Nat→Bool) (n:Nat):Int×Bool:=match (List.range n).find? p with | some i=>((i:Int),true) | none=>(0,false)
theorem fst_hit (p:Nat→Bool) (n i:Nat) (hi:i<n) (hp:p i=true) (h:∀j,j<i→p j=false):fstV p n=((i:Int),true):=by
 have e:(List.range n).find? p=some i:=by
  rw[List.find?_range_eq_some];exact⟨hp,List.mem_range.2 hi,fun j hj=>by simp[h j hj]⟩
 unfold fstV;rw[e]
theorem fst_none (p:Nat→Bool) (n:Nat) (h:∀j,j<n→p j=false):fstV p n=(0,false):=by
 have e:(List.range n).find? p=none:=by
  rw[List.find?_range_eq_none];exact fun j hj=>by simp[h j hj]
 unfold fstV;rw[e]
abbrev fsV (x:Int×Bool):Value:=.tuple #[.int .i64 x.1,.bool x.2]
def hdP (xs:List (Int×Int)) (a f:Int) (i:Nat):Bool:=decide (f≤(i:Int))&&(ofV (xs.getD i (0,0)).1 (xs.getD i (0,0)).2==2&&(xs.getD i (0,0)).2==a)
theorem first_held (a:Int) (v:Value) (xs:List (Int×Int)) (f:Int) (hf:fits f) (w:World) (hv:KT.IsL w w.heap.size v xs):Calls Tryz.prog 74 #[v,.int .i64 f,.func (.func 75) #[.int .i64 a] #[]] w fun e w'=>e=.returned (fsV (fstV (hdP xs a f) xs.length))∧Below w.heap.size w w':=by
 obtain⟨A,c,rfl,hc⟩:=hv.shape;have HV:=aH hv;have hl:=hv.2.2;obtain⟨m,hm⟩:∃m:Nat,max f 0=(m:Int):=⟨(max f 0).toNat,by omega⟩;have HM:=aH hm;have hm1:(m:Int)≤9223372036854775807:=by unfold fits at hf;omega
 clear hv hf;go_enter Tryz.func74,Tryz.ntmps74;go_wp2
 all_goals
  go_loopw [8] (fun i wr=>∃k:Nat,i=.int .i64 k∧(k≤m∨k≤xs.length)∧(∀j,j<k→j<xs.length→hdP xs a f j=false)∧(m≤k)∧Below w.heap.size w wr) (fun i _=>xs.length - (intOf i).toNat)
  case atStart=>exact⟨m,num_i (by omega),.inl (nR _),fun j hj _=>by(have:¬f≤(j:Int):=by omega);simp[hdP,this],nR _,bR _ _⟩
  case round=>
   obtain⟨k,rfl,hk,hkp,hmk,hbl⟩:=hrel;have HB:=aH hbl;have HKP:=aH hkp;clear hkp hbl;by_cases hlt:k<xs.length
   ·obtain⟨b,off,rfl,hb,hbc,hcell⟩:=tip_cells (HV.out.below HB.out) (by omega);obtain⟨e1,e2⟩:=hcell k hlt;have hP:hdP xs a f k=(decide (f≤(k:Int))&&(ofV (xs.getD k (0,0)).1 (xs.getD k (0,0)).2==2&&(xs.getD k (0,0)).2==a)):=rfl;rw[show decide (f≤(k:Int))=true from dT (by omega),Bool.true_and]at hP;clear hcell;generalize xs.getD k (0,0)=t at *;obtain⟨t1,t2⟩:=t;dsimp only at *;have HA:=aH (fun w=>holds_any a t1 t2 w);have HP:=aH hP;clear hP;generalize (ofV t1 t2==2&&t2==a)=q at *;have hbw:b<wr.heap.size:=nL hb HB.out.size;go_wp2_with fail;refine(HA.out _).mono ?_;rintro e w2 ⟨rfl,hb2⟩;have HB2:=aH (bC HB.out hb2);clear hb2 e1 e2
    cases q
    ·go_wp2
     go_roundw
     case rel=>exact⟨k+1,num_i (by omega),.inr (by omega),fun j hj hjl=>by
      by_cases h:j=k
      ·subst h;exact HP.out
      ·exact HKP.out j (by omega) hjl,by omega,HB2.out⟩
     case measure=>simp[intOf];omega
    ·go_wp2
     go_ret2
     refine⟨?_,HB2.out⟩;rw[fst_hit _ _ k hlt HP.out fun j hj=>HKP.out j hj (by omega)];rfl
   ·go_wp2
    go_ret2
    refine⟨?_,HB.out⟩;rw[fst_none _ _ fun j hj=>HKP.out j (by omega) hj];rfl
theorem held_any (v:Value) (xs:List (Int×Int)) (a:Int) (w:World) (hv:KT.IsL w w.heap.size v xs):Calls Tryz.prog 41 #[v,.int .i64 a] w fun e w'=>e=.returned (fsV (fstV (hdP xs a 0) xs.length))∧Below w.heap.size w w':=by
 have HF:=aH (first_held a v xs 0 (by unfold fits;omega) w hv);generalize fstV (hdP xs a 0) xs.length=y at *;have hmf:∀(fn:Fn) (first cap:Array Value) (w:World),(Instr.makeFunc fn first cap).run Tryz.prog w=.ok (.func fn first cap) w:=fun _ _ _ _=>rfl;obtain⟨p,q⟩:=y;clear hv;go_enter Tryz.func41,Tryz.ntmps41;go_wp2_with fail;refine HF.out.mono ?_;rintro e w1 ⟨rfl,hb1⟩;have HB1:=aH hb1;clear hb1;go_wp2
 go_ret2
 exact⟨rfl,HB1.out⟩
end Go.Proofs.YtacjonncakhhmaaGreat.Tp
