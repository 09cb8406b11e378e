/- Elements of own lists of cells, of logs and of tips. -/
import Derived.Test.YtmecohdedghiaaaGreatDoorPo00
import Derived.Test.YtmecohdedghiaaaGreatDoorPo04
import Derived.Test.YtmecohdedghiaaaGreatDoorPo12
import Derived.Test.YtmecohdedghiaaaGreatDoorPo11
set_option maxRecDepth 100000
set_option maxHeartbeats 8000000
open Go.Proofs.Tryz
namespace Go.Proofs.YtmecohdedghiaaaGreatDoor.Tp
open Go.RowKit
abbrev tpV (s b:Int):Value:=.agg #[.int .i64 s,.int .i64 b]
def eW (b:Int):Bool:=decide (1≤b∧b≤8)
def ofV (s b:Int):Int:=if (s=1∨s=3)∧b=0 then s else if s=2∧1≤b∧b≤8 then 2 else 0
theorem Below.box {w w':World} (o:Obj) (h:Below (w.alloc o).heap.size (w.alloc o) w'):Bw w w':=bC (bL (bR _ _) o) h
theorem fS (b:Int) (w:World):Calls prog 261 #[.int .i64 b] w fun e w'=>e=.returned (.bool (eW b))∧w=w':=by
 unfold eW;by_cases h1:1≤b
 ·go_enter func261,ntmps261;go_wp2
  go_ret
  exact⟨aj (by simp[h1]),rfl⟩
 ·go_enter func261,ntmps261;go_wp2
  go_ret
  exact⟨aj (by simp;omega),rfl⟩
theorem uC (b:Int) (w:World):Calls prog 169 #[.int .i64 b] w fun e w'=>e=.returned (.bool (eW b))∧w=w':=by
 unfold eW;by_cases h1:1≤b
 ·go_enter func169,ntmps169;go_wp2
  go_ret
  exact⟨aj (by simp[h1]),rfl⟩
 ·go_enter func169,ntmps169;go_wp2
  go_ret
  exact⟨aj (by simp;omega),rfl⟩
theorem of_any (s b:Int) (w:World):Calls prog 251 #[tpV s b] w fun e w'=>e=.returned (.int .i64 (ofV s b))∧Bw w w':=by
 have HA:=aH (fun w=>fS b w);by_cases h1:s=1
 ·subst h1;by_cases h0:b=0
  ·subst h0;go_enter func251,ntmps251;go_wp2
   go_ret
   exact⟨aS rfl,bL (bR _ _) _⟩
  ·rw[show ofV 1 b=0 by unfold ofV;rw[if_neg (by omega),if_neg (by omega)]];go_enter func251,ntmps251;go_wp2
   go_ret
   exact⟨aS rfl,bL (bR _ _) _⟩
 ·by_cases h3:s=3
  ·subst h3;by_cases h0:b=0
   ·subst h0;go_enter func251,ntmps251;go_wp2
    go_ret
    exact⟨aS rfl,bL (bR _ _) _⟩
   ·rw[show ofV 3 b=0 by unfold ofV;rw[if_neg (by omega),if_neg (by omega)]];go_enter func251,ntmps251;go_wp2
    go_ret
    exact⟨aS rfl,bL (bR _ _) _⟩
  ·by_cases h2:s=2
   ·subst h2;by_cases ha:1≤b∧b≤8
    ·rw[show ofV 2 b=2 by unfold ofV;rw[if_neg (by omega),if_pos ⟨rfl,ha⟩]];rw[show eW b=true from dT ha]at HA;clear ha h1 h3;go_enter func251,ntmps251;go_wp2_with fail;refine(HA.out _).mono ?_;rintro e w1 ⟨rfl,rfl⟩;go_wp2
     go_ret
     exact⟨aS rfl,bL (bR _ _) _⟩
    ·rw[show ofV 2 b=0 by unfold ofV;rw[if_neg (by omega),if_neg (by omega)]];rw[show eW b=false from dF ha]at HA;clear ha h1 h3;go_enter func251,ntmps251;go_wp2_with fail;refine(HA.out _).mono ?_;rintro e w1 ⟨rfl,rfl⟩;go_wp2
     go_ret
     exact⟨aS rfl,bL (bR _ _) _⟩
   ·rw[show ofV s b=0 by unfold ofV;rw[if_neg (by omega),if_neg (by omega)]];go_enter func251,ntmps251;go_wp2
    go_ret
    exact⟨aS rfl,bL (bR _ _) _⟩
theorem mU (k s b:Int) (w:World):Calls prog 224 #[.int .i64 k,tpV s b] w fun e w'=>e=.returned (.bool (ofV s b==k))∧Bw w w':=by
 have HA:=aH (fun w=>of_any s b w);generalize ofV s b=c at *;go_enter func224,ntmps224;go_wp2_with fail;refine(HA.out _).mono ?_;rintro e w1 ⟨rfl,CE⟩;have CH:=aH CE;clear CE;go_wp2
 go_ret
 exact⟨aj (by simp),Below.box _ CH.out⟩
theorem right_any (s b:Int) (w:World):Calls prog 165 #[tpV s b] w fun e w'=>e=.returned (.bool (!(ofV s b==0)))∧Bw w w':=by
 have HA:=aH (fun w=>mU 0 s b w);generalize (ofV s b==0)=c at *;go_enter func165,ntmps165;go_wp2_with fail;refine(HA.out _).mono ?_;rintro e w1 ⟨rfl,CE⟩;have CH:=aH CE;clear CE;go_wp2
 go_ret
 exact⟨aj (by simp),Below.box _ CH.out⟩
def tkE (s b a:Int):Int:=if ofV s b=0 then 120 else if eW a=false then 1 else if ofV s b=1 then 0 else 121
def tkV (s b a:Int):Int×Int:=if tkE s b a=0 then(2,a)else(0,0)
def dpE (s b a:Int):Int:=if ofV s b=0 then 120 else if eW a=false then 1 else if ofV s b=2∧b=a then 0 else 122
def dpV (s b a:Int):Int×Int:=if dpE s b a=0 then(3,0)else(0,0)
abbrev tpE (x:Int×Int) (e:Int):Value:=.tuple #[.agg #[.int .i64 x.1,.int .i64 x.2],.int .i64 e]
theorem rright_any (s b:Int) (w:World):Calls prog 114 #[tpV s b] w fun e w'=>e=.returned (.bool (!(ofV s b==0)))∧Bw w w':=by
 have HA:=aH (fun w=>uC b w);by_cases h1:s=1
 ·subst h1;by_cases h0:b=0
  ·subst h0;go_enter func114,ntmps114;go_wp2
   go_ret
   exact⟨aj (by simp[ofV]),bL (bR _ _) _⟩
  ·rw[show ofV 1 b=0 by unfold ofV;rw[if_neg (by omega),if_neg (by omega)]];go_enter func114,ntmps114;go_wp2
   go_ret
   exact⟨aj (by simpa using h0),bL (bR _ _) _⟩
 ·by_cases h3:s=3
  ·subst h3;by_cases h0:b=0
   ·subst h0;go_enter func114,ntmps114;go_wp2
    go_ret
    exact⟨aj (by simp[ofV]),bL (bR _ _) _⟩
   ·rw[show ofV 3 b=0 by unfold ofV;rw[if_neg (by omega),if_neg (by omega)]];go_enter func114,ntmps114;go_wp2
    go_ret
    exact⟨aj (by simpa using h0),bL (bR _ _) _⟩
  ·by_cases h2:s=2
   ·subst h2;rw[show(!(ofV 2 b==0))=eW b by
     unfold ofV eW;by_cases ha:1≤b∧b≤8
     ·rw[if_neg (by omega),if_pos ⟨rfl,ha⟩,dT ha];rfl
     ·rw[if_neg (by omega),if_neg (by omega),dF ha];rfl]
    generalize eW b=c at *;go_enter func114,ntmps114;go_wp2_with fail;refine(HA.out _).mono ?_;rintro e w1 ⟨rfl,rfl⟩;go_wp2
    go_ret
    exact⟨aj (by simp),bL (bR _ _) _⟩
   ·rw[show ofV s b=0 by unfold ofV;rw[if_neg (by omega),if_neg (by omega)]];go_enter func114,ntmps114;go_wp2
    go_ret
    exact⟨aj (by simp),bL (bR _ _) _⟩
theorem j6 (a s b:Int) (w:World):Calls prog 172 #[.int .i64 a,tpV s b] w fun e w'=>e=.returned (.bool (ofV s b==2&&b==a))∧Bw w w':=by
 have HA:=aH (fun w=>mU 2 s b w);generalize (ofV s b==2)=c at *
 cases c
 all_goals
  go_enter func172,ntmps172;go_wp2_with fail;refine(HA.out _).mono ?_;rintro e w1 ⟨rfl,CE⟩;obtain⟨Dn,Ep⟩:=aL CE;have CH:=aH CE;have DZ:w.heap.size<w1.heap.size:=by(have:=CE.size;(try simp at this)<;>omega)
  clear CE;go_wp2
  go_ret
  exact⟨aj (by simp),Below.box _ CH.out⟩
theorem qJ (s b a:Int) (w:World):Calls prog 236 #[tpV s b,.int .i64 a,.func (.func 224) #[.int .i64 1] #[],.int .i64 121,tpV 2 a] w fun e w'=>e=.returned (tpE (tkV s b a) (tkE s b a))∧Bw w w':=by
 have HR:=aH (fun w=>right_any s b w);have HA:=aH (fun w=>fS a w);have HP:=aH (fun w=>mU 1 s b w);by_cases h0:ofV s b=0
 ·have T:tkE s b a=120:=by unfold tkE;rw[if_pos h0]
  have U:tkV s b a=(0,0):=by unfold tkV;rw[T];rfl
  rw[T,U];rw[show(!(ofV s b==0))=false by simp[h0]]at HR;clear T U h0;go_enter func236,ntmps236;go_wp2_with fail;refine(HR.out _).mono ?_;rintro e w1 ⟨rfl,CE⟩;obtain⟨Dn,Ep⟩:=aL CE;have CH:=aH CE;have Dd:w.heap.size<w1.heap.size:=by(have:=CE.size;(try simp at this)<;>omega)
  have Dc:w.heap.size+1<w1.heap.size:=by(have:=CE.size;(try simp at this)<;>omega)
  have Dw:w.heap.size+2<w1.heap.size:=by(have:=CE.size;(try simp at this)<;>omega)
  clear CE;go_wp2;refine bP (v:=.tuple #[.agg #[.int .i64 0,.int .i64 0],.int .i64 120]) (by simp[results,results236,go_sem,Dn]) rfl ⟨rfl,?_⟩;(repeat (first|exact bR _ _|(with_reducible refine bS ?_ (by simp<;>omega))|(with_reducible refine bL ?_ _)|(with_reducible refine bC ?_ CH.out)))
 ·rw[show(!(ofV s b==0))=true by simp[h0]]at HR;by_cases h1:eW a=false
  ·have T:tkE s b a=1:=(by unfold tkE;rw[if_neg h0,if_pos h1]);have U:tkV s b a=(0,0):=(by unfold tkV;rw[T];rfl);rw[T,U];rw[h1]at HA;clear T U h0 h1;go_enter func236,ntmps236;go_wp2_with fail;refine(HR.out _).mono ?_;rintro e w1 ⟨rfl,CE⟩;obtain⟨Dn,Ep⟩:=aL CE;have CH:=aH CE;have Dd:w.heap.size<w1.heap.size:=(by(have:=CE.size;(try simp at this)<;>omega));have Dc:w.heap.size+1<w1.heap.size:=(by(have:=CE.size;(try simp at this)<;>omega));have Dw:w.heap.size+2<w1.heap.size:=(by(have:=CE.size;(try simp at this)<;>omega));clear CE;go_wp2_with fail;refine(HA.out _).mono ?_;rintro e w2 ⟨rfl,rfl⟩;go_wp2;refine bP (v:=.tuple #[.agg #[.int .i64 0,.int .i64 0],.int .i64 1]) (by simp[results,results236,go_sem,Dn]) rfl ⟨rfl,?_⟩;(repeat (first|exact bR _ _|(with_reducible refine bS ?_ (by simp<;>omega))|(with_reducible refine bL ?_ _)|(with_reducible refine bC ?_ CH.out)))
  ·rw[show eW a=true by simpa using h1]at HA;by_cases h2:ofV s b=1
   ·have T:tkE s b a=0:=(by unfold tkE;rw[if_neg h0,if_neg h1,if_pos h2]);have U:tkV s b a=(2,a):=(by unfold tkV;rw[if_pos T]);rw[T,U];rw[show(ofV s b==1)=true by simp[h2]]at HP;clear T U h0 h1 h2;go_enter func236,ntmps236;go_wp2_with fail;refine(HR.out _).mono ?_;rintro e w1 ⟨rfl,CE⟩;obtain⟨Dn,Ep⟩:=aL CE;have CH:=aH CE;have Dd:w.heap.size<w1.heap.size:=(by(have:=CE.size;(try simp at this)<;>omega));have Dc:w.heap.size+1<w1.heap.size:=(by(have:=CE.size;(try simp at this)<;>omega));have Dw:w.heap.size+2<w1.heap.size:=(by(have:=CE.size;(try simp at this)<;>omega));clear CE;go_wp2_with fail;refine(HA.out _).mono ?_;rintro e w2 ⟨rfl,rfl⟩;go_wp2_with fail;refine(HP.out _).mono ?_;rintro e w3 ⟨rfl,CO⟩;obtain⟨FW,hf3⟩:=aL CO;have CS:=aH CO;have Fg:w.heap.size<w3.heap.size:=(by(have:=CO.size;(try simp at this)<;>omega));have Fj:w.heap.size+1<w3.heap.size:=(by(have:=CO.size;(try simp at this)<;>omega));have Fe:w.heap.size+2<w3.heap.size:=(by(have:=CO.size;(try simp at this)<;>omega));clear CO;go_wp2;refine bP (v:=.tuple #[.agg #[.int .i64 2,.int .i64 a],.int .i64 0]) (by simp[results,results236,go_sem,Dn,FW,Dw]) rfl ⟨rfl,?_⟩;(repeat (first|exact bR _ _|(with_reducible refine bS ?_ (by simp<;>omega))|(with_reducible refine bL ?_ _)|(with_reducible refine bC ?_ CH.out)|(with_reducible refine bC ?_ CS.out)))
   ·have T:tkE s b a=121:=(by unfold tkE;rw[if_neg h0,if_neg h1,if_neg h2]);have U:tkV s b a=(0,0):=(by unfold tkV;rw[T];rfl);rw[T,U];rw[show(ofV s b==1)=false by simpa using h2]at HP;clear T U h0 h1 h2;go_enter func236,ntmps236;go_wp2_with fail;refine(HR.out _).mono ?_;rintro e w1 ⟨rfl,CE⟩;obtain⟨Dn,Ep⟩:=aL CE;have CH:=aH CE;have Dd:w.heap.size<w1.heap.size:=(by(have:=CE.size;(try simp at this)<;>omega));have Dc:w.heap.size+1<w1.heap.size:=(by(have:=CE.size;(try simp at this)<;>omega));have Dw:w.heap.size+2<w1.heap.size:=(by(have:=CE.size;(try simp at this)<;>omega));clear CE;go_wp2_with fail;refine(HA.out _).mono ?_;rintro e w2 ⟨rfl,rfl⟩;go_wp2_with fail;refine(HP.out _).mono ?_;rintro e w3 ⟨rfl,CO⟩;obtain⟨FW,hf3⟩:=aL CO;have CS:=aH CO;have Fg:w.heap.size<w3.heap.size:=(by(have:=CO.size;(try simp at this)<;>omega));have Fj:w.heap.size+1<w3.heap.size:=(by(have:=CO.size;(try simp at this)<;>omega));have Fe:w.heap.size+2<w3.heap.size:=(by(have:=CO.size;(try simp at this)<;>omega));clear CO;go_wp2;refine bP (v:=.tuple #[.agg #[.int .i64 0,.int .i64 0],.int .i64 121]) (by simp[results,results236,go_sem,Dn,FW,Dw]) rfl ⟨rfl,?_⟩;(repeat (first|exact bR _ _|(with_reducible refine bS ?_ (by simp<;>omega))|(with_reducible refine bL ?_ _)|(with_reducible refine bC ?_ CH.out)|(with_reducible refine bC ?_ CS.out)))
theorem take_any (s b a:Int) (w:World):Calls prog 189 #[tpV s b,.int .i64 a] w fun e w'=>e=.returned (tpE (tkV s b a) (tkE s b a))∧Bw w w':=by
 have HT:=aH (fun w=>qJ s b a w);generalize tkV s b a=y at *;generalize tkE s b a=z at *;obtain⟨p,q⟩:=y;have FE:∀(fn:Fn) (first cap:Array Value) (w:World),(Instr.makeFunc fn first cap).run prog w=.ok (.func fn first cap) w:=fun _ _ _ _=>rfl;go_enter func189,ntmps189;go_wp2_with fail;refine(HT.out _).mono ?_;rintro e w1 ⟨rfl,CE⟩;obtain⟨Dn,Ep⟩:=aL CE;have CH:=aH CE;have Dd:w.heap.size<w1.heap.size:=by(have:=CE.size;(try simp at this)<;>omega)
 have Dc:w.heap.size+1<w1.heap.size:=by(have:=CE.size;(try simp at this)<;>omega)
 clear CE;go_wp2;refine bP (v:=.tuple #[.agg #[.int .i64 p,.int .i64 q],.int .i64 z]) (by simp[results,results189,go_sem,Dn]) rfl ⟨rfl,?_⟩;(repeat (first|exact bR _ _|(with_reducible refine bS ?_ (by simp<;>omega))|(with_reducible refine bL ?_ _)|(with_reducible refine bC ?_ CH.out)))
theorem qI (s b a:Int) (w:World):Calls prog 236 #[tpV s b,.int .i64 a,.func (.func 172) #[.int .i64 a] #[],.int .i64 122,tpV 3 0] w fun e w'=>e=.returned (tpE (dpV s b a) (dpE s b a))∧Bw w w':=by
 have HR:=aH (fun w=>right_any s b w);have HA:=aH (fun w=>fS a w);have HP:=aH (fun w=>j6 a s b w);by_cases h0:ofV s b=0
 ·have T:dpE s b a=120:=by unfold dpE;rw[if_pos h0]
  have U:dpV s b a=(0,0):=by unfold dpV;rw[T];rfl
  rw[T,U];rw[show(!(ofV s b==0))=false by simp[h0]]at HR;clear T U h0;go_enter func236,ntmps236;go_wp2_with fail;refine(HR.out _).mono ?_;rintro e w1 ⟨rfl,CE⟩;obtain⟨Dn,Ep⟩:=aL CE;have CH:=aH CE;have Dd:w.heap.size<w1.heap.size:=by(have:=CE.size;(try simp at this)<;>omega)
  have Dc:w.heap.size+1<w1.heap.size:=by(have:=CE.size;(try simp at this)<;>omega)
  have Dw:w.heap.size+2<w1.heap.size:=by(have:=CE.size;(try simp at this)<;>omega)
  clear CE;go_wp2;refine bP (v:=.tuple #[.agg #[.int .i64 0,.int .i64 0],.int .i64 120]) (by simp[results,results236,go_sem,Dn]) rfl ⟨rfl,?_⟩;(repeat (first|exact bR _ _|(with_reducible refine bS ?_ (by simp<;>omega))|(with_reducible refine bL ?_ _)|(with_reducible refine bC ?_ CH.out)))
 ·rw[show(!(ofV s b==0))=true by simp[h0]]at HR;by_cases h1:eW a=false
  ·have T:dpE s b a=1:=(by unfold dpE;rw[if_neg h0,if_pos h1]);have U:dpV s b a=(0,0):=(by unfold dpV;rw[T];rfl);rw[T,U];rw[h1]at HA;clear T U h0 h1;go_enter func236,ntmps236;go_wp2_with fail;refine(HR.out _).mono ?_;rintro e w1 ⟨rfl,CE⟩;obtain⟨Dn,Ep⟩:=aL CE;have CH:=aH CE;have Dd:w.heap.size<w1.heap.size:=(by(have:=CE.size;(try simp at this)<;>omega));have Dc:w.heap.size+1<w1.heap.size:=(by(have:=CE.size;(try simp at this)<;>omega));have Dw:w.heap.size+2<w1.heap.size:=(by(have:=CE.size;(try simp at this)<;>omega));clear CE;go_wp2_with fail;refine(HA.out _).mono ?_;rintro e w2 ⟨rfl,rfl⟩;go_wp2;refine bP (v:=.tuple #[.agg #[.int .i64 0,.int .i64 0],.int .i64 1]) (by simp[results,results236,go_sem,Dn]) rfl ⟨rfl,?_⟩;(repeat (first|exact bR _ _|(with_reducible refine bS ?_ (by simp<;>omega))|(with_reducible refine bL ?_ _)|(with_reducible refine bC ?_ CH.out)))
  ·rw[show eW a=true by simpa using h1]at HA;by_cases h2:ofV s b=2∧b=a
   ·have T:dpE s b a=0:=(by unfold dpE;rw[if_neg h0,if_neg h1,if_pos h2]);have U:dpV s b a=(3,0):=(by unfold dpV;rw[if_pos T]);rw[T,U];rw[show(ofV s b==2&&b==a)=true by rw[h2.1,h2.2];simp]at HP;clear T U h0 h1 h2;go_enter func236,ntmps236;go_wp2_with fail;refine(HR.out _).mono ?_;rintro e w1 ⟨rfl,CE⟩;obtain⟨Dn,Ep⟩:=aL CE;have CH:=aH CE;have Dd:w.heap.size<w1.heap.size:=(by(have:=CE.size;(try simp at this)<;>omega));have Dc:w.heap.size+1<w1.heap.size:=(by(have:=CE.size;(try simp at this)<;>omega));have Dw:w.heap.size+2<w1.heap.size:=(by(have:=CE.size;(try simp at this)<;>omega));clear CE;go_wp2_with fail;refine(HA.out _).mono ?_;rintro e w2 ⟨rfl,rfl⟩;go_wp2_with fail;refine(HP.out _).mono ?_;rintro e w3 ⟨rfl,CO⟩;obtain⟨FW,hf3⟩:=aL CO;have CS:=aH CO;have Fg:w.heap.size<w3.heap.size:=(by(have:=CO.size;(try simp at this)<;>omega));have Fj:w.heap.size+1<w3.heap.size:=(by(have:=CO.size;(try simp at this)<;>omega));have Fe:w.heap.size+2<w3.heap.size:=(by(have:=CO.size;(try simp at this)<;>omega));clear CO;go_wp2;refine bP (v:=.tuple #[.agg #[.int .i64 3,.int .i64 0],.int .i64 0]) (by simp[results,results236,go_sem,Dn,FW,Dw]) rfl ⟨rfl,?_⟩;(repeat (first|exact bR _ _|(with_reducible refine bS ?_ (by simp<;>omega))|(with_reducible refine bL ?_ _)|(with_reducible refine bC ?_ CH.out)|(with_reducible refine bC ?_ CS.out)))
   ·have T:dpE s b a=122:=(by unfold dpE;rw[if_neg h0,if_neg h1,if_neg h2]);have U:dpV s b a=(0,0):=(by unfold dpV;rw[T];rfl);rw[T,U];rw[show(ofV s b==2&&b==a)=false by simpa using h2]at HP;clear T U h0 h1 h2;go_enter func236,ntmps236;go_wp2_with fail;refine(HR.out _).mono ?_;rintro e w1 ⟨rfl,CE⟩;obtain⟨Dn,Ep⟩:=aL CE;have CH:=aH CE;have Dd:w.heap.size<w1.heap.size:=(by(have:=CE.size;(try simp at this)<;>omega));have Dc:w.heap.size+1<w1.heap.size:=(by(have:=CE.size;(try simp at this)<;>omega));have Dw:w.heap.size+2<w1.heap.size:=(by(have:=CE.size;(try simp at this)<;>omega));clear CE;go_wp2_with fail;refine(HA.out _).mono ?_;rintro e w2 ⟨rfl,rfl⟩;go_wp2_with fail;refine(HP.out _).mono ?_;rintro e w3 ⟨rfl,CO⟩;obtain⟨FW,hf3⟩:=aL CO;have CS:=aH CO;have Fg:w.heap.size<w3.heap.size:=(by(have:=CO.size;(try simp at this)<;>omega));have Fj:w.heap.size+1<w3.heap.size:=(by(have:=CO.size;(try simp at this)<;>omega));have Fe:w.heap.size+2<w3.heap.size:=(by(have:=CO.size;(try simp at this)<;>omega));clear CO;go_wp2;refine bP (v:=.tuple #[.agg #[.int .i64 0,.int .i64 0],.int .i64 122]) (by simp[results,results236,go_sem,Dn,FW,Dw]) rfl ⟨rfl,?_⟩;(repeat (first|exact bR _ _|(with_reducible refine bS ?_ (by simp<;>omega))|(with_reducible refine bL ?_ _)|(with_reducible refine bC ?_ CH.out)|(with_reducible refine bC ?_ CS.out)))
theorem drop_any (s b a:Int) (w:World):Calls prog 191 #[tpV s b,.int .i64 a] w fun e w'=>e=.returned (tpE (dpV s b a) (dpE s b a))∧Bw w w':=by
 have HT:=aH (fun w=>qI s b a w);generalize dpV s b a=y at *;generalize dpE s b a=z at *;obtain⟨p,q⟩:=y;have FE:∀(fn:Fn) (first cap:Array Value) (w:World),(Instr.makeFunc fn first cap).run prog w=.ok (.func fn first cap) w:=fun _ _ _ _=>rfl;go_enter func191,ntmps191;go_wp2_with fail;refine(HT.out _).mono ?_;rintro e w1 ⟨rfl,CE⟩;obtain⟨Dn,Ep⟩:=aL CE;have CH:=aH CE;have Dd:w.heap.size<w1.heap.size:=by(have:=CE.size;(try simp at this)<;>omega)
 have Dc:w.heap.size+1<w1.heap.size:=by(have:=CE.size;(try simp at this)<;>omega)
 clear CE;go_wp2;refine bP (v:=.tuple #[.agg #[.int .i64 p,.int .i64 q],.int .i64 z]) (by simp[results,results191,go_sem,Dn]) rfl ⟨rfl,?_⟩;(repeat (first|exact bR _ _|(with_reducible refine bS ?_ (by simp<;>omega))|(with_reducible refine bL ?_ _)|(with_reducible refine bC ?_ CH.out)))
def fstV (p:Nat→Bool) (n:Nat):Int×Bool:=match (List.range n).find? p with|some i=>((i:Int),true)|none=>(0,false)
theorem xr (p:Nat→Bool) (n i:Nat) (hi:i<n) (hp:p i=true) (h:∀j,j<i→p j=false):fstV p n=((i:Int),true):=by
 have e:(List.range n).find? p=some i:=by
  rw[List.find?_range_eq_some];exact⟨hp,List.mem_range.2 hi,fun j hj=>by simp[h j hj]⟩
 unfold fstV;rw[e]
theorem tf (p:Nat→Bool) (n:Nat) (h:∀j,j<n→p j=false):fstV p n=(0,false):=by
 have e:(List.range n).find? p=none:=by
  rw[List.find?_range_eq_none];exact fun j hj=>by simp[h j hj]
 unfold fstV;rw[e]
abbrev Cj (x:Int×Bool):Value:=.tuple #[.int .i64 x.1,.bool x.2]
def hdP (xs:List (Int×Int)) (a f:Int) (i:Nat):Bool:=decide (f≤(i:Int))&&(ofV (xs.getD i (0,0)).1 (xs.getD i (0,0)).2==2&&(xs.getD i (0,0)).2==a)
theorem nJ (a:Int) (v:Value) (xs:List (Int×Int)) (f:Int) (hf:ae f) (w:World) (hv:KT.IsL w w.heap.size v xs):Calls prog 171 #[v,.int .i64 f,.func (.func 172) #[.int .i64 a] #[]] w fun e w'=>e=.returned (Cj (fstV (hdP xs a f) xs.length))∧Bw w w':=by
 obtain⟨A,c,rfl,hc⟩:=hv.shape;have HV:=aH hv;have hl:=hv.2.2;obtain⟨m,hm⟩:∃m:Nat,max f 0=(m:Int):=⟨(max f 0).toNat,by omega⟩;have HM:=aH hm;have Jt:(m:Int)≤9223372036854775807:=by unfold ae at hf;omega
 clear hv hf;go_enter func171,ntmps171;go_wp2;all_goals
  go_loopw [8] (fun i wr=>∃k:Nat,i=.int .i64 k∧(k≤m∨k≤xs.length)∧(∀j,j<k→j<xs.length→hdP xs a f j=false)∧(m≤k)∧Bw w wr) (fun i _=>xs.length-(intOf i).toNat)
  case atStart=>exact⟨m,ai (by omega),.inl (nR _),fun j hj _=>by(have:¬f≤(j:Int):=by omega);simp[hdP,this],nR _,bR _ _⟩
  case round=>
   obtain⟨k,rfl,hk,hkp,hmk,CP⟩:=hrel;have HB:=aH CP;have Hl:=aH hkp;clear hkp CP;by_cases CI:k<xs.length
   ·obtain⟨b,off,rfl,hb,hbc,CD⟩:=dk (HV.out.below HB.out) (by omega);obtain⟨e1,e2⟩:=CD k CI;have hP:hdP xs a f k=(decide (f≤(k:Int))&&(ofV (xs.getD k (0,0)).1 (xs.getD k (0,0)).2==2&&(xs.getD k (0,0)).2==a)):=rfl;rw[show decide (f≤(k:Int))=true from dT (by omega),Bool.true_and]at hP;clear CD;generalize xs.getD k (0,0)=t at *;obtain⟨t1,t2⟩:=t;dsimp only at *;have HA:=aH (fun w=>j6 a t1 t2 w);have HP:=aH hP;clear hP;generalize (ofV t1 t2==2&&t2==a)=q at *;have Jm:b<wr.heap.size:=nL hb HB.out.size;go_wp2_with fail;refine(HA.out _).mono ?_;rintro e w2 ⟨rfl,CM⟩;have CL:=aH (bC HB.out CM);clear CM e1 e2
    cases q
    ·go_wp2
     go_roundw
     case rel=>exact⟨k+1,ai (by omega),.inr (by omega),fun j hj hjl=>by
      by_cases h:j=k
      ·subst h;exact HP.out
      ·exact Hl.out j (by omega) hjl,by omega,CL.out⟩
     case measure=>simp[intOf];omega
    ·go_wp2
     go_ret2
     refine⟨?_,CL.out⟩;rw[xr _ _ k CI HP.out fun j hj=>Hl.out j hj (by omega)];rfl
   ·go_wp2
    go_ret2
    refine⟨?_,HB.out⟩;rw[tf _ _ fun j hj=>Hl.out j (by omega) hj];rfl
theorem held_any (v:Value) (xs:List (Int×Int)) (a:Int) (w:World) (hv:KT.IsL w w.heap.size v xs):Calls prog 116 #[v,.int .i64 a] w fun e w'=>e=.returned (Cj (fstV (hdP xs a 0) xs.length))∧Bw w w':=by
 have HF:=aH (nJ a v xs 0 (by unfold ae;omega) w hv);generalize fstV (hdP xs a 0) xs.length=y at *;have FE:∀(fn:Fn) (first cap:Array Value) (w:World),(Instr.makeFunc fn first cap).run prog w=.ok (.func fn first cap) w:=fun _ _ _ _=>rfl;obtain⟨p,q⟩:=y;clear hv;go_enter func116,ntmps116;go_wp2_with fail;refine HF.out.mono ?_;rintro e w1 ⟨rfl,CE⟩;have CH:=aH CE;clear CE;go_wp2
 go_ret2
 exact⟨rfl,CH.out⟩
end Go.Proofs.YtmecohdedghiaaaGreatDoor.Tp
namespace Go.Proofs.YtmecohdedghiaaaGreatDoor
open Go.RowKit
def ka (q:Cel.Ce):List Value:=[.int .i64 q.a,.int .i64 q.b,.int .i64 q.c]
def aM:Cel.Ce:=⟨0,0,0⟩
noncomputable def KE:Lk prog Cel.Ce where
 S:=37
 E:=70
 n:=3
 zero:=.agg #[.int .i64 0,.int .i64 0,.int .i64 0]
 bytes:=24
 cells:=ka
 dflt:=aM
 ok:=fun q=>q.Fit
 und:=underlying37
 info:=by kernel_rfl
 zs:=rfl
 pos:=by decide
 small:=by decide
 len _:=rfl
 one x u hu:=by
  simp only[ka,List.mem_cons,List.not_mem_nil,or_false]at hu;rcases hu with rfl|rfl|rfl<;>rfl
structure Lo where
 r:Int
 l:Int
 A:Option Addr
 c:Nat
 xs:List Ch
def gP (q:Lo):List Value:=[.int .i64 q.r,.int .i64 q.l,.slice q.A q.xs.length q.c]
def av:Lo:=⟨0,0,none,0,[]⟩
noncomputable def KL:Lk prog Lo where
 S:=38
 E:=115
 n:=3
 zero:=.agg #[.int .i64 0,.int .i64 0,.slice none 0 0]
 bytes:=40
 cells:=gP
 dflt:=av
 ok:=fun q=>ae q.r∧ae q.l
 und:=underlying38
 info:=by kernel_rfl
 zs:=rfl
 pos:=by decide
 small:=by decide
 len _:=rfl
 one x u hu:=by
  simp only[gP,List.mem_cons,List.not_mem_nil,or_false]at hu;rcases hu with rfl|rfl|rfl<;>rfl
theorem bt {w:World} {B:Nat} {A:Option Addr} {n c:Nat} {xs:List Cel.Ce} (h:KE.IsL w B (.slice A n c) xs) (h0:0<xs.length):∃b off,A=some ⟨b,off,none⟩∧b<B∧xs.length≤c∧
  ∀i,i<xs.length→w.cell? ⟨b,off+i*3,none⟩=some (.int .i64 (xs.getD i aM).a)∧w.cell? ⟨b,off+i*3+1,none⟩=some (.int .i64 (xs.getD i aM).b)∧w.cell? ⟨b,off+i*3+2,none⟩=some (.int .i64 (xs.getD i aM).c):=by
 obtain⟨b,off,e,hb,hc,CD⟩:=h.elem h0;refine⟨b,off,e,hb,hc,fun i hi=>?_⟩;have q:=fun j u hu=>CD i hi j u hu;have hn:KE.n=3:=rfl;simp only[hn,←Nat.add_assoc]at q;exact⟨q 0 _ rfl,q 1 _ rfl,q 2 _ rfl⟩
theorem cD {w:World} {B:Nat} {A:Option Addr} {n c:Nat} {xs:List Lo} (h:KL.IsL w B (.slice A n c) xs) (h0:0<xs.length):∃b off,A=some ⟨b,off,none⟩∧b<B∧xs.length≤c∧
  ∀i,i<xs.length→w.cell? ⟨b,off+i*3,none⟩=some (.int .i64 (xs.getD i av).r)∧w.cell? ⟨b,off+i*3+1,none⟩=some (.int .i64 (xs.getD i av).l)∧w.cell? ⟨b,off+i*3+2,none⟩=some (.slice (xs.getD i av).A (xs.getD i av).xs.length (xs.getD i av).c):=by
 obtain⟨b,off,e,hb,hc,CD⟩:=h.elem h0;refine⟨b,off,e,hb,hc,fun i hi=>?_⟩;have q:=fun j u hu=>CD i hi j u hu;have hn:KL.n=3:=rfl;simp only[hn,←Nat.add_assoc]at q;exact⟨q 0 _ rfl,q 1 _ rfl,q 2 _ rfl⟩
structure Stk where
 cA:Option Addr
 cc:Nat
 cl:List Cel.Ce
 lA:Option Addr
 lc:Nat
 ll:List Lo
 tA:Option Addr
 tc:Nat
 tl:List (Int×Int)
 st:Int
 inn:Int
 out:Int
abbrev Stk.v (s:Stk):Value:=.agg #[.slice s.cA s.cl.length s.cc,.slice s.lA s.ll.length s.lc,.slice s.tA s.tl.length s.tc,.int .i64 s.st,.int .i64 s.inn,.int .i64 s.out]
structure Stk.In (w:World) (B:Nat) (s:Stk):Prop where
 c:KE.IsL w B (.slice s.cA s.cl.length s.cc) s.cl
 l:KL.IsL w B (.slice s.lA s.ll.length s.lc) s.ll
 t:KT.IsL w B (.slice s.tA s.tl.length s.tc) s.tl
 x:∀q∈s.ll,KC.IsL w B (.slice q.A q.xs.length q.c) q.xs
 f:ae s.st∧ae s.inn∧ae s.out
theorem Stk.In.below {w w':World} {B:Nat} {s:Stk} (h:s.In w B) (hb:Below B w w'):s.In w' B:=⟨h.c.below hb,h.l.below hb,h.t.below hb,fun q hq=>(h.x q hq).below hb,h.f⟩
theorem Stk.In.more {w:World} {B B':Nat} {s:Stk} (h:s.In w B) (hB:B≤B'):s.In w B':=⟨h.c.more hB,h.l.more hB,h.t.more hB,fun q hq=>(h.x q hq).more hB,h.f⟩
theorem Stk.In.then {w w':World} {s:Stk} (h:s.In w w.heap.size) (hb:Bw w w'):s.In w' w'.heap.size:=(h.below hb).more hb.size
structure Ab where
 c:List Cel.Ce
 l:List (Int×Int×List Ch)
 t:List (Int×Int)
 st:Int
 inn:Int
 out:Int
def Lo.ab (q:Lo):Int×Int×List Ch:=(q.r,q.l,q.xs)
def Stk.ab (s:Stk):Ab:=⟨s.cl,s.ll.map Lo.ab,s.tl,s.st,s.inn,s.out⟩
def fP:Ab:=⟨[],[],[],0,0,0⟩
def stk0:Stk:=⟨none,0,[],none,0,[],none,0,[],0,0,0⟩
theorem ex (w:World) (B:Nat):stk0.In w B:=⟨Lk.IsL.nil _ _ _ _,Lk.IsL.nil _ _ _ _,Lk.IsL.nil _ _ _ _,fun q hq=>by simp[stk0]at hq,by decide,by decide,by decide⟩
def Cells4 (V:World) (D:Nat) (x0 x1 x2 x3:Value):Prop:=
 V.cell? ⟨D,0,none⟩=some x0∧V.cell? ⟨D,1,none⟩=some x1∧V.cell? ⟨D,2,none⟩=some x2∧V.cell? ⟨D,3,none⟩=some x3∧
 V.frozen? ⟨D,0,none⟩=false∧V.frozen? ⟨D,1,none⟩=false∧V.frozen? ⟨D,2,none⟩=false∧V.frozen? ⟨D,3,none⟩=false∧D<V.heap.size
theorem Cells4.new (V:World) (t:TypeId) (x0 x1 x2 x3:Value):Cells4 (V.alloc (.cells #[x0,x1,x2,x3] t)) V.heap.size x0 x1 x2 x3:=
 ⟨by rw[ah];rfl,by rw[ah];rfl,by rw[ah];rfl,by rw[ah];rfl,by simp,by simp,by simp,by simp,by simp⟩
theorem Cells4.below {V V':World} {D:Nat} {x0 x1 x2 x3:Value} (h:Cells4 V D x0 x1 x2 x3) (hb:Bw V V'):Cells4 V' D x0 x1 x2 x3:=by
 obtain⟨h0,h1,h2,h3,z0,z1,z2,z3,hs⟩:=h;refine⟨kK hb h0,kK hb h1,kK hb h2,kK hb h3,?_,?_,?_,?_,nL hs hb.size⟩
 ·rw[hb.frozen (p:=⟨D,0,none⟩) hs];exact z0
 ·rw[hb.frozen (p:=⟨D,1,none⟩) hs];exact z1
 ·rw[hb.frozen (p:=⟨D,2,none⟩) hs];exact z2
 ·rw[hb.frozen (p:=⟨D,3,none⟩) hs];exact z3
theorem Cells4.set {V:World} {D:Nat} {x0 x1 x2 x3:Value} (h:Cells4 V D x0 x1 x2 x3) (p0 p1 p2 p3:Value):Cells4 ((((V.setCell ⟨D,0,none⟩ p0).setCell ⟨D,1,none⟩ p1).setCell ⟨D,2,none⟩ p2).setCell ⟨D,3,none⟩ p3) D p0 p1 p2 p3:=by
 obtain⟨h0,h1,h2,h3,z0,z1,z2,z3,hs⟩:=h;refine⟨sO (sO (sO (ag (h0)) (aN (.inr (by decide)))) (aN (.inr (by decide)))) (aN (.inr (by decide))),sO (sO (ag (sO (h1) (aN (.inr (by decide))))) (aN (.inr (by decide)))) (aN (.inr (by decide))),sO (ag (sO (sO (h2) (aN (.inr (by decide)))) (aN (.inr (by decide))))) (aN (.inr (by decide))),ag (sO (sO (sO (h3) (aN (.inr (by decide)))) (aN (.inr (by decide)))) (aN (.inr (by decide)))),sF (sF (sF (sF (z0)))),sF (sF (sF (sF (z1)))),sF (sF (sF (sF (z2)))),sF (sF (sF (sF (z3)))),?_⟩;simpa using hs
theorem Cells4.apart {V:World} {D G:Nat} {x0 x1 x2 x3:Value} (h:Cells4 V G x0 x1 x2 x3) (CJ:D≠G) (p0 p1 p2 p3:Value):Cells4 ((((V.setCell ⟨D,0,none⟩ p0).setCell ⟨D,1,none⟩ p1).setCell ⟨D,2,none⟩ p2).setCell ⟨D,3,none⟩ p3) G x0 x1 x2 x3:=by
 obtain⟨h0,h1,h2,h3,z0,z1,z2,z3,hs⟩:=h;refine⟨sO (sO (sO (sO (h0) (aN (.inl CJ))) (aN (.inl CJ))) (aN (.inl CJ))) (aN (.inl CJ)),sO (sO (sO (sO (h1) (aN (.inl CJ))) (aN (.inl CJ))) (aN (.inl CJ))) (aN (.inl CJ)),sO (sO (sO (sO (h2) (aN (.inl CJ))) (aN (.inl CJ))) (aN (.inl CJ))) (aN (.inl CJ)),sO (sO (sO (sO (h3) (aN (.inl CJ))) (aN (.inl CJ))) (aN (.inl CJ))) (aN (.inl CJ)),sF (sF (sF (sF (z0)))),sF (sF (sF (sF (z1)))),sF (sF (sF (sF (z2)))),sF (sF (sF (sF (z3)))),?_⟩;simpa using hs
theorem Cells6.apart {V:World} {D G:Nat} {x0 x1 x2 x3 x4 x5:Value} (h:Cells6 V G x0 x1 x2 x3 x4 x5) (CJ:D≠G) (p0 p1 p2 p3 p4 p5:Value):Cells6 ((((((V.setCell ⟨D,0,none⟩ p0).setCell ⟨D,1,none⟩ p1).setCell ⟨D,2,none⟩ p2).setCell ⟨D,3,none⟩ p3).setCell ⟨D,4,none⟩ p4).setCell ⟨D,5,none⟩ p5) G x0 x1 x2 x3 x4 x5:=by
 obtain⟨h0,h1,h2,h3,h4,h5,z0,z1,z2,z3,z4,z5,hs⟩:=h;refine⟨sO (sO (sO (sO (sO (sO (h0) (aN (.inl CJ))) (aN (.inl CJ))) (aN (.inl CJ))) (aN (.inl CJ))) (aN (.inl CJ))) (aN (.inl CJ)),sO (sO (sO (sO (sO (sO (h1) (aN (.inl CJ))) (aN (.inl CJ))) (aN (.inl CJ))) (aN (.inl CJ))) (aN (.inl CJ))) (aN (.inl CJ)),sO (sO (sO (sO (sO (sO (h2) (aN (.inl CJ))) (aN (.inl CJ))) (aN (.inl CJ))) (aN (.inl CJ))) (aN (.inl CJ))) (aN (.inl CJ)),sO (sO (sO (sO (sO (sO (h3) (aN (.inl CJ))) (aN (.inl CJ))) (aN (.inl CJ))) (aN (.inl CJ))) (aN (.inl CJ))) (aN (.inl CJ)),sO (sO (sO (sO (sO (sO (h4) (aN (.inl CJ))) (aN (.inl CJ))) (aN (.inl CJ))) (aN (.inl CJ))) (aN (.inl CJ))) (aN (.inl CJ)),sO (sO (sO (sO (sO (sO (h5) (aN (.inl CJ))) (aN (.inl CJ))) (aN (.inl CJ))) (aN (.inl CJ))) (aN (.inl CJ))) (aN (.inl CJ)),sF (sF (sF (sF (sF (sF (z0)))))),sF (sF (sF (sF (sF (sF (z1)))))),sF (sF (sF (sF (sF (sF (z2)))))),sF (sF (sF (sF (sF (sF (z3)))))),sF (sF (sF (sF (sF (sF (z4)))))),sF (sF (sF (sF (sF (sF (z5)))))),?_⟩;simpa using hs
theorem aF {V w:World} {B D:Nat} (h:Below B w V) (hB:B≤D) (p0 p1 p2 p3 p4 p5:Value):Below B w ((((((V.setCell ⟨D,0,none⟩ p0).setCell ⟨D,1,none⟩ p1).setCell ⟨D,2,none⟩ p2).setCell ⟨D,3,none⟩ p3).setCell ⟨D,4,none⟩ p4).setCell ⟨D,5,none⟩ p5):=((((((h.setCell hB _).setCell hB _).setCell hB _).setCell hB _).setCell hB _).setCell hB _)
theorem Cells6.off {V:World} {D G o:Nat} {x0 x1 x2 x3 x4 x5:Value} (h:Cells6 V G x0 x1 x2 x3 x4 x5) (CJ:D≠G) (p:Value):Cells6 (V.setCell ⟨D,o,none⟩ p) G x0 x1 x2 x3 x4 x5:=by
 obtain⟨h0,h1,h2,h3,h4,h5,z0,z1,z2,z3,z4,z5,hs⟩:=h;exact⟨sO h0 (aN (.inl CJ)),sO h1 (aN (.inl CJ)),sO h2 (aN (.inl CJ)),sO h3 (aN (.inl CJ)),sO h4 (aN (.inl CJ)),sO h5 (aN (.inl CJ)),sF z0,sF z1,sF z2,sF z3,sF z4,sF z5,by simpa using hs⟩
theorem Cells4.off {V:World} {D G o:Nat} {x0 x1 x2 x3:Value} (h:Cells4 V G x0 x1 x2 x3) (CJ:D≠G) (p:Value):Cells4 (V.setCell ⟨D,o,none⟩ p) G x0 x1 x2 x3:=by
 obtain⟨h0,h1,h2,h3,z0,z1,z2,z3,hs⟩:=h;exact⟨sO h0 (aN (.inl CJ)),sO h1 (aN (.inl CJ)),sO h2 (aN (.inl CJ)),sO h3 (aN (.inl CJ)),sF z0,sF z1,sF z2,sF z3,by simpa using hs⟩
theorem Cells4.box (w:World) (d:Dk) (t:TypeId):Cells4 (w.alloc (.cells #[.slice d.bA d.bn d.bc,.slice d.pA d.pn d.pc,.slice d.rA d.rn d.rc,.int .i64 d.arms] t)) w.heap.size (.slice d.bA d.bn d.bc) (.slice d.pA d.pn d.pc) (.slice d.rA d.rn d.rc) (.int .i64 d.arms):=Cells4.new w t _ _ _ _
abbrev dv (V:World) (D:Nat) (d:Dk):Prop:=Cells4 V D (.slice d.bA d.bn d.bc) (.slice d.pA d.pn d.pc) (.slice d.rA d.rn d.rc) (.int .i64 d.arms)
abbrev cn (V:World) (D:Nat) (s:Stk):Prop:=Cells6 V D (.slice s.cA s.cl.length s.cc) (.slice s.lA s.ll.length s.lc) (.slice s.tA s.tl.length s.tc) (.int .i64 s.st) (.int .i64 s.inn) (.int .i64 s.out)
abbrev Stk.ob (s:Stk):Obj:=.cells #[.slice s.cA s.cl.length s.cc,.slice s.lA s.ll.length s.lc,.slice s.tA s.tl.length s.tc,.int .i64 s.st,.int .i64 s.inn,.int .i64 s.out] 41
theorem Cells6.setS {V:World} {D:Nat} {x0 x1 x2 x3 x4 x5:Value} (h:Cells6 V D x0 x1 x2 x3 x4 x5) (s:Stk):Cells6 ((((((V.setCell ⟨D,0,none⟩ (.slice s.cA s.cl.length s.cc)).setCell ⟨D,1,none⟩ (.slice s.lA s.ll.length s.lc)).setCell ⟨D,2,none⟩ (.slice s.tA s.tl.length s.tc)).setCell ⟨D,3,none⟩ (.int .i64 s.st)).setCell ⟨D,4,none⟩ (.int .i64 s.inn)).setCell ⟨D,5,none⟩ (.int .i64 s.out)) D (.slice s.cA s.cl.length s.cc) (.slice s.lA s.ll.length s.lc) (.slice s.tA s.tl.length s.tc) (.int .i64 s.st) (.int .i64 s.inn) (.int .i64 s.out):=h.set _ _ _ _ _ _
theorem KE.Own.at3 {w:World} {B g n c:Nat} {ys:List _} (h:KE.Own w B (.slice (some ⟨g,0,none⟩) n c) ys) (hn:ys.length=n) (k:Nat) (hk:k<n):
  w.cell? ⟨g,k*3,none⟩=some (.int .i64 (ys.getD k aM).a)∧w.cell? ⟨g,k*3+1,none⟩=some (.int .i64 (ys.getD k aM).b)∧w.cell? ⟨g,k*3+2,none⟩=some (.int .i64 (ys.getD k aM).c)∧w.frozen? ⟨g,k*3,none⟩=false∧w.frozen? ⟨g,k*3+1,none⟩=false∧w.frozen? ⟨g,k*3+2,none⟩=false:=by
 obtain⟨q0,z0⟩:=h.cellAt hn k 0 hk _ rfl;obtain⟨q1,z1⟩:=h.cellAt hn k 1 hk _ rfl;obtain⟨q2,z2⟩:=h.cellAt hn k 2 hk _ rfl;exact⟨q0,q1,q2,z0,z1,z2⟩
theorem KL.Own.at3 {w:World} {B g n c:Nat} {ys:List _} (h:KL.Own w B (.slice (some ⟨g,0,none⟩) n c) ys) (hn:ys.length=n) (k:Nat) (hk:k<n):
  w.cell? ⟨g,k*3,none⟩=some (.int .i64 (ys.getD k av).r)∧w.cell? ⟨g,k*3+1,none⟩=some (.int .i64 (ys.getD k av).l)∧w.cell? ⟨g,k*3+2,none⟩=some (.slice (ys.getD k av).A (ys.getD k av).xs.length (ys.getD k av).c)∧w.frozen? ⟨g,k*3,none⟩=false∧w.frozen? ⟨g,k*3+1,none⟩=false∧w.frozen? ⟨g,k*3+2,none⟩=false:=by
 obtain⟨q0,z0⟩:=h.cellAt hn k 0 hk _ rfl;obtain⟨q1,z1⟩:=h.cellAt hn k 1 hk _ rfl;obtain⟨q2,z2⟩:=h.cellAt hn k 2 hk _ rfl;exact⟨q0,q1,q2,z0,z1,z2⟩
theorem KT.Own.at2 {w:World} {B g n c:Nat} {ys:List (Int×Int)} (h:KT.Own w B (.slice (some ⟨g,0,none⟩) n c) ys) (hn:ys.length=n) (k:Nat) (hk:k<n):
  w.cell? ⟨g,k*2,none⟩=some (.int .i64 (ys.getD k (0,0)).1)∧w.cell? ⟨g,k*2+1,none⟩=some (.int .i64 (ys.getD k (0,0)).2)∧w.frozen? ⟨g,k*2,none⟩=false∧w.frozen? ⟨g,k*2+1,none⟩=false:=by
 obtain⟨q0,z0⟩:=h.cellAt hn k 0 hk _ rfl;obtain⟨q1,z1⟩:=h.cellAt hn k 1 hk _ rfl;exact⟨q0,q1,z0,z1⟩
end Go.Proofs.YtmecohdedghiaaaGreatDoor
