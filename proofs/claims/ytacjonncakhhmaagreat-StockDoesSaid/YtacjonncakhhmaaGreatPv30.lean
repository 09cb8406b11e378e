/- Stocks: a call of a program. -/
import Derived.Test.YtacjonncakhhmaaGreatPv00
import Derived.Test.YtacjonncakhhmaaGreatPv28
import Derived.Test.YtacjonncakhhmaaGreatPv25
set_option maxRecDepth 100000
set_option maxHeartbeats 8000000
namespace Go.Proofs.YtacjonncakhhmaaGreat
open Go.RowKit
theorem Stk.Far.less {s:Stk} {B B':Nat} (h:s.Far B) (hB:B'≤B):s.Far B':=
 ⟨fun a ha=>Nat.le_trans hB (h.1 a ha),fun a ha=>Nat.le_trans hB (h.2.1 a ha),fun a ha=>Nat.le_trans hB (h.2.2.1 a ha),fun q hq a ha=>Nat.le_trans hB (h.2.2.2 q hq a ha)⟩
theorem fill_f (d:Dk) (s:Stk) (b' id n:Int) (w:World) (hd:d.In w w.heap.size) (hs:s.In w w.heap.size) (hid:fits id) (hn:fits n):
  Calls Tryz.prog 18 #[d.v,s.v,.int .i64 b',.int .i64 id,.int .i64 n] w fun e w'=>∃t:Stk,e=.returned (.tuple #[t.v,.int .i64 (cgE d s.ab b' (foE d s.ab id (max n 0) (s.ab.inn+n)))])∧t.In w' w'.heap.size∧t.ab=(if cgE d s.ab b' (foE d s.ab id (max n 0) (s.ab.inn+n))=0 then foA s.ab b' id.toNat (max n 0) 4 (s.ab.inn+n)else ab0)∧Below w.heap.size w w'∧t.Far w.heap.size:=by
 obtain⟨w0,hw0⟩:∃w0,w0=(((((w.alloc d.ob).alloc s.ob).alloc (.cells #[.int .i64 id] 3)).alloc (.cells #[.int .i64 n] 3)).alloc zo):=⟨_,rfl⟩;have HB0:=aH (show Below w.heap.size w w0 by rw[hw0];exact bL (bL (bL (bL (bL (bR _ _) _) _) _) _) _);have HD0:=aH (hd.then HB0.out);have HS0:=aH (hs.then HB0.out);have HK0:=aH (show DkAt w0 w.heap.size d by rw[hw0];exact((((Cells4.new w _ _ _ _ _).below (bL (bR _ _) _)).below (bL (bR _ _) _)).below (bL (bR _ _) _)).below (bL (bR _ _) _));have HT0:=aH (show SkAt w0 (w.heap.size+1) s by
  have e:(w.alloc d.ob).heap.size=w.heap.size+1:=by simp
  rw[hw0,←e];exact(((Cells6.new (w.alloc d.ob) 31 _ _ _ _ _ _).below (bL (bR _ _) _)).below (bL (bR _ _) _)).below (bL (bR _ _) _))
 have HI0:=aH (show w0.cell? ⟨w.heap.size+2,0,none⟩=some (.int .i64 id)∧w0.cell? ⟨w.heap.size+3,0,none⟩=some (.int .i64 n)∧w0.heap.size=w.heap.size+5 by
  rw[hw0];refine⟨?_,?_,by simp⟩
  ·have h:((w.alloc d.ob).alloc s.ob).heap.size=w.heap.size+2:=(by simp);refine kK (bL (bR _ _) _) (kK (bL (bR _ _) _) (?_));rw[←h,alloc_at];rfl
  ·have h:(((w.alloc d.ob).alloc s.ob).alloc (.cells #[.int .i64 id] 3)).heap.size=w.heap.size+3:=(by simp);refine kK (bL (bR _ _) _) (?_);rw[←h,alloc_at];rfl)
 have HR0:=aH (show Cells6 w0 (w.heap.size+4) (.slice none 0 0) (.slice none 0 0) (.slice none 0 0) (.int .i64 0) (.int .i64 0) (.int .i64 0)by
  have h:=Cells6.new ((((w.alloc d.ob).alloc s.ob).alloc (.cells #[.int .i64 id] 3)).alloc (.cells #[.int .i64 n] 3)) 31 (.slice none 0 0) (.slice none 0 0) (.slice none 0 0) (.int .i64 0) (.int .i64 0) (.int .i64 0);rw[←hw0,show((((w.alloc d.ob).alloc s.ob).alloc (.cells #[.int .i64 id] 3)).alloc (.cells #[.int .i64 n] 3)).heap.size=w.heap.size+4 by simp]at h;exact h)
 have HC:=aH (change_any d s b' 44 #[.pointer (some ⟨w.heap.size+2,0,none⟩),.pointer (some ⟨w.heap.size+3,0,none⟩)] (foE d s.ab id (max n 0) (s.ab.inn+n)) (foA s.ab b' id.toNat (max n 0) 4 (s.ab.inn+n)) w0 HD0.out HS0.out (enters_of Tryz.func44 (by kernel_rfl) rfl) (fun hrg hb1' hb2' V B D t hM hab hT hD hb hle=>by
  have hI:=HI0.out;have hsz:w0.heap.size=w.heap.size+5:=hI.2.2;have hfb:fits b':=by have h:=hd.a;unfold fits at h⊢;omega
  have e1:s.ab=t.ab:=hab.symm;rw[e1];rw[e1]at hrg;exact fill1_any d t b' V B D _ _ id n hrg hM hT hD hid hn (kK hb HI0.out.1) (kK hb HI0.out.2.1) (by omega) (by omega)))
 generalize foE d s.ab id (max n 0) (s.ab.inn+n)=dE at *;generalize foA s.ab b' id.toNat (max n 0) 4 (s.ab.inn+n)=dA at *;generalize cgE d s.ab b' dE=E at *;generalize (if E=0 then dA else ab0)=dR at *;have hmf:∀(fn:Fn) (first cap:Array Value) (w:World),(Instr.makeFunc fn first cap).run Tryz.prog w=.ok (.func fn first cap) w:=fun _ _ _ _=>rfl;obtain⟨t0,t1,t2,t3,t4,t5,_⟩:=HT0.out;obtain⟨d0,d1,d2,d3,_⟩:=HK0.out;obtain⟨i0,i1,_⟩:=HI0.out;clear hd hs;go_enter Tryz.func18,Tryz.ntmps18;go_wp2_with fail;rw[←hw0];clear hw0;refine HC.out.mono ?_;rintro e w1 ⟨t,rfl,ht,hab,hfar,hb1⟩;have hR1:=HR0.out.below hb1;obtain⟨r0,r1,r2,r3,r4,r5,y0,y1,y2,y3,y4,y5,_⟩:=hR1;have HR1:=aH (HR0.out.below hb1);have HB1:=aH (bC HB0.out hb1);have HTT:=aH (aI ht (aI hab hfar));clear ht hab hfar hb1 t0 t1 t2 t3 t4 t5 d0 d1 d2 d3 hmf i0 i1;go_wp2;have hset:=HR1.out.setS t;obtain⟨q0,q1,q2,q3,q4,q5,_⟩:=hset;have hsz:w0.heap.size=w.heap.size+5:=HI0.out.2.2;refine bP (v:=.tuple #[t.v,.int .i64 E]) ?_ rfl ?_
 ·simp[results,Tryz.results18,go_sem,q0,q1,q2,q3,q4,q5]
 ·refine⟨t,rfl,?_,HTT.out.2.1,below_set6 HB1.out (by omega) _ _ _ _ _ _,HTT.out.2.2.less (by omega)⟩;have:=HTT.out.1.set6 HTT.out.2.2 (D:=w.heap.size+4) (by omega) (.slice t.cA t.cl.length t.cc) (.slice t.lA t.ll.length t.lc) (.slice t.tA t.tl.length t.tc) (.int .i64 t.st) (.int .i64 t.inn) (.int .i64 t.out);simpa using this
theorem waste_f (d:Dk) (s:Stk) (b' id n:Int) (w:World) (hd:d.In w w.heap.size) (hs:s.In w w.heap.size) (hid:fits id) (hn:fits n):
  Calls Tryz.prog 19 #[d.v,s.v,.int .i64 b',.int .i64 id,.int .i64 n] w fun e w'=>∃t:Stk,e=.returned (.tuple #[t.v,.int .i64 (cgE d s.ab b' (foE d s.ab id (-(max n 0)) (s.ab.out+n)))])∧t.In w' w'.heap.size∧t.ab=(if cgE d s.ab b' (foE d s.ab id (-(max n 0)) (s.ab.out+n))=0 then foA s.ab b' id.toNat (-(max n 0)) 5 (s.ab.out+n)else ab0)∧Below w.heap.size w w'∧t.Far w.heap.size:=by
 obtain⟨w0,hw0⟩:∃w0,w0=(((((w.alloc d.ob).alloc s.ob).alloc (.cells #[.int .i64 id] 3)).alloc (.cells #[.int .i64 n] 3)).alloc zo):=⟨_,rfl⟩;have HB0:=aH (show Below w.heap.size w w0 by rw[hw0];exact bL (bL (bL (bL (bL (bR _ _) _) _) _) _) _);have HD0:=aH (hd.then HB0.out);have HS0:=aH (hs.then HB0.out);have HK0:=aH (show DkAt w0 w.heap.size d by rw[hw0];exact((((Cells4.new w _ _ _ _ _).below (bL (bR _ _) _)).below (bL (bR _ _) _)).below (bL (bR _ _) _)).below (bL (bR _ _) _));have HT0:=aH (show SkAt w0 (w.heap.size+1) s by
  have e:(w.alloc d.ob).heap.size=w.heap.size+1:=by simp
  rw[hw0,←e];exact(((Cells6.new (w.alloc d.ob) 31 _ _ _ _ _ _).below (bL (bR _ _) _)).below (bL (bR _ _) _)).below (bL (bR _ _) _))
 have HI0:=aH (show w0.cell? ⟨w.heap.size+2,0,none⟩=some (.int .i64 id)∧w0.cell? ⟨w.heap.size+3,0,none⟩=some (.int .i64 n)∧w0.heap.size=w.heap.size+5 by
  rw[hw0];refine⟨?_,?_,by simp⟩
  ·have h:((w.alloc d.ob).alloc s.ob).heap.size=w.heap.size+2:=(by simp);refine kK (bL (bR _ _) _) (kK (bL (bR _ _) _) (?_));rw[←h,alloc_at];rfl
  ·have h:(((w.alloc d.ob).alloc s.ob).alloc (.cells #[.int .i64 id] 3)).heap.size=w.heap.size+3:=(by simp);refine kK (bL (bR _ _) _) (?_);rw[←h,alloc_at];rfl)
 have HR0:=aH (show Cells6 w0 (w.heap.size+4) (.slice none 0 0) (.slice none 0 0) (.slice none 0 0) (.int .i64 0) (.int .i64 0) (.int .i64 0)by
  have h:=Cells6.new ((((w.alloc d.ob).alloc s.ob).alloc (.cells #[.int .i64 id] 3)).alloc (.cells #[.int .i64 n] 3)) 31 (.slice none 0 0) (.slice none 0 0) (.slice none 0 0) (.int .i64 0) (.int .i64 0) (.int .i64 0);rw[←hw0,show((((w.alloc d.ob).alloc s.ob).alloc (.cells #[.int .i64 id] 3)).alloc (.cells #[.int .i64 n] 3)).heap.size=w.heap.size+4 by simp]at h;exact h)
 have HC:=aH (change_any d s b' 47 #[.pointer (some ⟨w.heap.size+2,0,none⟩),.pointer (some ⟨w.heap.size+3,0,none⟩)] (foE d s.ab id (-(max n 0)) (s.ab.out+n)) (foA s.ab b' id.toNat (-(max n 0)) 5 (s.ab.out+n)) w0 HD0.out HS0.out (enters_of Tryz.func47 (by kernel_rfl) rfl) (fun hrg hb1' hb2' V B D t hM hab hT hD hb hle=>by
  have hI:=HI0.out;have hsz:w0.heap.size=w.heap.size+5:=hI.2.2;have hfb:fits b':=by have h:=hd.a;unfold fits at h⊢;omega
  have e1:s.ab=t.ab:=hab.symm;rw[e1];rw[e1]at hrg;exact waste1_any d t b' V B D _ _ id n hrg hM hT hD hid hn (kK hb HI0.out.1) (kK hb HI0.out.2.1) (by omega) (by omega)))
 generalize foE d s.ab id (-(max n 0)) (s.ab.out+n)=dE at *;generalize foA s.ab b' id.toNat (-(max n 0)) 5 (s.ab.out+n)=dA at *;generalize cgE d s.ab b' dE=E at *;generalize (if E=0 then dA else ab0)=dR at *;have hmf:∀(fn:Fn) (first cap:Array Value) (w:World),(Instr.makeFunc fn first cap).run Tryz.prog w=.ok (.func fn first cap) w:=fun _ _ _ _=>rfl;obtain⟨t0,t1,t2,t3,t4,t5,_⟩:=HT0.out;obtain⟨d0,d1,d2,d3,_⟩:=HK0.out;obtain⟨i0,i1,_⟩:=HI0.out;clear hd hs;go_enter Tryz.func19,Tryz.ntmps19;go_wp2_with fail;rw[←hw0];clear hw0;refine HC.out.mono ?_;rintro e w1 ⟨t,rfl,ht,hab,hfar,hb1⟩;have hR1:=HR0.out.below hb1;obtain⟨r0,r1,r2,r3,r4,r5,y0,y1,y2,y3,y4,y5,_⟩:=hR1;have HR1:=aH (HR0.out.below hb1);have HB1:=aH (bC HB0.out hb1);have HTT:=aH (aI ht (aI hab hfar));clear ht hab hfar hb1 t0 t1 t2 t3 t4 t5 d0 d1 d2 d3 hmf i0 i1;go_wp2;have hset:=HR1.out.setS t;obtain⟨q0,q1,q2,q3,q4,q5,_⟩:=hset;have hsz:w0.heap.size=w.heap.size+5:=HI0.out.2.2;refine bP (v:=.tuple #[t.v,.int .i64 E]) ?_ rfl ?_
 ·simp[results,Tryz.results19,go_sem,q0,q1,q2,q3,q4,q5]
 ·refine⟨t,rfl,?_,HTT.out.2.1,below_set6 HB1.out (by omega) _ _ _ _ _ _,HTT.out.2.2.less (by omega)⟩;have:=HTT.out.1.set6 HTT.out.2.2 (D:=w.heap.size+4) (by omega) (.slice t.cA t.cl.length t.cc) (.slice t.lA t.ll.length t.lc) (.slice t.tA t.tl.length t.tc) (.int .i64 t.st) (.int .i64 t.inn) (.int .i64 t.out);simpa using this
theorem move_f (d:Dk) (s:Stk) (b' x y n:Int) (w:World) (hd:d.In w w.heap.size) (hs:s.In w w.heap.size) (hx:fits x) (hy:fits y) (hn:fits n):
  Calls Tryz.prog 13 #[d.v,s.v,.int .i64 b',.int .i64 x,.int .i64 y,.int .i64 n] w fun e w'=>∃t:Stk,e=.returned (.tuple #[t.v,.int .i64 (cgE d s.ab b' (moE d s.ab x y n))])∧t.In w' w'.heap.size∧t.ab=(if cgE d s.ab b' (moE d s.ab x y n)=0 then moA s.ab b' x y n else ab0)∧Below w.heap.size w w'∧t.Far w.heap.size:=by
 obtain⟨w0,hw0⟩:∃w0,w0=((((((w.alloc d.ob).alloc s.ob).alloc (.cells #[.int .i64 x] 3)).alloc (.cells #[.int .i64 y] 3)).alloc (.cells #[.int .i64 n] 3)).alloc zo):=⟨_,rfl⟩;have HB0:=aH (show Below w.heap.size w w0 by rw[hw0];exact bL (bL (bL (bL (bL (bL (bR _ _) _) _) _) _) _) _);have HD0:=aH (hd.then HB0.out);have HS0:=aH (hs.then HB0.out);have HK0:=aH (show DkAt w0 w.heap.size d by rw[hw0];exact(((((Cells4.new w _ _ _ _ _).below (bL (bR _ _) _)).below (bL (bR _ _) _)).below (bL (bR _ _) _)).below (bL (bR _ _) _)).below (bL (bR _ _) _));have HT0:=aH (show SkAt w0 (w.heap.size+1) s by
  have e:(w.alloc d.ob).heap.size=w.heap.size+1:=by simp
  rw[hw0,←e];exact((((Cells6.new (w.alloc d.ob) 31 _ _ _ _ _ _).below (bL (bR _ _) _)).below (bL (bR _ _) _)).below (bL (bR _ _) _)).below (bL (bR _ _) _))
 have HI0:=aH (show w0.cell? ⟨w.heap.size+2,0,none⟩=some (.int .i64 x)∧w0.cell? ⟨w.heap.size+3,0,none⟩=some (.int .i64 y)∧w0.cell? ⟨w.heap.size+4,0,none⟩=some (.int .i64 n)∧w0.heap.size=w.heap.size+6 by
  rw[hw0];refine⟨?_,?_,?_,by simp⟩
  ·have h:((w.alloc d.ob).alloc s.ob).heap.size=w.heap.size+2:=(by simp);refine kK (bL (bR _ _) _) (kK (bL (bR _ _) _) (kK (bL (bR _ _) _) (?_)));rw[←h,alloc_at];rfl
  ·have h:(((w.alloc d.ob).alloc s.ob).alloc (.cells #[.int .i64 x] 3)).heap.size=w.heap.size+3:=(by simp);refine kK (bL (bR _ _) _) (kK (bL (bR _ _) _) (?_));rw[←h,alloc_at];rfl
  ·have h:((((w.alloc d.ob).alloc s.ob).alloc (.cells #[.int .i64 x] 3)).alloc (.cells #[.int .i64 y] 3)).heap.size=w.heap.size+4:=(by simp);refine kK (bL (bR _ _) _) (?_);rw[←h,alloc_at];rfl)
 have HR0:=aH (show Cells6 w0 (w.heap.size+5) (.slice none 0 0) (.slice none 0 0) (.slice none 0 0) (.int .i64 0) (.int .i64 0) (.int .i64 0)by
  have h:=Cells6.new (((((w.alloc d.ob).alloc s.ob).alloc (.cells #[.int .i64 x] 3)).alloc (.cells #[.int .i64 y] 3)).alloc (.cells #[.int .i64 n] 3)) 31 (.slice none 0 0) (.slice none 0 0) (.slice none 0 0) (.int .i64 0) (.int .i64 0) (.int .i64 0);rw[←hw0,show(((((w.alloc d.ob).alloc s.ob).alloc (.cells #[.int .i64 x] 3)).alloc (.cells #[.int .i64 y] 3)).alloc (.cells #[.int .i64 n] 3)).heap.size=w.heap.size+5 by simp]at h;exact h)
 have HC:=aH (change_any d s b' 35 #[.pointer (some ⟨w.heap.size,0,none⟩),.pointer (some ⟨w.heap.size+2,0,none⟩),.pointer (some ⟨w.heap.size+3,0,none⟩),.pointer (some ⟨w.heap.size+4,0,none⟩)] (moE d s.ab x y n) (moA s.ab b' x y n) w0 HD0.out HS0.out (enters_of Tryz.func35 (by kernel_rfl) rfl) (fun hrg hb1' hb2' V B D t hM hab hT hD hb hle=>by
  have hI:=HI0.out;have hsz:w0.heap.size=w.heap.size+6:=hI.2.2.2;have hfb:fits b':=by have h:=hd.a;unfold fits at h⊢;omega
  have e1:s.ab=t.ab:=hab.symm;rw[e1];rw[e1]at hrg;exact move1_any d t b' V B D _ _ _ _ x y n hrg hM hT hD hx hy hn (HK0.out.below hb) (kK hb HI0.out.1) (kK hb HI0.out.2.1) (kK hb HI0.out.2.2.1) (by omega) (by omega)))
 generalize moE d s.ab x y n=dE at *;generalize moA s.ab b' x y n=dA at *;generalize cgE d s.ab b' dE=E at *;generalize (if E=0 then dA else ab0)=dR at *;have hmf:∀(fn:Fn) (first cap:Array Value) (w:World),(Instr.makeFunc fn first cap).run Tryz.prog w=.ok (.func fn first cap) w:=fun _ _ _ _=>rfl;obtain⟨t0,t1,t2,t3,t4,t5,_⟩:=HT0.out;obtain⟨d0,d1,d2,d3,_⟩:=HK0.out;obtain⟨i0,i1,i2,_⟩:=HI0.out;clear hd hs;go_enter Tryz.func13,Tryz.ntmps13;go_wp2_with fail;rw[←hw0];clear hw0;refine HC.out.mono ?_;rintro e w1 ⟨t,rfl,ht,hab,hfar,hb1⟩;have hR1:=HR0.out.below hb1;obtain⟨r0,r1,r2,r3,r4,r5,y0,y1,y2,y3,y4,y5,_⟩:=hR1;have HR1:=aH (HR0.out.below hb1);have HB1:=aH (bC HB0.out hb1);have HTT:=aH (aI ht (aI hab hfar));clear ht hab hfar hb1 t0 t1 t2 t3 t4 t5 d0 d1 d2 d3 hmf i0 i1 i2;go_wp2;have hset:=HR1.out.setS t;obtain⟨q0,q1,q2,q3,q4,q5,_⟩:=hset;have hsz:w0.heap.size=w.heap.size+6:=HI0.out.2.2.2;refine bP (v:=.tuple #[t.v,.int .i64 E]) ?_ rfl ?_
 ·simp[results,Tryz.results13,go_sem,q0,q1,q2,q3,q4,q5]
 ·refine⟨t,rfl,?_,HTT.out.2.1,below_set6 HB1.out (by omega) _ _ _ _ _ _,HTT.out.2.2.less (by omega)⟩;have:=HTT.out.1.set6 HTT.out.2.2 (D:=w.heap.size+5) (by omega) (.slice t.cA t.cl.length t.cc) (.slice t.lA t.ll.length t.lc) (.slice t.tA t.tl.length t.tc) (.int .i64 t.st) (.int .i64 t.inn) (.int .i64 t.out);simpa using this
theorem drop_f (d:Dk) (s:Stk) (b':Int) (w:World) (hd:d.In w w.heap.size) (hs:s.In w w.heap.size):
  Calls Tryz.prog 20 #[d.v,s.v,.int .i64 b'] w fun e w'=>∃t:Stk,e=.returned (.tuple #[t.v,.int .i64 (cgE d s.ab b' (drE s.ab b'))])∧t.In w' w'.heap.size∧t.ab=(if cgE d s.ab b' (drE s.ab b')=0 then drA s.ab b' else ab0)∧Below w.heap.size w w'∧t.Far w.heap.size:=by
 obtain⟨w0,hw0⟩:∃w0,w0=((((w.alloc d.ob).alloc s.ob).alloc (.cells #[.int .i64 b'] 3)).alloc zo):=⟨_,rfl⟩;have HB0:=aH (show Below w.heap.size w w0 by rw[hw0];exact bL (bL (bL (bL (bR _ _) _) _) _) _);have HD0:=aH (hd.then HB0.out);have HS0:=aH (hs.then HB0.out);have HK0:=aH (show DkAt w0 w.heap.size d by rw[hw0];exact(((Cells4.new w _ _ _ _ _).below (bL (bR _ _) _)).below (bL (bR _ _) _)).below (bL (bR _ _) _));have HT0:=aH (show SkAt w0 (w.heap.size+1) s by
  have e:(w.alloc d.ob).heap.size=w.heap.size+1:=by simp
  rw[hw0,←e];exact((Cells6.new (w.alloc d.ob) 31 _ _ _ _ _ _).below (bL (bR _ _) _)).below (bL (bR _ _) _))
 have HI0:=aH (show w0.cell? ⟨w.heap.size+2,0,none⟩=some (.int .i64 b')∧w0.heap.size=w.heap.size+4 by
  rw[hw0];refine⟨?_,by simp⟩
  ·have h:((w.alloc d.ob).alloc s.ob).heap.size=w.heap.size+2:=(by simp);refine kK (bL (bR _ _) _) (?_);rw[←h,alloc_at];rfl)
 have HR0:=aH (show Cells6 w0 (w.heap.size+3) (.slice none 0 0) (.slice none 0 0) (.slice none 0 0) (.int .i64 0) (.int .i64 0) (.int .i64 0)by
  have h:=Cells6.new (((w.alloc d.ob).alloc s.ob).alloc (.cells #[.int .i64 b'] 3)) 31 (.slice none 0 0) (.slice none 0 0) (.slice none 0 0) (.int .i64 0) (.int .i64 0) (.int .i64 0);rw[←hw0,show(((w.alloc d.ob).alloc s.ob).alloc (.cells #[.int .i64 b'] 3)).heap.size=w.heap.size+3 by simp]at h;exact h)
 have HC:=aH (change_any d s b' 49 #[.pointer (some ⟨w.heap.size+2,0,none⟩)] (drE s.ab b') (drA s.ab b') w0 HD0.out HS0.out (enters_of Tryz.func49 (by kernel_rfl) rfl) (fun hrg hb1' hb2' V B D t hM hab hT hD hb hle=>by
  have hI:=HI0.out;have hsz:w0.heap.size=w.heap.size+4:=hI.2;have hfb:fits b':=by have h:=hd.a;unfold fits at h⊢;omega
  have e1:s.ab=t.ab:=hab.symm;rw[e1];rw[e1]at hrg;exact drop1_any d t b' V B D _ hrg hM hT (kK hb hI.1)))
 generalize drE s.ab b'=dE at *;generalize drA s.ab b'=dA at *;generalize cgE d s.ab b' dE=E at *;generalize (if E=0 then dA else ab0)=dR at *;have hmf:∀(fn:Fn) (first cap:Array Value) (w:World),(Instr.makeFunc fn first cap).run Tryz.prog w=.ok (.func fn first cap) w:=fun _ _ _ _=>rfl;obtain⟨t0,t1,t2,t3,t4,t5,_⟩:=HT0.out;obtain⟨d0,d1,d2,d3,_⟩:=HK0.out;obtain⟨i0,_⟩:=HI0.out;clear hd hs;go_enter Tryz.func20,Tryz.ntmps20;go_wp2_with fail;rw[←hw0];clear hw0;refine HC.out.mono ?_;rintro e w1 ⟨t,rfl,ht,hab,hfar,hb1⟩;have hR1:=HR0.out.below hb1;obtain⟨r0,r1,r2,r3,r4,r5,y0,y1,y2,y3,y4,y5,_⟩:=hR1;have HR1:=aH (HR0.out.below hb1);have HB1:=aH (bC HB0.out hb1);have HTT:=aH (aI ht (aI hab hfar));clear ht hab hfar hb1 t0 t1 t2 t3 t4 t5 d0 d1 d2 d3 hmf i0;go_wp2;have hset:=HR1.out.setS t;obtain⟨q0,q1,q2,q3,q4,q5,_⟩:=hset;have hsz:w0.heap.size=w.heap.size+4:=HI0.out.2;refine bP (v:=.tuple #[t.v,.int .i64 E]) ?_ rfl ?_
 ·simp[results,Tryz.results20,go_sem,q0,q1,q2,q3,q4,q5]
 ·refine⟨t,rfl,?_,HTT.out.2.1,below_set6 HB1.out (by omega) _ _ _ _ _ _,HTT.out.2.2.less (by omega)⟩;have:=HTT.out.1.set6 HTT.out.2.2 (D:=w.heap.size+3) (by omega) (.slice t.cA t.cl.length t.cc) (.slice t.lA t.ll.length t.lc) (.slice t.tA t.tl.length t.tc) (.int .i64 t.st) (.int .i64 t.inn) (.int .i64 t.out);simpa using this
theorem take_f (d:Dk) (s:Stk) (b' id:Int) (w:World) (hd:d.In w w.heap.size) (hs:s.In w w.heap.size) (hid:fits id):
  Calls Tryz.prog 16 #[d.v,s.v,.int .i64 b',.int .i64 id] w fun e w'=>∃t:Stk,e=.returned (.tuple #[t.v,.int .i64 (cgE d s.ab b' (taE d s.ab b' id))])∧t.In w' w'.heap.size∧t.ab=(if cgE d s.ab b' (taE d s.ab b' id)=0 then taA s.ab b' id else ab0)∧Below w.heap.size w w'∧t.Far w.heap.size:=by
 obtain⟨w0,hw0⟩:∃w0,w0=(((((w.alloc d.ob).alloc s.ob).alloc (.cells #[.int .i64 b'] 3)).alloc (.cells #[.int .i64 id] 3)).alloc zo):=⟨_,rfl⟩;have HB0:=aH (show Below w.heap.size w w0 by rw[hw0];exact bL (bL (bL (bL (bL (bR _ _) _) _) _) _) _);have HD0:=aH (hd.then HB0.out);have HS0:=aH (hs.then HB0.out);have HK0:=aH (show DkAt w0 w.heap.size d by rw[hw0];exact((((Cells4.new w _ _ _ _ _).below (bL (bR _ _) _)).below (bL (bR _ _) _)).below (bL (bR _ _) _)).below (bL (bR _ _) _));have HT0:=aH (show SkAt w0 (w.heap.size+1) s by
  have e:(w.alloc d.ob).heap.size=w.heap.size+1:=by simp
  rw[hw0,←e];exact(((Cells6.new (w.alloc d.ob) 31 _ _ _ _ _ _).below (bL (bR _ _) _)).below (bL (bR _ _) _)).below (bL (bR _ _) _))
 have HI0:=aH (show w0.cell? ⟨w.heap.size+2,0,none⟩=some (.int .i64 b')∧w0.cell? ⟨w.heap.size+3,0,none⟩=some (.int .i64 id)∧w0.heap.size=w.heap.size+5 by
  rw[hw0];refine⟨?_,?_,by simp⟩
  ·have h:((w.alloc d.ob).alloc s.ob).heap.size=w.heap.size+2:=(by simp);refine kK (bL (bR _ _) _) (kK (bL (bR _ _) _) (?_));rw[←h,alloc_at];rfl
  ·have h:(((w.alloc d.ob).alloc s.ob).alloc (.cells #[.int .i64 b'] 3)).heap.size=w.heap.size+3:=(by simp);refine kK (bL (bR _ _) _) (?_);rw[←h,alloc_at];rfl)
 have HR0:=aH (show Cells6 w0 (w.heap.size+4) (.slice none 0 0) (.slice none 0 0) (.slice none 0 0) (.int .i64 0) (.int .i64 0) (.int .i64 0)by
  have h:=Cells6.new ((((w.alloc d.ob).alloc s.ob).alloc (.cells #[.int .i64 b'] 3)).alloc (.cells #[.int .i64 id] 3)) 31 (.slice none 0 0) (.slice none 0 0) (.slice none 0 0) (.int .i64 0) (.int .i64 0) (.int .i64 0);rw[←hw0,show((((w.alloc d.ob).alloc s.ob).alloc (.cells #[.int .i64 b'] 3)).alloc (.cells #[.int .i64 id] 3)).heap.size=w.heap.size+4 by simp]at h;exact h)
 have HC:=aH (change_any d s b' 40 #[.pointer (some ⟨w.heap.size,0,none⟩),.pointer (some ⟨w.heap.size+3,0,none⟩),.pointer (some ⟨w.heap.size+2,0,none⟩)] (taE d s.ab b' id) (taA s.ab b' id) w0 HD0.out HS0.out (enters_of Tryz.func40 (by kernel_rfl) rfl) (fun hrg hb1' hb2' V B D t hM hab hT hD hb hle=>by
  have hI:=HI0.out;have hsz:w0.heap.size=w.heap.size+5:=hI.2.2;have hfb:fits b':=by have h:=hd.a;unfold fits at h⊢;omega
  have e1:s.ab=t.ab:=hab.symm;rw[e1];rw[e1]at hrg;exact take1_any d t b' V B D _ _ _ id hrg hM hT hD hid hfb (HK0.out.below hb) (kK hb hI.2.1) (kK hb hI.1) (by omega)))
 generalize taE d s.ab b' id=dE at *;generalize taA s.ab b' id=dA at *;generalize cgE d s.ab b' dE=E at *;generalize (if E=0 then dA else ab0)=dR at *;have hmf:∀(fn:Fn) (first cap:Array Value) (w:World),(Instr.makeFunc fn first cap).run Tryz.prog w=.ok (.func fn first cap) w:=fun _ _ _ _=>rfl;obtain⟨t0,t1,t2,t3,t4,t5,_⟩:=HT0.out;obtain⟨d0,d1,d2,d3,_⟩:=HK0.out;obtain⟨i0,i1,_⟩:=HI0.out;clear hd hs;go_enter Tryz.func16,Tryz.ntmps16;go_wp2_with fail;rw[←hw0];clear hw0;refine HC.out.mono ?_;rintro e w1 ⟨t,rfl,ht,hab,hfar,hb1⟩;have hR1:=HR0.out.below hb1;obtain⟨r0,r1,r2,r3,r4,r5,y0,y1,y2,y3,y4,y5,_⟩:=hR1;have HR1:=aH (HR0.out.below hb1);have HB1:=aH (bC HB0.out hb1);have HTT:=aH (aI ht (aI hab hfar));clear ht hab hfar hb1 t0 t1 t2 t3 t4 t5 d0 d1 d2 d3 hmf i0 i1;go_wp2;have hset:=HR1.out.setS t;obtain⟨q0,q1,q2,q3,q4,q5,_⟩:=hset;have hsz:w0.heap.size=w.heap.size+5:=HI0.out.2.2;refine bP (v:=.tuple #[t.v,.int .i64 E]) ?_ rfl ?_
 ·simp[results,Tryz.results16,go_sem,q0,q1,q2,q3,q4,q5]
 ·refine⟨t,rfl,?_,HTT.out.2.1,below_set6 HB1.out (by omega) _ _ _ _ _ _,HTT.out.2.2.less (by omega)⟩;have:=HTT.out.1.set6 HTT.out.2.2 (D:=w.heap.size+4) (by omega) (.slice t.cA t.cl.length t.cc) (.slice t.lA t.ll.length t.lc) (.slice t.tA t.tl.length t.tc) (.int .i64 t.st) (.int .i64 t.inn) (.int .i64 t.out);simpa using this
structure Opp where
 k:Int
 w:Int
 a:Int
 b:Int
 n:Int
structure Opp.Fit (o:Opp):Prop where
 k:fits o.k
 w:fits o.w
 a:fits o.a
 b:fits o.b
 n:fits o.n
def opCells (o:Opp):List Value:=[.int .i64 o.k,.int .i64 o.w,.int .i64 o.a,.int .i64 o.b,.int .i64 o.n]
abbrev Opp.v (o:Opp):Value:=.agg #[.int .i64 o.k,.int .i64 o.w,.int .i64 o.a,.int .i64 o.b,.int .i64 o.n]
noncomputable def opE (d:Dk) (s:Ab) (o:Opp):Int:=if o.k=1 then foE d s o.a (max o.n 0) (s.inn+o.n)else if o.k=2 then foE d s o.a (-(max o.n 0)) (s.out+o.n)else if o.k=3 then moE d s o.a o.b o.n else if o.k=4 then taE d s o.w o.a else drE s o.w
def opA (s:Ab) (o:Opp):Ab:=if o.k=1 then foA s o.w o.a.toNat (max o.n 0) 4 (s.inn+o.n)else if o.k=2 then foA s o.w o.a.toNat (-(max o.n 0)) 5 (s.out+o.n)else if o.k=3 then moA s o.w o.a o.b o.n else if o.k=4 then taA s o.w o.a else drA s o.w
theorem cg_ok {d:Dk} {a:Ab} {b' E:Int} (h:cgE d a b' E=0):rgS d a=true∧1≤b'∧b'≤d.arms∧E=0:=by
 unfold cgE at h;by_cases h1:rgS d a=true
 case neg=>rw[if_neg h1]at h;cases h
 rw[if_pos h1]at h;by_cases h2:1≤b'∧b'≤d.arms
 case neg=>rw[if_neg h2]at h;cases h
 rw[if_pos h2]at h;exact⟨h1,h2.1,h2.2,h⟩
theorem op_right {d:Dk} {a:Ab} {o:Opp} (h:cgE d a o.w (opE d a o)=0):rgS d (opA a o)=true∧(opA a o).st=a.st∧(opA a o).inn=(if o.k=1 then a.inn+o.n else a.inn)∧(opA a o).out=(if o.k=2 then a.out+o.n else a.out):=by
 obtain⟨h1,h2,h3,h4⟩:=cg_ok h;unfold opE at h4;unfold opA;by_cases k1:o.k=1
 ·rw[if_pos k1]at h4;rw[if_pos k1,if_pos k1,if_neg (by omega)];exact⟨rg_fill h1 h2 h3 h4,rfl,rfl,rfl⟩
 rw[if_neg k1]at h4;rw[if_neg k1,if_neg k1];by_cases k2:o.k=2
 ·rw[if_pos k2]at h4;rw[if_pos k2,if_pos k2];exact⟨rg_waste h1 h2 h3 h4,rfl,rfl,rfl⟩
 rw[if_neg k2]at h4;rw[if_neg k2,if_neg k2];by_cases k3:o.k=3
 ·rw[if_pos k3]at h4;rw[if_pos k3];exact⟨rg_move h1 h2 h3 h4,rfl,rfl,rfl⟩
 rw[if_neg k3]at h4;rw[if_neg k3];by_cases k4:o.k=4
 ·rw[if_pos k4]at h4;rw[if_pos k4];exact⟨rg_take h1 h2 h3 h4,rfl,rfl,rfl⟩
 rw[if_neg k4]at h4;rw[if_neg k4];exact⟨rg_drop h1 h4,rfl,rfl,rfl⟩
theorem does_any (d:Dk) (s:Stk) (o:Opp) (w:World) (hd:d.In w w.heap.size) (hs:s.In w w.heap.size) (ho:o.Fit):
  Calls Tryz.prog 8 #[d.v,s.v,o.v] w fun e w'=>∃t:Stk,e=.returned (.tuple #[t.v,.int .i64 (cgE d s.ab o.w (opE d s.ab o))])∧t.In w' w'.heap.size∧t.ab=(if cgE d s.ab o.w (opE d s.ab o)=0 then opA s.ab o else ab0)∧Below w.heap.size w w'∧t.Far w.heap.size:=by
 obtain⟨k,b',x,y,n⟩:=o;have HO:=aH ho;dsimp only;obtain⟨w0,hw0⟩:∃w0,w0=((((w.alloc d.ob).alloc s.ob).alloc (.cells #[.int .i64 k,.int .i64 b',.int .i64 x,.int .i64 y,.int .i64 n] 33)).alloc zo):=⟨_,rfl⟩;have HB0:=aH (show Below w.heap.size w w0 by rw[hw0];exact bL (bL (bL (bL (bR _ _) _) _) _) _);have HD0:=aH (hd.then HB0.out);have HS0:=aH (hs.then HB0.out);have HK0:=aH (show DkAt w0 w.heap.size d by rw[hw0];exact(((Cells4.new w _ _ _ _ _).below (bL (bR _ _) _)).below (bL (bR _ _) _)).below (bL (bR _ _) _));have HT0:=aH (show SkAt w0 (w.heap.size+1) s by
  have e:(w.alloc d.ob).heap.size=w.heap.size+1:=by simp
  rw[hw0,←e];exact((Cells6.new (w.alloc d.ob) 31 _ _ _ _ _ _).below (bL (bR _ _) _)).below (bL (bR _ _) _))
 have HR0:=aH (show Cells6 w0 (w.heap.size+3) (.slice none 0 0) (.slice none 0 0) (.slice none 0 0) (.int .i64 0) (.int .i64 0) (.int .i64 0)by
  have e:(((w.alloc d.ob).alloc s.ob).alloc (.cells #[.int .i64 k,.int .i64 b',.int .i64 x,.int .i64 y,.int .i64 n] 33)).heap.size=w.heap.size+3:=by simp
  rw[hw0,←e];exact Cells6.new (((w.alloc d.ob).alloc s.ob).alloc (.cells #[.int .i64 k,.int .i64 b',.int .i64 x,.int .i64 y,.int .i64 n] 33)) 31 _ _ _ _ _ _)
 have HSZ:=aH (show w0.heap.size=w.heap.size+4 by rw[hw0];simp);have HOO:=aH (show w0.cell? ⟨w.heap.size+2,0,none⟩=some (.int .i64 k)∧w0.cell? ⟨w.heap.size+2,1,none⟩=some (.int .i64 b')∧w0.cell? ⟨w.heap.size+2,2,none⟩=some (.int .i64 x)∧w0.cell? ⟨w.heap.size+2,3,none⟩=some (.int .i64 y)∧w0.cell? ⟨w.heap.size+2,4,none⟩=some (.int .i64 n)from by
  have e:((w.alloc d.ob).alloc s.ob).heap.size=w.heap.size+2:=by simp
  rw[hw0,←e];refine⟨kK (bL (bR _ _) _) ?_,kK (bL (bR _ _) _) ?_,kK (bL (bR _ _) _) ?_,kK (bL (bR _ _) _) ?_,kK (bL (bR _ _) _) ?_⟩;all_goals (rw[alloc_at];rfl))
 obtain⟨t0,t1,t2,t3,t4,t5,-⟩:=HT0.out;obtain⟨d0,d1,d2,d3,-⟩:=HK0.out;obtain⟨o0,o1,o2,o3,o4⟩:=HOO.out;rw[hw0]at t0 t1 t2 t3 t4 t5 d0 d1 d2 d3 o0 o1 o2 o3 o4;clear hd hs ho;by_cases h1:k=1
 ·have h1b:(k==1)=true:=by simpa using h1
  have HC:=aH (fill_f d s b' x n (hid:=HO.out.a) (hn:=HO.out.n) (w:=w0) (hd:=HD0.out) (hs:=HS0.out));have HEE:opE d s.ab ⟨k,b',x,y,n⟩=foE d s.ab x (max n 0) (s.ab.inn+n):=by unfold opE;rw[if_pos h1]
  have HAA:opA s.ab ⟨k,b',x,y,n⟩=foA s.ab b' x.toNat (max n 0) 4 (s.ab.inn+n):=by unfold opA;rw[if_pos h1]
  rw[HEE,HAA];generalize foA s.ab b' x.toNat (max n 0) 4 (s.ab.inn+n)=dA at *;generalize cgE d s.ab b' (foE d s.ab x (max n 0) (s.ab.inn+n))=E at *;generalize (if E=0 then dA else ab0)=dR at *;clear HEE HAA h1;go_enter Tryz.func8,Tryz.ntmps8;go_wp2_with fail;rw[←hw0];clear hw0;refine HC.out.mono ?_;rintro e w1 ⟨t,rfl,ht,hab,hb1,hfar⟩;have hR1:=HR0.out.below hb1;obtain⟨r0,r1,r2,r3,r4,r5,y0,y1,y2,y3,y4,y5,_⟩:=hR1;have HR1:=aH (HR0.out.below hb1);have HB1:=aH (bC HB0.out hb1);have HTT:=aH (aI ht (aI hab hfar));clear ht hab hfar hb1 t0 t1 t2 t3 t4 t5 d0 d1 d2 d3 o0 o1 o2 o3 o4;go_wp2;have hset:=HR1.out.setS t;obtain⟨q0,q1,q2,q3,q4,q5,_⟩:=hset;have hsz:=HSZ.out;refine bP (v:=.tuple #[t.v,.int .i64 E]) ?_ rfl ?_
  ·simp[results,Tryz.results8,go_sem,q0,q1,q2,q3,q4,q5]
  ·refine⟨t,rfl,?_,HTT.out.2.1,below_set6 HB1.out (by omega) _ _ _ _ _ _,HTT.out.2.2.less (by omega)⟩;have:=HTT.out.1.set6 HTT.out.2.2 (D:=w.heap.size+3) (by omega) (.slice t.cA t.cl.length t.cc) (.slice t.lA t.ll.length t.lc) (.slice t.tA t.tl.length t.tc) (.int .i64 t.st) (.int .i64 t.inn) (.int .i64 t.out);simpa using this
 have h1b:(k==1)=false:=by simpa using h1
 by_cases h2:k=2
 ·have h2b:(k==2)=true:=by simpa using h2
  have HC:=aH (waste_f d s b' x n (hid:=HO.out.a) (hn:=HO.out.n) (w:=w0) (hd:=HD0.out) (hs:=HS0.out));have HEE:opE d s.ab ⟨k,b',x,y,n⟩=foE d s.ab x (-(max n 0)) (s.ab.out+n):=by unfold opE;rw[if_neg h1,if_pos h2]
  have HAA:opA s.ab ⟨k,b',x,y,n⟩=foA s.ab b' x.toNat (-(max n 0)) 5 (s.ab.out+n):=by unfold opA;rw[if_neg h1,if_pos h2]
  rw[HEE,HAA];generalize foA s.ab b' x.toNat (-(max n 0)) 5 (s.ab.out+n)=dA at *;generalize cgE d s.ab b' (foE d s.ab x (-(max n 0)) (s.ab.out+n))=E at *;generalize (if E=0 then dA else ab0)=dR at *;clear HEE HAA h1 h2;go_enter Tryz.func8,Tryz.ntmps8;go_wp2_with fail;rw[←hw0];clear hw0;refine HC.out.mono ?_;rintro e w1 ⟨t,rfl,ht,hab,hb1,hfar⟩;have hR1:=HR0.out.below hb1;obtain⟨r0,r1,r2,r3,r4,r5,y0,y1,y2,y3,y4,y5,_⟩:=hR1;have HR1:=aH (HR0.out.below hb1);have HB1:=aH (bC HB0.out hb1);have HTT:=aH (aI ht (aI hab hfar));clear ht hab hfar hb1 t0 t1 t2 t3 t4 t5 d0 d1 d2 d3 o0 o1 o2 o3 o4;go_wp2;have hset:=HR1.out.setS t;obtain⟨q0,q1,q2,q3,q4,q5,_⟩:=hset;have hsz:=HSZ.out;refine bP (v:=.tuple #[t.v,.int .i64 E]) ?_ rfl ?_
  ·simp[results,Tryz.results8,go_sem,q0,q1,q2,q3,q4,q5]
  ·refine⟨t,rfl,?_,HTT.out.2.1,below_set6 HB1.out (by omega) _ _ _ _ _ _,HTT.out.2.2.less (by omega)⟩;have:=HTT.out.1.set6 HTT.out.2.2 (D:=w.heap.size+3) (by omega) (.slice t.cA t.cl.length t.cc) (.slice t.lA t.ll.length t.lc) (.slice t.tA t.tl.length t.tc) (.int .i64 t.st) (.int .i64 t.inn) (.int .i64 t.out);simpa using this
 have h2b:(k==2)=false:=by simpa using h2
 by_cases h3:k=3
 ·have h3b:(k==3)=true:=by simpa using h3
  have HC:=aH (move_f d s b' x y n (hx:=HO.out.a) (hy:=HO.out.b) (hn:=HO.out.n) (w:=w0) (hd:=HD0.out) (hs:=HS0.out));have HEE:opE d s.ab ⟨k,b',x,y,n⟩=moE d s.ab x y n:=by unfold opE;rw[if_neg h1,if_neg h2,if_pos h3]
  have HAA:opA s.ab ⟨k,b',x,y,n⟩=moA s.ab b' x y n:=by unfold opA;rw[if_neg h1,if_neg h2,if_pos h3]
  rw[HEE,HAA];generalize moA s.ab b' x y n=dA at *;generalize cgE d s.ab b' (moE d s.ab x y n)=E at *;generalize (if E=0 then dA else ab0)=dR at *;clear HEE HAA h1 h2 h3;go_enter Tryz.func8,Tryz.ntmps8;go_wp2_with fail;rw[←hw0];clear hw0;refine HC.out.mono ?_;rintro e w1 ⟨t,rfl,ht,hab,hb1,hfar⟩;have hR1:=HR0.out.below hb1;obtain⟨r0,r1,r2,r3,r4,r5,y0,y1,y2,y3,y4,y5,_⟩:=hR1;have HR1:=aH (HR0.out.below hb1);have HB1:=aH (bC HB0.out hb1);have HTT:=aH (aI ht (aI hab hfar));clear ht hab hfar hb1 t0 t1 t2 t3 t4 t5 d0 d1 d2 d3 o0 o1 o2 o3 o4;go_wp2;have hset:=HR1.out.setS t;obtain⟨q0,q1,q2,q3,q4,q5,_⟩:=hset;have hsz:=HSZ.out;refine bP (v:=.tuple #[t.v,.int .i64 E]) ?_ rfl ?_
  ·simp[results,Tryz.results8,go_sem,q0,q1,q2,q3,q4,q5]
  ·refine⟨t,rfl,?_,HTT.out.2.1,below_set6 HB1.out (by omega) _ _ _ _ _ _,HTT.out.2.2.less (by omega)⟩;have:=HTT.out.1.set6 HTT.out.2.2 (D:=w.heap.size+3) (by omega) (.slice t.cA t.cl.length t.cc) (.slice t.lA t.ll.length t.lc) (.slice t.tA t.tl.length t.tc) (.int .i64 t.st) (.int .i64 t.inn) (.int .i64 t.out);simpa using this
 have h3b:(k==3)=false:=by simpa using h3
 by_cases h4:k=4
 ·have h4b:(k==4)=true:=by simpa using h4
  have HC:=aH (take_f d s b' x (hid:=HO.out.a) (w:=w0) (hd:=HD0.out) (hs:=HS0.out));have HEE:opE d s.ab ⟨k,b',x,y,n⟩=taE d s.ab b' x:=by unfold opE;rw[if_neg h1,if_neg h2,if_neg h3,if_pos h4]
  have HAA:opA s.ab ⟨k,b',x,y,n⟩=taA s.ab b' x:=by unfold opA;rw[if_neg h1,if_neg h2,if_neg h3,if_pos h4]
  rw[HEE,HAA];generalize taA s.ab b' x=dA at *;generalize cgE d s.ab b' (taE d s.ab b' x)=E at *;generalize (if E=0 then dA else ab0)=dR at *;clear HEE HAA h1 h2 h3 h4;go_enter Tryz.func8,Tryz.ntmps8;go_wp2_with fail;rw[←hw0];clear hw0;refine HC.out.mono ?_;rintro e w1 ⟨t,rfl,ht,hab,hb1,hfar⟩;have hR1:=HR0.out.below hb1;obtain⟨r0,r1,r2,r3,r4,r5,y0,y1,y2,y3,y4,y5,_⟩:=hR1;have HR1:=aH (HR0.out.below hb1);have HB1:=aH (bC HB0.out hb1);have HTT:=aH (aI ht (aI hab hfar));clear ht hab hfar hb1 t0 t1 t2 t3 t4 t5 d0 d1 d2 d3 o0 o1 o2 o3 o4;go_wp2;have hset:=HR1.out.setS t;obtain⟨q0,q1,q2,q3,q4,q5,_⟩:=hset;have hsz:=HSZ.out;refine bP (v:=.tuple #[t.v,.int .i64 E]) ?_ rfl ?_
  ·simp[results,Tryz.results8,go_sem,q0,q1,q2,q3,q4,q5]
  ·refine⟨t,rfl,?_,HTT.out.2.1,below_set6 HB1.out (by omega) _ _ _ _ _ _,HTT.out.2.2.less (by omega)⟩;have:=HTT.out.1.set6 HTT.out.2.2 (D:=w.heap.size+3) (by omega) (.slice t.cA t.cl.length t.cc) (.slice t.lA t.ll.length t.lc) (.slice t.tA t.tl.length t.tc) (.int .i64 t.st) (.int .i64 t.inn) (.int .i64 t.out);simpa using this
 have h4b:(k==4)=false:=by simpa using h4
 have HC:=aH (drop_f d s b' (w:=w0) (hd:=HD0.out) (hs:=HS0.out));have HEE:opE d s.ab ⟨k,b',x,y,n⟩=drE s.ab b':=by unfold opE;rw[if_neg h1,if_neg h2,if_neg h3,if_neg h4]
 have HAA:opA s.ab ⟨k,b',x,y,n⟩=drA s.ab b':=by unfold opA;rw[if_neg h1,if_neg h2,if_neg h3,if_neg h4]
 rw[HEE,HAA];generalize drA s.ab b'=dA at *;generalize cgE d s.ab b' (drE s.ab b')=E at *;generalize (if E=0 then dA else ab0)=dR at *;clear HEE HAA h1 h2 h3 h4;go_enter Tryz.func8,Tryz.ntmps8;go_wp2_with fail;rw[←hw0];clear hw0;refine HC.out.mono ?_;rintro e w1 ⟨t,rfl,ht,hab,hb1,hfar⟩;have hR1:=HR0.out.below hb1;obtain⟨r0,r1,r2,r3,r4,r5,y0,y1,y2,y3,y4,y5,_⟩:=hR1;have HR1:=aH (HR0.out.below hb1);have HB1:=aH (bC HB0.out hb1);have HTT:=aH (aI ht (aI hab hfar));clear ht hab hfar hb1 t0 t1 t2 t3 t4 t5 d0 d1 d2 d3 o0 o1 o2 o3 o4;go_wp2;have hset:=HR1.out.setS t;obtain⟨q0,q1,q2,q3,q4,q5,_⟩:=hset;have hsz:=HSZ.out;refine bP (v:=.tuple #[t.v,.int .i64 E]) ?_ rfl ?_
 ·simp[results,Tryz.results8,go_sem,q0,q1,q2,q3,q4,q5]
 ·refine⟨t,rfl,?_,HTT.out.2.1,below_set6 HB1.out (by omega) _ _ _ _ _ _,HTT.out.2.2.less (by omega)⟩;have:=HTT.out.1.set6 HTT.out.2.2 (D:=w.heap.size+3) (by omega) (.slice t.cA t.cl.length t.cc) (.slice t.lA t.ll.length t.lc) (.slice t.tA t.tl.length t.tc) (.int .i64 t.st) (.int .i64 t.inn) (.int .i64 t.out);simpa using this
end Go.Proofs.YtacjonncakhhmaaGreat
