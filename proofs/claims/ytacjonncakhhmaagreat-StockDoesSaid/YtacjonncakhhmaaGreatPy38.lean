/- Stocks: Look. -/
import Derived.Test.YtacjonncakhhmaaGreatPy00
import Derived.Test.YtacjonncakhhmaaGreatPy37
import Derived.Test.YtacjonncakhhmaaGreatPy34
import Derived.Test.YtacjonncakhhmaaGreatPy33
set_option maxRecDepth 100000
set_option maxHeartbeats 8000000
namespace Go.Proofs.YtacjonncakhhmaaGreat
open Go.RowKit
theorem move_any (d:Dk) (s:Stk) (b' x y n:Int) (w:World) (hd:d.In w w.heap.size) (hs:s.In w w.heap.size) (hx:fits x) (hy:fits y) (hn:fits n):
  Calls Tryz.prog 13 #[d.v,s.v,.int .i64 b',.int .i64 x,.int .i64 y,.int .i64 n] w fun e w'=>∃t:Stk,e=.returned (.tuple #[t.v,.int .i64 (cgE d s.ab b' (moE d s.ab x y n))])∧t.In w' w'.heap.size∧t.ab=(if cgE d s.ab b' (moE d s.ab x y n)=0 then moA s.ab b' x y n else ab0)∧Below w.heap.size w w':=by
 obtain⟨w0,hw0⟩:∃w0,w0=((((((w.alloc (.cells #[.slice d.bA d.bn d.bc,.slice d.pA d.pn d.pc,.slice d.rA d.rn d.rc,.int .i64 d.arms] 26)).alloc (.cells #[.slice s.cA s.cl.length s.cc,.slice s.lA s.ll.length s.lc,.slice s.tA s.tl.length s.tc,.int .i64 s.st,.int .i64 s.inn,.int .i64 s.out] 31)).alloc (.cells #[.int .i64 x] 3)).alloc (.cells #[.int .i64 y] 3)).alloc (.cells #[.int .i64 n] 3)).alloc (.cells #[.slice none 0 0,.slice none 0 0,.slice none 0 0,.int .i64 0,.int .i64 0,.int .i64 0] 31)):=⟨_,rfl⟩;have HB0:=aH (show Below w.heap.size w w0 by rw[hw0];exact bL (bL (bL (bL (bL (bL (bR _ _) _) _) _) _) _) _);have HD0:=aH (hd.then HB0.out);have HS0:=aH (hs.then HB0.out);have HK0:=aH (show DkAt w0 w.heap.size d by rw[hw0];exact(((((Cells4.new w _ _ _ _ _).below (bL (bR _ _) _)).below (bL (bR _ _) _)).below (bL (bR _ _) _)).below (bL (bR _ _) _)).below (bL (bR _ _) _));have HT0:=aH (show SkAt w0 (w.heap.size+1) s by
  have e:(w.alloc (.cells #[.slice d.bA d.bn d.bc,.slice d.pA d.pn d.pc,.slice d.rA d.rn d.rc,.int .i64 d.arms] 26)).heap.size=w.heap.size+1:=by simp
  rw[hw0,←e];exact((((Cells6.new (w.alloc (.cells #[.slice d.bA d.bn d.bc,.slice d.pA d.pn d.pc,.slice d.rA d.rn d.rc,.int .i64 d.arms] 26)) 31 _ _ _ _ _ _).below (bL (bR _ _) _)).below (bL (bR _ _) _)).below (bL (bR _ _) _)).below (bL (bR _ _) _))
 have HI0:=aH (show w0.cell? ⟨w.heap.size+2,0,none⟩=some (.int .i64 x)∧w0.cell? ⟨w.heap.size+3,0,none⟩=some (.int .i64 y)∧w0.cell? ⟨w.heap.size+4,0,none⟩=some (.int .i64 n)∧w0.heap.size=w.heap.size+6 by
  rw[hw0];refine⟨?_,?_,?_,by simp⟩
  ·have h:((w.alloc (.cells #[.slice d.bA d.bn d.bc,.slice d.pA d.pn d.pc,.slice d.rA d.rn d.rc,.int .i64 d.arms] 26)).alloc (.cells #[.slice s.cA s.cl.length s.cc,.slice s.lA s.ll.length s.lc,.slice s.tA s.tl.length s.tc,.int .i64 s.st,.int .i64 s.inn,.int .i64 s.out] 31)).heap.size=w.heap.size+2:=by simp
   refine kK (bL (bR _ _) _) (kK (bL (bR _ _) _) (kK (bL (bR _ _) _) (?_)));rw[←h,alloc_at];rfl
  ·have h:(((w.alloc (.cells #[.slice d.bA d.bn d.bc,.slice d.pA d.pn d.pc,.slice d.rA d.rn d.rc,.int .i64 d.arms] 26)).alloc (.cells #[.slice s.cA s.cl.length s.cc,.slice s.lA s.ll.length s.lc,.slice s.tA s.tl.length s.tc,.int .i64 s.st,.int .i64 s.inn,.int .i64 s.out] 31)).alloc (.cells #[.int .i64 x] 3)).heap.size=w.heap.size+3:=by simp
   refine kK (bL (bR _ _) _) (kK (bL (bR _ _) _) (?_));rw[←h,alloc_at];rfl
  ·have h:((((w.alloc (.cells #[.slice d.bA d.bn d.bc,.slice d.pA d.pn d.pc,.slice d.rA d.rn d.rc,.int .i64 d.arms] 26)).alloc (.cells #[.slice s.cA s.cl.length s.cc,.slice s.lA s.ll.length s.lc,.slice s.tA s.tl.length s.tc,.int .i64 s.st,.int .i64 s.inn,.int .i64 s.out] 31)).alloc (.cells #[.int .i64 x] 3)).alloc (.cells #[.int .i64 y] 3)).heap.size=w.heap.size+4:=by simp
   refine kK (bL (bR _ _) _) (?_);rw[←h,alloc_at];rfl)
 have HR0:=aH (show Cells6 w0 (w.heap.size+5) (.slice none 0 0) (.slice none 0 0) (.slice none 0 0) (.int .i64 0) (.int .i64 0) (.int .i64 0)by
  have h:=Cells6.new (((((w.alloc (.cells #[.slice d.bA d.bn d.bc,.slice d.pA d.pn d.pc,.slice d.rA d.rn d.rc,.int .i64 d.arms] 26)).alloc (.cells #[.slice s.cA s.cl.length s.cc,.slice s.lA s.ll.length s.lc,.slice s.tA s.tl.length s.tc,.int .i64 s.st,.int .i64 s.inn,.int .i64 s.out] 31)).alloc (.cells #[.int .i64 x] 3)).alloc (.cells #[.int .i64 y] 3)).alloc (.cells #[.int .i64 n] 3)) 31 (.slice none 0 0) (.slice none 0 0) (.slice none 0 0) (.int .i64 0) (.int .i64 0) (.int .i64 0);rw[←hw0,show(((((w.alloc (.cells #[.slice d.bA d.bn d.bc,.slice d.pA d.pn d.pc,.slice d.rA d.rn d.rc,.int .i64 d.arms] 26)).alloc (.cells #[.slice s.cA s.cl.length s.cc,.slice s.lA s.ll.length s.lc,.slice s.tA s.tl.length s.tc,.int .i64 s.st,.int .i64 s.inn,.int .i64 s.out] 31)).alloc (.cells #[.int .i64 x] 3)).alloc (.cells #[.int .i64 y] 3)).alloc (.cells #[.int .i64 n] 3)).heap.size=w.heap.size+5 by simp]at h;exact h)
 have HC:=aH (change_any d s b' 35 #[.pointer (some ⟨w.heap.size,0,none⟩),.pointer (some ⟨w.heap.size+2,0,none⟩),.pointer (some ⟨w.heap.size+3,0,none⟩),.pointer (some ⟨w.heap.size+4,0,none⟩)] (moE d s.ab x y n) (moA s.ab b' x y n) w0 HD0.out HS0.out (enters_of Tryz.func35 (by kernel_rfl) rfl) (fun hrg hb1' hb2' V B D t hM hab hT hD hb hle=>by
  have hI:=HI0.out;have hsz:w0.heap.size=w.heap.size+6:=hI.2.2.2;have hfb:fits b':=by have h:=hd.a;unfold fits at h⊢;omega
  have e1:s.ab=t.ab:=hab.symm;rw[e1];rw[e1]at hrg;exact move1_any d t b' V B D _ _ _ _ x y n hrg hM hT hD hx hy hn (HK0.out.below hb) (kK hb HI0.out.1) (kK hb HI0.out.2.1) (kK hb HI0.out.2.2.1) (by omega) (by omega)))
 generalize moE d s.ab x y n=dE at *;generalize moA s.ab b' x y n=dA at *;generalize cgE d s.ab b' dE=E at *;generalize (if E=0 then dA else ab0)=dR at *;have hmf:∀(fn:Fn) (first cap:Array Value) (w:World),(Instr.makeFunc fn first cap).run Tryz.prog w=.ok (.func fn first cap) w:=fun _ _ _ _=>rfl;obtain⟨t0,t1,t2,t3,t4,t5,_⟩:=HT0.out;obtain⟨d0,d1,d2,d3,_⟩:=HK0.out;obtain⟨i0,i1,i2,_⟩:=HI0.out;clear hd hs;go_enter Tryz.func13,Tryz.ntmps13;go_wp2_with fail;rw[←hw0];clear hw0;refine HC.out.mono ?_;rintro e w1 ⟨t,rfl,ht,hab,hfar,hb1⟩;have hR1:=HR0.out.below hb1;obtain⟨r0,r1,r2,r3,r4,r5,y0,y1,y2,y3,y4,y5,_⟩:=hR1;have HR1:=aH (HR0.out.below hb1);have HB1:=aH (bC HB0.out hb1);have HTT:=aH (aI ht (aI hab hfar));clear ht hab hfar hb1 t0 t1 t2 t3 t4 t5 d0 d1 d2 d3 hmf i0 i1 i2;go_wp2;have hset:=HR1.out.set (.slice t.cA t.cl.length t.cc) (.slice t.lA t.ll.length t.lc) (.slice t.tA t.tl.length t.tc) (.int .i64 t.st) (.int .i64 t.inn) (.int .i64 t.out);obtain⟨q0,q1,q2,q3,q4,q5,_⟩:=hset;have hsz:w0.heap.size=w.heap.size+6:=HI0.out.2.2.2;refine bP (v:=.tuple #[t.v,.int .i64 E]) ?_ rfl ?_
 ·simp[results,Tryz.results13,go_sem,q0,q1,q2,q3,q4,q5]
 ·refine⟨t,rfl,?_,HTT.out.2.1,below_set6 HB1.out (by omega) _ _ _ _ _ _⟩;have:=HTT.out.1.set6 HTT.out.2.2 (D:=w.heap.size+5) (by omega) (.slice t.cA t.cl.length t.cc) (.slice t.lA t.ll.length t.lc) (.slice t.tA t.tl.length t.tc) (.int .i64 t.st) (.int .i64 t.inn) (.int .i64 t.out);simpa using this
def lsB:List Nat:=[0,4621256167635550208]
def lsP (S:Option Addr):Pl:=⟨1,2,4607182418800017408,0,0,100,S,1,1,[40]⟩
def lsR:Rk:=⟨1,1,4611686018427387904,0,0⟩
def lsD (A P R S:Option Addr):Dk:=⟨A,2,2,lsB,P,1,1,[lsP S],R,1,1,[lsR],2⟩
theorem ls_b:chkE lsB=0:=by decide+kernel
theorem ls_row1:rowV lsB ⟨1,2,4607182418800017408,0,0⟩=[(0,0,0),(0,0,0)]:=by decide+kernel
theorem ls_row2:rowV lsB ⟨1,1,4611686018427387904,0,0⟩=[(0,0,0)]:=by decide+kernel
theorem ls_chk (A P R S:Option Addr):dchk (lsD A P R S)=0:=by
 unfold dchk;rw[show(lsD A P R S).bl=lsB from rfl,if_neg (by rw[ls_b];simp)];kernel_rfl
theorem ls_racks (A P R S:Option Addr):racksL (lsD A P R S)=[⟨1,2,4607182418800017408,0,0⟩,⟨1,1,4611686018427387904,0,0⟩]:=rfl
theorem ls_z (A P R S:Option Addr):zchk (lsD A P R S)=0:=by
 unfold zchk zE;rw[if_pos (ls_chk A P R S),ls_racks,List.flatMap_cons,List.flatMap_cons,List.flatMap_nil,List.append_nil];show fstE (rowV lsB _++rowV lsB _)=0;rw[ls_row1,ls_row2];rfl
def lsA:Ab:=⟨[⟨100,40,0⟩,⟨100,0,0⟩],[(8,0,[]),(8,0,[])],[(1,0)],40,0,0⟩
def lsM:Ab:=⟨[⟨100,25,1⟩,⟨100,15,1⟩],[(8,1,[⟨1,2,-15⟩]),(8,1,[⟨1,2,15⟩])],[(1,0)],40,0,0⟩
def lsT:Ab:=⟨[⟨100,25,1⟩,⟨100,15,1⟩],[(8,1,[⟨1,2,-15⟩]),(8,1,[⟨1,2,15⟩])],[(2,1)],40,0,0⟩
theorem ls_well (A P R S:Option Addr):wellN (lsD A P R S)=2:=by kernel_rfl
theorem ls_tip (A P R S:Option Addr):tipN (lsD A P R S)=1:=by kernel_rfl
theorem ls_new (A P R S:Option Addr):newA (lsD A P R S)=lsA:=by kernel_rfl
theorem ls_mE (A P R S:Option Addr):moE (lsD A P R S) lsA 0 1 15=0:=by
 unfold moE;rw[(isP_eq _ (ls_chk A P R S) 0).1,(isP_eq _ (ls_chk A P R S) 1).1,ls_well,if_pos ⟨by decide,by decide⟩,if_neg (by decide)];decide
theorem ls_mA:moA lsA 2 0 1 15=lsM:=by kernel_rfl
theorem ls_hd0:hdF lsM 1=(0,false):=by decide
theorem ls_hd1:hdF lsT 1=(0,true):=by decide
theorem ls_tE (A P R S:Option Addr):taE (lsD A P R S) lsM 1 2=0:=by
 unfold taE;rw[(isP_eq _ (ls_chk A P R S) 2).2,ls_well,ls_tip,if_pos (by decide),ls_hd0,if_neg (by decide)];decide
theorem ls_tA:taA lsM 1 2=lsT:=by kernel_rfl
theorem ls_r0 (A P R S:Option Addr):rgS (lsD A P R S) lsA=true:=by rw[←ls_new A P R S];exact rg_new _ (ls_z A P R S)
theorem ls_r1 (A P R S:Option Addr):rgS (lsD A P R S) lsM=true:=by rw[←ls_mA];exact rg_move (ls_r0 A P R S) (by decide) (by show(2:Int)≤2;decide) (ls_mE A P R S)
theorem ls_r2 (A P R S:Option Addr):rgS (lsD A P R S) lsT=true:=by rw[←ls_tA];exact rg_take (ls_r1 A P R S) (by decide) (by show(1:Int)≤2;decide) (ls_tE A P R S)
noncomputable def haV (d:Dk) (a:Ab) (b':Int):Int×Bool:=if rgS d a=true then(if (hdF a b').2=true then((a.c.length:Int)+(hdF a b').1,true)else(-1,false))else(-1,false)
theorem hand_any (d:Dk) (s:Stk) (b':Int) (w:World) (hd:d.In w w.heap.size) (hs:s.In w w.heap.size):Calls Tryz.prog 17 #[d.v,s.v,.int .i64 b'] w fun e w'=>e=.returned (.tuple #[.int .i64 (haV d s.ab b').1,.bool (haV d s.ab b').2])∧Below w.heap.size w w':=by
 obtain⟨w0,hw0⟩:∃w0,w0=(w.alloc (.cells #[.slice d.bA d.bn d.bc,.slice d.pA d.pn d.pc,.slice d.rA d.rn d.rc,.int .i64 d.arms] 26)).alloc (.cells #[.slice s.cA s.cl.length s.cc,.slice s.lA s.ll.length s.lc,.slice s.tA s.tl.length s.tc,.int .i64 s.st,.int .i64 s.inn,.int .i64 s.out] 31):=⟨_,rfl⟩;have HB0:=aH (show Below w.heap.size w w0 by rw[hw0];exact bL (bL (bR _ _) _) _);have HD0:=aH (hd.then HB0.out);have HS0:=aH (hs.then HB0.out);have HK0:=aH (show DkAt w0 w.heap.size d by rw[hw0];exact(Cells4.new w _ _ _ _ _).below (bL (bR _ _) _));have HT0:=aH (show SkAt w0 (w.heap.size+1) s by
  have e:(w.alloc (.cells #[.slice d.bA d.bn d.bc,.slice d.pA d.pn d.pc,.slice d.rA d.rn d.rc,.int .i64 d.arms] 26)).heap.size=w.heap.size+1:=by simp
  rw[hw0,←e];exact Cells6.new (w.alloc (.cells #[.slice d.bA d.bn d.bc,.slice d.pA d.pn d.pc,.slice d.rA d.rn d.rc,.int .i64 d.arms] 26)) 31 _ _ _ _ _ _)
 have HRG:=aH (fun w h1 h2=>right_s d s w h1 h2);have HHD:=aH (fun w h=>Tp.held_any (.slice s.tA s.tl.length s.tc) s.tl b' w h);have HHF:=aH (show Tp.fstV (Tp.hdP s.tl b' 0) s.tl.length=hdF s.ab b' from rfl);have HL:=aH (rg_lens d s);have HV:=aH (show haV d s.ab b'=(if rgS d s.ab=true then(if (hdF s.ab b').2=true then((s.cl.length:Int)+(hdF s.ab b').1,true)else(-1,false))else(-1,false))from rfl);have HAT:=aH (hdF_at s.ab b');obtain⟨⟨f1,f2⟩,hf⟩:∃x,hdF s.ab b'=x:=⟨_,rfl⟩;rw[hf]at HV HAT HHF;dsimp only at HV HAT;obtain⟨⟨v1,v2⟩,hv⟩:∃x,haV d s.ab b'=x:=⟨_,rfl⟩;rw[hv];rw[hv]at HV;dsimp only;obtain⟨r,hr⟩:∃r,rgS d s.ab=r:=⟨_,rfl⟩;rw[hr]at HV HRG HL;obtain⟨t0,t1,t2,t3,t4,t5,_⟩:=HT0.out;obtain⟨d0,d1,d2,d3,_⟩:=HK0.out;clear hd hs hf hv hr
 cases r
 case false=>
  have hVV:v1= -1∧v2=false:=by have h:=HV.out;exact⟨congrArg Prod.fst h,congrArg Prod.snd h⟩
  obtain⟨rfl,rfl⟩:=hVV;go_enter Tryz.func17,Tryz.ntmps17;go_wp2_with fail;rw[←hw0];clear hw0;refine(HRG.out _ HD0.out HS0.out).mono ?_;rintro e w1 ⟨rfl,hb1⟩;have HB1:=aH (bC HB0.out hb1);clear hb1 t0 t1 t2 t3 t4 t5 d0 d1 d2 d3;go_wp2;refine bP (v:=.tuple #[.int .i64 (-1),.bool false]) ?_ rfl ⟨rfl,HB1.out⟩;simp[results,Tryz.results17,go_sem]
 go_enter Tryz.func17,Tryz.ntmps17;go_wp2_with fail;rw[←hw0];clear hw0;refine(HRG.out _ HD0.out HS0.out).mono ?_;rintro e w1 ⟨rfl,hb1⟩;have HB1:=aH (bC HB0.out hb1);have HS1:=aH (HS0.out.then hb1);have HT1:=aH (HT0.out.below hb1);clear hb1 t0 t1 t2 t3 t4 t5 d0 d1 d2 d3;obtain⟨t0,t1,t2,t3,t4,t5,_⟩:=HT1.out;go_wp2_with fail;refine(HHD.out _ HS1.out.t).mono ?_;rintro e w2 ⟨rfl,hb2⟩;rw[HHF.out];have HB2:=aH (bC HB1.out hb2);have HT2:=aH (HT1.out.below hb2);clear hb2 t0 t1 t2 t3 t4 t5;obtain⟨t0,t1,t2,t3,t4,t5,_⟩:=HT2.out
 cases f2
 case false=>
  have hVV:v1= -1∧v2=false:=by have h:=HV.out;exact⟨congrArg Prod.fst h,congrArg Prod.snd h⟩
  obtain⟨rfl,rfl⟩:=hVV;go_wp2;refine bP (v:=.tuple #[.int .i64 (-1),.bool false]) ?_ rfl ⟨rfl,HB2.out⟩;simp[results,Tryz.results17,go_sem]
 have hVV:v1=(s.cl.length:Int)+f1∧v2=true:=by have h:=HV.out;exact⟨congrArg Prod.fst h,congrArg Prod.snd h⟩
 obtain⟨rfl,rfl⟩:=hVV;obtain⟨k,rfl,hk⟩:=HAT.out rfl;have hwr:Go.RowKit.wrap64 ((s.cl.length:Int)+(k:Int))=(s.cl.length:Int)+k:=by
  have h1:=(HL.out (by simp)).1;have h2:=(HL.out (by simp)).2.2.1;have h3:k<s.tl.length:=hk;exact wrap64_fits _ (by unfold fits;omega)
 clear hk;go_wp2;refine bP (v:=.tuple #[.int .i64 ((s.cl.length:Int)+k),.bool true]) ?_ rfl ⟨rfl,HB2.out⟩;simp[results,Tryz.results17,go_sem];exact hwr
noncomputable def lkV (d:Dk) (a:Ab) (id:Int):Cel.Ce×Int:=if rgS d a=true then(if isP d 1 id=true then(a.c.getD id.toNat ce0,0)else(ce0,3))else(ce0,130)
theorem look_any (d:Dk) (s:Stk) (id:Int) (w:World) (hd:d.In w w.heap.size) (hs:s.In w w.heap.size) (hid:fits id):Calls Tryz.prog 15 #[d.v,s.v,.int .i64 id] w fun e w'=>e=.returned (Cel.ceE (lkV d s.ab id).1 (lkV d s.ab id).2)∧Below w.heap.size w w':=by
 obtain⟨w0,hw0⟩:∃w0,w0=((w.alloc (.cells #[.slice d.bA d.bn d.bc,.slice d.pA d.pn d.pc,.slice d.rA d.rn d.rc,.int .i64 d.arms] 26)).alloc (.cells #[.slice s.cA s.cl.length s.cc,.slice s.lA s.ll.length s.lc,.slice s.tA s.tl.length s.tc,.int .i64 s.st,.int .i64 s.inn,.int .i64 s.out] 31)).alloc (.cells #[.int .i64 0,.int .i64 0,.int .i64 0] 58):=⟨_,rfl⟩;have HB0:=aH (show Below w.heap.size w w0 by rw[hw0];exact bL (bL (bL (bR _ _) _) _) _);have HD0:=aH (hd.then HB0.out);have HS0:=aH (hs.then HB0.out);have HK0:=aH (show DkAt w0 w.heap.size d by rw[hw0];exact((Cells4.new w _ _ _ _ _).below (bL (bR _ _) _)).below (bL (bR _ _) _));have HT0:=aH (show SkAt w0 (w.heap.size+1) s by
  have e:(w.alloc (.cells #[.slice d.bA d.bn d.bc,.slice d.pA d.pn d.pc,.slice d.rA d.rn d.rc,.int .i64 d.arms] 26)).heap.size=w.heap.size+1:=by simp
  rw[hw0,←e];exact(Cells6.new (w.alloc (.cells #[.slice d.bA d.bn d.bc,.slice d.pA d.pn d.pc,.slice d.rA d.rn d.rc,.int .i64 d.arms] 26)) 31 _ _ _ _ _ _).below (bL (bR _ _) _))
 have HR0:=aH (show Cells3 w0 (w.heap.size+2) (.int .i64 0) (.int .i64 0) (.int .i64 0)by
  have e:((w.alloc (.cells #[.slice d.bA d.bn d.bc,.slice d.pA d.pn d.pc,.slice d.rA d.rn d.rc,.int .i64 d.arms] 26)).alloc (.cells #[.slice s.cA s.cl.length s.cc,.slice s.lA s.ll.length s.lc,.slice s.tA s.tl.length s.tc,.int .i64 s.st,.int .i64 s.inn,.int .i64 s.out] 31)).heap.size=w.heap.size+2:=by simp
  rw[hw0,←e];exact Cells3.new ((w.alloc (.cells #[.slice d.bA d.bn d.bc,.slice d.pA d.pn d.pc,.slice d.rA d.rn d.rc,.int .i64 d.arms] 26)).alloc (.cells #[.slice s.cA s.cl.length s.cc,.slice s.lA s.ll.length s.lc,.slice s.tA s.tl.length s.tc,.int .i64 s.st,.int .i64 s.inn,.int .i64 s.out] 31)) 58 _ _ _)
 have HRG:=aH (fun w h1 h2=>right_s d s w h1 h2);have HIP:=aH (fun w h=>isPart_any d 1 id hid w h);have HAB:=aH (rg_ab d s.ab);have HPE:=aH (fun h=>(isP_eq d h id).1);have HV:=aH (show lkV d s.ab id=(if rgS d s.ab=true then(if isP d 1 id=true then(s.cl.getD id.toNat ce0,0)else(ce0,3))else(ce0,130))from rfl);obtain⟨⟨v1,v2⟩,hv⟩:∃x,lkV d s.ab id=x:=⟨_,rfl⟩;rw[hv];rw[hv]at HV;dsimp only;obtain⟨r,hr⟩:∃r,rgS d s.ab=r:=⟨_,rfl⟩;obtain⟨p,hp⟩:∃p,isP d 1 id=p:=⟨_,rfl⟩;rw[hr]at HV HRG HAB;rw[hp]at HV HIP HPE;obtain⟨t0,t1,t2,t3,t4,t5,_⟩:=HT0.out;obtain⟨d0,d1,d2,d3,_⟩:=HK0.out;clear hd hs hv hr hp hid
 cases r
 case false=>
  have hVV:v1=ce0∧v2=130:=by have h:=HV.out;exact⟨congrArg Prod.fst h,congrArg Prod.snd h⟩
  obtain⟨rfl,rfl⟩:=hVV;go_enter Tryz.func15,Tryz.ntmps15;go_wp2_with fail;rw[←hw0];clear hw0;refine(HRG.out _ HD0.out HS0.out).mono ?_;rintro e w1 ⟨rfl,hb1⟩;have HB1:=aH (bC HB0.out hb1);have HR1:=aH (HR0.out.below hb1);obtain⟨r0,r1,r2,y0,y1,y2,_⟩:=HR1.out;clear hb1 t0 t1 t2 t3 t4 t5 d0 d1 d2 d3;go_wp2;obtain⟨q0,q1,q2,_⟩:=HR1.out.set (.int .i64 0) (.int .i64 0) (.int .i64 0);refine bP (v:=Cel.ceE ce0 130) ?_ rfl ⟨rfl,below_set3 HB1.out (by omega) _ _ _⟩;simp[results,Tryz.results15,go_sem,q0,q1,q2,ce0]
 go_enter Tryz.func15,Tryz.ntmps15;go_wp2_with fail;rw[←hw0];clear hw0;refine(HRG.out _ HD0.out HS0.out).mono ?_;rintro e w1 ⟨rfl,hb1⟩;have HB1:=aH (bC HB0.out hb1);have HD1:=aH (HD0.out.then hb1);have HS1:=aH (HS0.out.then hb1);have HT1:=aH (HT0.out.below hb1);have HR1:=aH (HR0.out.below hb1);have HK1:=aH (HK0.out.below hb1);clear hb1 t0 t1 t2 t3 t4 t5 d0 d1 d2 d3;obtain⟨d0,d1,d2,d3,_⟩:=HK1.out;go_wp2_with fail;refine(HIP.out _ HD1.out).mono ?_;rintro e w2 ⟨rfl,hb2⟩;have HB2:=aH (bC HB1.out hb2);have HT2:=aH (HT1.out.below hb2);have HR2:=aH (HR1.out.below hb2);have HS2:=aH (HS1.out.then hb2);clear hb2 d0 d1 d2 d3;obtain⟨r0,r1,r2,y0,y1,y2,_⟩:=HR2.out
 cases p
 case false=>
  have hVV:v1=ce0∧v2=3:=by have h:=HV.out;exact⟨congrArg Prod.fst h,congrArg Prod.snd h⟩
  obtain⟨rfl,rfl⟩:=hVV;go_wp2;obtain⟨q0,q1,q2,_⟩:=HR2.out.set (.int .i64 0) (.int .i64 0) (.int .i64 0);refine bP (v:=Cel.ceE ce0 3) ?_ rfl ⟨rfl,below_set3 HB2.out (by omega) _ _ _⟩;simp[results,Tryz.results15,go_sem,q0,q1,q2,ce0]
 have hVV:v1=s.cl.getD id.toNat ce0∧v2=0:=by have h:=HV.out;exact⟨congrArg Prod.fst h,congrArg Prod.snd h⟩
 obtain⟨hv1,rfl⟩:=hVV;have hin:0≤id∧id<(wellN d:Int):=of_decide_eq_true (HPE.out (HAB.out (by simp)).2.2.2.1).symm;have hlen:s.cl.length=wellN d:=(HAB.out (by simp)).2.2.2.2.1;obtain⟨k,rfl⟩:∃k:Nat,id=k:=⟨id.toNat,by omega⟩;have hk:k<s.cl.length:=by omega
 obtain⟨gb,off,eA,_,hc,hcell⟩:=ce_cells HS2.out.c (by omega);obtain⟨c0,c1,c2⟩:=hcell k hk;have e2:(k:Int).toNat=k:=by omega
 rw[e2]at hv1;rw[←hv1]at c0 c1 c2;obtain⟨va,vb,vc⟩:=v1;obtain⟨t0,_⟩:=HT2.out;rw[eA]at t0;have HH:=aH (show(k:Int)<s.cl.length by omega);have hkk:=HH.out;clear hcell hin hlen hv1 e2 hk eA;go_wp2;obtain⟨q0,q1,q2,_⟩:=HR2.out.set (.int .i64 va) (.int .i64 vb) (.int .i64 vc);refine bP (v:=Cel.ceE ⟨va,vb,vc⟩ 0) ?_ rfl ⟨rfl,below_set3 HB2.out (by omega) _ _ _⟩;simp[results,Tryz.results15,go_sem,q0,q1,q2]
end Go.Proofs.YtacjonncakhhmaaGreat
