/- How a deck and a stock that came in are opened. -/
import Derived.Test.YtacjonncakhhmaaGreatPy00
import Derived.Test.YtacjonncakhhmaaGreatPy47
import Derived.Test.YtacjonncakhhmaaGreatPy41
import Derived.Test.YtacjonncakhhmaaGreatPy39
import Derived.Test.YtacjonncakhhmaaGreatPy17
import Derived.Test.YtacjonncakhhmaaGreatPy31
import Derived.Test.YtacjonncakhhmaaGreatRows
import Derived.Test.YtacjonncakhhmaaGreatPy03
import Derived.ProofKit
import Derived.OpenShut
import Derived.ShutString
import Derived.ChangeMaps5
import Derived.Deep.Slices
import Derived.Lib.SmallJoins
import Derived.Carry
import Derived.ChangeSlices
import Derived.Test.YtacjonncakhhmaaGreatPy14
import Derived.Test.YtacjonncakhhmaaGreatPy07
import Derived.OpenVars
set_option maxRecDepth 100000
set_option maxHeartbeats 8000000
namespace Go.Proofs.YtacjonncakhhmaaGreat
open Go.RowKit
theorem stockDoes_walk (d:Dk) (s:Stk) (o:Opp) (w:World) (hd:d.In w w.heap.size) (hs:s.In w w.heap.size) (ho:o.Fit):Calls Tryz.prog 3 #[d.v,s.v,o.v] w fun e w'=>e=.returned (.bool true)∧Below w.heap.size w w':=by
 obtain⟨w0,hw0⟩:∃w0,w0=(((w.alloc (.cells #[.slice d.bA d.bn d.bc,.slice d.pA d.pn d.pc,.slice d.rA d.rn d.rc,.int .i64 d.arms] 26)).alloc (.cells #[.slice s.cA s.cl.length s.cc,.slice s.lA s.ll.length s.lc,.slice s.tA s.tl.length s.tc,.int .i64 s.st,.int .i64 s.inn,.int .i64 s.out] 31)).alloc (.cells #[.int .i64 o.k,.int .i64 o.w,.int .i64 o.a,.int .i64 o.b,.int .i64 o.n] 33)):=⟨_,rfl⟩;have HB0:=aH (show Below w.heap.size w w0 by rw[hw0];exact bL (bL (bL (bR _ _) _) _) _);have HD0:=aH (hd.then HB0.out);have HS0:=aH (hs.then HB0.out);obtain⟨Gd,hGd⟩:∃Gd,Gd=w.heap.size:=⟨_,rfl⟩;obtain⟨Gs,hGs⟩:∃Gs,Gs=w.heap.size+1:=⟨_,rfl⟩;obtain⟨Go',hGo⟩:∃Go',Go'=w.heap.size+1+1:=⟨_,rfl⟩;have HK:=aH (show DkAt w0 Gd d by rw[hw0,hGd];exact((Cells4.new w _ _ _ _ _).below (bL (bR _ _) _)).below (bL (bR _ _) _));have HT:=aH (show SkAt w0 Gs s by
  have e:(w.alloc (.cells #[.slice d.bA d.bn d.bc,.slice d.pA d.pn d.pc,.slice d.rA d.rn d.rc,.int .i64 d.arms] 26)).heap.size=w.heap.size+1:=by simp
  rw[hw0,hGs,←e];exact(Cells6.new (w.alloc (.cells #[.slice d.bA d.bn d.bc,.slice d.pA d.pn d.pc,.slice d.rA d.rn d.rc,.int .i64 d.arms] 26)) 31 _ _ _ _ _ _).below (bL (bR _ _) _))
 have HOB:=aH (show ∀W,Below w0.heap.size w0 W→W.cell? ⟨Go',0,none⟩=some (.int .i64 o.k)∧W.cell? ⟨Go',1,none⟩=some (.int .i64 o.w)∧W.cell? ⟨Go',2,none⟩=some (.int .i64 o.a)∧W.cell? ⟨Go',3,none⟩=some (.int .i64 o.b)∧W.cell? ⟨Go',4,none⟩=some (.int .i64 o.n)from fun W h=>by
  have e:((w.alloc (.cells #[.slice d.bA d.bn d.bc,.slice d.pA d.pn d.pc,.slice d.rA d.rn d.rc,.int .i64 d.arms] 26)).alloc (.cells #[.slice s.cA s.cl.length s.cc,.slice s.lA s.ll.length s.lc,.slice s.tA s.tl.length s.tc,.int .i64 s.st,.int .i64 s.inn,.int .i64 s.out] 31)).heap.size=w.heap.size+1+1:=by simp
  refine⟨kK h ?_,kK h ?_,kK h ?_,kK h ?_,kK h ?_⟩
  all_goals (rw[hw0,hGo,←e,alloc_at];rfl))
 have HLD:=aH (fun(V:World) (h:Below w0.heap.size w0 V)=>large_any d V (HD0.out.then h));have HLS:=aH (fun(V:World) (h:Below w0.heap.size w0 V)=>large_s s V (HS0.out.then h));have HLV:=aH (fun(V:World)=>lives13 V);have HCP:=aH (show laB s.ab=false→∀(V:World),Below w0.heap.size w0 V→Calls Tryz.prog 7 #[s.v] V fun e w'=>∃t:Stk,e=.returned t.v∧t.ab=s.ab∧t.In w' w'.heap.size∧Below V.heap.size V w' from fun hl V h=>by
  have h1:=la_no hl;have e1:s.ab.c.length=s.cl.length:=rfl;have e2:s.ab.l.length=s.ll.length:=by show(s.ll.map Lo.ab).length=_;rw[List.length_map]
  have e3:s.ab.t.length=s.tl.length:=rfl;have h4:∀q∈s.ll,q.xs.length≤100:=fun q hq=>h1.2.2.2 q.ab (List.mem_map.2 ⟨q,hq,rfl⟩);refine(rcopy_any s V (HS0.out.then h) (by omega) (by omega) (by omega) (fun q hq=>by have:=h4 q hq;omega)).mono ?_;rintro e w' ⟨t,rfl,ha,hr,hb,-⟩;have f1:t.cl.length=s.cl.length:=congrArg (fun a:Ab=>a.c.length) ha;have f2:t.ab.l.length=t.ll.length:=by show(t.ll.map Lo.ab).length=_;rw[List.length_map]
  have f3:t.ab.l.length=s.ab.l.length:=congrArg (fun a:Ab=>a.l.length) ha;have f4:t.tl.length=s.tl.length:=congrArg (fun a:Ab=>a.t.length) ha;exact⟨t,rfl,ha,hr.inn (by omega) (by omega) (by omega),hb⟩)
 have HDO:=aH (fun(V:World) (h:Below w0.heap.size w0 V)=>does_any d s o V (HD0.out.then h) (HS0.out.then h) ho);have HRD:=aH (fun(u:Stk) (hu:u.ab=s.ab) (V:World) (h:Below w0.heap.size w0 V) (hi:u.In V V.heap.size)=>show Calls Tryz.prog 9 #[d.v,u.v,o.v] V fun e w'=>∃t:Stk,e=.returned (.tuple #[t.v,.int .i64 (cgE d s.ab o.w (opE d s.ab o))])∧t.In w' w'.heap.size∧t.ab=(if cgE d s.ab o.w (opE d s.ab o)=0 then opA s.ab o else ab0)∧Below V.heap.size V w' from by
  have:=rdoes_any d u o V (HD0.out.then h) hi ho;rw[hu]at this;refine this.mono ?_;rintro e w' ⟨t,h1,h2,h3,h4,-⟩;exact⟨t,h1,h2,h3,h4⟩)
 have HSM:=aH (fun(s u:Stk) (h:s.ab=u.ab) (V:World) (h1) (h2)=>same_s s u h V h1 h2);have HRG:=aH (fun(s:Stk) (V:World) (h:Below w0.heap.size w0 V) (h2)=>right_s d s V (HD0.out.then h) h2);have HOR:=aH (fun h=>@op_right d s.ab o h);generalize laB s.ab=ls at *;generalize largeB d=lb at *;generalize cgE d s.ab o.w (opE d s.ab o)=E at *;generalize opA s.ab o=dA at *;obtain⟨d0,d1,d2,d3,-⟩:=HK.out;obtain⟨t0,t1,t2,t3,t4,t5,-⟩:=HT.out;rw[hw0,hGd]at d0 d1 d2 d3;rw[hw0,hGs]at t0 t1 t2 t3 t4 t5;clear hd hs ho;go_enter Tryz.func3,Tryz.ntmps3;go_wp2_with fail;rw[←hw0]
 try rw[←hGo]
 try rw[←hGs]
 try rw[←hGd]
 clear hw0 hGd hGs hGo d0 d1 d2 d3 t0 t1 t2 t3 t4 t5;refine(HLD.out w0 (bR _ _)).mono ?_;rintro e w1 ⟨rfl,hb1⟩;have HB1:=aH hb1;clear hb1
 cases lb
 case true=>
  go_wp2_with fail;refine(HLV.out w1).mono ?_;rintro e w2 ⟨rfl,hb2⟩;have HB2:=aH (bC HB0.out (bC HB1.out hb2));clear hb2;go_wp2
  go_ret
  exact⟨rfl,HB2.out⟩
 obtain⟨t0,t1,t2,t3,t4,t5,-⟩:=HT.out.below HB1.out;go_wp2_with fail;refine(HLS.out w1 HB1.out).mono ?_;rintro e w2 ⟨rfl,hb2⟩;have HB2:=aH (bC HB1.out hb2);clear hb2 t0 t1 t2 t3 t4 t5 HB1
 cases ls
 case true=>
  go_wp2_with fail;refine(HLV.out w2).mono ?_;rintro e w3 ⟨rfl,hb3⟩;have HB3:=aH (bC HB0.out (bC HB2.out hb3));clear hb3;go_wp2
  go_ret
  exact⟨rfl,HB3.out⟩
 have HCX:=aH (HCP.out (by simp));obtain⟨t0,t1,t2,t3,t4,t5,-⟩:=HT.out.below HB2.out;go_wp2_with fail;clear t0 t1 t2 t3 t4 t5;refine(HCX.out w2 HB2.out).mono ?_;rintro e w3 ⟨u,rfl,hua,hui,hb3⟩;obtain⟨v3,hv3⟩:∃v3,v3=w3.alloc (.cells #[.slice u.cA u.cl.length u.cc,.slice u.lA u.ll.length u.lc,.slice u.tA u.tl.length u.tc,.int .i64 u.st,.int .i64 u.inn,.int .i64 u.out] 31):=⟨_,rfl⟩;have hba:=bL (bR w3.heap.size w3) (.cells #[.slice u.cA u.cl.length u.cc,.slice u.lA u.ll.length u.lc,.slice u.tA u.tl.length u.tc,.int .i64 u.st,.int .i64 u.inn,.int .i64 u.out] 31);rw[←hv3]at hba;have HB3:=aH (show Below w0.heap.size w0 v3 from bC HB2.out (bC hb3 hba));have HUA:=aH hua;have HU3:=aH (hui.then hba);have HS3:=aH (show SkAt v3 w3.heap.size u by rw[hv3];exact Cells6.new w3 _ _ _ _ _ _ _);clear hua hui hb3 hba HB2;obtain⟨d0,d1,d2,d3,-⟩:=HK.out.below HB3.out;obtain⟨t0,t1,t2,t3,t4,t5,-⟩:=HT.out.below HB3.out;obtain⟨o0,o1,o2,o3,o4⟩:=HOB.out v3 HB3.out;rw[hv3]at d0 d1 d2 d3 t0 t1 t2 t3 t4 t5 o0 o1 o2 o3 o4;go_wp2_with fail;rw[←hv3];clear hv3 d0 d1 d2 d3 t0 t1 t2 t3 t4 t5 o0 o1 o2 o3 o4;generalize w3.heap.size=Gu at *;refine(HDO.out v3 HB3.out).mono ?_;rintro e w4 ⟨a,rfl,hai,haa,hb4,-⟩;obtain⟨v4,hv4⟩:∃v4,v4=w4.alloc (.cells #[.slice a.cA a.cl.length a.cc,.slice a.lA a.ll.length a.lc,.slice a.tA a.tl.length a.tc,.int .i64 a.st,.int .i64 a.inn,.int .i64 a.out] 31):=⟨_,rfl⟩;have hba:=bL (bR w4.heap.size w4) (.cells #[.slice a.cA a.cl.length a.cc,.slice a.lA a.ll.length a.lc,.slice a.tA a.tl.length a.tc,.int .i64 a.st,.int .i64 a.inn,.int .i64 a.out] 31);rw[←hv4]at hba;have HB4:=aH (show Below w0.heap.size w0 v4 from bC HB3.out (bC hb4 hba));have HAA:=aH haa;have HA4:=aH (hai.then hba);have HU4:=aH (HU3.out.then (bC hb4 hba));have HS4:=aH (HS3.out.below (bC hb4 hba))
 have HT4:=aH (show SkAt v4 w4.heap.size a by rw[hv4];exact Cells6.new w4 _ _ _ _ _ _ _);clear haa hai hb4 hba HU3 HS3 HB3;obtain⟨d0,d1,d2,d3,-⟩:=HK.out.below HB4.out;obtain⟨t0,t1,t2,t3,t4,t5,-⟩:=HS4.out;obtain⟨o0,o1,o2,o3,o4⟩:=HOB.out v4 HB4.out;rw[hv4]at d0 d1 d2 d3 t0 t1 t2 t3 t4 t5 o0 o1 o2 o3 o4;go_wp2_with fail;rw[←hv4];clear hv4 d0 d1 d2 d3 t0 t1 t2 t3 t4 t5 o0 o1 o2 o3 o4;generalize w4.heap.size=Ga at *;refine(HRD.out u HUA.out v4 HB4.out HU4.out).mono ?_;rintro e w5 ⟨b,rfl,hbi,hbb,hb5⟩;obtain⟨v5,hv5⟩:∃v5,v5=w5.alloc (.cells #[.slice b.cA b.cl.length b.cc,.slice b.lA b.ll.length b.lc,.slice b.tA b.tl.length b.tc,.int .i64 b.st,.int .i64 b.inn,.int .i64 b.out] 31):=⟨_,rfl⟩;have hba:=bL (bR w5.heap.size w5) (.cells #[.slice b.cA b.cl.length b.cc,.slice b.lA b.ll.length b.lc,.slice b.tA b.tl.length b.tc,.int .i64 b.st,.int .i64 b.inn,.int .i64 b.out] 31);rw[←hv5]at hba;have HB5:=aH (show Below w0.heap.size w0 v5 from bC HB4.out (bC hb5 hba));have HAB:=aH (show a.ab=b.ab from HAA.out.trans hbb.symm);have HBI:=aH (hbi.then hba);have HA5:=aH (HA4.out.then (bC hb5 hba));have HU5:=aH (HU4.out.then (bC hb5 hba));have HS5:=aH (HS4.out.below (bC hb5 hba));have HT5:=aH (HT4.out.below (bC hb5 hba));have HR5:=aH (show SkAt v5 w5.heap.size b by rw[hv5];exact Cells6.new w5 _ _ _ _ _ _ _);clear hbb hbi hb5 hba HU4 HS4 HB4 HA4 HT4;go_wp2_with fail;rw[←hv5];clear hv5;generalize w5.heap.size=Gb at *;refine(HLV.out v5).mono ?_;rintro e w6 ⟨rfl,hb6⟩;have HB6:=aH (bC HB5.out hb6);have HBI6:=aH (HBI.out.then hb6);have HA6:=aH (HA5.out.then hb6);have HU6:=aH (HU5.out.then hb6);have HS6:=aH (HS5.out.below hb6);have HT6:=aH (HT5.out.below hb6);have HR6:=aH (HR5.out.below hb6);clear hb6 HB5 HBI HA5 HU5 HS5 HT5 HR5;obtain⟨a0,a1,a2,a3,a4,a5,-⟩:=HT6.out;obtain⟨b0,b1,b2,b3,b4,b5,-⟩:=HR6.out
 go_wp2_with fail;clear a0 a1 a2 a3 a4 a5 b0 b1 b2 b3 b4 b5;refine(HSM.out a b HAB.out w6 HA6.out HBI6.out).mono ?_;rintro e w7 ⟨rfl,hb7⟩;have HB7:=aH (bC HB6.out hb7);have HA7:=aH (HA6.out.then hb7);have HU7:=aH (HU6.out.then hb7);have HS7:=aH (HS6.out.below hb7);have HT7:=aH (HT6.out.below hb7);clear hb7 HB6 HBI6 HA6 HU6 HS6 HT6 HR6;have hee:(E != E)=false:=by simp
 obtain⟨t0,t1,t2,t3,t4,t5,-⟩:=HT.out.below HB7.out;obtain⟨u0,u1,u2,u3,u4,u5,-⟩:=HS7.out;go_wp2_with fail;clear t0 t1 t2 t3 t4 t5 u0 u1 u2 u3 u4 u5 hee;refine(HSM.out s u HUA.out.symm w7 (HS0.out.then HB7.out) HU7.out).mono ?_;rintro e w8 ⟨rfl,hb8⟩;have HB8:=aH (bC HB7.out hb8);have HA8:=aH (HA7.out.then hb8);have HT8:=aH (HT7.out.below hb8);clear hb8 HB7 HA7 HU7 HS7 HT7;by_cases hE:E=0
 case neg=>
  have hEb:(E != 0)=true:=by simpa using hE
  clear hE;go_wp2
  go_ret
  exact⟨rfl,bC HB0.out HB8.out⟩
 have HRT:=aH (show rgS d a.ab=true from by rw[HAA.out,if_pos hE];exact(HOR.out hE).1);subst hE;obtain⟨d0,d1,d2,d3,-⟩:=HK.out.below HB8.out;obtain⟨a0,a1,a2,a3,a4,a5,-⟩:=HT8.out;go_wp2_with fail;clear d0 d1 d2 d3 a0 a1 a2 a3 a4 a5;refine(HRG.out a w8 HB8.out HA8.out).mono ?_;rw[HRT.out];rintro e w9 ⟨rfl,hb9⟩;have HB9:=aH (bC HB0.out (bC HB8.out hb9));clear hb9;go_wp2
 go_ret
 exact⟨rfl,HB9.out⟩
open Go.ChangeShapes Go.WideShapes Go.ChangeAt Go.RowKit Go.Deep
theorem own:ownKnob Tryz.prog.godebug=none:=by kernel_rfl
theorem laidOut:laidOutB Tryz.prog=true:=by kernel_rfl
theorem int_fits {n:Int} (h:(Lit.int .i64 n).wf=true):fits n:=by
 have: -9223372036854775808≤n∧n≤9223372036854775807:=by simpa [Lit.wf,IntKind.min,IntKind.max,IntKind.signed,IntKind.bits]using h
 exact this
theorem fl_fits {n:Nat} (h:(Lit.float .f64 n).wf=true):n<18446744073709551616:=by simpa [Lit.wf]using h
theorem Lk.opened {P:Program} {α:Type} {K:Lk P α} {H:Type} {enc:TypeId×Value→H} {w:World} (Q:α→Prop) (hcells:P.cellsOf K.E=K.n)
  (each:∀(fuel:Nat) (cs:List Value) (x:DataW H×List MemPlace),DataW.trod enc P w 0 (fun _=>true) true fuel K.E cs=some x→∃y:α,cs=K.cells y∧K.ok y∧Q y)
  {fuel:Nat} {cs:List Value} {x:DataW H×List MemPlace} (h:DataW.trod enc P w 0 (fun _=>true) true fuel K.S cs=some x):
  ∃v xs,cs=[v]∧K.IsL w w.heap.size v xs∧∀y∈xs,Q y:=by
 rcases open_slice K.und h with ⟨rfl,_⟩ | ⟨a,len,cap,m,n,D,Pl,rfl,hb,hl,hm,hmm,rfl,hx⟩
 ·exact⟨_,[],rfl,IsL.nil _ _ _ _,fun y hy=>by simp at hy⟩
 ·rw[if_pos rfl]at hmm;subst hmm;have hm':m≤9223372036854775807:=by unfold maxLen at hm;omega
  rcases Nat.eq_zero_or_pos len with h0 | h0
  ·subst h0;exact⟨_,[],rfl,IsL.nil _ _ _ _,fun y hy=>by simp at hy⟩
  have hi:Inhabited α:=⟨K.dflt⟩;obtain⟨Y,hY⟩:=choose_lt (α:=α) (n:=len) (p:=fun i y=>K.ok y∧Q y∧∀j,j<K.n→w.cell? ((a.add (i * K.n)).add j)=(K.cells y)[j]?) (fun i hi=>by
   obtain⟨cs',h1,h2⟩:=hx i (by omega);rw[hcells]at h1;obtain⟨y,rfl,hy,hq⟩:=each _ _ _ h2;obtain⟨_,_,hcell⟩:=World.cells?_some h1;exact⟨y,hy,hq,hcell⟩)
  have hpos:=K.pos;obtain⟨b,off,spot⟩:=a;have h00:=(hY 0 h0).2.2 0 hpos;obtain⟨u0,hu0⟩:∃u,(K.cells (Y 0))[0]? =some u:=⟨_,List.getElem?_eq_getElem (by rw[K.len];exact hpos)⟩;rw[hu0]at h00;have hspot:spot=none:=by simpa [Addr.add]using World.cell?_spot h00
  subst hspot;have hlen:((List.range len).map Y).length=len:=by simp
  refine⟨_,(List.range len).map Y,rfl,⟨⟨some ⟨b,off,none⟩,m,by rw[hlen],by rw[hlen];exact hl,fun _=>⟨b,off,rfl,?_,fun i hi j u hu=>?_⟩⟩,fun y hy=>?_,by rw[hlen];omega⟩,fun y hy=>?_⟩
  ·have e:=wB w _ h00;simpa [Addr.add]using e
  ·rw[hlen]at hi;have hj:j<K.n:=by
    have:=(List.getElem?_eq_some_iff.1 hu).1;rw[K.len]at this;exact this
   have e:=(hY i hi).2.2 j hj;rw[add_plain,add_plain]at e;have hget:((List.range len).map Y).getD i K.dflt=Y i:=by
    rw[List.getD_eq_getElem?_getD,List.getElem?_map,List.getElem?_range hi];rfl
   rw[hget]at hu;rw[←Nat.add_assoc,e,hu]
  ·obtain⟨i,hi,rfl⟩:=List.mem_map.1 hy;exact(hY i (List.mem_range.1 hi)).1
  ·obtain⟨i,hi,rfl⟩:=List.mem_map.1 hy;exact(hY i (List.mem_range.1 hi)).2.1
theorem trod_float {H:Type} {enc:TypeId×Value→H} {P:Program} {w:World} {base:Nat} {spare:Nat→Bool} {held:Bool} {fuel:Nat} {t:TypeId} {cs:List Value} {x:DataW H×List MemPlace} {k:FloatKind} (ht:P.underlying t=some (.float k)) (h:DataW.trod enc P w base spare held fuel t cs=some x):∃n,cs=[.float k n]∧(Lit.float k n).wf=true:=by
 cases fuel with
 | zero=>simp[DataW.trod]at h
 | succ n=>
  unfold DataW.trod at h;rw[ht]at h
  split at h <;> simp_all
theorem celi3:Tryz.prog.cellsOf 3=1:=by kernel_rfl
theorem fieldz {H:Type} {enc:TypeId×Value→H} {w:World} {fuel:Nat} {t:TypeId} {fs:Array Field} {cs:List Value} {x:DataW H×List MemPlace} (ht:Tryz.prog.underlying t=some (.struct fs)) (h:DataW.trod enc Tryz.prog w 0 (fun _=>true) true fuel t cs=some x):
  cs.length=Tryz.prog.cellsOf t∧∃n,∀(i:Nat) (f:Field),fs[i]? =some f→∃y,DataW.trod enc Tryz.prog w 0 (fun _=>true) true n f.type ((cs.drop f.offset).take (Tryz.prog.cellsOf f.type))=some y:=by
 obtain⟨xs,n,_,_,hl,hlen,hf⟩:=DataW.trod_struct ht h;refine⟨hl,n,fun i f hi=>?_⟩;have hi':i<xs.length:=by
  rw[hlen];exact(Array.getElem?_eq_some_iff.1 hi).1
 exact⟨xs[i],by rw[hf i f hi,List.getElem?_eq_getElem hi']⟩
theorem one_int' {H:Type} {enc:TypeId×Value→H} {w:World} {n:Nat} {c:Value} (h:∃y,DataW.trod enc Tryz.prog w 0 (fun _=>true) true n 3 [c]=some y):∃k,c=.int .i64 k∧fits k:=by
 obtain⟨y,hy⟩:=h;obtain⟨k,e,_,hw⟩:=DataW.trod_int Tryz.underlying3 hy;simp only[List.cons.injEq,and_true]at e;exact⟨k,e,int_fits hw⟩
theorem celt44:Tryz.prog.cellsOf 68=2:=by kernel_rfl
theorem celt32:Tryz.prog.cellsOf 128=3:=by kernel_rfl
theorem tip_cs {H:Type} {enc:TypeId×Value→H} {w:World} {fuel:Nat} {cs:List Value} {x:DataW H×List MemPlace} (h:DataW.trod enc Tryz.prog w 0 (fun _=>true) true fuel 68 cs=some x):∃q:Int×Int,cs=tpCells q∧fits q.1∧fits q.2:=by
 obtain⟨hl,n,hf⟩:=fieldz Tryz.underlying68 h;rw[celt44]at hl
 match cs,hl with
 | [c0,c1],_=>
  have g0:=hf 0 {name:= "State",type:=3,offset:=0,embedded:=false,tag:= "",pkgPath:= "",byteOffset:=0} rfl;have g1:=hf 1 {name:= "By",type:=3,offset:=1,embedded:=false,tag:= "",pkgPath:= "",byteOffset:=8} rfl;simp only[celi3,List.drop_zero,List.drop_succ_cons,List.take_succ_cons,List.take_zero]at g0 g1;obtain⟨k0,rfl,f0⟩:=one_int' g0;obtain⟨k1,rfl,f1⟩:=one_int' g1;exact⟨(k0,k1),rfl,f0,f1⟩
theorem change_cs {H:Type} {enc:TypeId×Value→H} {w:World} {fuel:Nat} {cs:List Value} {x:DataW H×List MemPlace} (h:DataW.trod enc Tryz.prog w 0 (fun _=>true) true fuel 128 cs=some x):∃q:Ch,cs=chCells q∧fits q.a∧fits q.b∧fits q.c:=by
 obtain⟨hl,n,hf⟩:=fieldz Tryz.underlying128 h;rw[celt32]at hl
 match cs,hl with
 | [c0,c1,c2],_=>
  have g0:=hf 0 {name:= "Ver",type:=3,offset:=0,embedded:=false,tag:= "",pkgPath:= "",byteOffset:=0} rfl;have g1:=hf 1 {name:= "By",type:=3,offset:=1,embedded:=false,tag:= "",pkgPath:= "",byteOffset:=8} rfl;have g2:=hf 2 {name:= "N",type:=3,offset:=2,embedded:=false,tag:= "",pkgPath:= "",byteOffset:=16} rfl;simp only[celi3,List.drop_zero,List.drop_succ_cons,List.take_succ_cons,List.take_zero]at g0 g1 g2;obtain⟨k0,rfl,f0⟩:=one_int' g0;obtain⟨k1,rfl,f1⟩:=one_int' g1;obtain⟨k2,rfl,f2⟩:=one_int' g2;exact⟨⟨k0,k1,k2⟩,rfl,f0,f1,f2⟩
theorem cs_tips {H:Type} {enc:TypeId×Value→H} {w:World} {fuel:Nat} {cs:List Value} {x:DataW H×List MemPlace} (h:DataW.trod enc Tryz.prog w 0 (fun _=>true) true fuel 29 cs=some x):∃v xs,cs=[v]∧KT.IsL w w.heap.size v xs:=by
 obtain⟨v,xs,h1,h2,_⟩:=Lk.opened (K:=KT) (fun _=>True) celt44 (fun fuel cs x h=>by
  obtain⟨q,e,h1,h2⟩:=tip_cs h;exact⟨q,e,⟨h1,h2⟩,trivial⟩) h
 exact⟨v,xs,h1,h2⟩
theorem cs_changes {H:Type} {enc:TypeId×Value→H} {w:World} {fuel:Nat} {cs:List Value} {x:DataW H×List MemPlace} (h:DataW.trod enc Tryz.prog w 0 (fun _=>true) true fuel 48 cs=some x):∃v xs,cs=[v]∧KC.IsL w w.heap.size v xs:=by
 obtain⟨v,xs,h1,h2,_⟩:=Lk.opened (K:=KC) (fun _=>True) celt32 (fun fuel cs x h=>by
  obtain⟨q,e,h1,h2,h3⟩:=change_cs h;exact⟨q,e,⟨h1,h2,h3⟩,trivial⟩) h
 exact⟨v,xs,h1,h2⟩
theorem cells28:Tryz.prog.cellsOf 44=1:=by kernel_rfl
theorem open_floats {H:Type} {enc:TypeId×Value→H} {w:World} {fuel:Nat} {cs:List Value} {x:DataW H×List MemPlace} (h:DataW.trod enc Tryz.prog w 0 (fun _=>true) true fuel 22 cs=some x):∃v xs,cs=[v]∧KF.IsL w w.heap.size v xs:=by
 obtain⟨v,xs,h1,h2,_⟩:=Lk.opened (K:=KF) (fun _=>True) cells28 (fun fuel cs x h=>by
  obtain⟨n,rfl,hw⟩:=trod_float Tryz.underlying44 h;exact⟨n,rfl,fl_fits hw,trivial⟩) h
 exact⟨v,xs,h1,h2⟩
theorem cells3:Tryz.prog.cellsOf 3=1:=by kernel_rfl
theorem cells61:Tryz.prog.cellsOf 45=1:=by kernel_rfl
theorem cells22:Tryz.prog.cellsOf 22=1:=by kernel_rfl
theorem cells41:Tryz.prog.cellsOf 23=1:=by kernel_rfl
theorem cells42:Tryz.prog.cellsOf 24=1:=by kernel_rfl
theorem cells44:Tryz.prog.cellsOf 26=4:=by kernel_rfl
theorem cells63:Tryz.prog.cellsOf 47=7:=by kernel_rfl
theorem cells72:Tryz.prog.cellsOf 52=5:=by kernel_rfl
theorem deck_reads:Tryz.prog.readableRec 26=true:=by kernel_rfl
theorem deck_row:26<Tryz.prog.types.size:=of_decide_eq_true (by kernel_rfl)
theorem one_float {H:Type} {enc:TypeId×Value→H} {w:World} {n:Nat} {c:Value} (h:∃y,DataW.trod enc Tryz.prog w 0 (fun _=>true) true n 44 [c]=some y):∃k,c=.float .f64 k∧k<18446744073709551616:=by
 obtain⟨y,hy⟩:=h;obtain⟨k,e,hw⟩:=trod_float Tryz.underlying44 hy;simp only[List.cons.injEq,and_true]at e;exact⟨k,e,fl_fits hw⟩
theorem one_ints {H:Type} {enc:TypeId×Value→H} {w:World} {n:Nat} {c:Value} (h:∃y,DataW.trod enc Tryz.prog w 0 (fun _=>true) true n 45 [c]=some y):∃xs,KI.IsL w w.heap.size c xs:=by
 obtain⟨y,hy⟩:=h;obtain⟨v,xs,h1,h2,_⟩:=Lk.opened (K:=KI) (fun _=>True) cells3 (fun fuel cs x h=>by
  obtain⟨k,e,_,hw⟩:=DataW.trod_int Tryz.underlying3 h;exact⟨k,e,int_fits hw,trivial⟩) hy
 simp only[List.cons.injEq,and_true]at h1;subst h1;exact⟨xs,h2⟩
theorem open_plate {H:Type} {enc:TypeId×Value→H} {w:World} {fuel:Nat} {cs:List Value} {x:DataW H×List MemPlace} (h:DataW.trod enc Tryz.prog w 0 (fun _=>true) true fuel 47 cs=some x):
  ∃q:Pl,cs=KP.cells q∧KP.ok q∧KI.IsL w w.heap.size (.slice q.sA q.sn q.sc) q.st:=by
 obtain⟨hl,n,hf⟩:=fieldz Tryz.underlying47 h;rw[cells63]at hl
 match cs,hl with
 | [c0,c1,c2,c3,c4,c5,c6],_=>
  have g0:=hf 0 {name:= "Rows",type:=3,offset:=0,embedded:=false,tag:= "",pkgPath:= "",byteOffset:=0} rfl;have g1:=hf 1 {name:= "Cols",type:=3,offset:=1,embedded:=false,tag:= "",pkgPath:= "",byteOffset:=8} rfl;have g2:=hf 2 {name:= "X",type:=44,offset:=2,embedded:=false,tag:= "",pkgPath:= "",byteOffset:=16} rfl;have g3:=hf 3 {name:= "Pitch",type:=44,offset:=3,embedded:=false,tag:= "",pkgPath:= "",byteOffset:=24} rfl;have g4:=hf 4 {name:= "Reach",type:=44,offset:=4,embedded:=false,tag:= "",pkgPath:= "",byteOffset:=32} rfl;have g5:=hf 5 {name:= "Cap",type:=3,offset:=5,embedded:=false,tag:= "",pkgPath:= "",byteOffset:=40} rfl;have g6:=hf 6 {name:= "Start",type:=45,offset:=6,embedded:=false,tag:= "",pkgPath:= "",byteOffset:=48} rfl;simp only[cells3,cells28,cells61,List.drop_zero,List.drop_succ_cons,List.take_succ_cons,List.take_zero]at g0 g1 g2 g3 g4 g5 g6;obtain⟨k0,rfl,f0⟩:=one_int' g0;obtain⟨k1,rfl,f1⟩:=one_int' g1;obtain⟨k2,rfl,f2⟩:=one_float g2;obtain⟨k3,rfl,f3⟩:=one_float g3;obtain⟨k4,rfl,f4⟩:=one_float g4;obtain⟨k5,rfl,f5⟩:=one_int' g5;obtain⟨xs,hx⟩:=one_ints g6;obtain⟨A,cap,hv,_,_⟩:=hx.1;subst hv;exact⟨⟨k0,k1,k2,k3,k4,k5,A,xs.length,cap,xs⟩,rfl,⟨f0,f1,f2,f3,f4,f5⟩,hx⟩
theorem open_rack {H:Type} {enc:TypeId×Value→H} {w:World} {fuel:Nat} {cs:List Value} {x:DataW H×List MemPlace} (h:DataW.trod enc Tryz.prog w 0 (fun _=>true) true fuel 52 cs=some x):
  ∃q:Rk,cs=KR.cells q∧KR.ok q∧True:=by
 obtain⟨hl,n,hf⟩:=fieldz Tryz.underlying52 h;rw[cells72]at hl
 match cs,hl with
 | [c0,c1,c2,c3,c4],_=>
  have g0:=hf 0 {name:= "Rows",type:=3,offset:=0,embedded:=false,tag:= "",pkgPath:= "",byteOffset:=0} rfl;have g1:=hf 1 {name:= "Cols",type:=3,offset:=1,embedded:=false,tag:= "",pkgPath:= "",byteOffset:=8} rfl;have g2:=hf 2 {name:= "X",type:=44,offset:=2,embedded:=false,tag:= "",pkgPath:= "",byteOffset:=16} rfl;have g3:=hf 3 {name:= "Pitch",type:=44,offset:=3,embedded:=false,tag:= "",pkgPath:= "",byteOffset:=24} rfl;have g4:=hf 4 {name:= "Reach",type:=44,offset:=4,embedded:=false,tag:= "",pkgPath:= "",byteOffset:=32} rfl;simp only[cells3,cells28,List.drop_zero,List.drop_succ_cons,List.take_succ_cons,List.take_zero]at g0 g1 g2 g3 g4;obtain⟨k0,rfl,f0⟩:=one_int' g0;obtain⟨k1,rfl,f1⟩:=one_int' g1;obtain⟨k2,rfl,f2⟩:=one_float g2;obtain⟨k3,rfl,f3⟩:=one_float g3;obtain⟨k4,rfl,f4⟩:=one_float g4;exact⟨⟨k0,k1,k2,k3,k4⟩,rfl,⟨f0,f1,f2,f3,f4⟩,trivial⟩
theorem open_deck {H:Type} {enc:TypeId×Value→H} {W w:World} {r:Reach} {base:Nat} {v:Value} {d:DataW H} {ps:List MemPlace} (hv:Value.okWide Tryz.prog W r base 26 v) (h:DataW.Trod enc Tryz.prog w 0 (fun _=>true) true 26 v d ps):∃D:Dk,v=D.v∧D.In w w.heap.size:=by
 obtain⟨ca,rfl,hca⟩:=okWide_struct Tryz.underlying26 hv;obtain⟨fuel,hf0⟩:=h;obtain⟨hl,n,hf⟩:=fieldz Tryz.underlying26 hf0;have hcs:(Value.agg ca).cells=ca:=by simp[Value.cells]
 rw[hcs]at hl hf;rw[cells44]at hl
 match ca,hl with
 | ⟨[c0,c1,c2,c3]⟩,_=>
  have g0:=hf 0 {name:= "Borders",type:=22,offset:=0,embedded:=false,tag:= "",pkgPath:= "",byteOffset:=0} rfl;have g1:=hf 1 {name:= "Plates",type:=23,offset:=1,embedded:=false,tag:= "",pkgPath:= "",byteOffset:=24} rfl;have g2:=hf 2 {name:= "Racks",type:=24,offset:=2,embedded:=false,tag:= "",pkgPath:= "",byteOffset:=48} rfl;have g3:=hf 3 {name:= "Arms",type:=3,offset:=3,embedded:=false,tag:= "",pkgPath:= "",byteOffset:=72} rfl;simp only[cells3,cells22,cells41,cells42,List.drop_zero,List.drop_succ_cons,List.take_succ_cons,List.take_zero]at g0 g1 g2 g3;obtain⟨k3,rfl,f3⟩:=one_int' g3;obtain⟨y0,e0⟩:=g0;obtain⟨y1,e1⟩:=g1;obtain⟨y2,e2⟩:=g2;obtain⟨v0,bl,a0,b0⟩:=open_floats e0;obtain⟨v1,pl,a1,b1,q1⟩:=Lk.opened (K:=KP) (fun q=>KI.IsL w w.heap.size (.slice q.sA q.sn q.sc) q.st) cells63 (fun fuel cs x h=>open_plate h) e1;obtain⟨v2,rl,a2,b2,_⟩:=Lk.opened (K:=KR) (fun _=>True) cells72 (fun fuel cs x h=>open_rack h) e2;have z0:c0=v0:=by simpa using a0
  have z1:c1=v1:=by simpa using a1
  have z2:c2=v2:=by simpa using a2
  subst z0 z1 z2;obtain⟨A0,m0,h0,_,_⟩:=b0.1;obtain⟨A1,m1,h1,_,_⟩:=b1.1;obtain⟨A2,m2,h2,_,_⟩:=b2.1;subst h0 h1 h2;exact⟨⟨A0,bl.length,m0,bl,A1,pl.length,m1,pl,A2,rl.length,m2,rl,k3⟩,rfl,⟨b0,b1,b2,q1,f3⟩⟩
theorem cellsCe:Tryz.prog.cellsOf 58=3:=by kernel_rfl
theorem cellsLo:Tryz.prog.cellsOf 50=3:=by kernel_rfl
theorem cellsCh:Tryz.prog.cellsOf 48=1:=by kernel_rfl
theorem cellsCl:Tryz.prog.cellsOf 27=1:=by kernel_rfl
theorem cellsLl:Tryz.prog.cellsOf 28=1:=by kernel_rfl
theorem cellsTl:Tryz.prog.cellsOf 29=1:=by kernel_rfl
theorem cellsSt:Tryz.prog.cellsOf 31=6:=by kernel_rfl
theorem stock_reads:Tryz.prog.readableRec 31=true:=by kernel_rfl
theorem stock_row:31<Tryz.prog.types.size:=of_decide_eq_true (by kernel_rfl)
theorem cell_cs {H:Type} {enc:TypeId×Value→H} {w:World} {fuel:Nat} {cs:List Value} {x:DataW H×List MemPlace} (h:DataW.trod enc Tryz.prog w 0 (fun _=>true) true fuel 58 cs=some x):∃q:Cel.Ce,cs=ceCells q∧q.Fit:=by
 obtain⟨hl,n,hf⟩:=fieldz Tryz.underlying58 h;rw[cellsCe]at hl
 match cs,hl with
 | [c0,c1,c2],_=>
  have g0:=hf 0 {name:= "Cap",type:=3,offset:=0,embedded:=false,tag:= "",pkgPath:= "",byteOffset:=0} rfl;have g1:=hf 1 {name:= "Vol",type:=3,offset:=1,embedded:=false,tag:= "",pkgPath:= "",byteOffset:=8} rfl;have g2:=hf 2 {name:= "Ver",type:=3,offset:=2,embedded:=false,tag:= "",pkgPath:= "",byteOffset:=16} rfl;simp only[celi3,List.drop_zero,List.drop_succ_cons,List.take_succ_cons,List.take_zero]at g0 g1 g2;obtain⟨k0,rfl,f0⟩:=one_int' g0;obtain⟨k1,rfl,f1⟩:=one_int' g1;obtain⟨k2,rfl,f2⟩:=one_int' g2;exact⟨⟨k0,k1,k2⟩,rfl,⟨f0,f1,f2⟩⟩
theorem log_cs {H:Type} {enc:TypeId×Value→H} {w:World} {fuel:Nat} {cs:List Value} {x:DataW H×List MemPlace} (h:DataW.trod enc Tryz.prog w 0 (fun _=>true) true fuel 50 cs=some x):∃q:Lo,cs=loCells q∧(fits q.r∧fits q.l)∧KC.IsL w w.heap.size (.slice q.A q.xs.length q.c) q.xs:=by
 obtain⟨hl,n,hf⟩:=fieldz Tryz.underlying50 h;rw[cellsLo]at hl
 match cs,hl with
 | [c0,c1,c2],_=>
  have g0:=hf 0 {name:= "Room",type:=3,offset:=0,embedded:=false,tag:= "",pkgPath:= "",byteOffset:=0} rfl;have g1:=hf 1 {name:= "Last",type:=3,offset:=1,embedded:=false,tag:= "",pkgPath:= "",byteOffset:=8} rfl;have g2:=hf 2 {name:= "List",type:=48,offset:=2,embedded:=false,tag:= "",pkgPath:= "",byteOffset:=16} rfl;simp only[celi3,cellsCh,List.drop_zero,List.drop_succ_cons,List.take_succ_cons,List.take_zero]at g0 g1 g2;obtain⟨k0,rfl,f0⟩:=one_int' g0;obtain⟨k1,rfl,f1⟩:=one_int' g1;obtain⟨y,hy⟩:=g2;obtain⟨v,xs,e,hx⟩:=cs_changes hy;simp only[List.cons.injEq,and_true]at e;subst e;obtain⟨A,c,rfl,_⟩:=hx.shape;exact⟨⟨k0,k1,A,c,xs⟩,rfl,⟨f0,f1⟩,hx⟩
theorem open_stock {H:Type} {enc:TypeId×Value→H} {W w:World} {r:Reach} {base:Nat} {v:Value} {d:DataW H} {ps:List MemPlace} (hv:Value.okWide Tryz.prog W r base 31 v) (h:DataW.Trod enc Tryz.prog w 0 (fun _=>true) true 31 v d ps):∃S:Stk,v=S.v∧S.In w w.heap.size:=by
 obtain⟨ca,rfl,hca⟩:=okWide_struct Tryz.underlying31 hv;obtain⟨fuel,hf0⟩:=h;obtain⟨hl,n,hf⟩:=fieldz Tryz.underlying31 hf0;have hcs:(Value.agg ca).cells=ca:=by simp[Value.cells]
 rw[hcs]at hl hf;rw[cellsSt]at hl
 match ca,hl with
 | ⟨[c0,c1,c2,c3,c4,c5]⟩,_=>
  have g0:=hf 0 {name:= "Cells",type:=27,offset:=0,embedded:=false,tag:= "",pkgPath:= "",byteOffset:=0} rfl;have g1:=hf 1 {name:= "Logs",type:=28,offset:=1,embedded:=false,tag:= "",pkgPath:= "",byteOffset:=24} rfl;have g2:=hf 2 {name:= "Tips",type:=29,offset:=2,embedded:=false,tag:= "",pkgPath:= "",byteOffset:=48} rfl;have g3:=hf 3 {name:= "Start",type:=3,offset:=3,embedded:=false,tag:= "",pkgPath:= "",byteOffset:=72} rfl;have g4:=hf 4 {name:= "In",type:=3,offset:=4,embedded:=false,tag:= "",pkgPath:= "",byteOffset:=80} rfl;have g5:=hf 5 {name:= "Out",type:=3,offset:=5,embedded:=false,tag:= "",pkgPath:= "",byteOffset:=88} rfl;simp only[celi3,cellsCl,cellsLl,cellsTl,List.drop_zero,List.drop_succ_cons,List.take_succ_cons,List.take_zero]at g0 g1 g2 g3 g4 g5;obtain⟨k3,rfl,f3⟩:=one_int' g3;obtain⟨k4,rfl,f4⟩:=one_int' g4;obtain⟨k5,rfl,f5⟩:=one_int' g5;obtain⟨y0,e0⟩:=g0;obtain⟨y1,e1⟩:=g1;obtain⟨y2,e2⟩:=g2;obtain⟨v0,cl,a0,b0,_⟩:=Lk.opened (K:=KE) (fun _=>True) cellsCe (fun fuel cs x h=>by
   obtain⟨q,e,h1⟩:=cell_cs h;exact⟨q,e,h1,trivial⟩) e0
  obtain⟨v1,ll,a1,b1,q1⟩:=Lk.opened (K:=KL) (fun q=>KC.IsL w w.heap.size (.slice q.A q.xs.length q.c) q.xs) cellsLo (fun fuel cs x h=>by
   obtain⟨q,e,h1,h2⟩:=log_cs h;exact⟨q,e,h1,h2⟩) e1
  obtain⟨v2,tl,a2,b2⟩:=cs_tips e2;have z0:c0=v0:=by simpa using a0
  have z1:c1=v1:=by simpa using a1
  have z2:c2=v2:=by simpa using a2
  subst z0 z1 z2;obtain⟨A0,m0,h0,_,_⟩:=b0.1;obtain⟨A1,m1,h1,_,_⟩:=b1.1;obtain⟨A2,m2,h2,_,_⟩:=b2.1;subst h0 h1 h2;exact⟨⟨A0,m0,cl,A1,m1,ll,A2,m2,tl,k3,k4,k5⟩,rfl,⟨b0,b1,b2,q1,f3,f4,f5⟩⟩
end Go.Proofs.YtacjonncakhhmaaGreat
