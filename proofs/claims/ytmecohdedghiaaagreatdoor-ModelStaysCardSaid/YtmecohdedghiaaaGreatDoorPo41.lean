/- What the cards of this seat share: the table out of a row; a request that came in; a world for the witness. -/
import Derived.Test.YtmecohdedghiaaaGreatDoorPo40
import Derived.Test.YtmecohdedghiaaaGreatDoorRows
import Derived.ProofKit
import Derived.OpenShut
import Derived.ShutString
import Derived.ChangeMaps5
import Derived.Deep.Slices
import Derived.Lib.SmallJoins
import Derived.Carry
import Derived.ChangeSlices
import Derived.OpenVars
import Derived.Test.YtmecohdedghiaaaGreatDoorCards
import Derived.Test.YtmecohdedghiaaaGreatDoorTie
import Derived.Deep.DeepHandedRow
import Derived.Lib.LaidTab
set_option maxRecDepth 100000
set_option maxHeartbeats 8000000
open Go.Proofs.Tryz
namespace Go.Proofs.YtmecohdedghiaaaGreatDoor
open Go.RowKit
theorem vR (m:Md) (r:Rq) (w:World) (hm:m.In w w.heap.size) (hr:r.In w w.heap.size):Calls prog 26 #[m.v,r.val] w fun e w'=>∃b,e=.returned (.bool b)∧Below w.heap.size w w':=by
 obtain⟨w0,hw0⟩:∃w0,w0=((w.alloc (.cells m.ob 43)).alloc (.cells r.ob 30)):=⟨_,rfl⟩;have z1:(w.alloc (.cells m.ob 43)).heap.size=w.heap.size+1:=by simp
 have CG:=aH (gj hw0);have HM:=aH (hm.then CG.out);have HQ:=aH (hr.then CG.out);have CU:=aH (show Row w0 w.heap.size m.ol by rw[hw0];exact(Row.new w _ _ _ rfl).below (bL (bR _ _) _));have CT:=aH (show Row w0 (w.heap.size+1) [.int .i64 r.k,.slice r.iA r.il.length r.ic,.int .i64 r.a,.int .i64 r.b,.int .i64 r.u,.int .u64 r.v]by rw[hw0,←z1];exact Row.new (w.alloc (.cells m.ob 43)) _ _ _ rfl);have GM:=aH (fun V (h:Below w0.heap.size w0 V)=>xM m V (HM.out.then h));clear z1 hm hr;generalize BL m=b at *;go_enter func26,ntmps26
 go_upto_region 1 with fail
 rw[←hw0];clear hw0;obtain⟨g0,g1,g2,g3,g4,g5,g6,g7,g8,g9,g10⟩:=CU.out.g11;go_wp2_with fail;refine(GM.out w0 (bR _ _)).mono ?_;rintro e w1 ⟨rfl,hb⟩;have CH:=aH (bC CG.out hb);have KY:=aH (CT.out.below hb);clear hb g0 g1 g2 g3 g4 g5 g6 g7 g8 g9 g10;obtain⟨r0,r1,r2,r3,r4,r5⟩:=KY.out.g6
 cases b
 ·go_wp2
  go_ret
  exact⟨_,rfl,CH.out⟩
 ·go_wp2
  go_ret
  exact⟨_,rfl,CH.out⟩
theorem gN (m:Md) (who:Int) (r:Rq) (w:World) (hm:m.In w w.heap.size) (hfw:ae who) (hr:r.In w w.heap.size) (hT:Nn.Tab w):Calls prog 6 #[m.v,.int .i64 who,r.val] w fun e w'=>e=.returned (.bool true)∧Below w.heap.size w w':=by
 obtain⟨w0,hw0⟩:∃w0,w0=((w.alloc (.cells m.ob 43)).alloc (.cells r.ob 30)):=⟨_,rfl⟩;have z1:(w.alloc (.cells m.ob 43)).heap.size=w.heap.size+1:=by simp
 have CG:=aH (gj hw0);have HM:=aH (hm.then CG.out);have HQ:=aH (hr.then CG.out);have CU:=aH (show Row w0 w.heap.size m.ol by rw[hw0];exact(Row.new w _ _ _ rfl).below (bL (bR _ _) _));have CT:=aH (show Row w0 (w.heap.size+1) [.int .i64 r.k,.slice r.iA r.il.length r.ic,.int .i64 r.a,.int .i64 r.b,.int .i64 r.u,.int .u64 r.v]by rw[hw0,←z1];exact Row.new (w.alloc (.cells m.ob 43)) _ _ _ rfl);have HT:=aH (hT.below CG.out);have Ga:=aH (fun V (h:Below w0.heap.size w0 V)=>vY V (HT.out.below h));have ES:=aH (fun V (h:Below w0.heap.size w0 V)=>vR m r V (HM.out.then h) (HQ.out.then h));have Of:=aH (fun V (h:Below w0.heap.size w0 V)=>rS m V (HM.out.then h));have FQ:=aH (fun V (h:Below w0.heap.size w0 V) hg=>Ay m who r V (HM.out.then h) (HQ.out.then h) (HT.out.below h) hg hfw);clear z1 hm hr hT hfw;generalize fC m=rm at *;go_enter func6,ntmps6
 go_upto_region 1 with fail
 rw[←hw0];clear hw0;obtain⟨g0,g1,g2,g3,g4,g5,g6,g7,g8,g9,g10⟩:=CU.out.g11;obtain⟨r0,r1,r2,r3,r4,r5⟩:=CT.out.g6;go_wp2_with fail;refine(ES.out w0 (bR _ _)).mono ?_;rintro e w1 ⟨l,rfl,hb⟩;have CH:=aH hb;have JV:=aH (CU.out.below hb);clear hb g0 g1 g2 g3 g4 g5 g6 g7 g8 g9 g10 r0 r1 r2 r3 r4 r5
 cases l
 case true=>
  go_wp2_with fail;refine(Ga.out w1 CH.out).mono ?_;rintro e wz ⟨rfl,hbz⟩;go_wp2
  go_ret
  exact⟨rfl,bC CG.out (bC CH.out hbz)⟩
 case false=>
 obtain⟨g0,g1,g2,g3,g4,g5,g6,g7,g8,g9,g10⟩:=JV.out.g11;go_wp2_with fail;refine(Of.out w1 CH.out).mono ?_;rintro e w2 ⟨rfl,hb⟩;have CL:=aH (bC CH.out hb);clear hb g0 g1 g2 g3 g4 g5 g6 g7 g8 g9 g10 JV ES Of
 cases rm
 case false=>
  go_wp2_with fail;refine(Ga.out w2 CL.out).mono ?_;rintro e wz ⟨rfl,hbz⟩;go_wp2
  go_ret
  exact⟨rfl,bC CG.out (bC CL.out hbz)⟩
 case true=>
 have GP:=aH (CU.out.below CL.out);have Gg:=aH (CT.out.below CL.out);obtain⟨g0,g1,g2,g3,g4,g5,g6,g7,g8,g9,g10⟩:=GP.out.g11;obtain⟨r0,r1,r2,r3,r4,r5⟩:=Gg.out.g6;go_wp2_with fail;refine(FQ.out w2 CL.out trivial).mono ?_;rintro e w3 ⟨t,⟨xe,xi,xn,xu,xA,xc,xl⟩,rfl,ht,hx,hb,hof,hd,FI⟩;have NF:=aH ht;have FR:=aH FI;have HD:=aH hd;have CS:=aH (bC CL.out hb);clear ht hx hb hof hd FI CL GP Gg g0 g1 g2 g3 g4 g5 g6 g7 g8 g9 g10 r0 r1 r2 r3 r4 r5
 go_upto_region 4 with fail
 obtain⟨yW,hgW⟩:∃yW,((w3.alloc (.cells t.ob 43)).alloc (.cells #[.int .i64 xe,.int .i64 xi,.int .i64 xn,.int .i64 xu,.slice xA xl.length xc] 56))=yW:=⟨_,rfl⟩;have ET:=bL (bR _ w3) (.cells t.ob 43);have Ey:=bL (bR _ (w3.alloc (.cells t.ob 43))) (.cells #[.int .i64 xe,.int .i64 xi,.int .i64 xn,.int .i64 xu,.slice xA xl.length xc] 56);have e1:(w3.alloc (.cells t.ob 43)).heap.size=w3.heap.size+1:=by simp
 have OY:=aH (show Row yW w3.heap.size t.ol by subst hgW;exact(Row.new w3 _ _ _ rfl).below Ey);have Es:=aH (show Row yW (w3.heap.size+1) [.int .i64 xe,.int .i64 xi,.int .i64 xn,.int .i64 xu,.slice xA xl.length xc]by subst hgW;rw[←e1];exact Row.new (w3.alloc (.cells t.ob 43)) _ _ _ rfl);replace NF:=aH ((NF.out.then ET).then Ey);replace CS:=aH (bC (bC CS.out ET) Ey);have Da:=aH (CU.out.below CS.out);have Fm:=aH (CT.out.below CS.out);have Ew:=aH (bC CG.out CS.out);clear ET Ey e1 CU CT;subst hgW;generalize ((w3.alloc (.cells t.ob 43)).alloc (.cells #[.int .i64 xe,.int .i64 xi,.int .i64 xn,.int .i64 xu,.slice xA xl.length xc] 56))=w6 at *;generalize w3.heap.size+1=gx at *;generalize w3.heap.size=gt at *;replace Ga:=aH (fun V (h:Below w6.heap.size w6 V)=>Ga.out V (bC CS.out h));have It:=aH (fun(hs:t.s.ab=m.s.ab) (ho:t.o=m.o) V (h:Below w6.heap.size w6 V)=>rW t m HD.out hs ho V (NF.out.then h) ((HM.out.then CS.out).then h));clear HD FQ HM HQ HT CS NF;obtain⟨x0,x1,x2,x3,x4⟩:=Es.out.g5;have r0:=Fm.out.g 0 rfl;by_cases he:xe=0
 ·subst he;by_cases h9:r.k=9
  ·have hs:=FR.out.st (.inr (.inl h9));replace It:=aH (It.out hs.1 hs.2);rw[h9]at r0;clear FR hs h9
   go_upto_region 6 with fail
   clear r0;go_wp2_with fail;refine(Ga.out w6 (bR _ _)).mono ?_;rintro e wz ⟨rfl,hb⟩;have Kf:=aH hb;have Ja:=aH (OY.out.below hb);have Gq:=aH (Da.out.below hb);have IB:=aH (Es.out.below hb);clear hb x0 x1 x2 x3 x4;obtain⟨a0,a1,a2,a3,a4,a5,a6,a7,a8,a9,a10⟩:=Ja.out.g11;obtain⟨c0,c1,c2,c3,c4,c5,c6,c7,c8,c9,c10⟩:=Gq.out.g11;go_wp2_with fail;refine(It.out wz Kf.out).mono ?_;rintro e wy ⟨rfl,hb⟩;have JS:=aH (bC Kf.out hb);have IU:=aH (IB.out.below hb);clear hb a0 a1 a2 a3 a4 a5 a6 a7 a8 a9 a10 c0 c1 c2 c3 c4 c5 c6 c7 c8 c9 c10;obtain⟨x0,x1,x2,x3,x4⟩:=IU.out.g5;go_wp2
   go_ret
   exact⟨aj (by simp),bC Ew.out JS.out⟩
  ·by_cases h10:r.k=10
   ·have hs:=FR.out.st (.inr (.inr h10));replace It:=aH (It.out hs.1 hs.2);rw[h10]at r0;clear FR hs h9 h10
    go_upto_region 6 with fail
    clear r0;go_wp2_with fail;refine(Ga.out w6 (bR _ _)).mono ?_;rintro e wz ⟨rfl,hb⟩;have Kf:=aH hb;have Ja:=aH (OY.out.below hb);have Gq:=aH (Da.out.below hb);have IB:=aH (Es.out.below hb);clear hb x0 x1 x2 x3 x4;obtain⟨a0,a1,a2,a3,a4,a5,a6,a7,a8,a9,a10⟩:=Ja.out.g11;obtain⟨c0,c1,c2,c3,c4,c5,c6,c7,c8,c9,c10⟩:=Gq.out.g11;go_wp2_with fail;refine(It.out wz Kf.out).mono ?_;rintro e wy ⟨rfl,hb⟩;have JS:=aH (bC Kf.out hb);have IU:=aH (IB.out.below hb);clear hb a0 a1 a2 a3 a4 a5 a6 a7 a8 a9 a10 c0 c1 c2 c3 c4 c5 c6 c7 c8 c9 c10;obtain⟨x0,x1,x2,x3,x4⟩:=IU.out.g5;go_wp2
    go_ret
    exact⟨aj (by simp),bC Ew.out JS.out⟩
   ·have UO:(r.k != 9)=true:=(by simpa using h9);have Tk:(r.k != 10)=true:=(by simpa using h10);clear FR It
    go_upto_region 5 with fail
    clear r0 x0 x1 x2 x3 x4;go_wp2_with fail;refine(Ga.out w6 (bR _ _)).mono ?_;rintro e wz ⟨rfl,hbz⟩;go_wp2
    go_ret
    exact⟨rfl,bC Ew.out hbz⟩
 ·have hs:=FR.out.st (.inl he);have hz:=FR.out.z he;replace It:=aH (It.out hs.1 hs.2);have hE:(xe==0)=false:=beq_eq_false_iff_ne.2 he;have hn:xn=0:=hz.1;have hu:xu=0:=hz.2.1;have hl:xl=[]:=hz.2.2;subst hn hu hl;clear FR hs hz
  go_upto_region 6 with fail
  clear r0;go_wp2_with fail;refine(Ga.out w6 (bR _ _)).mono ?_;rintro e wz ⟨rfl,hb⟩;have Kf:=aH hb;have Ja:=aH (OY.out.below hb);have Gq:=aH (Da.out.below hb);have IB:=aH (Es.out.below hb);clear hb x0 x1 x2 x3 x4;obtain⟨a0,a1,a2,a3,a4,a5,a6,a7,a8,a9,a10⟩:=Ja.out.g11;obtain⟨c0,c1,c2,c3,c4,c5,c6,c7,c8,c9,c10⟩:=Gq.out.g11;go_wp2_with fail;refine(It.out wz Kf.out).mono ?_;rintro e wy ⟨rfl,hb⟩;have JS:=aH (bC Kf.out hb);have IU:=aH (IB.out.below hb);clear hb a0 a1 a2 a3 a4 a5 a6 a7 a8 a9 a10 c0 c1 c2 c3 c4 c5 c6 c7 c8 c9 c10;obtain⟨x0,x1,x2,x3,x4⟩:=IU.out.g5;go_wp2
  go_ret
  exact⟨aj (by simp),bC Ew.out JS.out⟩
open Go.ChangeShapes Go.WideShapes Go.ChangeAt Go.RowKit Go.Deep
theorem own:ownKnob Tryz.prog.godebug=none:=by kernel_rfl
theorem pO:laidOutB prog=true:=by kernel_rfl
theorem ig {n:Int} (h:(Lit.int .i64 n).wf=true):ae n:=by
  have: -9223372036854775808≤n∧n≤9223372036854775807:=by simpa [Lit.wf,IntKind.min,IntKind.max,IntKind.signed,IntKind.bits]using h
  exact this
theorem o8 {n:Nat} (h:(Lit.float .f64 n).wf=true):n<18446744073709551616:=by simpa [Lit.wf]using h
theorem Lk.opened {P:Program} {α:Type} {K:Lk P α} {H:Type} {enc:TypeId×Value→H} {w:World} (Q:α→Prop) (hcells:P.cellsOf K.E=K.n)
    (each:∀(fuel:Nat) (cs:List Value) (x:DataW H×List MemPlace),DataW.trod enc P w 0 (fun _=>true) true fuel K.E cs=some x→∃y:α,cs=K.cells y∧K.ok y∧Q y)
    {fuel:Nat} {cs:List Value} {x:DataW H×List MemPlace} (h:DataW.trod enc P w 0 (fun _=>true) true fuel K.S cs=some x):
    ∃v xs,cs=[v]∧K.IsL w w.heap.size v xs∧∀y∈xs,Q y:=by
  rcases open_slice K.und h with ⟨rfl,_⟩|⟨a,len,cap,m,n,D,Pl,rfl,hb,hl,hm,Na,rfl,hx⟩
  · exact⟨_,[],rfl,IsL.nil _ _ _ _,fun y hy=>by simp at hy⟩
  · rw[if_pos rfl]at Na
    subst Na;have GY:m≤9223372036854775807:=(by unfold maxLen at hm;omega);rcases Nat.eq_zero_or_pos len with h0|h0
    · subst h0
      exact⟨_,[],rfl,IsL.nil _ _ _ _,fun y hy=>by simp at hy⟩
    have hi:Inhabited α:=⟨K.dflt⟩;obtain⟨Y,hY⟩:=choose_lt (α:=α) (n:=len) (p:=fun i y=>K.ok y∧Q y∧∀j,j<K.n→w.cell? ((a.add (i*K.n)).add j)=(K.cells y)[j]?) (fun i hi=>by
      obtain⟨cs',h1,h2⟩:=hx i (by omega);rw[hcells]at h1;obtain⟨y,rfl,hy,hq⟩:=each _ _ _ h2;obtain⟨_,_,CD⟩:=World.cells?_some h1;exact⟨y,hy,hq,CD⟩)
    have Hs:=K.pos;obtain⟨b,off,spot⟩:=a;have Qd:=(hY 0 h0).2.2 0 Hs;obtain⟨u0,hu0⟩:∃u,(K.cells (Y 0))[0]? =some u:=⟨_,List.getElem?_eq_getElem (by rw[K.len];exact Hs)⟩;rw[hu0]at Qd;have NA:spot=none:=(by simpa [Addr.add]using World.cell?_spot Qd);subst NA;have Db:((List.range len).map Y).length=len:=(by simp);refine⟨_,(List.range len).map Y,rfl,⟨⟨some ⟨b,off,none⟩,m,by rw[Db],by rw[Db];exact hl,fun _=>⟨b,off,rfl,?_,fun i hi j u hu=>?_⟩⟩,fun y hy=>?_,by rw[Db];omega⟩,fun y hy=>?_⟩
    · have e:=wB w _ Qd
      simpa [Addr.add]using e
    · rw[Db]at hi
      have hj:j<K.n:=by
        have:=(List.getElem?_eq_some_iff.1 hu).1;rw[K.len]at this;exact this
      have e:=(hY i hi).2.2 j hj;rw[add_plain,add_plain]at e;have Qr:((List.range len).map Y).getD i K.dflt=Y i:=by
        rw[List.getD_eq_getElem?_getD,List.getElem?_map,List.getElem?_range hi];rfl
      rw[Qr]at hu;rw[←Nat.add_assoc,e,hu]
    · obtain⟨i,hi,rfl⟩:=List.mem_map.1 hy
      exact(hY i (List.mem_range.1 hi)).1
    · obtain⟨i,hi,rfl⟩:=List.mem_map.1 hy
      exact(hY i (List.mem_range.1 hi)).2.1
theorem ja {H:Type} {enc:TypeId×Value→H} {P:Program} {w:World} {base:Nat} {spare:Nat→Bool} {held:Bool} {fuel:Nat} {t:TypeId} {cs:List Value} {x:DataW H×List MemPlace} {k:FloatKind} (ht:P.underlying t=some (.float k)) (h:DataW.trod enc P w base spare held fuel t cs=some x):∃n,cs=[.float k n]∧(Lit.float k n).wf=true:=by
  cases fuel with
  |zero=>simp[DataW.trod]at h
  |succ n=>
    unfold DataW.trod at h;rw[ht]at h
    split at h<;>simp_all
theorem mw:Tryz.prog.cellsOf 3=1:=by kernel_rfl
theorem dh {H:Type} {enc:TypeId×Value→H} {w:World} {fuel:Nat} {t:TypeId} {fs:Array Field} {cs:List Value} {x:DataW H×List MemPlace} (ht:Tryz.prog.underlying t=some (.struct fs)) (h:DataW.trod enc prog w 0 (fun _=>true) true fuel t cs=some x):
    cs.length=Tryz.prog.cellsOf t∧∃n,∀(i:Nat) (f:Field),fs[i]? =some f→∃y,DataW.trod enc prog w 0 (fun _=>true) true n f.type ((cs.drop f.offset).take (Tryz.prog.cellsOf f.type))=some y:=by
  obtain⟨xs,n,_,_,hl,Db,hf⟩:=DataW.trod_struct ht h;refine⟨hl,n,fun i f hi=>?_⟩;have Sx:i<xs.length:=by
    rw[Db];exact(Array.getElem?_eq_some_iff.1 hi).1
  exact⟨xs[i],by rw[hf i f hi,List.getElem?_eq_getElem Sx]⟩
theorem aD {H:Type} {enc:TypeId×Value→H} {w:World} {n:Nat} {c:Value} (h:∃y,DataW.trod enc prog w 0 (fun _=>true) true n 3 [c]=some y):∃k,c=.int .i64 k∧ae k:=by
  obtain⟨y,hy⟩:=h;obtain⟨k,e,_,hw⟩:=DataW.trod_int underlying3 hy;simp only[List.cons.injEq,and_true]at e;exact⟨k,e,ig hw⟩
theorem ua:Tryz.prog.cellsOf 146=2:=by kernel_rfl
theorem uh:Tryz.prog.cellsOf 177=3:=by kernel_rfl
theorem yK {H:Type} {enc:TypeId×Value→H} {w:World} {fuel:Nat} {cs:List Value} {x:DataW H×List MemPlace} (h:DataW.trod enc prog w 0 (fun _=>true) true fuel 146 cs=some x):∃q:Int×Int,cs=kQ q∧ae q.1∧ae q.2:=by
  obtain⟨hl,n,hf⟩:=dh underlying146 h;rw[ua]at hl
  match cs,hl with
  |[c0,c1],_=>
    have g0:=hf 0 {name:= "State",type:=3,offset:=0,embedded:=false,tag:= "",pkgPath:= "",byteOffset:=0} rfl;have g1:=hf 1 {name:= "By",type:=3,offset:=1,embedded:=false,tag:= "",pkgPath:= "",byteOffset:=8} rfl;simp only[mw,List.drop_zero,List.drop_succ_cons,List.take_succ_cons,List.take_zero]at g0 g1;obtain⟨k0,rfl,f0⟩:=aD g0;obtain⟨k1,rfl,f1⟩:=aD g1;exact⟨(k0,k1),rfl,f0,f1⟩
theorem rx {H:Type} {enc:TypeId×Value→H} {w:World} {fuel:Nat} {cs:List Value} {x:DataW H×List MemPlace} (h:DataW.trod enc prog w 0 (fun _=>true) true fuel 177 cs=some x):∃q:Ch,cs=kS q∧ae q.a∧ae q.b∧ae q.c:=by
  obtain⟨hl,n,hf⟩:=dh underlying177 h;rw[uh]at hl
  match cs,hl with
  |[c0,c1,c2],_=>
    have g0:=hf 0 {name:= "Ver",type:=3,offset:=0,embedded:=false,tag:= "",pkgPath:= "",byteOffset:=0} rfl;have g1:=hf 1 {name:= "By",type:=3,offset:=1,embedded:=false,tag:= "",pkgPath:= "",byteOffset:=8} rfl;have g2:=hf 2 {name:= "N",type:=3,offset:=2,embedded:=false,tag:= "",pkgPath:= "",byteOffset:=16} rfl;simp only[mw,List.drop_zero,List.drop_succ_cons,List.take_succ_cons,List.take_zero]at g0 g1 g2;obtain⟨k0,rfl,f0⟩:=aD g0;obtain⟨k1,rfl,f1⟩:=aD g1;obtain⟨k2,rfl,f2⟩:=aD g2;exact⟨⟨k0,k1,k2⟩,rfl,f0,f1,f2⟩
theorem xB {H:Type} {enc:TypeId×Value→H} {w:World} {fuel:Nat} {cs:List Value} {x:DataW H×List MemPlace} (h:DataW.trod enc prog w 0 (fun _=>true) true fuel 39 cs=some x):∃v xs,cs=[v]∧KT.IsL w w.heap.size v xs:=by
  obtain⟨v,xs,h1,h2,_⟩:=Lk.opened (K:=KT) (fun _=>True) ua (fun fuel cs x h=>by
    obtain⟨q,e,h1,h2⟩:=yK h;exact⟨q,e,⟨h1,h2⟩,trivial⟩) h
  exact⟨v,xs,h1,h2⟩
theorem n7 {H:Type} {enc:TypeId×Value→H} {w:World} {fuel:Nat} {cs:List Value} {x:DataW H×List MemPlace} (h:DataW.trod enc prog w 0 (fun _=>true) true fuel 54 cs=some x):∃v xs,cs=[v]∧KC.IsL w w.heap.size v xs:=by
  obtain⟨v,xs,h1,h2,_⟩:=Lk.opened (K:=KC) (fun _=>True) uh (fun fuel cs x h=>by
    obtain⟨q,e,h1,h2,h3⟩:=rx h;exact⟨q,e,⟨h1,h2,h3⟩,trivial⟩) h
  exact⟨v,xs,h1,h2⟩
theorem kW:Tryz.prog.cellsOf 84=1:=by kernel_rfl
theorem lC {H:Type} {enc:TypeId×Value→H} {w:World} {fuel:Nat} {cs:List Value} {x:DataW H×List MemPlace} (h:DataW.trod enc prog w 0 (fun _=>true) true fuel 22 cs=some x):∃v xs,cs=[v]∧KF.IsL w w.heap.size v xs:=by
  obtain⟨v,xs,h1,h2,_⟩:=Lk.opened (K:=KF) (fun _=>True) kW (fun fuel cs x h=>by
    obtain⟨n,rfl,hw⟩:=ja underlying84 h;exact⟨n,rfl,o8 hw,trivial⟩) h
  exact⟨v,xs,h1,h2⟩
theorem ij:Tryz.prog.cellsOf 3=1:=by kernel_rfl
theorem kZ:Tryz.prog.cellsOf 27=1:=by kernel_rfl
theorem vv:Tryz.prog.cellsOf 22=1:=by kernel_rfl
theorem vG:Tryz.prog.cellsOf 23=1:=by kernel_rfl
theorem vw:Tryz.prog.cellsOf 24=1:=by kernel_rfl
theorem pr:Tryz.prog.cellsOf 26=4:=by kernel_rfl
theorem oR:Tryz.prog.cellsOf 86=7:=by kernel_rfl
theorem pG:Tryz.prog.cellsOf 118=5:=by kernel_rfl
theorem cO {H:Type} {enc:TypeId×Value→H} {w:World} {n:Nat} {c:Value} (h:∃y,DataW.trod enc prog w 0 (fun _=>true) true n 84 [c]=some y):∃k,c=.float .f64 k∧k<18446744073709551616:=by
  obtain⟨y,hy⟩:=h;obtain⟨k,e,hw⟩:=ja underlying84 hy;simp only[List.cons.injEq,and_true]at e;exact⟨k,e,o8 hw⟩
theorem iW {H:Type} {enc:TypeId×Value→H} {w:World} {n:Nat} {c:Value} (h:∃y,DataW.trod enc prog w 0 (fun _=>true) true n 27 [c]=some y):∃xs,KI.IsL w w.heap.size c xs:=by
  obtain⟨y,hy⟩:=h;obtain⟨v,xs,h1,h2,_⟩:=Lk.opened (K:=KI) (fun _=>True) ij (fun fuel cs x h=>by
    obtain⟨k,e,_,hw⟩:=DataW.trod_int underlying3 h;exact⟨k,e,ig hw,trivial⟩) hy
  simp only[List.cons.injEq,and_true]at h1;subst h1;exact⟨xs,h2⟩
theorem ot {H:Type} {enc:TypeId×Value→H} {w:World} {fuel:Nat} {cs:List Value} {x:DataW H×List MemPlace} (h:DataW.trod enc prog w 0 (fun _=>true) true fuel 86 cs=some x):
    ∃q:Pl,cs=KP.cells q∧KP.ok q∧KI.IsL w w.heap.size (.slice q.sA q.sn q.sc) q.st:=by
  obtain⟨hl,n,hf⟩:=dh underlying86 h;rw[oR]at hl
  match cs,hl with
  |[c0,c1,c2,c3,c4,c5,c6],_=>
    have g0:=hf 0 {name:= "Rows",type:=3,offset:=0,embedded:=false,tag:= "",pkgPath:= "",byteOffset:=0} rfl;have g1:=hf 1 {name:= "Cols",type:=3,offset:=1,embedded:=false,tag:= "",pkgPath:= "",byteOffset:=8} rfl;have g2:=hf 2 {name:= "X",type:=84,offset:=2,embedded:=false,tag:= "",pkgPath:= "",byteOffset:=16} rfl;have g3:=hf 3 {name:= "Pitch",type:=84,offset:=3,embedded:=false,tag:= "",pkgPath:= "",byteOffset:=24} rfl;have g4:=hf 4 {name:= "Reach",type:=84,offset:=4,embedded:=false,tag:= "",pkgPath:= "",byteOffset:=32} rfl;have g5:=hf 5 {name:= "Cap",type:=3,offset:=5,embedded:=false,tag:= "",pkgPath:= "",byteOffset:=40} rfl;have g6:=hf 6 {name:= "Start",type:=27,offset:=6,embedded:=false,tag:= "",pkgPath:= "",byteOffset:=48} rfl;simp only[ij,kW,kZ,List.drop_zero,List.drop_succ_cons,List.take_succ_cons,List.take_zero]at g0 g1 g2 g3 g4 g5 g6;obtain⟨k0,rfl,f0⟩:=aD g0;obtain⟨k1,rfl,f1⟩:=aD g1;obtain⟨k2,rfl,f2⟩:=cO g2;obtain⟨k3,rfl,f3⟩:=cO g3;obtain⟨k4,rfl,f4⟩:=cO g4;obtain⟨k5,rfl,f5⟩:=aD g5;obtain⟨xs,hx⟩:=iW g6;obtain⟨A,cap,hv,_,_⟩:=hx.1;subst hv;exact⟨⟨k0,k1,k2,k3,k4,k5,A,xs.length,cap,xs⟩,rfl,⟨f0,f1,f2,f3,f4,f5⟩,hx⟩
theorem qm {H:Type} {enc:TypeId×Value→H} {w:World} {fuel:Nat} {cs:List Value} {x:DataW H×List MemPlace} (h:DataW.trod enc prog w 0 (fun _=>true) true fuel 118 cs=some x):
    ∃q:Rk,cs=KR.cells q∧KR.ok q∧True:=by
  obtain⟨hl,n,hf⟩:=dh underlying118 h;rw[pG]at hl
  match cs,hl with
  |[c0,c1,c2,c3,c4],_=>
    have g0:=hf 0 {name:= "Rows",type:=3,offset:=0,embedded:=false,tag:= "",pkgPath:= "",byteOffset:=0} rfl;have g1:=hf 1 {name:= "Cols",type:=3,offset:=1,embedded:=false,tag:= "",pkgPath:= "",byteOffset:=8} rfl;have g2:=hf 2 {name:= "X",type:=84,offset:=2,embedded:=false,tag:= "",pkgPath:= "",byteOffset:=16} rfl;have g3:=hf 3 {name:= "Pitch",type:=84,offset:=3,embedded:=false,tag:= "",pkgPath:= "",byteOffset:=24} rfl;have g4:=hf 4 {name:= "Reach",type:=84,offset:=4,embedded:=false,tag:= "",pkgPath:= "",byteOffset:=32} rfl;simp only[ij,kW,List.drop_zero,List.drop_succ_cons,List.take_succ_cons,List.take_zero]at g0 g1 g2 g3 g4;obtain⟨k0,rfl,f0⟩:=aD g0;obtain⟨k1,rfl,f1⟩:=aD g1;obtain⟨k2,rfl,f2⟩:=cO g2;obtain⟨k3,rfl,f3⟩:=cO g3;obtain⟨k4,rfl,f4⟩:=cO g4;exact⟨⟨k0,k1,k2,k3,k4⟩,rfl,⟨f0,f1,f2,f3,f4⟩,trivial⟩
theorem oT:Tryz.prog.cellsOf 70=3:=by kernel_rfl
theorem pN:Tryz.prog.cellsOf 115=3:=by kernel_rfl
theorem vX:Tryz.prog.cellsOf 54=1:=by kernel_rfl
theorem xC:Tryz.prog.cellsOf 37=1:=by kernel_rfl
theorem wF:Tryz.prog.cellsOf 38=1:=by kernel_rfl
theorem wu:Tryz.prog.cellsOf 39=1:=by kernel_rfl
theorem pt:Tryz.prog.cellsOf 41=6:=by kernel_rfl
theorem vk {H:Type} {enc:TypeId×Value→H} {w:World} {fuel:Nat} {cs:List Value} {x:DataW H×List MemPlace} (h:DataW.trod enc prog w 0 (fun _=>true) true fuel 70 cs=some x):∃q:Cel.Ce,cs=ka q∧q.Fit:=by
  obtain⟨hl,n,hf⟩:=dh underlying70 h;rw[oT]at hl
  match cs,hl with
  |[c0,c1,c2],_=>
    have g0:=hf 0 {name:= "Cap",type:=3,offset:=0,embedded:=false,tag:= "",pkgPath:= "",byteOffset:=0} rfl;have g1:=hf 1 {name:= "Vol",type:=3,offset:=1,embedded:=false,tag:= "",pkgPath:= "",byteOffset:=8} rfl;have g2:=hf 2 {name:= "Ver",type:=3,offset:=2,embedded:=false,tag:= "",pkgPath:= "",byteOffset:=16} rfl;simp only[mw,List.drop_zero,List.drop_succ_cons,List.take_succ_cons,List.take_zero]at g0 g1 g2;obtain⟨k0,rfl,f0⟩:=aD g0;obtain⟨k1,rfl,f1⟩:=aD g1;obtain⟨k2,rfl,f2⟩:=aD g2;exact⟨⟨k0,k1,k2⟩,rfl,⟨f0,f1,f2⟩⟩
theorem zh {H:Type} {enc:TypeId×Value→H} {w:World} {fuel:Nat} {cs:List Value} {x:DataW H×List MemPlace} (h:DataW.trod enc prog w 0 (fun _=>true) true fuel 115 cs=some x):∃q:Lo,cs=gP q∧(ae q.r∧ae q.l)∧KC.IsL w w.heap.size (.slice q.A q.xs.length q.c) q.xs:=by
  obtain⟨hl,n,hf⟩:=dh underlying115 h;rw[pN]at hl
  match cs,hl with
  |[c0,c1,c2],_=>
    have g0:=hf 0 {name:= "Room",type:=3,offset:=0,embedded:=false,tag:= "",pkgPath:= "",byteOffset:=0} rfl;have g1:=hf 1 {name:= "Last",type:=3,offset:=1,embedded:=false,tag:= "",pkgPath:= "",byteOffset:=8} rfl;have g2:=hf 2 {name:= "List",type:=54,offset:=2,embedded:=false,tag:= "",pkgPath:= "",byteOffset:=16} rfl;simp only[mw,vX,List.drop_zero,List.drop_succ_cons,List.take_succ_cons,List.take_zero]at g0 g1 g2;obtain⟨k0,rfl,f0⟩:=aD g0;obtain⟨k1,rfl,f1⟩:=aD g1;obtain⟨y,hy⟩:=g2;obtain⟨v,xs,e,hx⟩:=n7 hy;simp only[List.cons.injEq,and_true]at e;subst e;obtain⟨A,c,rfl,_⟩:=hx.shape;exact⟨⟨k0,k1,A,c,xs⟩,rfl,⟨f0,f1⟩,hx⟩
def Dk.dcs (d:Dk):List Value:=[.slice d.bA d.bn d.bc,.slice d.pA d.pn d.pc,.slice d.rA d.rn d.rc,.int .i64 d.arms]
def Stk.scs (s:Stk):List Value:=[.slice s.cA s.cl.length s.cc,.slice s.lA s.ll.length s.lc,.slice s.tA s.tl.length s.tc,.int .i64 s.st,.int .i64 s.inn,.int .i64 s.out]
theorem wM {H:Type} {enc:TypeId×Value→H} {w:World} {fuel:Nat} {cs:List Value} {x:DataW H×List MemPlace} (h:DataW.trod enc prog w 0 (fun _=>true) true fuel 26 cs=some x):∃D:Dk,cs=D.dcs∧D.In w w.heap.size:=by
 obtain⟨hl,n,hf⟩:=dh underlying26 h;rw[pr]at hl
 match cs,hl with
 |[c0,c1,c2,c3],_=>
  have g0:=hf 0 {name:= "Borders",type:=22,offset:=0,embedded:=false,tag:= "",pkgPath:= "",byteOffset:=0} rfl;have g1:=hf 1 {name:= "Plates",type:=23,offset:=1,embedded:=false,tag:= "",pkgPath:= "",byteOffset:=24} rfl;have g2:=hf 2 {name:= "Racks",type:=24,offset:=2,embedded:=false,tag:= "",pkgPath:= "",byteOffset:=48} rfl;have g3:=hf 3 {name:= "Arms",type:=3,offset:=3,embedded:=false,tag:= "",pkgPath:= "",byteOffset:=72} rfl;simp only[ij,vv,vG,vw,List.drop_zero,List.drop_succ_cons,List.take_succ_cons,List.take_zero]at g0 g1 g2 g3;obtain⟨k3,rfl,f3⟩:=aD g3;obtain⟨y0,e0⟩:=g0;obtain⟨y1,e1⟩:=g1;obtain⟨y2,e2⟩:=g2;obtain⟨v0,bl,a0,b0⟩:=lC e0;obtain⟨v1,pl,a1,b1,q1⟩:=Lk.opened (K:=KP) (fun q=>KI.IsL w w.heap.size (.slice q.sA q.sn q.sc) q.st) oR (fun fuel cs x h=>ot h) e1;obtain⟨v2,rl,a2,b2,_⟩:=Lk.opened (K:=KR) (fun _=>True) pG (fun fuel cs x h=>qm h) e2;have z0:c0=v0:=by simpa using a0
  have z1:c1=v1:=by simpa using a1
  have z2:c2=v2:=by simpa using a2
  subst z0 z1 z2;obtain⟨A0,m0,h0,_,_⟩:=b0.1;obtain⟨A1,m1,h1,_,_⟩:=b1.1;obtain⟨A2,m2,h2,_,_⟩:=b2.1;subst h0 h1 h2;exact⟨⟨A0,bl.length,m0,bl,A1,pl.length,m1,pl,A2,rl.length,m2,rl,k3⟩,rfl,⟨b0,b1,b2,q1,f3⟩⟩
theorem sk {H:Type} {enc:TypeId×Value→H} {w:World} {fuel:Nat} {cs:List Value} {x:DataW H×List MemPlace} (h:DataW.trod enc prog w 0 (fun _=>true) true fuel 41 cs=some x):∃D:Stk,cs=D.scs∧D.In w w.heap.size:=by
 obtain⟨hl,n,hf⟩:=dh underlying41 h;rw[pt]at hl
 match cs,hl with
 |[c0,c1,c2,c3,c4,c5],_=>
  have g0:=hf 0 {name:= "Cells",type:=37,offset:=0,embedded:=false,tag:= "",pkgPath:= "",byteOffset:=0} rfl;have g1:=hf 1 {name:= "Logs",type:=38,offset:=1,embedded:=false,tag:= "",pkgPath:= "",byteOffset:=24} rfl;have g2:=hf 2 {name:= "Tips",type:=39,offset:=2,embedded:=false,tag:= "",pkgPath:= "",byteOffset:=48} rfl;have g3:=hf 3 {name:= "Start",type:=3,offset:=3,embedded:=false,tag:= "",pkgPath:= "",byteOffset:=72} rfl;have g4:=hf 4 {name:= "In",type:=3,offset:=4,embedded:=false,tag:= "",pkgPath:= "",byteOffset:=80} rfl;have g5:=hf 5 {name:= "Out",type:=3,offset:=5,embedded:=false,tag:= "",pkgPath:= "",byteOffset:=88} rfl;simp only[mw,xC,wF,wu,List.drop_zero,List.drop_succ_cons,List.take_succ_cons,List.take_zero]at g0 g1 g2 g3 g4 g5;obtain⟨k3,rfl,f3⟩:=aD g3;obtain⟨k4,rfl,f4⟩:=aD g4;obtain⟨k5,rfl,f5⟩:=aD g5;obtain⟨y0,e0⟩:=g0;obtain⟨y1,e1⟩:=g1;obtain⟨y2,e2⟩:=g2;obtain⟨v0,cl,a0,b0,_⟩:=Lk.opened (K:=KE) (fun _=>True) oT (fun fuel cs x h=>by
   obtain⟨q,e,h1⟩:=vk h;exact⟨q,e,h1,trivial⟩) e0
  obtain⟨v1,ll,a1,b1,q1⟩:=Lk.opened (K:=KL) (fun q=>KC.IsL w w.heap.size (.slice q.A q.xs.length q.c) q.xs) pN (fun fuel cs x h=>by
   obtain⟨q,e,h1,h2⟩:=zh h;exact⟨q,e,h1,h2⟩) e1
  obtain⟨v2,tl,a2,b2⟩:=xB e2;have z0:c0=v0:=by simpa using a0
  have z1:c1=v1:=by simpa using a1
  have z2:c2=v2:=by simpa using a2
  subst z0 z1 z2;obtain⟨A0,m0,h0,_,_⟩:=b0.1;obtain⟨A1,m1,h1,_,_⟩:=b1.1;obtain⟨A2,m2,h2,_,_⟩:=b2.1;subst h0 h1 h2;exact⟨⟨A0,m0,cl,A1,m1,ll,A2,m2,tl,k3,k4,k5⟩,rfl,⟨b0,b1,b2,q1,f3,f4,f5⟩⟩
theorem vr:Tryz.prog.cellsOf 43=11:=by kernel_rfl
theorem mO:Tryz.prog.readableRec 43=true:=by kernel_rfl
theorem qV:43<Tryz.prog.types.size:=of_decide_eq_true (by kernel_rfl)
theorem nO {H:Type} {enc:TypeId×Value→H} {W w:World} {r:Reach} {base:Nat} {v:Value} {d:DataW H} {ps:List MemPlace} (hv:Value.okWide prog W r base 43 v) (h:DataW.Trod enc prog w 0 (fun _=>true) true 43 v d ps):∃M:Md,v=M.v∧M.In w w.heap.size:=by
 obtain⟨ca,rfl,hca⟩:=okWide_struct underlying43 hv;obtain⟨fuel,hf0⟩:=h;obtain⟨hl,n,hf⟩:=dh underlying43 hf0;have JU:(Value.agg ca).cells=ca:=by simp[Value.cells]
 rw[JU]at hl hf;rw[vr]at hl
 match ca,hl with
 |⟨[c0,c1,c2,c3,c4,c5,c6,c7,c8,c9,c10]⟩,_=>
  have g0:=hf 0 {name:= "Deck",type:=26,offset:=0,embedded:=false,tag:= "",pkgPath:= "",byteOffset:=0} rfl;have g1:=hf 1 {name:= "Stock",type:=41,offset:=4,embedded:=false,tag:= "",pkgPath:= "",byteOffset:=80} rfl;have g2:=hf 2 {name:= "Owners",type:=27,offset:=10,embedded:=false,tag:= "",pkgPath:= "",byteOffset:=176} rfl;simp only[pr,pt,kZ,List.drop_zero,List.drop_succ_cons,List.take_succ_cons,List.take_zero]at g0 g1 g2;obtain⟨y0,e0⟩:=g0;obtain⟨y1,e1⟩:=g1;obtain⟨xs,hx⟩:=iW g2;obtain⟨D,hD,iD⟩:=wM e0;obtain⟨S,hS,iS⟩:=sk e1;obtain⟨A,c,rfl,_⟩:=hx.shape;unfold Dk.dcs at hD;unfold Stk.scs at hS;simp only[List.cons.injEq,and_true]at hD hS;obtain⟨rfl,rfl,rfl,rfl⟩:=hD;obtain⟨rfl,rfl,rfl,rfl,rfl,rfl⟩:=hS;exact⟨⟨D,S,A,c,xs⟩,rfl,⟨iD,iS,hx⟩⟩
theorem Bq:Tryz.prog.globalNamed "math/bits.deBruijn64tab" =some 1:=by kernel_rfl
theorem um:(Tryz.prog.globals[1]?).map (·.type)=some 254:=by kernel_rfl
theorem si:Tryz.prog.cellsOf 254=64:=by kernel_rfl
theorem wN:Tryz.prog.cellsOf 5=1:=by kernel_rfl
def pP:List (String×DataW Unit):=[("math/bits.deBruijn64tab",Rows.laid_math_bits_deBruijn64tab)]
theorem table {W:World} (h:laidMetH prog pP W):Lib.TabIs prog W "math/bits.deBruijn64tab" .u8 (Lib.deBruijn64tab.map Int.ofNat):=
  Lib.tabIs_of_head (rest:=[]) Bq um underlying254 underlying5 wN si h
theorem Cs {W:World} (h:laidMetH prog pP W):Nn.Tab W:=fun j hj=>by
  have hl:Lib.deBruijn64tab.length=64:=rfl;have e:=(table h).cell Bq j (by rw[List.length_map,hl];exact hj);rw[e,List.getD_eq_getElem?_getD,List.getElem?_map,List.getD_eq_getElem?_getD];rw[List.getElem?_eq_getElem (by rw[hl];exact hj)];rfl
noncomputable def fE (os:Os):World:=
  {World.holding prog os ⟨#[],#[],[]⟩with heap:=(World.holding prog os ⟨#[],#[],[]⟩).heap.modify 1 fun
      |.cells _ t frozen=>.cells (Lib.deBruijn64tab.map fun n=>Value.int .u8 (Int.ofNat n)).toArray t frozen
      |o=>o}
theorem qP:Tryz.prog.readableRec 30=true:=by kernel_rfl
theorem wE:30<Tryz.prog.types.size:=of_decide_eq_true (by kernel_rfl)
theorem vD:Tryz.prog.cellsOf 30=6:=by kernel_rfl
theorem tI:Tryz.prog.cellsOf 28=1:=by kernel_rfl
theorem vc {H:Type} {enc:TypeId×Value→H} {w:World} {n:Nat} {c:Value} (h:∃y,DataW.trod enc prog w 0 (fun _=>true) true n 28 [c]=some y):∃k:Nat,c=.int .u64 k∧k<18446744073709551616:=by
  obtain⟨y,hy⟩:=h;obtain⟨k,e,_,hw⟩:=DataW.trod_int underlying28 hy;simp only[List.cons.injEq,and_true]at e;have hk:0≤k∧k≤18446744073709551615:=by simpa [Lit.wf,IntKind.min,IntKind.max,IntKind.signed,IntKind.bits]using hw
  refine⟨k.toNat,?_,by omega⟩;rw[e,Int.toNat_of_nonneg hk.1]
theorem sR {H:Type} {enc:TypeId×Value→H} {W w:World} {r:Reach} {base:Nat} {v:Value} {d:DataW H} {ps:List MemPlace} (hv:Value.okWide prog W r base 30 v) (h:DataW.Trod enc prog w 0 (fun _=>true) true 30 v d ps):∃R:Rq,v=R.val∧R.In w w.heap.size:=by
  obtain⟨ca,rfl,hca⟩:=okWide_struct underlying30 hv;obtain⟨fuel,hf0⟩:=h;obtain⟨hl,n,hf⟩:=dh underlying30 hf0;have JU:(Value.agg ca).cells=ca:=by simp[Value.cells]
  rw[JU]at hl hf;rw[vD]at hl
  match ca,hl with
  |⟨[c0,c1,c2,c3,c4,c5]⟩,_=>
    have g0:=hf 0 {name:= "Kind",type:=3,offset:=0,embedded:=false,tag:= "",pkgPath:= "",byteOffset:=0} rfl;have g1:=hf 1 {name:= "Ids",type:=27,offset:=1,embedded:=false,tag:= "",pkgPath:= "",byteOffset:=8} rfl;have g2:=hf 2 {name:= "A",type:=3,offset:=2,embedded:=false,tag:= "",pkgPath:= "",byteOffset:=32} rfl;have g3:=hf 3 {name:= "B",type:=3,offset:=3,embedded:=false,tag:= "",pkgPath:= "",byteOffset:=40} rfl;have g4:=hf 4 {name:= "Ver",type:=3,offset:=4,embedded:=false,tag:= "",pkgPath:= "",byteOffset:=48} rfl;have g5:=hf 5 {name:= "Vol",type:=28,offset:=5,embedded:=false,tag:= "",pkgPath:= "",byteOffset:=56} rfl;simp only[ij,kZ,tI,List.drop_zero,List.drop_succ_cons,List.take_succ_cons,List.take_zero]at g0 g1 g2 g3 g4 g5;obtain⟨k0,rfl,f0⟩:=aD g0;obtain⟨xs,hx⟩:=iW g1;obtain⟨k2,rfl,f2⟩:=aD g2;obtain⟨k3,rfl,f3⟩:=aD g3;obtain⟨k4,rfl,f4⟩:=aD g4;obtain⟨k5,rfl,f5⟩:=vc g5;obtain⟨A,c,rfl,_⟩:=hx.shape;exact⟨⟨k0,A,c,xs,k2,k3,k4,k5⟩,rfl,⟨hx,f0,f2,f3,f4,f5⟩⟩
end Go.Proofs.YtmecohdedghiaaaGreatDoor
