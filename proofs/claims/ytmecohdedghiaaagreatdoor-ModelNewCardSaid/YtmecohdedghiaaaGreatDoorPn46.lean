/- What the cards of this seat share: the table out of a row; a request that came in; a world for the witness. -/
import Derived.Test.YtmecohdedghiaaaGreatDoorPn00
import Derived.Test.YtmecohdedghiaaaGreatDoorRows
import Derived.ProofKit
import Derived.OpenShut
import Derived.ShutString
import Derived.ChangeMaps5
import Derived.Deep.Slices
import Derived.Lib.SmallJoins
import Derived.Carry
import Derived.ChangeSlices
import Derived.Test.YtmecohdedghiaaaGreatDoorPn06
import Derived.Test.YtmecohdedghiaaaGreatDoorPn14
import Derived.OpenVars
import Derived.Test.YtmecohdedghiaaaGreatDoorPn26
import Derived.Test.YtmecohdedghiaaaGreatDoorPn28
import Derived.Test.YtmecohdedghiaaaGreatDoorCards
import Derived.Test.YtmecohdedghiaaaGreatDoorTie
import Derived.Deep.DeepHandedRow
import Derived.Lib.LaidTab
set_option maxRecDepth 100000
set_option maxHeartbeats 8000000
namespace Go.Proofs.YtmecohdedghiaaaGreatDoor
open Go.ChangeShapes Go.WideShapes Go.ChangeAt Go.RowKit Go.Deep
theorem own:ownKnob Tryz.prog.godebug=none:=by kernel_rfl
theorem laidOut:laidOutB Tryz.prog=true:=by kernel_rfl
theorem int_fits {n:Int} (h:(Lit.int .i64 n).wf=true):fits n:=by
  have: -9223372036854775808≤n∧n≤9223372036854775807:=by simpa [Lit.wf,IntKind.min,IntKind.max,IntKind.signed,IntKind.bits]using h
  exact this
theorem fl_fits {n:Nat} (h:(Lit.float .f64 n).wf=true):n<18446744073709551616:=by simpa [Lit.wf]using h
theorem Lk.opened {P:Program} {α:Type} {K:Lk P α} {H:Type} {enc:TypeId×Value→H} {w:World} (Q:α→Prop) (hcells:P.cellsOf K.E=K.n)
    (each:∀(fuel:Nat) (cs:List Value) (x:DataW H×List MemPlace),DataW.trod enc P w 0 (fun _=>true) true fuel K.E cs=some x→∃y:α,cs=K.cells y∧K.ok y∧Q y)
    {fuel:Nat} {cs:List Value} {x:DataW H×List MemPlace} (h:DataW.trod enc P w 0 (fun _=>true) true fuel K.S cs=some x):
    ∃v xs,cs=[v]∧K.IsL w w.heap.size v xs∧∀y∈xs,Q y:=by
  rcases open_slice K.und h with ⟨rfl,_⟩|⟨a,len,cap,m,n,D,Pl,rfl,hb,hl,hm,hmm,rfl,hx⟩
  · exact⟨_,[],rfl,IsL.nil _ _ _ _,fun y hy=>by simp at hy⟩
  · rw[if_pos rfl]at hmm
    subst hmm;have hm':m≤9223372036854775807:=(by unfold maxLen at hm;omega);rcases Nat.eq_zero_or_pos len with h0|h0
    · subst h0
      exact⟨_,[],rfl,IsL.nil _ _ _ _,fun y hy=>by simp at hy⟩
    have hi:Inhabited α:=⟨K.dflt⟩;obtain⟨Y,hY⟩:=choose_lt (α:=α) (n:=len) (p:=fun i y=>K.ok y∧Q y∧∀j,j<K.n→w.cell? ((a.add (i*K.n)).add j)=(K.cells y)[j]?) (fun i hi=>by
      obtain⟨cs',h1,h2⟩:=hx i (by omega);rw[hcells]at h1;obtain⟨y,rfl,hy,hq⟩:=each _ _ _ h2;obtain⟨_,_,hcell⟩:=World.cells?_some h1;exact⟨y,hy,hq,hcell⟩)
    have hpos:=K.pos;obtain⟨b,off,spot⟩:=a;have h00:=(hY 0 h0).2.2 0 hpos;obtain⟨u0,hu0⟩:∃u,(K.cells (Y 0))[0]? =some u:=⟨_,List.getElem?_eq_getElem (by rw[K.len];exact hpos)⟩;rw[hu0]at h00;have hspot:spot=none:=(by simpa [Addr.add]using World.cell?_spot h00);subst hspot;have hlen:((List.range len).map Y).length=len:=(by simp);refine⟨_,(List.range len).map Y,rfl,⟨⟨some ⟨b,off,none⟩,m,by rw[hlen],by rw[hlen];exact hl,fun _=>⟨b,off,rfl,?_,fun i hi j u hu=>?_⟩⟩,fun y hy=>?_,by rw[hlen];omega⟩,fun y hy=>?_⟩
    · have e:=wB w _ h00
      simpa [Addr.add]using e
    · rw[hlen]at hi
      have hj:j<K.n:=by
        have:=(List.getElem?_eq_some_iff.1 hu).1;rw[K.len]at this;exact this
      have e:=(hY i hi).2.2 j hj;rw[add_plain,add_plain]at e;have hget:((List.range len).map Y).getD i K.dflt=Y i:=by
        rw[List.getD_eq_getElem?_getD,List.getElem?_map,List.getElem?_range hi];rfl
      rw[hget]at hu;rw[←Nat.add_assoc,e,hu]
    · obtain⟨i,hi,rfl⟩:=List.mem_map.1 hy
      exact(hY i (List.mem_range.1 hi)).1
    · obtain⟨i,hi,rfl⟩:=List.mem_map.1 hy
      exact(hY i (List.mem_range.1 hi)).2.1
theorem trod_float {H:Type} {enc:TypeId×Value→H} {P:Program} {w:World} {base:Nat} {spare:Nat→Bool} {held:Bool} {fuel:Nat} {t:TypeId} {cs:List Value} {x:DataW H×List MemPlace} {k:FloatKind} (ht:P.underlying t=some (.float k)) (h:DataW.trod enc P w base spare held fuel t cs=some x):∃n,cs=[.float k n]∧(Lit.float k n).wf=true:=by
  cases fuel with
  |zero=>simp[DataW.trod]at h
  |succ n=>
    unfold DataW.trod at h;rw[ht]at h
    split at h<;>simp_all
theorem celi3:Tryz.prog.cellsOf 3=1:=by kernel_rfl
theorem fieldz {H:Type} {enc:TypeId×Value→H} {w:World} {fuel:Nat} {t:TypeId} {fs:Array Field} {cs:List Value} {x:DataW H×List MemPlace} (ht:Tryz.prog.underlying t=some (.struct fs)) (h:DataW.trod enc Tryz.prog w 0 (fun _=>true) true fuel t cs=some x):
    cs.length=Tryz.prog.cellsOf t∧∃n,∀(i:Nat) (f:Field),fs[i]? =some f→∃y,DataW.trod enc Tryz.prog w 0 (fun _=>true) true n f.type ((cs.drop f.offset).take (Tryz.prog.cellsOf f.type))=some y:=by
  obtain⟨xs,n,_,_,hl,hlen,hf⟩:=DataW.trod_struct ht h;refine⟨hl,n,fun i f hi=>?_⟩;have hi':i<xs.length:=by
    rw[hlen];exact(Array.getElem?_eq_some_iff.1 hi).1
  exact⟨xs[i],by rw[hf i f hi,List.getElem?_eq_getElem hi']⟩
theorem one_int' {H:Type} {enc:TypeId×Value→H} {w:World} {n:Nat} {c:Value} (h:∃y,DataW.trod enc Tryz.prog w 0 (fun _=>true) true n 3 [c]=some y):∃k,c=.int .i64 k∧fits k:=by
  obtain⟨y,hy⟩:=h;obtain⟨k,e,_,hw⟩:=DataW.trod_int Tryz.underlying3 hy;simp only[List.cons.injEq,and_true]at e;exact⟨k,e,int_fits hw⟩
theorem celt44:Tryz.prog.cellsOf 146=2:=by kernel_rfl
theorem celt32:Tryz.prog.cellsOf 177=3:=by kernel_rfl
theorem tip_cs {H:Type} {enc:TypeId×Value→H} {w:World} {fuel:Nat} {cs:List Value} {x:DataW H×List MemPlace} (h:DataW.trod enc Tryz.prog w 0 (fun _=>true) true fuel 146 cs=some x):∃q:Int×Int,cs=tpCells q∧fits q.1∧fits q.2:=by
  obtain⟨hl,n,hf⟩:=fieldz Tryz.underlying146 h;rw[celt44]at hl
  match cs,hl with
  |[c0,c1],_=>
    have g0:=hf 0 {name:= "State",type:=3,offset:=0,embedded:=false,tag:= "",pkgPath:= "",byteOffset:=0} rfl;have g1:=hf 1 {name:= "By",type:=3,offset:=1,embedded:=false,tag:= "",pkgPath:= "",byteOffset:=8} rfl;simp only[celi3,List.drop_zero,List.drop_succ_cons,List.take_succ_cons,List.take_zero]at g0 g1;obtain⟨k0,rfl,f0⟩:=one_int' g0;obtain⟨k1,rfl,f1⟩:=one_int' g1;exact⟨(k0,k1),rfl,f0,f1⟩
theorem change_cs {H:Type} {enc:TypeId×Value→H} {w:World} {fuel:Nat} {cs:List Value} {x:DataW H×List MemPlace} (h:DataW.trod enc Tryz.prog w 0 (fun _=>true) true fuel 177 cs=some x):∃q:Ch,cs=chCells q∧fits q.a∧fits q.b∧fits q.c:=by
  obtain⟨hl,n,hf⟩:=fieldz Tryz.underlying177 h;rw[celt32]at hl
  match cs,hl with
  |[c0,c1,c2],_=>
    have g0:=hf 0 {name:= "Ver",type:=3,offset:=0,embedded:=false,tag:= "",pkgPath:= "",byteOffset:=0} rfl;have g1:=hf 1 {name:= "By",type:=3,offset:=1,embedded:=false,tag:= "",pkgPath:= "",byteOffset:=8} rfl;have g2:=hf 2 {name:= "N",type:=3,offset:=2,embedded:=false,tag:= "",pkgPath:= "",byteOffset:=16} rfl;simp only[celi3,List.drop_zero,List.drop_succ_cons,List.take_succ_cons,List.take_zero]at g0 g1 g2;obtain⟨k0,rfl,f0⟩:=one_int' g0;obtain⟨k1,rfl,f1⟩:=one_int' g1;obtain⟨k2,rfl,f2⟩:=one_int' g2;exact⟨⟨k0,k1,k2⟩,rfl,f0,f1,f2⟩
theorem cs_tips {H:Type} {enc:TypeId×Value→H} {w:World} {fuel:Nat} {cs:List Value} {x:DataW H×List MemPlace} (h:DataW.trod enc Tryz.prog w 0 (fun _=>true) true fuel 39 cs=some x):∃v xs,cs=[v]∧KT.IsL w w.heap.size v xs:=by
  obtain⟨v,xs,h1,h2,_⟩:=Lk.opened (K:=KT) (fun _=>True) celt44 (fun fuel cs x h=>by
    obtain⟨q,e,h1,h2⟩:=tip_cs h;exact⟨q,e,⟨h1,h2⟩,trivial⟩) h
  exact⟨v,xs,h1,h2⟩
theorem cs_changes {H:Type} {enc:TypeId×Value→H} {w:World} {fuel:Nat} {cs:List Value} {x:DataW H×List MemPlace} (h:DataW.trod enc Tryz.prog w 0 (fun _=>true) true fuel 54 cs=some x):∃v xs,cs=[v]∧KC.IsL w w.heap.size v xs:=by
  obtain⟨v,xs,h1,h2,_⟩:=Lk.opened (K:=KC) (fun _=>True) celt32 (fun fuel cs x h=>by
    obtain⟨q,e,h1,h2,h3⟩:=change_cs h;exact⟨q,e,⟨h1,h2,h3⟩,trivial⟩) h
  exact⟨v,xs,h1,h2⟩
theorem cells28:Tryz.prog.cellsOf 84=1:=by kernel_rfl
theorem open_floats {H:Type} {enc:TypeId×Value→H} {w:World} {fuel:Nat} {cs:List Value} {x:DataW H×List MemPlace} (h:DataW.trod enc Tryz.prog w 0 (fun _=>true) true fuel 22 cs=some x):∃v xs,cs=[v]∧KF.IsL w w.heap.size v xs:=by
  obtain⟨v,xs,h1,h2,_⟩:=Lk.opened (K:=KF) (fun _=>True) cells28 (fun fuel cs x h=>by
    obtain⟨n,rfl,hw⟩:=trod_float Tryz.underlying84 h;exact⟨n,rfl,fl_fits hw,trivial⟩) h
  exact⟨v,xs,h1,h2⟩
theorem cells3:Tryz.prog.cellsOf 3=1:=by kernel_rfl
theorem cells61:Tryz.prog.cellsOf 27=1:=by kernel_rfl
theorem cells22:Tryz.prog.cellsOf 22=1:=by kernel_rfl
theorem cells41:Tryz.prog.cellsOf 23=1:=by kernel_rfl
theorem cells42:Tryz.prog.cellsOf 24=1:=by kernel_rfl
theorem cells44:Tryz.prog.cellsOf 26=4:=by kernel_rfl
theorem cells63:Tryz.prog.cellsOf 86=7:=by kernel_rfl
theorem cells72:Tryz.prog.cellsOf 118=5:=by kernel_rfl
theorem deck_reads:Tryz.prog.readableRec 26=true:=by kernel_rfl
theorem deck_row:26<Tryz.prog.types.size:=of_decide_eq_true (by kernel_rfl)
theorem one_float {H:Type} {enc:TypeId×Value→H} {w:World} {n:Nat} {c:Value} (h:∃y,DataW.trod enc Tryz.prog w 0 (fun _=>true) true n 84 [c]=some y):∃k,c=.float .f64 k∧k<18446744073709551616:=by
  obtain⟨y,hy⟩:=h;obtain⟨k,e,hw⟩:=trod_float Tryz.underlying84 hy;simp only[List.cons.injEq,and_true]at e;exact⟨k,e,fl_fits hw⟩
theorem one_ints {H:Type} {enc:TypeId×Value→H} {w:World} {n:Nat} {c:Value} (h:∃y,DataW.trod enc Tryz.prog w 0 (fun _=>true) true n 27 [c]=some y):∃xs,KI.IsL w w.heap.size c xs:=by
  obtain⟨y,hy⟩:=h;obtain⟨v,xs,h1,h2,_⟩:=Lk.opened (K:=KI) (fun _=>True) cells3 (fun fuel cs x h=>by
    obtain⟨k,e,_,hw⟩:=DataW.trod_int Tryz.underlying3 h;exact⟨k,e,int_fits hw,trivial⟩) hy
  simp only[List.cons.injEq,and_true]at h1;subst h1;exact⟨xs,h2⟩
theorem open_plate {H:Type} {enc:TypeId×Value→H} {w:World} {fuel:Nat} {cs:List Value} {x:DataW H×List MemPlace} (h:DataW.trod enc Tryz.prog w 0 (fun _=>true) true fuel 86 cs=some x):
    ∃q:Pl,cs=KP.cells q∧KP.ok q∧KI.IsL w w.heap.size (.slice q.sA q.sn q.sc) q.st:=by
  obtain⟨hl,n,hf⟩:=fieldz Tryz.underlying86 h;rw[cells63]at hl
  match cs,hl with
  |[c0,c1,c2,c3,c4,c5,c6],_=>
    have g0:=hf 0 {name:= "Rows",type:=3,offset:=0,embedded:=false,tag:= "",pkgPath:= "",byteOffset:=0} rfl;have g1:=hf 1 {name:= "Cols",type:=3,offset:=1,embedded:=false,tag:= "",pkgPath:= "",byteOffset:=8} rfl;have g2:=hf 2 {name:= "X",type:=84,offset:=2,embedded:=false,tag:= "",pkgPath:= "",byteOffset:=16} rfl;have g3:=hf 3 {name:= "Pitch",type:=84,offset:=3,embedded:=false,tag:= "",pkgPath:= "",byteOffset:=24} rfl;have g4:=hf 4 {name:= "Reach",type:=84,offset:=4,embedded:=false,tag:= "",pkgPath:= "",byteOffset:=32} rfl;have g5:=hf 5 {name:= "Cap",type:=3,offset:=5,embedded:=false,tag:= "",pkgPath:= "",byteOffset:=40} rfl;have g6:=hf 6 {name:= "Start",type:=27,offset:=6,embedded:=false,tag:= "",pkgPath:= "",byteOffset:=48} rfl;simp only[cells3,cells28,cells61,List.drop_zero,List.drop_succ_cons,List.take_succ_cons,List.take_zero]at g0 g1 g2 g3 g4 g5 g6;obtain⟨k0,rfl,f0⟩:=one_int' g0;obtain⟨k1,rfl,f1⟩:=one_int' g1;obtain⟨k2,rfl,f2⟩:=one_float g2;obtain⟨k3,rfl,f3⟩:=one_float g3;obtain⟨k4,rfl,f4⟩:=one_float g4;obtain⟨k5,rfl,f5⟩:=one_int' g5;obtain⟨xs,hx⟩:=one_ints g6;obtain⟨A,cap,hv,_,_⟩:=hx.1;subst hv;exact⟨⟨k0,k1,k2,k3,k4,k5,A,xs.length,cap,xs⟩,rfl,⟨f0,f1,f2,f3,f4,f5⟩,hx⟩
theorem open_rack {H:Type} {enc:TypeId×Value→H} {w:World} {fuel:Nat} {cs:List Value} {x:DataW H×List MemPlace} (h:DataW.trod enc Tryz.prog w 0 (fun _=>true) true fuel 118 cs=some x):
    ∃q:Rk,cs=KR.cells q∧KR.ok q∧True:=by
  obtain⟨hl,n,hf⟩:=fieldz Tryz.underlying118 h;rw[cells72]at hl
  match cs,hl with
  |[c0,c1,c2,c3,c4],_=>
    have g0:=hf 0 {name:= "Rows",type:=3,offset:=0,embedded:=false,tag:= "",pkgPath:= "",byteOffset:=0} rfl;have g1:=hf 1 {name:= "Cols",type:=3,offset:=1,embedded:=false,tag:= "",pkgPath:= "",byteOffset:=8} rfl;have g2:=hf 2 {name:= "X",type:=84,offset:=2,embedded:=false,tag:= "",pkgPath:= "",byteOffset:=16} rfl;have g3:=hf 3 {name:= "Pitch",type:=84,offset:=3,embedded:=false,tag:= "",pkgPath:= "",byteOffset:=24} rfl;have g4:=hf 4 {name:= "Reach",type:=84,offset:=4,embedded:=false,tag:= "",pkgPath:= "",byteOffset:=32} rfl;simp only[cells3,cells28,List.drop_zero,List.drop_succ_cons,List.take_succ_cons,List.take_zero]at g0 g1 g2 g3 g4;obtain⟨k0,rfl,f0⟩:=one_int' g0;obtain⟨k1,rfl,f1⟩:=one_int' g1;obtain⟨k2,rfl,f2⟩:=one_float g2;obtain⟨k3,rfl,f3⟩:=one_float g3;obtain⟨k4,rfl,f4⟩:=one_float g4;exact⟨⟨k0,k1,k2,k3,k4⟩,rfl,⟨f0,f1,f2,f3,f4⟩,trivial⟩
theorem open_deck {H:Type} {enc:TypeId×Value→H} {W w:World} {r:Reach} {base:Nat} {v:Value} {d:DataW H} {ps:List MemPlace} (hv:Value.okWide Tryz.prog W r base 26 v) (h:DataW.Trod enc Tryz.prog w 0 (fun _=>true) true 26 v d ps):∃D:Dk,v=D.v∧D.In w w.heap.size:=by
  obtain⟨ca,rfl,hca⟩:=okWide_struct Tryz.underlying26 hv;obtain⟨fuel,hf0⟩:=h;obtain⟨hl,n,hf⟩:=fieldz Tryz.underlying26 hf0;have hcs:(Value.agg ca).cells=ca:=by simp[Value.cells]
  rw[hcs]at hl hf;rw[cells44]at hl
  match ca,hl with
  |⟨[c0,c1,c2,c3]⟩,_=>
    have g0:=hf 0 {name:= "Borders",type:=22,offset:=0,embedded:=false,tag:= "",pkgPath:= "",byteOffset:=0} rfl;have g1:=hf 1 {name:= "Plates",type:=23,offset:=1,embedded:=false,tag:= "",pkgPath:= "",byteOffset:=24} rfl;have g2:=hf 2 {name:= "Racks",type:=24,offset:=2,embedded:=false,tag:= "",pkgPath:= "",byteOffset:=48} rfl;have g3:=hf 3 {name:= "Arms",type:=3,offset:=3,embedded:=false,tag:= "",pkgPath:= "",byteOffset:=72} rfl;simp only[cells3,cells22,cells41,cells42,List.drop_zero,List.drop_succ_cons,List.take_succ_cons,List.take_zero]at g0 g1 g2 g3;obtain⟨k3,rfl,f3⟩:=one_int' g3;obtain⟨y0,e0⟩:=g0;obtain⟨y1,e1⟩:=g1;obtain⟨y2,e2⟩:=g2;obtain⟨v0,bl,a0,b0⟩:=open_floats e0;obtain⟨v1,pl,a1,b1,q1⟩:=Lk.opened (K:=KP) (fun q=>KI.IsL w w.heap.size (.slice q.sA q.sn q.sc) q.st) cells63 (fun fuel cs x h=>open_plate h) e1;obtain⟨v2,rl,a2,b2,_⟩:=Lk.opened (K:=KR) (fun _=>True) cells72 (fun fuel cs x h=>open_rack h) e2;have z0:c0=v0:=(by simpa using a0);have z1:c1=v1:=(by simpa using a1);have z2:c2=v2:=(by simpa using a2);subst z0 z1 z2;obtain⟨A0,m0,h0,_,_⟩:=b0.1;obtain⟨A1,m1,h1,_,_⟩:=b1.1;obtain⟨A2,m2,h2,_,_⟩:=b2.1;subst h0 h1 h2;exact⟨⟨A0,bl.length,m0,bl,A1,pl.length,m1,pl,A2,rl.length,m2,rl,k3⟩,rfl,⟨b0,b1,b2,q1,f3⟩⟩
theorem cellsCe:Tryz.prog.cellsOf 70=3:=by kernel_rfl
theorem cellsLo:Tryz.prog.cellsOf 115=3:=by kernel_rfl
theorem cellsCh:Tryz.prog.cellsOf 54=1:=by kernel_rfl
theorem cellsCl:Tryz.prog.cellsOf 37=1:=by kernel_rfl
theorem cellsLl:Tryz.prog.cellsOf 38=1:=by kernel_rfl
theorem cellsTl:Tryz.prog.cellsOf 39=1:=by kernel_rfl
theorem cellsSt:Tryz.prog.cellsOf 41=6:=by kernel_rfl
theorem cell_cs {H:Type} {enc:TypeId×Value→H} {w:World} {fuel:Nat} {cs:List Value} {x:DataW H×List MemPlace} (h:DataW.trod enc Tryz.prog w 0 (fun _=>true) true fuel 70 cs=some x):∃q:Cel.Ce,cs=ceCells q∧q.Fit:=by
  obtain⟨hl,n,hf⟩:=fieldz Tryz.underlying70 h;rw[cellsCe]at hl
  match cs,hl with
  |[c0,c1,c2],_=>
    have g0:=hf 0 {name:= "Cap",type:=3,offset:=0,embedded:=false,tag:= "",pkgPath:= "",byteOffset:=0} rfl;have g1:=hf 1 {name:= "Vol",type:=3,offset:=1,embedded:=false,tag:= "",pkgPath:= "",byteOffset:=8} rfl;have g2:=hf 2 {name:= "Ver",type:=3,offset:=2,embedded:=false,tag:= "",pkgPath:= "",byteOffset:=16} rfl;simp only[celi3,List.drop_zero,List.drop_succ_cons,List.take_succ_cons,List.take_zero]at g0 g1 g2;obtain⟨k0,rfl,f0⟩:=one_int' g0;obtain⟨k1,rfl,f1⟩:=one_int' g1;obtain⟨k2,rfl,f2⟩:=one_int' g2;exact⟨⟨k0,k1,k2⟩,rfl,⟨f0,f1,f2⟩⟩
theorem log_cs {H:Type} {enc:TypeId×Value→H} {w:World} {fuel:Nat} {cs:List Value} {x:DataW H×List MemPlace} (h:DataW.trod enc Tryz.prog w 0 (fun _=>true) true fuel 115 cs=some x):∃q:Lo,cs=loCells q∧(fits q.r∧fits q.l)∧KC.IsL w w.heap.size (.slice q.A q.xs.length q.c) q.xs:=by
  obtain⟨hl,n,hf⟩:=fieldz Tryz.underlying115 h;rw[cellsLo]at hl
  match cs,hl with
  |[c0,c1,c2],_=>
    have g0:=hf 0 {name:= "Room",type:=3,offset:=0,embedded:=false,tag:= "",pkgPath:= "",byteOffset:=0} rfl;have g1:=hf 1 {name:= "Last",type:=3,offset:=1,embedded:=false,tag:= "",pkgPath:= "",byteOffset:=8} rfl;have g2:=hf 2 {name:= "List",type:=54,offset:=2,embedded:=false,tag:= "",pkgPath:= "",byteOffset:=16} rfl;simp only[celi3,cellsCh,List.drop_zero,List.drop_succ_cons,List.take_succ_cons,List.take_zero]at g0 g1 g2;obtain⟨k0,rfl,f0⟩:=one_int' g0;obtain⟨k1,rfl,f1⟩:=one_int' g1;obtain⟨y,hy⟩:=g2;obtain⟨v,xs,e,hx⟩:=cs_changes hy;simp only[List.cons.injEq,and_true]at e;subst e;obtain⟨A,c,rfl,_⟩:=hx.shape;exact⟨⟨k0,k1,A,c,xs⟩,rfl,⟨f0,f1⟩,hx⟩
def Dk.dcs (d:Dk):List Value:=[.slice d.bA d.bn d.bc,.slice d.pA d.pn d.pc,.slice d.rA d.rn d.rc,.int .i64 d.arms]
def Stk.scs (s:Stk):List Value:=[.slice s.cA s.cl.length s.cc,.slice s.lA s.ll.length s.lc,.slice s.tA s.tl.length s.tc,.int .i64 s.st,.int .i64 s.inn,.int .i64 s.out]
theorem cs_deck {H:Type} {enc:TypeId×Value→H} {w:World} {fuel:Nat} {cs:List Value} {x:DataW H×List MemPlace} (h:DataW.trod enc Tryz.prog w 0 (fun _=>true) true fuel 26 cs=some x):∃D:Dk,cs=D.dcs∧D.In w w.heap.size:=by
 obtain⟨hl,n,hf⟩:=fieldz Tryz.underlying26 h;rw[cells44]at hl
 match cs,hl with
 |[c0,c1,c2,c3],_=>
  have g0:=hf 0 {name:= "Borders",type:=22,offset:=0,embedded:=false,tag:= "",pkgPath:= "",byteOffset:=0} rfl;have g1:=hf 1 {name:= "Plates",type:=23,offset:=1,embedded:=false,tag:= "",pkgPath:= "",byteOffset:=24} rfl;have g2:=hf 2 {name:= "Racks",type:=24,offset:=2,embedded:=false,tag:= "",pkgPath:= "",byteOffset:=48} rfl;have g3:=hf 3 {name:= "Arms",type:=3,offset:=3,embedded:=false,tag:= "",pkgPath:= "",byteOffset:=72} rfl;simp only[cells3,cells22,cells41,cells42,List.drop_zero,List.drop_succ_cons,List.take_succ_cons,List.take_zero]at g0 g1 g2 g3;obtain⟨k3,rfl,f3⟩:=one_int' g3;obtain⟨y0,e0⟩:=g0;obtain⟨y1,e1⟩:=g1;obtain⟨y2,e2⟩:=g2;obtain⟨v0,bl,a0,b0⟩:=open_floats e0;obtain⟨v1,pl,a1,b1,q1⟩:=Lk.opened (K:=KP) (fun q=>KI.IsL w w.heap.size (.slice q.sA q.sn q.sc) q.st) cells63 (fun fuel cs x h=>open_plate h) e1;obtain⟨v2,rl,a2,b2,_⟩:=Lk.opened (K:=KR) (fun _=>True) cells72 (fun fuel cs x h=>open_rack h) e2;have z0:c0=v0:=by simpa using a0
  have z1:c1=v1:=by simpa using a1
  have z2:c2=v2:=by simpa using a2
  subst z0 z1 z2;obtain⟨A0,m0,h0,_,_⟩:=b0.1;obtain⟨A1,m1,h1,_,_⟩:=b1.1;obtain⟨A2,m2,h2,_,_⟩:=b2.1;subst h0 h1 h2;exact⟨⟨A0,bl.length,m0,bl,A1,pl.length,m1,pl,A2,rl.length,m2,rl,k3⟩,rfl,⟨b0,b1,b2,q1,f3⟩⟩
theorem cs_stock {H:Type} {enc:TypeId×Value→H} {w:World} {fuel:Nat} {cs:List Value} {x:DataW H×List MemPlace} (h:DataW.trod enc Tryz.prog w 0 (fun _=>true) true fuel 41 cs=some x):∃D:Stk,cs=D.scs∧D.In w w.heap.size:=by
 obtain⟨hl,n,hf⟩:=fieldz Tryz.underlying41 h;rw[cellsSt]at hl
 match cs,hl with
 |[c0,c1,c2,c3,c4,c5],_=>
  have g0:=hf 0 {name:= "Cells",type:=37,offset:=0,embedded:=false,tag:= "",pkgPath:= "",byteOffset:=0} rfl;have g1:=hf 1 {name:= "Logs",type:=38,offset:=1,embedded:=false,tag:= "",pkgPath:= "",byteOffset:=24} rfl;have g2:=hf 2 {name:= "Tips",type:=39,offset:=2,embedded:=false,tag:= "",pkgPath:= "",byteOffset:=48} rfl;have g3:=hf 3 {name:= "Start",type:=3,offset:=3,embedded:=false,tag:= "",pkgPath:= "",byteOffset:=72} rfl;have g4:=hf 4 {name:= "In",type:=3,offset:=4,embedded:=false,tag:= "",pkgPath:= "",byteOffset:=80} rfl;have g5:=hf 5 {name:= "Out",type:=3,offset:=5,embedded:=false,tag:= "",pkgPath:= "",byteOffset:=88} rfl;simp only[celi3,cellsCl,cellsLl,cellsTl,List.drop_zero,List.drop_succ_cons,List.take_succ_cons,List.take_zero]at g0 g1 g2 g3 g4 g5;obtain⟨k3,rfl,f3⟩:=one_int' g3;obtain⟨k4,rfl,f4⟩:=one_int' g4;obtain⟨k5,rfl,f5⟩:=one_int' g5;obtain⟨y0,e0⟩:=g0;obtain⟨y1,e1⟩:=g1;obtain⟨y2,e2⟩:=g2;obtain⟨v0,cl,a0,b0,_⟩:=Lk.opened (K:=KE) (fun _=>True) cellsCe (fun fuel cs x h=>by
   obtain⟨q,e,h1⟩:=cell_cs h;exact⟨q,e,h1,trivial⟩) e0
  obtain⟨v1,ll,a1,b1,q1⟩:=Lk.opened (K:=KL) (fun q=>KC.IsL w w.heap.size (.slice q.A q.xs.length q.c) q.xs) cellsLo (fun fuel cs x h=>by
   obtain⟨q,e,h1,h2⟩:=log_cs h;exact⟨q,e,h1,h2⟩) e1
  obtain⟨v2,tl,a2,b2⟩:=cs_tips e2;have z0:c0=v0:=by simpa using a0
  have z1:c1=v1:=by simpa using a1
  have z2:c2=v2:=by simpa using a2
  subst z0 z1 z2;obtain⟨A0,m0,h0,_,_⟩:=b0.1;obtain⟨A1,m1,h1,_,_⟩:=b1.1;obtain⟨A2,m2,h2,_,_⟩:=b2.1;subst h0 h1 h2;exact⟨⟨A0,m0,cl,A1,m1,ll,A2,m2,tl,k3,k4,k5⟩,rfl,⟨b0,b1,b2,q1,f3,f4,f5⟩⟩
theorem cellsMd:Tryz.prog.cellsOf 43=11:=by kernel_rfl
theorem model_reads:Tryz.prog.readableRec 43=true:=by kernel_rfl
theorem model_row:43<Tryz.prog.types.size:=of_decide_eq_true (by kernel_rfl)
theorem open_model {H:Type} {enc:TypeId×Value→H} {W w:World} {r:Reach} {base:Nat} {v:Value} {d:DataW H} {ps:List MemPlace} (hv:Value.okWide Tryz.prog W r base 43 v) (h:DataW.Trod enc Tryz.prog w 0 (fun _=>true) true 43 v d ps):∃M:Md,v=M.v∧M.In w w.heap.size:=by
 obtain⟨ca,rfl,hca⟩:=okWide_struct Tryz.underlying43 hv;obtain⟨fuel,hf0⟩:=h;obtain⟨hl,n,hf⟩:=fieldz Tryz.underlying43 hf0;have hcs:(Value.agg ca).cells=ca:=by simp[Value.cells]
 rw[hcs]at hl hf;rw[cellsMd]at hl
 match ca,hl with
 |⟨[c0,c1,c2,c3,c4,c5,c6,c7,c8,c9,c10]⟩,_=>
  have g0:=hf 0 {name:= "Deck",type:=26,offset:=0,embedded:=false,tag:= "",pkgPath:= "",byteOffset:=0} rfl;have g1:=hf 1 {name:= "Stock",type:=41,offset:=4,embedded:=false,tag:= "",pkgPath:= "",byteOffset:=80} rfl;have g2:=hf 2 {name:= "Owners",type:=27,offset:=10,embedded:=false,tag:= "",pkgPath:= "",byteOffset:=176} rfl;simp only[cells44,cellsSt,cells61,List.drop_zero,List.drop_succ_cons,List.take_succ_cons,List.take_zero]at g0 g1 g2;obtain⟨y0,e0⟩:=g0;obtain⟨y1,e1⟩:=g1;obtain⟨xs,hx⟩:=one_ints g2;obtain⟨D,hD,iD⟩:=cs_deck e0;obtain⟨S,hS,iS⟩:=cs_stock e1;obtain⟨A,c,rfl,_⟩:=hx.shape;unfold Dk.dcs at hD;unfold Stk.scs at hS;simp only[List.cons.injEq,and_true]at hD hS;obtain⟨rfl,rfl,rfl,rfl⟩:=hD;obtain⟨rfl,rfl,rfl,rfl,rfl,rfl⟩:=hS;exact⟨⟨D,S,A,c,xs⟩,rfl,⟨iD,iS,hx⟩⟩
theorem gTab:Tryz.prog.globalNamed "math/bits.deBruijn64tab" =some 1:=by kernel_rfl
theorem gTabType:(Tryz.prog.globals[1]?).map (·.type)=some 254:=by kernel_rfl
theorem cellsTab:Tryz.prog.cellsOf 254=64:=by kernel_rfl
theorem cellsU8:Tryz.prog.cellsOf 5=1:=by kernel_rfl
def tabList:List (String×DataW Unit):=[("math/bits.deBruijn64tab",Rows.laid_math_bits_deBruijn64tab)]
theorem table {W:World} (h:laidMetH Tryz.prog tabList W):Lib.TabIs Tryz.prog W "math/bits.deBruijn64tab" .u8 (Lib.deBruijn64tab.map Int.ofNat):=
  Lib.tabIs_of_head (rest:=[]) gTab gTabType Tryz.underlying254 Tryz.underlying5 cellsU8 cellsTab h
theorem tab {W:World} (h:laidMetH Tryz.prog tabList W):Nn.Tab W:=fun j hj=>by
  have hl:Lib.deBruijn64tab.length=64:=rfl;have e:=(table h).cell gTab j (by rw[List.length_map,hl];exact hj);rw[e,List.getD_eq_getElem?_getD,List.getElem?_map,List.getD_eq_getElem?_getD];rw[List.getElem?_eq_getElem (by rw[hl];exact hj)];rfl
noncomputable def laidWorld (os:Os):World:=
  {World.holding Tryz.prog os ⟨#[],#[],[]⟩with heap:=(World.holding Tryz.prog os ⟨#[],#[],[]⟩).heap.modify 1 fun
      |.cells _ t frozen=>.cells (Lib.deBruijn64tab.map fun n=>Value.int .u8 (Int.ofNat n)).toArray t frozen
      |o=>o}
end Go.Proofs.YtmecohdedghiaaaGreatDoor
