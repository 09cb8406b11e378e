/- How a call that came in is opened. -/
import Derived.Test.YtacjonncakhhmaaGreatPy00
import Derived.Test.YtacjonncakhhmaaGreatPy48
import Derived.Test.YtacjonncakhhmaaGreatPy41
set_option maxRecDepth 100000
set_option maxHeartbeats 8000000
namespace Go.Proofs.YtacjonncakhhmaaGreat
open Go.ChangeShapes Go.WideShapes Go.ChangeAt Go.RowKit Go.Deep
theorem cellsOp:Tryz.prog.cellsOf 33=5:=by kernel_rfl
theorem op_reads:Tryz.prog.readableRec 33=true:=by kernel_rfl
theorem op_row:33<Tryz.prog.types.size:=of_decide_eq_true (by kernel_rfl)
theorem op_cs {H:Type} {enc:TypeId×Value→H} {w:World} {fuel:Nat} {cs:List Value} {x:DataW H×List MemPlace} (h:DataW.trod enc Tryz.prog w 0 (fun _=>true) true fuel 33 cs=some x):∃q:Opp,cs=opCells q∧q.Fit:=by
 obtain⟨hl,n,hf⟩:=fieldz Tryz.underlying33 h;rw[cellsOp]at hl
 match cs,hl with
 | [c0,c1,c2,c3,c4],_=>
  have g0:=hf 0 {name:= "Kind",type:=3,offset:=0,embedded:=false,tag:= "",pkgPath:= "",byteOffset:=0} rfl;have g1:=hf 1 {name:= "By",type:=3,offset:=1,embedded:=false,tag:= "",pkgPath:= "",byteOffset:=8} rfl;have g2:=hf 2 {name:= "A",type:=3,offset:=2,embedded:=false,tag:= "",pkgPath:= "",byteOffset:=16} rfl;have g3:=hf 3 {name:= "B",type:=3,offset:=3,embedded:=false,tag:= "",pkgPath:= "",byteOffset:=24} rfl;have g4:=hf 4 {name:= "N",type:=3,offset:=4,embedded:=false,tag:= "",pkgPath:= "",byteOffset:=32} rfl;simp only[celi3,List.drop_zero,List.drop_succ_cons,List.take_succ_cons,List.take_zero]at g0 g1 g2 g3 g4;obtain⟨k0,rfl,f0⟩:=one_int' g0;obtain⟨k1,rfl,f1⟩:=one_int' g1;obtain⟨k2,rfl,f2⟩:=one_int' g2;obtain⟨k3,rfl,f3⟩:=one_int' g3;obtain⟨k4,rfl,f4⟩:=one_int' g4;exact⟨⟨k0,k1,k2,k3,k4⟩,rfl,⟨f0,f1,f2,f3,f4⟩⟩
theorem open_op {H:Type} {enc:TypeId×Value→H} {W w:World} {r:Reach} {base:Nat} {v:Value} {d:DataW H} {ps:List MemPlace} (hv:Value.okWide Tryz.prog W r base 33 v) (h:DataW.Trod enc Tryz.prog w 0 (fun _=>true) true 33 v d ps):∃o:Opp,v=o.v∧o.Fit:=by
 obtain⟨ca,rfl,hca⟩:=okWide_struct Tryz.underlying33 hv;obtain⟨fuel,hf0⟩:=h;obtain⟨q,e,h1⟩:=op_cs hf0;have hcs:(Value.agg ca).cells=ca:=by simp[Value.cells]
 rw[hcs]at e;refine⟨q,?_,h1⟩;rw[show ca=#[.int .i64 q.k,.int .i64 q.w,.int .i64 q.a,.int .i64 q.b,.int .i64 q.n]by cases ca;simpa [opCells]using e]
end Go.Proofs.YtacjonncakhhmaaGreat
