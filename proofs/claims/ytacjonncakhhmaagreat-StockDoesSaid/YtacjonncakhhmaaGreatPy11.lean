/- The reference's sets; arrays of two words. -/
import Derived.Test.YtacjonncakhhmaaGreatPy00
import Derived.Test.YtacjonncakhhmaaGreatPy07
import Derived.Laws.Rows
import Derived.Deep.QuietTactic
import Derived.BigQuiet
set_option maxRecDepth 100000
set_option maxHeartbeats 8000000
namespace Go.Proofs.YtacjonncakhhmaaGreat.Two
open Go.RowKit
def W2 (x:Int):Value:=.agg #[.int .u64 (x % 18446744073709551616),.int .u64 (x / 18446744073709551616 % 18446744073709551616)]
theorem ret_w2 {a b c d:Int} (h:a=c) (k:b=d):Ending.returned (.agg #[.int .u64 a,.int .u64 b])=.returned (.agg #[.int .u64 c,.int .u64 d]):=by rw[h,k]
theorem info43:(Tryz.prog.info? 120).map (·.size)=some 2:=by kernel_rfl
theorem widen_any (n:Int) (hn:fits n) (w:World):Calls Tryz.prog 73 #[.int .i64 n] w fun e w'=>e=.returned (W2 n)∧Below w.heap.size w w':=by
 have HN:=aH hn;clear hn;go_enter Tryz.func73,Tryz.ntmps73;go_wp2;refine bP (results_cell_row rfl _ _ w.heap.size 120 _ (0,0) _ rfl (heap_alloc_new _ _) Tryz.underlying120 rfl info43) rfl ?_;refine⟨ret_w2 ?_ ?_,(bR _ _).alloc (nR _) _⟩
 ·rw[IntKind.wrap_u64]
 ·have:=HN.out;unfold fits at this;rw[IntKind.wrap_u64];omega
theorem carry (x y:Int):((x % 18446744073709551616+y % 18446744073709551616) % 18446744073709551616=(x+y) % 18446744073709551616)∧
  ((x % 18446744073709551616+y % 18446744073709551616) % 18446744073709551616<x % 18446744073709551616→
   ((x / 18446744073709551616 % 18446744073709551616+y / 18446744073709551616 % 18446744073709551616) % 18446744073709551616+1) % 18446744073709551616=(x+y) / 18446744073709551616 % 18446744073709551616)∧
  (¬(x % 18446744073709551616+y % 18446744073709551616) % 18446744073709551616<x % 18446744073709551616→
   (x / 18446744073709551616 % 18446744073709551616+y / 18446744073709551616 % 18446744073709551616) % 18446744073709551616=(x+y) / 18446744073709551616 % 18446744073709551616):=by
 refine⟨?_,?_,?_⟩ <;> omega
theorem size_alloc (w:World) (o:Obj):(w.alloc o).heap.size=w.heap.size+1:=by simp
theorem two_cells (w:World) (b:Nat) (t u x y:Value) (h:w.heap[b]? =some (Obj.cells #[t,u] 120)):((w.setCell ⟨b,0,none⟩ x).setCell ⟨b,1,none⟩ y).heap[b]? =some (Obj.cells #[x,y] 120):=by
 rw[heap_setCell_same _ b 1 _ _ _ (heap_setCell_same w b 0 _ _ _ h)];rfl
theorem plus_any (x y:Int) (w:World):Calls Tryz.prog 72 #[W2 x,W2 y] w fun e w'=>e=.returned (W2 (x+y))∧Below w.heap.size w w':=by
 have hc:=carry x y;have HC:=aH hc;clear hc;unfold W2;generalize hx0:x % 18446744073709551616=x0 at *;generalize hx1:x / 18446744073709551616 % 18446744073709551616=x1 at *;generalize hy0:y % 18446744073709551616=y0 at *;generalize hy1:y / 18446744073709551616 % 18446744073709551616=y1 at *;have HX0:=aH hx0;have HY0:=aH hy0;clear hx0 hx1 hy0 hy1;go_enter Tryz.func72,Tryz.ntmps72;go_wp2;obtain⟨B,hB⟩:∃B,B=w.heap.size:=⟨_,rfl⟩;obtain⟨w3,hw⟩:∃w3,w3=(((w.alloc (Obj.cells #[.int .u64 x0,.int .u64 x1] 120)).alloc (Obj.cells #[.int .u64 y0,.int .u64 y1] 120)).alloc (Obj.cells #[.int .u64 0,.int .u64 0] 120)):=⟨_,rfl⟩;rw[←hw,←hB];have r0:w3.heap[B]? =some (Obj.cells #[.int .u64 x0,.int .u64 x1] 120):=by
  rw[hw,hB,Below.heap_alloc _ _ _ (by simp;omega),Below.heap_alloc _ _ _ (by simp),heap_alloc_new]
 have r1:w3.heap[B+1]? =some (Obj.cells #[.int .u64 y0,.int .u64 y1] 120):=by
  rw[hw,hB,Below.heap_alloc _ _ _ (by simp),←size_alloc w (Obj.cells #[.int .u64 x0,.int .u64 x1] 120)];exact heap_alloc_new (w.alloc _) _
 have r2:w3.heap[B+1+1]? =some (Obj.cells #[.int .u64 0,.int .u64 0] 120):=by
  rw[hw,hB,←size_alloc w (Obj.cells #[.int .u64 x0,.int .u64 x1] 120),←size_alloc _ (Obj.cells #[.int .u64 y0,.int .u64 y1] 120)];exact heap_alloc_new ((w.alloc _).alloc _) _
 have hbel:Below B w w3:=by
  rw[hw,hB];exact(((bR _ _).alloc (nR _) _).alloc (by simp) _).alloc (by simp;omega) _
 have c00:w3.cell? ⟨B,0,none⟩=some (.int .u64 x0):=cell_of_row w3 B 0 _ _ _ r0;have c01:w3.cell? ⟨B,1,none⟩=some (.int .u64 x1):=cell_of_row w3 B 1 _ _ _ r0;have c10:w3.cell? ⟨B+1,0,none⟩=some (.int .u64 y0):=cell_of_row w3 (B+1) 0 _ _ _ r1;have c11:w3.cell? ⟨B+1,1,none⟩=some (.int .u64 y1):=cell_of_row w3 (B+1) 1 _ _ _ r1;have c20:w3.cell? ⟨B+1+1,0,none⟩=some (.int .u64 0):=cell_of_row w3 (B+1+1) 0 _ _ _ r2;have c21:w3.cell? ⟨B+1+1,1,none⟩=some (.int .u64 0):=cell_of_row w3 (B+1+1) 1 _ _ _ r2;have f2:∀j,w3.frozen? ⟨B+1+1,j,none⟩=false:=fun j=>frozen_of_row w3 (B+1+1) j _ _ r2;have f20:=f2 0;have f21:=f2 1;have R2:=aH r2;have HBL:=aH hbel;have HB:=aH hB;clear hw r0 r1 r2 hbel f2 hB;go_quiet (fail);go_wp2
 ·refine bP (results_cell_row rfl _ _ (B+1+1) 120 _ (0,0) _ rfl (two_cells _ _ _ _ _ _ R2.out) Tryz.underlying120 rfl info43) rfl ?_;have e:=HC.out;rw[←IntKind.wrap_u64]at e;refine⟨ret_w2 e.1 ?_,?_⟩
  ·rw[←e.2.1 ‹_›,IntKind.wrap_u64,IntKind.wrap_u64]
  ·rw[←HB.out];exact Below.setCell (Below.setCell (below_drewN HBL.out _) (by simp;omega) _) (by simp;omega) _
 ·refine bP (results_cell_row rfl _ _ (B+1+1) 120 _ (0,0) _ rfl (two_cells _ _ _ _ _ _ R2.out) Tryz.underlying120 rfl info43) rfl ?_;have e:=HC.out;rw[←IntKind.wrap_u64]at e;refine⟨ret_w2 e.1 ?_,?_⟩
  ·rw[←e.2.2 ‹_›,IntKind.wrap_u64]
  ·rw[←HB.out];exact Below.setCell (Below.setCell (below_drewN HBL.out _) (by simp;omega) _) (by simp;omega) _
end Go.Proofs.YtacjonncakhhmaaGreat.Two
