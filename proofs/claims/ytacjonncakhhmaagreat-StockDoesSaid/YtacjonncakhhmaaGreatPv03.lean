/- Cells: moves. -/
import Derived.Test.YtacjonncakhhmaaGreatPv00
import Derived.Test.YtacjonncakhhmaaGreatPv02
set_option maxRecDepth 100000
set_option maxHeartbeats 8000000
namespace Go.Proofs.YtacjonncakhhmaaGreat
open Go.RowKit
theorem Lk.IsL.shape {P:Program} {α:Type} {K:Lk P α} {w:World} {B:Nat} {v:Value} {xs:List α} (h:K.IsL w B v xs):∃A c,v=.slice A xs.length c∧xs.length≤c:=by
 obtain⟨⟨A,cap,rfl,hc,hA⟩,_,_⟩:=h;exact⟨A,cap,rfl,hc⟩
def tpCells (q:Int×Int):List Value:=[.int .i64 q.1,.int .i64 q.2]
noncomputable def KT:Lk Tryz.prog (Int×Int) where
 S:=29
 E:=68
 n:=2
 zero:=.agg #[.int .i64 0,.int .i64 0]
 bytes:=16
 cells:=tpCells
 dflt:=(0,0)
 ok:=fun q=>fits q.1∧fits q.2
 und:=Tryz.underlying29
 info:=by kernel_rfl
 zs:=rfl
 pos:=by decide
 small:=by decide
 len _:=rfl
 one x u hu:=by
  simp only[tpCells,List.mem_cons,List.not_mem_nil,or_false]at hu;rcases hu with rfl|rfl<;>rfl
theorem tip_cells {w:World} {B:Nat} {A:Option Addr} {n c:Nat} {xs:List (Int×Int)} (h:KT.IsL w B (.slice A n c) xs) (h0:0<xs.length):∃b off,A=some ⟨b,off,none⟩∧b<B∧xs.length≤c∧
  ∀i,i<xs.length→w.cell? ⟨b,off+i*2,none⟩=some (.int .i64 (xs.getD i (0,0)).1)∧w.cell? ⟨b,off+i*2+1,none⟩=some (.int .i64 (xs.getD i (0,0)).2):=by
 obtain⟨b,off,e,hb,hc,hcell⟩:=h.elem h0;refine⟨b,off,e,hb,hc,fun i hi=>?_⟩;have q:=fun j u hu=>hcell i hi j u hu;have hn:KT.n=2:=rfl;simp only[hn,←Nat.add_assoc]at q;exact⟨q 0 _ rfl,q 1 _ rfl⟩
structure Ch where
 a:Int
 b:Int
 c:Int
def chCells (q:Ch):List Value:=[.int .i64 q.a,.int .i64 q.b,.int .i64 q.c]
def ch0:Ch:=⟨0,0,0⟩
noncomputable def KC:Lk Tryz.prog (Ch) where
 S:=48
 E:=128
 n:=3
 zero:=.agg #[.int .i64 0,.int .i64 0,.int .i64 0]
 bytes:=24
 cells:=chCells
 dflt:=ch0
 ok:=fun q=>fits q.a∧fits q.b∧fits q.c
 und:=Tryz.underlying48
 info:=by kernel_rfl
 zs:=rfl
 pos:=by decide
 small:=by decide
 len _:=rfl
 one x u hu:=by
  simp only[chCells,List.mem_cons,List.not_mem_nil,or_false]at hu;rcases hu with rfl|rfl|rfl<;>rfl
theorem ch_cells {w:World} {B:Nat} {A:Option Addr} {n c:Nat} {xs:List Ch} (h:KC.IsL w B (.slice A n c) xs) (h0:0<xs.length):∃b off,A=some ⟨b,off,none⟩∧b<B∧xs.length≤c∧
  ∀i,i<xs.length→w.cell? ⟨b,off+i*3,none⟩=some (.int .i64 (xs.getD i ch0).a)∧w.cell? ⟨b,off+i*3+1,none⟩=some (.int .i64 (xs.getD i ch0).b)∧w.cell? ⟨b,off+i*3+2,none⟩=some (.int .i64 (xs.getD i ch0).c):=by
 obtain⟨b,off,e,hb,hc,hcell⟩:=h.elem h0;refine⟨b,off,e,hb,hc,fun i hi=>?_⟩;have q:=fun j u hu=>hcell i hi j u hu;have hn:KC.n=3:=rfl;simp only[hn,←Nat.add_assoc]at q;exact⟨q 0 _ rfl,q 1 _ rfl,q 2 _ rfl⟩
theorem aN {a b c d:Nat} (h:a≠c∨b≠d):(⟨a,b,none⟩:Addr)≠⟨c,d,none⟩:=by
 intro e;injection e with e1 e2
 rcases h with h|h
 ·exact h e1
 ·exact h e2
def Cells2 (V:World) (D:Nat) (x0 x1:Value):Prop:=
 V.cell? ⟨D,0,none⟩=some x0∧V.cell? ⟨D,1,none⟩=some x1∧
 V.frozen? ⟨D,0,none⟩=false∧V.frozen? ⟨D,1,none⟩=false∧D<V.heap.size
abbrev setC2 (V:World) (D:Nat) (p0 p1:Value):World:=(V.setCell ⟨D,0,none⟩ p0).setCell ⟨D,1,none⟩ p1
theorem Cells2.new (V:World) (t:TypeId) (x0 x1:Value):Cells2 (V.alloc (.cells #[x0,x1] t)) V.heap.size x0 x1:=
 ⟨by rw[alloc_at];rfl,by rw[alloc_at];rfl,by simp,by simp,by simp⟩
theorem Cells2.below {V V':World} {D:Nat} {x0 x1:Value} (h:Cells2 V D x0 x1) (hb:Below V.heap.size V V'):Cells2 V' D x0 x1:=by
 obtain⟨h0,h1,z0,z1,hs⟩:=h;refine⟨kK hb h0,kK hb h1,?_,?_,nL hs hb.size⟩
 ·rw[hb.frozen (p:=⟨D,0,none⟩) hs];exact z0
 ·rw[hb.frozen (p:=⟨D,1,none⟩) hs];exact z1
theorem Cells2.set {V:World} {D:Nat} {x0 x1:Value} (h:Cells2 V D x0 x1) (p0 p1:Value):Cells2 (setC2 V D p0 p1) D p0 p1:=by
 obtain⟨h0,h1,z0,z1,hs⟩:=h;refine⟨sO (st_same (h0)) (aN (.inr (by decide))),st_same (sO (h1) (aN (.inr (by decide)))),sF (sF (z0)),sF (sF (z1)),?_⟩;simpa using hs
theorem Cells2.apart {V:World} {D G:Nat} {x0 x1:Value} (h:Cells2 V G x0 x1) (hne:D≠G) (p0 p1:Value):Cells2 (setC2 V D p0 p1) G x0 x1:=by
 obtain⟨h0,h1,z0,z1,hs⟩:=h;refine⟨sO (sO (h0) (aN (.inl hne))) (aN (.inl hne)),sO (sO (h1) (aN (.inl hne))) (aN (.inl hne)),sF (sF (z0)),sF (sF (z1)),?_⟩;simpa using hs
def Cells3 (V:World) (D:Nat) (x0 x1 x2:Value):Prop:=
 V.cell? ⟨D,0,none⟩=some x0∧V.cell? ⟨D,1,none⟩=some x1∧V.cell? ⟨D,2,none⟩=some x2∧
 V.frozen? ⟨D,0,none⟩=false∧V.frozen? ⟨D,1,none⟩=false∧V.frozen? ⟨D,2,none⟩=false∧D<V.heap.size
abbrev setC3 (V:World) (D:Nat) (p0 p1 p2:Value):World:=((V.setCell ⟨D,0,none⟩ p0).setCell ⟨D,1,none⟩ p1).setCell ⟨D,2,none⟩ p2
theorem Cells3.new (V:World) (t:TypeId) (x0 x1 x2:Value):Cells3 (V.alloc (.cells #[x0,x1,x2] t)) V.heap.size x0 x1 x2:=
 ⟨by rw[alloc_at];rfl,by rw[alloc_at];rfl,by rw[alloc_at];rfl,by simp,by simp,by simp,by simp⟩
theorem Cells3.below {V V':World} {D:Nat} {x0 x1 x2:Value} (h:Cells3 V D x0 x1 x2) (hb:Below V.heap.size V V'):Cells3 V' D x0 x1 x2:=by
 obtain⟨h0,h1,h2,z0,z1,z2,hs⟩:=h;refine⟨kK hb h0,kK hb h1,kK hb h2,?_,?_,?_,nL hs hb.size⟩
 ·rw[hb.frozen (p:=⟨D,0,none⟩) hs];exact z0
 ·rw[hb.frozen (p:=⟨D,1,none⟩) hs];exact z1
 ·rw[hb.frozen (p:=⟨D,2,none⟩) hs];exact z2
theorem Cells3.set {V:World} {D:Nat} {x0 x1 x2:Value} (h:Cells3 V D x0 x1 x2) (p0 p1 p2:Value):Cells3 (setC3 V D p0 p1 p2) D p0 p1 p2:=by
 obtain⟨h0,h1,h2,z0,z1,z2,hs⟩:=h;refine⟨sO (sO (st_same (h0)) (aN (.inr (by decide)))) (aN (.inr (by decide))),sO (st_same (sO (h1) (aN (.inr (by decide))))) (aN (.inr (by decide))),st_same (sO (sO (h2) (aN (.inr (by decide)))) (aN (.inr (by decide)))),sF (sF (sF (z0))),sF (sF (sF (z1))),sF (sF (sF (z2))),?_⟩;simpa using hs
theorem Cells3.apart {V:World} {D G:Nat} {x0 x1 x2:Value} (h:Cells3 V G x0 x1 x2) (hne:D≠G) (p0 p1 p2:Value):Cells3 (setC3 V D p0 p1 p2) G x0 x1 x2:=by
 obtain⟨h0,h1,h2,z0,z1,z2,hs⟩:=h;refine⟨sO (sO (sO (h0) (aN (.inl hne))) (aN (.inl hne))) (aN (.inl hne)),sO (sO (sO (h1) (aN (.inl hne))) (aN (.inl hne))) (aN (.inl hne)),sO (sO (sO (h2) (aN (.inl hne))) (aN (.inl hne))) (aN (.inl hne)),sF (sF (sF (z0))),sF (sF (sF (z1))),sF (sF (sF (z2))),?_⟩;simpa using hs
theorem below_set3 {V w:World} {B D:Nat} (h:Below B w V) (hB:B≤D) (p0 p1 p2:Value):Below B w (setC3 V D p0 p1 p2):=(((h.setCell hB _).setCell hB _).setCell hB _)
def Cells6 (V:World) (D:Nat) (x0 x1 x2 x3 x4 x5:Value):Prop:=
 V.cell? ⟨D,0,none⟩=some x0∧V.cell? ⟨D,1,none⟩=some x1∧V.cell? ⟨D,2,none⟩=some x2∧V.cell? ⟨D,3,none⟩=some x3∧V.cell? ⟨D,4,none⟩=some x4∧V.cell? ⟨D,5,none⟩=some x5∧
 V.frozen? ⟨D,0,none⟩=false∧V.frozen? ⟨D,1,none⟩=false∧V.frozen? ⟨D,2,none⟩=false∧V.frozen? ⟨D,3,none⟩=false∧V.frozen? ⟨D,4,none⟩=false∧V.frozen? ⟨D,5,none⟩=false∧D<V.heap.size
theorem Cells6.new (V:World) (t:TypeId) (x0 x1 x2 x3 x4 x5:Value):Cells6 (V.alloc (.cells #[x0,x1,x2,x3,x4,x5] t)) V.heap.size x0 x1 x2 x3 x4 x5:=
 ⟨by rw[alloc_at];rfl,by rw[alloc_at];rfl,by rw[alloc_at];rfl,by rw[alloc_at];rfl,by rw[alloc_at];rfl,by rw[alloc_at];rfl,by simp,by simp,by simp,by simp,by simp,by simp,by simp⟩
theorem Cells6.below {V V':World} {D:Nat} {x0 x1 x2 x3 x4 x5:Value} (h:Cells6 V D x0 x1 x2 x3 x4 x5) (hb:Below V.heap.size V V'):Cells6 V' D x0 x1 x2 x3 x4 x5:=by
 obtain⟨h0,h1,h2,h3,h4,h5,z0,z1,z2,z3,z4,z5,hs⟩:=h;refine⟨kK hb h0,kK hb h1,kK hb h2,kK hb h3,kK hb h4,kK hb h5,?_,?_,?_,?_,?_,?_,nL hs hb.size⟩
 ·rw[hb.frozen (p:=⟨D,0,none⟩) hs];exact z0
 ·rw[hb.frozen (p:=⟨D,1,none⟩) hs];exact z1
 ·rw[hb.frozen (p:=⟨D,2,none⟩) hs];exact z2
 ·rw[hb.frozen (p:=⟨D,3,none⟩) hs];exact z3
 ·rw[hb.frozen (p:=⟨D,4,none⟩) hs];exact z4
 ·rw[hb.frozen (p:=⟨D,5,none⟩) hs];exact z5
theorem Cells6.set {V:World} {D:Nat} {x0 x1 x2 x3 x4 x5:Value} (h:Cells6 V D x0 x1 x2 x3 x4 x5) (p0 p1 p2 p3 p4 p5:Value):Cells6 ((((((V.setCell ⟨D,0,none⟩ p0).setCell ⟨D,1,none⟩ p1).setCell ⟨D,2,none⟩ p2).setCell ⟨D,3,none⟩ p3).setCell ⟨D,4,none⟩ p4).setCell ⟨D,5,none⟩ p5) D p0 p1 p2 p3 p4 p5:=by
 obtain⟨h0,h1,h2,h3,h4,h5,z0,z1,z2,z3,z4,z5,hs⟩:=h;refine⟨sO (sO (sO (sO (sO (st_same (h0)) (aN (.inr (by decide)))) (aN (.inr (by decide)))) (aN (.inr (by decide)))) (aN (.inr (by decide)))) (aN (.inr (by decide))),sO (sO (sO (sO (st_same (sO (h1) (aN (.inr (by decide))))) (aN (.inr (by decide)))) (aN (.inr (by decide)))) (aN (.inr (by decide)))) (aN (.inr (by decide))),sO (sO (sO (st_same (sO (sO (h2) (aN (.inr (by decide)))) (aN (.inr (by decide))))) (aN (.inr (by decide)))) (aN (.inr (by decide)))) (aN (.inr (by decide))),sO (sO (st_same (sO (sO (sO (h3) (aN (.inr (by decide)))) (aN (.inr (by decide)))) (aN (.inr (by decide))))) (aN (.inr (by decide)))) (aN (.inr (by decide))),sO (st_same (sO (sO (sO (sO (h4) (aN (.inr (by decide)))) (aN (.inr (by decide)))) (aN (.inr (by decide)))) (aN (.inr (by decide))))) (aN (.inr (by decide))),st_same (sO (sO (sO (sO (sO (h5) (aN (.inr (by decide)))) (aN (.inr (by decide)))) (aN (.inr (by decide)))) (aN (.inr (by decide)))) (aN (.inr (by decide)))),sF (sF (sF (sF (sF (sF (z0)))))),sF (sF (sF (sF (sF (sF (z1)))))),sF (sF (sF (sF (sF (sF (z2)))))),sF (sF (sF (sF (sF (sF (z3)))))),sF (sF (sF (sF (sF (sF (z4)))))),sF (sF (sF (sF (sF (sF (z5)))))),?_⟩;simpa using hs
theorem Cells6.s {V:World} {D:Nat} {x0 x1 x2 x3 x4 x5:Value} (h:Cells6 V D x0 x1 x2 x3 x4 x5) (p:Value):Cells6 (V.setCell ⟨D,0,none⟩ p) D p x1 x2 x3 x4 x5∧Cells6 (V.setCell ⟨D,1,none⟩ p) D x0 p x2 x3 x4 x5∧Cells6 (V.setCell ⟨D,2,none⟩ p) D x0 x1 p x3 x4 x5∧
  Cells6 (V.setCell ⟨D,3,none⟩ p) D x0 x1 x2 p x4 x5∧Cells6 (V.setCell ⟨D,4,none⟩ p) D x0 x1 x2 x3 p x5∧Cells6 (V.setCell ⟨D,5,none⟩ p) D x0 x1 x2 x3 x4 p:=by
 obtain⟨h0,h1,h2,h3,h4,h5,z0,z1,z2,z3,z4,z5,hs⟩:=h;have ne:∀ {i j:Nat},i≠j→(⟨D,i,none⟩:Addr)≠⟨D,j,none⟩:=fun h=>aN (.inr h);exact⟨⟨st_same h0,sO h1 (ne (by decide)),sO h2 (ne (by decide)),sO h3 (ne (by decide)),sO h4 (ne (by decide)),sO h5 (ne (by decide)),sF z0,sF z1,sF z2,sF z3,sF z4,sF z5,by simpa using hs⟩,
  ⟨sO h0 (ne (by decide)),st_same h1,sO h2 (ne (by decide)),sO h3 (ne (by decide)),sO h4 (ne (by decide)),sO h5 (ne (by decide)),sF z0,sF z1,sF z2,sF z3,sF z4,sF z5,by simpa using hs⟩,
  ⟨sO h0 (ne (by decide)),sO h1 (ne (by decide)),st_same h2,sO h3 (ne (by decide)),sO h4 (ne (by decide)),sO h5 (ne (by decide)),sF z0,sF z1,sF z2,sF z3,sF z4,sF z5,by simpa using hs⟩,
  ⟨sO h0 (ne (by decide)),sO h1 (ne (by decide)),sO h2 (ne (by decide)),st_same h3,sO h4 (ne (by decide)),sO h5 (ne (by decide)),sF z0,sF z1,sF z2,sF z3,sF z4,sF z5,by simpa using hs⟩,
  ⟨sO h0 (ne (by decide)),sO h1 (ne (by decide)),sO h2 (ne (by decide)),sO h3 (ne (by decide)),st_same h4,sO h5 (ne (by decide)),sF z0,sF z1,sF z2,sF z3,sF z4,sF z5,by simpa using hs⟩,
  ⟨sO h0 (ne (by decide)),sO h1 (ne (by decide)),sO h2 (ne (by decide)),sO h3 (ne (by decide)),sO h4 (ne (by decide)),st_same h5,sF z0,sF z1,sF z2,sF z3,sF z4,sF z5,by simpa using hs⟩⟩
theorem Cells3.apart6 {V:World} {D G:Nat} {x0 x1 x2:Value} (h:Cells3 V G x0 x1 x2) (hne:D≠G) (p0 p1 p2 p3 p4 p5:Value):Cells3 ((((((V.setCell ⟨D,0,none⟩ p0).setCell ⟨D,1,none⟩ p1).setCell ⟨D,2,none⟩ p2).setCell ⟨D,3,none⟩ p3).setCell ⟨D,4,none⟩ p4).setCell ⟨D,5,none⟩ p5) G x0 x1 x2:=by
 have o:∀ {V:World} (o:Nat) (p:Value),Cells3 V G x0 x1 x2→Cells3 (V.setCell ⟨D,o,none⟩ p) G x0 x1 x2:=fun o p ⟨h0,h1,h2,z0,z1,z2,hs⟩=>⟨sO h0 (aN (.inl hne)),sO h1 (aN (.inl hne)),sO h2 (aN (.inl hne)),sF z0,sF z1,sF z2,by simpa using hs⟩;exact o 5 _ (o 4 _ (o 3 _ (o 2 _ (o 1 _ (o 0 _ h)))))
theorem Cells3.apart35 {V:World} {D G:Nat} {x0 x1 x2:Value} (h:Cells3 V G x0 x1 x2) (hne:D≠G) (p3 p4 p5:Value):Cells3 (((V.setCell ⟨D,3,none⟩ p3).setCell ⟨D,4,none⟩ p4).setCell ⟨D,5,none⟩ p5) G x0 x1 x2:=by
 have o:∀ {V:World} (o:Nat) (p:Value),Cells3 V G x0 x1 x2→Cells3 (V.setCell ⟨D,o,none⟩ p) G x0 x1 x2:=fun o p ⟨h0,h1,h2,z0,z1,z2,hs⟩=>⟨sO h0 (aN (.inl hne)),sO h1 (aN (.inl hne)),sO h2 (aN (.inl hne)),sF z0,sF z1,sF z2,by simpa using hs⟩;exact o 5 _ (o 4 _ (o 3 _ h))
theorem Cells6.set3 {V:World} {D:Nat} {x0 x1 x2 x3 x4 x5:Value} (h:Cells6 V D x0 x1 x2 x3 x4 x5) (p0 p1 p2:Value):Cells6 (((V.setCell ⟨D,0,none⟩ p0).setCell ⟨D,1,none⟩ p1).setCell ⟨D,2,none⟩ p2) D p0 p1 p2 x3 x4 x5:=(((h.s p0).1.s p1).2.1.s p2).2.2.1
theorem Cells6.set35 {V:World} {D:Nat} {x0 x1 x2 x3 x4 x5:Value} (h:Cells6 V D x0 x1 x2 x3 x4 x5) (p3 p4 p5:Value):Cells6 (((V.setCell ⟨D,3,none⟩ p3).setCell ⟨D,4,none⟩ p4).setCell ⟨D,5,none⟩ p5) D x0 x1 x2 p3 p4 p5:=(((h.s p3).2.2.2.1.s p4).2.2.2.2.1.s p5).2.2.2.2.2
end Go.Proofs.YtacjonncakhhmaaGreat
namespace Go.Proofs.YtacjonncakhhmaaGreat.Cel
open Go.RowKit
def wpIn (P:Program) (c:Code) (Q:Exit→Act→World→Prop) (a:Act) (w:World):Prop:=
 ∀(b:Frame) (k:List Item) (cs:List Frame),∃e a' w',Q e a' w'∧Arrives P (lone (b.at a (.code c:: .inLoop c::k)) cs w) b k cs e a' w'
theorem wp_loop_in {P:Program} {c:Code} {Q:Exit→Act→World→Prop} {a:Act} {w:World} (h:wpIn P c Q a w):(Code.loop c).wp P Q a w:=by
 intro b k cs;obtain⟨e,a',w',hq,harr⟩:=h b k cs;exact⟨e,a',w',hq,.of_steps (.one step_loop) harr⟩
theorem wp_round {P:Program} {c:Code} {Q:Exit→Act→World→Prop} {a:Act} {w:World} (round:c.wp P (Exit.then (wpIn P c Q) Q) a w):wpIn P c Q a w:=by
 intro b k cs;obtain⟨e,a₁,w₁,hq,harr⟩:=round b (.inLoop c::k) cs
 cases e with
 |normal=>
  obtain⟨e₂,a₂,w₂,hq₂,harr₂⟩:=hq b k cs;exact⟨e₂,a₂,w₂,hq₂,.of_steps (Steps.trans harr (.one step_inLoop)) harr₂⟩
 |exit id=>exact⟨_,a₁,w₁,hq,.pass (x:=.inLoop c) rfl (fun _ _=>.inl (by simp)) harr⟩
 |goto l=>exact⟨_,a₁,w₁,hq,.pass (x:=.inLoop c) rfl (fun _ _=>.inl (by simp)) harr⟩
 |ret=>exact⟨_,a₁,w₁,hq,.pass (x:=.inLoop c) rfl (fun _ _=>.inl (by simp)) harr⟩
 |panic ch=>exact⟨_,a₁,w₁,hq,.pass (x:=.inLoop c) rfl (fun _ _=>.inl (by simp)) harr⟩
 |outgrown=>exact⟨_,a₁,w₁,hq,.pass (x:=.inLoop c) rfl (fun _ _=>.inl (by simp)) harr⟩
theorem run_at0 (a b c f g h:Int) (w:World):(Instr.index 117 (.agg #[.int .i64 a,.int .i64 b,.int .i64 c,.int .i64 f,.int .i64 g,.int .i64 h]) (.int .i64 0)).run Tryz.prog w=.ok (.agg #[.int .i64 a,.int .i64 b,.int .i64 c]) w:=by kernel_rfl
theorem run_at1 (a b c f g h:Int) (w:World):(Instr.index 117 (.agg #[.int .i64 a,.int .i64 b,.int .i64 c,.int .i64 f,.int .i64 g,.int .i64 h]) (.int .i64 1)).run Tryz.prog w=.ok (.agg #[.int .i64 f,.int .i64 g,.int .i64 h]) w:=by kernel_rfl
theorem aN {b b' o o':Nat} (h:b≠b'∨o≠o'):(⟨b,o,none⟩:Addr)≠⟨b',o',none⟩:=by
 intro e
 cases e
 rcases h with h|h<;>exact h rfl
def mvE (x y:Ce) (n:Int):Int:=if chE x (-(max n 0))=0 then chE y (max n 0)else chE x (-(max n 0))
def mvX (x y:Ce) (n:Int):Ce:=if mvE x y n=0 then chV x (-(max n 0))else nought
def mvY (x y:Ce) (n:Int):Ce:=if mvE x y n=0 then chV y (max n 0)else nought
abbrev ceEE (x y:Ce) (e:Int):Value:=.tuple #[.agg #[.int .i64 x.a,.int .i64 x.b,.int .i64 x.c],.agg #[.int .i64 y.a,.int .i64 y.b,.int .i64 y.c],.int .i64 e]
theorem move_any (x y:Ce) (n:Int) (hx:x.Fit) (hy:y.Fit) (hn:fits n) (w:World):Calls Tryz.prog 37 #[x.v,y.v,.int .i64 n] w fun e w'=>e=.returned (ceEE (mvX x y n) (mvY x y n) (mvE x y n))∧Below w.heap.size w w':=by
 obtain⟨a,b,c⟩:=x;obtain⟨f,g,h⟩:=y;have HK:=aH (fun w=>draw_any ⟨a,b,c⟩ n hx hn w);have HP:=aH (fun w=>pour_any ⟨f,g,h⟩ n hy hn w);unfold mvX mvY mvE;generalize chE ⟨a,b,c⟩ (-(max n 0))=z at *;generalize chE ⟨f,g,h⟩ (max n 0)=y at *;generalize chV ⟨a,b,c⟩ (-(max n 0))=r at *;generalize chV ⟨f,g,h⟩ (max n 0)=t at *;obtain⟨p,q,r⟩:=r;obtain⟨s,t,u⟩:=t;clear hx hy hn;have hi0:=fun w=>run_at0 a b c f g h w;have hi1:=fun w=>run_at1 a b c f g h w;have hc:z≠0∨z=0∧y≠0∨z=0∧y=0:=by omega
 rcases hc with hh|⟨rfl,hh⟩|⟨rfl,rfl⟩
 ·have q1:(z != 0)=true:=bne_iff_ne.2 hh;simp only[if_neg hh];clear hh;go_enter Tryz.func37,Tryz.ntmps37;go_wp2_with fail
  go_step3
  go_wp2_with fail
  go_step3
  go_wp2_with fail;refine wp_loop_in (wp_round ?_);go_wp2_with fail;refine(HK.out _).mono ?_;rintro e w1 ⟨rfl,hb1⟩;have A2:=aH (show Cells3 w1 (w.heap.size+1+1) (.int .i64 0) (.int .i64 0) (.int .i64 0)from Cells3.below (by refine⟨?_,?_,?_,?_,?_,?_,?_⟩<;>simp[go_sem, *]) hb1);have A3:=aH (show Cells3 w1 (w.heap.size+1+1+1) (.int .i64 0) (.int .i64 0) (.int .i64 0)from Cells3.below (by refine⟨?_,?_,?_,?_,?_,?_,?_⟩<;>simp[go_sem, *]) hb1);have A4:=aH (show Cells6 w1 (w.heap.size+1+1+1+1) (.int .i64 0) (.int .i64 0) (.int .i64 0) (.int .i64 0) (.int .i64 0) (.int .i64 0)from Cells6.below (by refine⟨?_,?_,?_,?_,?_,?_,?_,?_,?_,?_,?_,?_,?_⟩<;>simp[go_sem, *]) hb1);have HB:=aH (bC (bL (bL (bL (bL (bL (bL (bR _ _) _) _) _) _) _) _) hb1);clear hb1;obtain⟨k20,k21,k22,z20,z21,z22,_⟩:=A2.out;obtain⟨k30,k31,k32,z30,z31,z32,_⟩:=A3.out;obtain⟨k40,k41,k42,k43,k44,k45,z40,z41,z42,z43,z44,z45,_⟩:=A4.out;go_wp2_with fail;clear k20 k21 k22 z20 z21 z22 k30 k31 k32 z30 z31 z32 k40 k41 k42 k43 k44 k45 z40 z41 z42 z43 z44 z45;obtain⟨W,hW⟩:∃W,W=(((((((((w1.setCell ⟨w.heap.size+1+1+1+1,0,none⟩ (.int .i64 p)).setCell ⟨w.heap.size+1+1+1+1,1,none⟩ (.int .i64 q)).setCell ⟨w.heap.size+1+1+1+1,2,none⟩ (.int .i64 r)).setCell ⟨w.heap.size+1+1+1+1,0,none⟩ (.int .i64 0)).setCell ⟨w.heap.size+1+1+1+1,1,none⟩ (.int .i64 0)).setCell ⟨w.heap.size+1+1+1+1,2,none⟩ (.int .i64 0)).setCell ⟨w.heap.size+1+1+1+1,3,none⟩ (.int .i64 0)).setCell ⟨w.heap.size+1+1+1+1,4,none⟩ (.int .i64 0)).setCell ⟨w.heap.size+1+1+1+1,5,none⟩ (.int .i64 0)):=⟨_,rfl⟩;rw[←hW]
  replace HB:=aH (show Below w.heap.size w W by rw[hW];exact bS (bS (bS (bS (bS (bS (bS (bS (bS (HB.out) (by show w.heap.size≤w.heap.size+1+1+1+1;omega)) (by show w.heap.size≤w.heap.size+1+1+1+1;omega)) (by show w.heap.size≤w.heap.size+1+1+1+1;omega)) (by show w.heap.size≤w.heap.size+1+1+1+1;omega)) (by show w.heap.size≤w.heap.size+1+1+1+1;omega)) (by show w.heap.size≤w.heap.size+1+1+1+1;omega)) (by show w.heap.size≤w.heap.size+1+1+1+1;omega)) (by show w.heap.size≤w.heap.size+1+1+1+1;omega)) (by show w.heap.size≤w.heap.size+1+1+1+1;omega));replace A2:=aH (show Cells3 W _ _ _ _ by rw[hW];exact((A2.out.apart (by omega) (.int .i64 p) (.int .i64 q) (.int .i64 r)).apart6 (by omega) (.int .i64 0) (.int .i64 0) (.int .i64 0) (.int .i64 0) (.int .i64 0) (.int .i64 0)));replace A3:=aH (show Cells3 W _ _ _ _ by rw[hW];exact((A3.out.apart (by omega) (.int .i64 p) (.int .i64 q) (.int .i64 r)).apart6 (by omega) (.int .i64 0) (.int .i64 0) (.int .i64 0) (.int .i64 0) (.int .i64 0) (.int .i64 0)));replace A4:=aH (show Cells6 W _ _ _ _ _ _ _ by rw[hW];exact((A4.out.set3 (.int .i64 p) (.int .i64 q) (.int .i64 r)).set (.int .i64 0) (.int .i64 0) (.int .i64 0) (.int .i64 0) (.int .i64 0) (.int .i64 0)));clear hW;obtain⟨k20,k21,k22,z20,z21,z22,_⟩:=A2.out;obtain⟨k30,k31,k32,z30,z31,z32,_⟩:=A3.out;obtain⟨k40,k41,k42,k43,k44,k45,z40,z41,z42,z43,z44,z45,_⟩:=A4.out
  go_region
  go_wp2;rw[Exit.noGoto_ret];refine bP (v:=.tuple #[.agg #[.int .i64 0,.int .i64 0,.int .i64 0],.agg #[.int .i64 0,.int .i64 0,.int .i64 0],.int .i64 z]) (by simp[results,Tryz.results37,go_sem, *]) rfl ⟨rfl,?_⟩;exact(bS (bS (bS (bS (bS (bS (HB.out) (by show w.heap.size≤w.heap.size+1+1;omega)) (by show w.heap.size≤w.heap.size+1+1;omega)) (by show w.heap.size≤w.heap.size+1+1;omega)) (by show w.heap.size≤w.heap.size+1+1+1;omega)) (by show w.heap.size≤w.heap.size+1+1+1;omega)) (by show w.heap.size≤w.heap.size+1+1+1;omega)).drew
 all_goals simp only[↓reduceIte]
 all_goals try (have q1:(y != 0)=true:=bne_iff_ne.2 hh;simp only[if_neg hh];clear hh)
 all_goals
  go_enter Tryz.func37,Tryz.ntmps37;go_wp2_with fail
  go_step3
  go_wp2_with fail
  go_step3
  go_wp2_with fail;refine wp_loop_in (wp_round ?_);go_wp2_with fail;refine(HK.out _).mono ?_;rintro e w1 ⟨rfl,hb1⟩;have A2:=aH (show Cells3 w1 (w.heap.size+1+1) (.int .i64 0) (.int .i64 0) (.int .i64 0)from Cells3.below (by refine⟨?_,?_,?_,?_,?_,?_,?_⟩<;>simp[go_sem, *]) hb1);have A3:=aH (show Cells3 w1 (w.heap.size+1+1+1) (.int .i64 0) (.int .i64 0) (.int .i64 0)from Cells3.below (by refine⟨?_,?_,?_,?_,?_,?_,?_⟩<;>simp[go_sem, *]) hb1);have A4:=aH (show Cells6 w1 (w.heap.size+1+1+1+1) (.int .i64 0) (.int .i64 0) (.int .i64 0) (.int .i64 0) (.int .i64 0) (.int .i64 0)from Cells6.below (by refine⟨?_,?_,?_,?_,?_,?_,?_,?_,?_,?_,?_,?_,?_⟩<;>simp[go_sem, *]) hb1);have HB:=aH (bC (bL (bL (bL (bL (bL (bL (bR _ _) _) _) _) _) _) _) hb1);clear hb1;obtain⟨k20,k21,k22,z20,z21,z22,_⟩:=A2.out;obtain⟨k30,k31,k32,z30,z31,z32,_⟩:=A3.out;obtain⟨k40,k41,k42,k43,k44,k45,z40,z41,z42,z43,z44,z45,_⟩:=A4.out;go_wp2_with fail;clear k20 k21 k22 z20 z21 z22 k30 k31 k32 z30 z31 z32 k40 k41 k42 k43 k44 k45 z40 z41 z42 z43 z44 z45;obtain⟨W,hW⟩:∃W,W=(((w1.setCell ⟨w.heap.size+1+1+1+1,0,none⟩ (.int .i64 p)).setCell ⟨w.heap.size+1+1+1+1,1,none⟩ (.int .i64 q)).setCell ⟨w.heap.size+1+1+1+1,2,none⟩ (.int .i64 r)):=⟨_,rfl⟩;rw[←hW];replace HB:=aH (show Below w.heap.size w W by rw[hW];exact bS (bS (bS (HB.out) (by show w.heap.size≤w.heap.size+1+1+1+1;omega)) (by show w.heap.size≤w.heap.size+1+1+1+1;omega)) (by show w.heap.size≤w.heap.size+1+1+1+1;omega));replace A2:=aH (show Cells3 W _ _ _ _ by rw[hW];exact(A2.out.apart (by omega) (.int .i64 p) (.int .i64 q) (.int .i64 r)));replace A3:=aH (show Cells3 W _ _ _ _ by rw[hW];exact(A3.out.apart (by omega) (.int .i64 p) (.int .i64 q) (.int .i64 r)));replace A4:=aH (show Cells6 W _ _ _ _ _ _ _ by rw[hW];exact(A4.out.set3 (.int .i64 p) (.int .i64 q) (.int .i64 r)))
  clear hW;refine wp_round ?_;obtain⟨k20,k21,k22,z20,z21,z22,_⟩:=A2.out;obtain⟨k30,k31,k32,z30,z31,z32,_⟩:=A3.out;obtain⟨k40,k41,k42,k43,k44,k45,z40,z41,z42,z43,z44,z45,_⟩:=A4.out;go_wp2_with fail;refine(HP.out _).mono ?_;rintro e w2 ⟨rfl,hb2⟩;clear k20 k21 k22 z20 z21 z22 k30 k31 k32 z30 z31 z32 k40 k41 k42 k43 k44 k45 z40 z41 z42 z43 z44 z45;have hb3:=bC (bL (bR _ _) _) hb2;clear hb2;replace A2:=aH (A2.out.below hb3);replace A3:=aH (A3.out.below hb3);replace A4:=aH (A4.out.below hb3);replace HB:=aH (bC HB.out hb3);clear hb3;obtain⟨k20,k21,k22,z20,z21,z22,_⟩:=A2.out;obtain⟨k30,k31,k32,z30,z31,z32,_⟩:=A3.out;obtain⟨k40,k41,k42,k43,k44,k45,z40,z41,z42,z43,z44,z45,_⟩:=A4.out;go_wp2_with fail
 ·clear k20 k21 k22 z20 z21 z22 k30 k31 k32 z30 z31 z32 k40 k41 k42 k43 k44 k45 z40 z41 z42 z43 z44 z45;obtain⟨X,hW⟩:∃W,W=(((((((((w2.setCell ⟨w.heap.size+1+1+1+1,3,none⟩ (.int .i64 s)).setCell ⟨w.heap.size+1+1+1+1,4,none⟩ (.int .i64 t)).setCell ⟨w.heap.size+1+1+1+1,5,none⟩ (.int .i64 u)).setCell ⟨w.heap.size+1+1+1+1,0,none⟩ (.int .i64 0)).setCell ⟨w.heap.size+1+1+1+1,1,none⟩ (.int .i64 0)).setCell ⟨w.heap.size+1+1+1+1,2,none⟩ (.int .i64 0)).setCell ⟨w.heap.size+1+1+1+1,3,none⟩ (.int .i64 0)).setCell ⟨w.heap.size+1+1+1+1,4,none⟩ (.int .i64 0)).setCell ⟨w.heap.size+1+1+1+1,5,none⟩ (.int .i64 0)):=⟨_,rfl⟩;rw[←hW];replace HB:=aH (show Below w.heap.size w X by rw[hW];exact bS (bS (bS (bS (bS (bS (bS (bS (bS (HB.out) (by show w.heap.size≤w.heap.size+1+1+1+1;omega)) (by show w.heap.size≤w.heap.size+1+1+1+1;omega)) (by show w.heap.size≤w.heap.size+1+1+1+1;omega)) (by show w.heap.size≤w.heap.size+1+1+1+1;omega)) (by show w.heap.size≤w.heap.size+1+1+1+1;omega)) (by show w.heap.size≤w.heap.size+1+1+1+1;omega)) (by show w.heap.size≤w.heap.size+1+1+1+1;omega)) (by show w.heap.size≤w.heap.size+1+1+1+1;omega)) (by show w.heap.size≤w.heap.size+1+1+1+1;omega));replace A2:=aH (show Cells3 X _ _ _ _ by rw[hW];exact((A2.out.apart35 (by omega) (.int .i64 s) (.int .i64 t) (.int .i64 u)).apart6 (by omega) (.int .i64 0) (.int .i64 0) (.int .i64 0) (.int .i64 0) (.int .i64 0) (.int .i64 0)));replace A3:=aH (show Cells3 X _ _ _ _ by rw[hW];exact((A3.out.apart35 (by omega) (.int .i64 s) (.int .i64 t) (.int .i64 u)).apart6 (by omega) (.int .i64 0) (.int .i64 0) (.int .i64 0) (.int .i64 0) (.int .i64 0) (.int .i64 0)))
  replace A4:=aH (show Cells6 X _ _ _ _ _ _ _ by rw[hW];exact((A4.out.set35 (.int .i64 s) (.int .i64 t) (.int .i64 u)).set (.int .i64 0) (.int .i64 0) (.int .i64 0) (.int .i64 0) (.int .i64 0) (.int .i64 0)));clear hW;obtain⟨k20,k21,k22,z20,z21,z22,_⟩:=A2.out;obtain⟨k30,k31,k32,z30,z31,z32,_⟩:=A3.out;obtain⟨k40,k41,k42,k43,k44,k45,z40,z41,z42,z43,z44,z45,_⟩:=A4.out
  go_region
  go_wp2;rw[Exit.noGoto_ret];refine bP (v:=.tuple #[.agg #[.int .i64 0,.int .i64 0,.int .i64 0],.agg #[.int .i64 0,.int .i64 0,.int .i64 0],.int .i64 y]) (by simp[results,Tryz.results37,go_sem, *]) rfl ⟨rfl,?_⟩;exact(bS (bS (bS (bS (bS (bS (HB.out) (by show w.heap.size≤w.heap.size+1+1;omega)) (by show w.heap.size≤w.heap.size+1+1;omega)) (by show w.heap.size≤w.heap.size+1+1;omega)) (by show w.heap.size≤w.heap.size+1+1+1;omega)) (by show w.heap.size≤w.heap.size+1+1+1;omega)) (by show w.heap.size≤w.heap.size+1+1+1;omega)).drew
 ·refine wp_round ?_;go_wp2_with fail;clear k20 k21 k22 z20 z21 z22 k30 k31 k32 z30 z31 z32 k40 k41 k42 k43 k44 k45 z40 z41 z42 z43 z44 z45;obtain⟨X,hW⟩:∃W,W=(((w2.setCell ⟨w.heap.size+1+1+1+1,3,none⟩ (.int .i64 s)).setCell ⟨w.heap.size+1+1+1+1,4,none⟩ (.int .i64 t)).setCell ⟨w.heap.size+1+1+1+1,5,none⟩ (.int .i64 u)):=⟨_,rfl⟩;rw[←hW];replace HB:=aH (show Below w.heap.size w X by rw[hW];exact bS (bS (bS (HB.out) (by show w.heap.size≤w.heap.size+1+1+1+1;omega)) (by show w.heap.size≤w.heap.size+1+1+1+1;omega)) (by show w.heap.size≤w.heap.size+1+1+1+1;omega));replace A2:=aH (show Cells3 X _ _ _ _ by rw[hW];exact(A2.out.apart35 (by omega) (.int .i64 s) (.int .i64 t) (.int .i64 u)));replace A3:=aH (show Cells3 X _ _ _ _ by rw[hW];exact(A3.out.apart35 (by omega) (.int .i64 s) (.int .i64 t) (.int .i64 u)));replace A4:=aH (show Cells6 X _ _ _ _ _ _ _ by rw[hW];exact(A4.out.set35 (.int .i64 s) (.int .i64 t) (.int .i64 u)));clear hW;obtain⟨k20,k21,k22,z20,z21,z22,_⟩:=A2.out;obtain⟨k30,k31,k32,z30,z31,z32,_⟩:=A3.out;obtain⟨k40,k41,k42,k43,k44,k45,z40,z41,z42,z43,z44,z45,_⟩:=A4.out
  go_region
  go_wp2;rw[Exit.noGoto_ret];refine bP (v:=.tuple #[.agg #[.int .i64 p,.int .i64 q,.int .i64 r],.agg #[.int .i64 s,.int .i64 t,.int .i64 u],.int .i64 0]) (by simp[results,Tryz.results37,go_sem, *]) rfl ⟨rfl,?_⟩;exact(bS (bS (bS (bS (bS (bS (HB.out) (by show w.heap.size≤w.heap.size+1+1;omega)) (by show w.heap.size≤w.heap.size+1+1;omega)) (by show w.heap.size≤w.heap.size+1+1;omega)) (by show w.heap.size≤w.heap.size+1+1+1;omega)) (by show w.heap.size≤w.heap.size+1+1+1;omega)) (by show w.heap.size≤w.heap.size+1+1+1;omega)).drew
end Go.Proofs.YtacjonncakhhmaaGreat.Cel
