/- Sets looked at; a number put into a set. -/
import Derived.Test.YtacjonncakhhmaaGreatPy00
import Derived.Test.YtacjonncakhhmaaGreatPy02
import Derived.Test.YtacjonncakhhmaaGreatPy06
import Derived.Test.YtacjonncakhhmaaGreatPy05
import Derived.Test.YtacjonncakhhmaaGreatChecked
import Derived.WalkKit
import Derived.WalkLawsBesides
import Derived.WalkSpells
import Derived.Outline
import Derived.KernelRfl
import Derived.Lib.Hide
import Derived.Maps.AppendAt
import Derived.Laws.OwnMore
import Derived.Deep.AppendLies
import Derived.Deep.Onto
import Derived.OwnWalk
import Derived.Deep.QuietTactic
import Derived.BigQuiet
import Derived.Deep.RegionHeld3
set_option maxRecDepth 100000
set_option maxHeartbeats 8000000
namespace Go.Proofs.YtacjonncakhhmaaGreat
open Go.RowKit
def ceCells (q:Cel.Ce):List Value:=[.int .i64 q.a,.int .i64 q.b,.int .i64 q.c]
def ce0:Cel.Ce:=⟨0,0,0⟩
noncomputable def KE:Lk Tryz.prog Cel.Ce where
 S:=27
 E:=58
 n:=3
 zero:=.agg #[.int .i64 0,.int .i64 0,.int .i64 0]
 bytes:=24
 cells:=ceCells
 dflt:=ce0
 ok:=fun q=>q.Fit
 und:=Tryz.underlying27
 info:=by kernel_rfl
 zs:=rfl
 pos:=by decide
 small:=by decide
 len _:=rfl
 one x u hu:=by
  simp only[ceCells,List.mem_cons,List.not_mem_nil,or_false]at hu;rcases hu with rfl | rfl | rfl <;> rfl
structure Lo where
 r:Int
 l:Int
 A:Option Addr
 c:Nat
 xs:List Ch
def loCells (q:Lo):List Value:=[.int .i64 q.r,.int .i64 q.l,.slice q.A q.xs.length q.c]
def lo0:Lo:=⟨0,0,none,0,[]⟩
noncomputable def KL:Lk Tryz.prog Lo where
 S:=28
 E:=50
 n:=3
 zero:=.agg #[.int .i64 0,.int .i64 0,.slice none 0 0]
 bytes:=40
 cells:=loCells
 dflt:=lo0
 ok:=fun q=>fits q.r∧fits q.l
 und:=Tryz.underlying28
 info:=by kernel_rfl
 zs:=rfl
 pos:=by decide
 small:=by decide
 len _:=rfl
 one x u hu:=by
  simp only[loCells,List.mem_cons,List.not_mem_nil,or_false]at hu;rcases hu with rfl | rfl | rfl <;> rfl
theorem ce_cells {w:World} {B:Nat} {A:Option Addr} {n c:Nat} {xs:List Cel.Ce} (h:KE.IsL w B (.slice A n c) xs) (h0:0<xs.length):∃b off,A=some ⟨b,off,none⟩∧b<B∧xs.length≤c∧
  ∀i,i<xs.length→w.cell? ⟨b,off+i * 3,none⟩=some (.int .i64 (xs.getD i ce0).a)∧w.cell? ⟨b,off+i * 3+1,none⟩=some (.int .i64 (xs.getD i ce0).b)∧w.cell? ⟨b,off+i * 3+2,none⟩=some (.int .i64 (xs.getD i ce0).c):=by
 obtain⟨b,off,e,hb,hc,hcell⟩:=h.elem h0;refine⟨b,off,e,hb,hc,fun i hi=>?_⟩;have q:=fun j u hu=>hcell i hi j u hu;have hn:KE.n=3:=rfl;simp only[hn,←Nat.add_assoc]at q;exact⟨q 0 _ rfl,q 1 _ rfl,q 2 _ rfl⟩
theorem lo_cells {w:World} {B:Nat} {A:Option Addr} {n c:Nat} {xs:List Lo} (h:KL.IsL w B (.slice A n c) xs) (h0:0<xs.length):∃b off,A=some ⟨b,off,none⟩∧b<B∧xs.length≤c∧
  ∀i,i<xs.length→w.cell? ⟨b,off+i * 3,none⟩=some (.int .i64 (xs.getD i lo0).r)∧w.cell? ⟨b,off+i * 3+1,none⟩=some (.int .i64 (xs.getD i lo0).l)∧w.cell? ⟨b,off+i * 3+2,none⟩=some (.slice (xs.getD i lo0).A (xs.getD i lo0).xs.length (xs.getD i lo0).c):=by
 obtain⟨b,off,e,hb,hc,hcell⟩:=h.elem h0;refine⟨b,off,e,hb,hc,fun i hi=>?_⟩;have q:=fun j u hu=>hcell i hi j u hu;have hn:KL.n=3:=rfl;simp only[hn,←Nat.add_assoc]at q;exact⟨q 0 _ rfl,q 1 _ rfl,q 2 _ rfl⟩
structure Stk where
 cA:Option Addr
 cc:Nat
 cl:List Cel.Ce
 lA:Option Addr
 lc:Nat
 ll:List Lo
 tA:Option Addr
 tc:Nat
 tl:List (Int×Int)
 st:Int
 inn:Int
 out:Int
abbrev Stk.v (s:Stk):Value:=.agg #[.slice s.cA s.cl.length s.cc,.slice s.lA s.ll.length s.lc,.slice s.tA s.tl.length s.tc,.int .i64 s.st,.int .i64 s.inn,.int .i64 s.out]
structure Stk.In (w:World) (B:Nat) (s:Stk):Prop where
 c:KE.IsL w B (.slice s.cA s.cl.length s.cc) s.cl
 l:KL.IsL w B (.slice s.lA s.ll.length s.lc) s.ll
 t:KT.IsL w B (.slice s.tA s.tl.length s.tc) s.tl
 x:∀q∈s.ll,KC.IsL w B (.slice q.A q.xs.length q.c) q.xs
 f:fits s.st∧fits s.inn∧fits s.out
theorem Stk.In.below {w w':World} {B:Nat} {s:Stk} (h:s.In w B) (hb:Below B w w'):s.In w' B:=⟨h.c.below hb,h.l.below hb,h.t.below hb,fun q hq=>(h.x q hq).below hb,h.f⟩
theorem Stk.In.more {w:World} {B B':Nat} {s:Stk} (h:s.In w B) (hB:B≤B'):s.In w B':=⟨h.c.more hB,h.l.more hB,h.t.more hB,fun q hq=>(h.x q hq).more hB,h.f⟩
theorem Stk.In.then {w w':World} {s:Stk} (h:s.In w w.heap.size) (hb:Below w.heap.size w w'):s.In w' w'.heap.size:=(h.below hb).more hb.size
structure Ab where
 c:List Cel.Ce
 l:List (Int×Int×List Ch)
 t:List (Int×Int)
 st:Int
 inn:Int
 out:Int
def Lo.ab (q:Lo):Int×Int×List Ch:=(q.r,q.l,q.xs)
def Stk.ab (s:Stk):Ab:=⟨s.cl,s.ll.map Lo.ab,s.tl,s.st,s.inn,s.out⟩
def ab0:Ab:=⟨[],[],[],0,0,0⟩
def stk0:Stk:=⟨none,0,[],none,0,[],none,0,[],0,0,0⟩
theorem stk0_in (w:World) (B:Nat):stk0.In w B:=⟨Lk.IsL.nil _ _ _ _,Lk.IsL.nil _ _ _ _,Lk.IsL.nil _ _ _ _,fun q hq=>by simp[stk0]at hq,by decide,by decide,by decide⟩
def Cells4 (V:World) (D:Nat) (x0 x1 x2 x3:Value):Prop:=
 V.cell? ⟨D,0,none⟩=some x0∧V.cell? ⟨D,1,none⟩=some x1∧V.cell? ⟨D,2,none⟩=some x2∧V.cell? ⟨D,3,none⟩=some x3∧
 V.frozen? ⟨D,0,none⟩=false∧V.frozen? ⟨D,1,none⟩=false∧V.frozen? ⟨D,2,none⟩=false∧V.frozen? ⟨D,3,none⟩=false∧D<V.heap.size
theorem Cells4.new (V:World) (t:TypeId) (x0 x1 x2 x3:Value):Cells4 (V.alloc (.cells #[x0,x1,x2,x3] t)) V.heap.size x0 x1 x2 x3:=
 ⟨by rw[alloc_at];rfl,by rw[alloc_at];rfl,by rw[alloc_at];rfl,by rw[alloc_at];rfl,by simp,by simp,by simp,by simp,by simp⟩
theorem Cells4.below {V V':World} {D:Nat} {x0 x1 x2 x3:Value} (h:Cells4 V D x0 x1 x2 x3) (hb:Below V.heap.size V V'):Cells4 V' D x0 x1 x2 x3:=by
 obtain⟨h0,h1,h2,h3,z0,z1,z2,z3,hs⟩:=h;refine⟨kK hb h0,kK hb h1,kK hb h2,kK hb h3,?_,?_,?_,?_,nL hs hb.size⟩
 ·rw[hb.frozen (p:=⟨D,0,none⟩) hs];exact z0
 ·rw[hb.frozen (p:=⟨D,1,none⟩) hs];exact z1
 ·rw[hb.frozen (p:=⟨D,2,none⟩) hs];exact z2
 ·rw[hb.frozen (p:=⟨D,3,none⟩) hs];exact z3
theorem Cells4.set {V:World} {D:Nat} {x0 x1 x2 x3:Value} (h:Cells4 V D x0 x1 x2 x3) (p0 p1 p2 p3:Value):Cells4 ((((V.setCell ⟨D,0,none⟩ p0).setCell ⟨D,1,none⟩ p1).setCell ⟨D,2,none⟩ p2).setCell ⟨D,3,none⟩ p3) D p0 p1 p2 p3:=by
 obtain⟨h0,h1,h2,h3,z0,z1,z2,z3,hs⟩:=h;refine⟨sO (sO (sO (st_same (h0)) (aN (.inr (by decide)))) (aN (.inr (by decide)))) (aN (.inr (by decide))),sO (sO (st_same (sO (h1) (aN (.inr (by decide))))) (aN (.inr (by decide)))) (aN (.inr (by decide))),sO (st_same (sO (sO (h2) (aN (.inr (by decide)))) (aN (.inr (by decide))))) (aN (.inr (by decide))),st_same (sO (sO (sO (h3) (aN (.inr (by decide)))) (aN (.inr (by decide)))) (aN (.inr (by decide)))),sF (sF (sF (sF (z0)))),sF (sF (sF (sF (z1)))),sF (sF (sF (sF (z2)))),sF (sF (sF (sF (z3)))),?_⟩;simpa using hs
theorem Cells4.apart {V:World} {D G:Nat} {x0 x1 x2 x3:Value} (h:Cells4 V G x0 x1 x2 x3) (hne:D≠G) (p0 p1 p2 p3:Value):Cells4 ((((V.setCell ⟨D,0,none⟩ p0).setCell ⟨D,1,none⟩ p1).setCell ⟨D,2,none⟩ p2).setCell ⟨D,3,none⟩ p3) G x0 x1 x2 x3:=by
 obtain⟨h0,h1,h2,h3,z0,z1,z2,z3,hs⟩:=h;refine⟨sO (sO (sO (sO (h0) (aN (.inl hne))) (aN (.inl hne))) (aN (.inl hne))) (aN (.inl hne)),sO (sO (sO (sO (h1) (aN (.inl hne))) (aN (.inl hne))) (aN (.inl hne))) (aN (.inl hne)),sO (sO (sO (sO (h2) (aN (.inl hne))) (aN (.inl hne))) (aN (.inl hne))) (aN (.inl hne)),sO (sO (sO (sO (h3) (aN (.inl hne))) (aN (.inl hne))) (aN (.inl hne))) (aN (.inl hne)),sF (sF (sF (sF (z0)))),sF (sF (sF (sF (z1)))),sF (sF (sF (sF (z2)))),sF (sF (sF (sF (z3)))),?_⟩;simpa using hs
def Cells6 (V:World) (D:Nat) (x0 x1 x2 x3 x4 x5:Value):Prop:=
 V.cell? ⟨D,0,none⟩=some x0∧V.cell? ⟨D,1,none⟩=some x1∧V.cell? ⟨D,2,none⟩=some x2∧V.cell? ⟨D,3,none⟩=some x3∧V.cell? ⟨D,4,none⟩=some x4∧V.cell? ⟨D,5,none⟩=some x5∧
 V.frozen? ⟨D,0,none⟩=false∧V.frozen? ⟨D,1,none⟩=false∧V.frozen? ⟨D,2,none⟩=false∧V.frozen? ⟨D,3,none⟩=false∧V.frozen? ⟨D,4,none⟩=false∧V.frozen? ⟨D,5,none⟩=false∧D<V.heap.size
theorem Cells6.new (V:World) (t:TypeId) (x0 x1 x2 x3 x4 x5:Value):Cells6 (V.alloc (.cells #[x0,x1,x2,x3,x4,x5] t)) V.heap.size x0 x1 x2 x3 x4 x5:=
 ⟨by rw[alloc_at];rfl,by rw[alloc_at];rfl,by rw[alloc_at];rfl,by rw[alloc_at];rfl,by rw[alloc_at];rfl,by rw[alloc_at];rfl,by simp,by simp,by simp,by simp,by simp,by simp,by simp⟩
theorem Cells6.below {V V':World} {D:Nat} {x0 x1 x2 x3 x4 x5:Value} (h:Cells6 V D x0 x1 x2 x3 x4 x5) (hb:Below V.heap.size V V'):Cells6 V' D x0 x1 x2 x3 x4 x5:=by
 obtain⟨h0,h1,h2,h3,h4,h5,z0,z1,z2,z3,z4,z5,hs⟩:=h;refine⟨kK hb h0,kK hb h1,kK hb h2,kK hb h3,kK hb h4,kK hb h5,?_,?_,?_,?_,?_,?_,nL hs hb.size⟩
 ·rw[hb.frozen (p:=⟨D,0,none⟩) hs];exact z0
 ·rw[hb.frozen (p:=⟨D,1,none⟩) hs];exact z1
 ·rw[hb.frozen (p:=⟨D,2,none⟩) hs];exact z2
 ·rw[hb.frozen (p:=⟨D,3,none⟩) hs];exact z3
 ·rw[hb.frozen (p:=⟨D,4,none⟩) hs];exact z4
 ·rw[hb.frozen (p:=⟨D,5,none⟩) hs];exact z5
theorem Cells6.set {V:World} {D:Nat} {x0 x1 x2 x3 x4 x5:Value} (h:Cells6 V D x0 x1 x2 x3 x4 x5) (p0 p1 p2 p3 p4 p5:Value):Cells6 ((((((V.setCell ⟨D,0,none⟩ p0).setCell ⟨D,1,none⟩ p1).setCell ⟨D,2,none⟩ p2).setCell ⟨D,3,none⟩ p3).setCell ⟨D,4,none⟩ p4).setCell ⟨D,5,none⟩ p5) D p0 p1 p2 p3 p4 p5:=by
 obtain⟨h0,h1,h2,h3,h4,h5,z0,z1,z2,z3,z4,z5,hs⟩:=h;refine⟨sO (sO (sO (sO (sO (st_same (h0)) (aN (.inr (by decide)))) (aN (.inr (by decide)))) (aN (.inr (by decide)))) (aN (.inr (by decide)))) (aN (.inr (by decide))),sO (sO (sO (sO (st_same (sO (h1) (aN (.inr (by decide))))) (aN (.inr (by decide)))) (aN (.inr (by decide)))) (aN (.inr (by decide)))) (aN (.inr (by decide))),sO (sO (sO (st_same (sO (sO (h2) (aN (.inr (by decide)))) (aN (.inr (by decide))))) (aN (.inr (by decide)))) (aN (.inr (by decide)))) (aN (.inr (by decide))),sO (sO (st_same (sO (sO (sO (h3) (aN (.inr (by decide)))) (aN (.inr (by decide)))) (aN (.inr (by decide))))) (aN (.inr (by decide)))) (aN (.inr (by decide))),sO (st_same (sO (sO (sO (sO (h4) (aN (.inr (by decide)))) (aN (.inr (by decide)))) (aN (.inr (by decide)))) (aN (.inr (by decide))))) (aN (.inr (by decide))),st_same (sO (sO (sO (sO (sO (h5) (aN (.inr (by decide)))) (aN (.inr (by decide)))) (aN (.inr (by decide)))) (aN (.inr (by decide)))) (aN (.inr (by decide)))),sF (sF (sF (sF (sF (sF (z0)))))),sF (sF (sF (sF (sF (sF (z1)))))),sF (sF (sF (sF (sF (sF (z2)))))),sF (sF (sF (sF (sF (sF (z3)))))),sF (sF (sF (sF (sF (sF (z4)))))),sF (sF (sF (sF (sF (sF (z5)))))),?_⟩;simpa using hs
theorem Cells6.apart {V:World} {D G:Nat} {x0 x1 x2 x3 x4 x5:Value} (h:Cells6 V G x0 x1 x2 x3 x4 x5) (hne:D≠G) (p0 p1 p2 p3 p4 p5:Value):Cells6 ((((((V.setCell ⟨D,0,none⟩ p0).setCell ⟨D,1,none⟩ p1).setCell ⟨D,2,none⟩ p2).setCell ⟨D,3,none⟩ p3).setCell ⟨D,4,none⟩ p4).setCell ⟨D,5,none⟩ p5) G x0 x1 x2 x3 x4 x5:=by
 obtain⟨h0,h1,h2,h3,h4,h5,z0,z1,z2,z3,z4,z5,hs⟩:=h;refine⟨sO (sO (sO (sO (sO (sO (h0) (aN (.inl hne))) (aN (.inl hne))) (aN (.inl hne))) (aN (.inl hne))) (aN (.inl hne))) (aN (.inl hne)),sO (sO (sO (sO (sO (sO (h1) (aN (.inl hne))) (aN (.inl hne))) (aN (.inl hne))) (aN (.inl hne))) (aN (.inl hne))) (aN (.inl hne)),sO (sO (sO (sO (sO (sO (h2) (aN (.inl hne))) (aN (.inl hne))) (aN (.inl hne))) (aN (.inl hne))) (aN (.inl hne))) (aN (.inl hne)),sO (sO (sO (sO (sO (sO (h3) (aN (.inl hne))) (aN (.inl hne))) (aN (.inl hne))) (aN (.inl hne))) (aN (.inl hne))) (aN (.inl hne)),sO (sO (sO (sO (sO (sO (h4) (aN (.inl hne))) (aN (.inl hne))) (aN (.inl hne))) (aN (.inl hne))) (aN (.inl hne))) (aN (.inl hne)),sO (sO (sO (sO (sO (sO (h5) (aN (.inl hne))) (aN (.inl hne))) (aN (.inl hne))) (aN (.inl hne))) (aN (.inl hne))) (aN (.inl hne)),sF (sF (sF (sF (sF (sF (z0)))))),sF (sF (sF (sF (sF (sF (z1)))))),sF (sF (sF (sF (sF (sF (z2)))))),sF (sF (sF (sF (sF (sF (z3)))))),sF (sF (sF (sF (sF (sF (z4)))))),sF (sF (sF (sF (sF (sF (z5)))))),?_⟩;simpa using hs
theorem below_set6 {V w:World} {B D:Nat} (h:Below B w V) (hB:B≤D) (p0 p1 p2 p3 p4 p5:Value):Below B w ((((((V.setCell ⟨D,0,none⟩ p0).setCell ⟨D,1,none⟩ p1).setCell ⟨D,2,none⟩ p2).setCell ⟨D,3,none⟩ p3).setCell ⟨D,4,none⟩ p4).setCell ⟨D,5,none⟩ p5):=((((((h.setCell hB _).setCell hB _).setCell hB _).setCell hB _).setCell hB _).setCell hB _)
theorem Cells6.s {V:World} {D:Nat} {x0 x1 x2 x3 x4 x5:Value} (h:Cells6 V D x0 x1 x2 x3 x4 x5) (p:Value):Cells6 (V.setCell ⟨D,0,none⟩ p) D p x1 x2 x3 x4 x5∧Cells6 (V.setCell ⟨D,1,none⟩ p) D x0 p x2 x3 x4 x5∧Cells6 (V.setCell ⟨D,2,none⟩ p) D x0 x1 p x3 x4 x5∧
  Cells6 (V.setCell ⟨D,3,none⟩ p) D x0 x1 x2 p x4 x5∧Cells6 (V.setCell ⟨D,4,none⟩ p) D x0 x1 x2 x3 p x5∧Cells6 (V.setCell ⟨D,5,none⟩ p) D x0 x1 x2 x3 x4 p:=by
 obtain⟨h0,h1,h2,h3,h4,h5,z0,z1,z2,z3,z4,z5,hs⟩:=h;have ne:∀ {i j:Nat},i≠j→(⟨D,i,none⟩:Addr)≠⟨D,j,none⟩:=fun h=>aN (.inr h);exact⟨⟨st_same h0,sO h1 (ne (by decide)),sO h2 (ne (by decide)),sO h3 (ne (by decide)),sO h4 (ne (by decide)),sO h5 (ne (by decide)),sF z0,sF z1,sF z2,sF z3,sF z4,sF z5,by simpa using hs⟩,
  ⟨sO h0 (ne (by decide)),st_same h1,sO h2 (ne (by decide)),sO h3 (ne (by decide)),sO h4 (ne (by decide)),sO h5 (ne (by decide)),sF z0,sF z1,sF z2,sF z3,sF z4,sF z5,by simpa using hs⟩,
  ⟨sO h0 (ne (by decide)),sO h1 (ne (by decide)),st_same h2,sO h3 (ne (by decide)),sO h4 (ne (by decide)),sO h5 (ne (by decide)),sF z0,sF z1,sF z2,sF z3,sF z4,sF z5,by simpa using hs⟩,
  ⟨sO h0 (ne (by decide)),sO h1 (ne (by decide)),sO h2 (ne (by decide)),st_same h3,sO h4 (ne (by decide)),sO h5 (ne (by decide)),sF z0,sF z1,sF z2,sF z3,sF z4,sF z5,by simpa using hs⟩,
  ⟨sO h0 (ne (by decide)),sO h1 (ne (by decide)),sO h2 (ne (by decide)),sO h3 (ne (by decide)),st_same h4,sO h5 (ne (by decide)),sF z0,sF z1,sF z2,sF z3,sF z4,sF z5,by simpa using hs⟩,
  ⟨sO h0 (ne (by decide)),sO h1 (ne (by decide)),sO h2 (ne (by decide)),sO h3 (ne (by decide)),sO h4 (ne (by decide)),st_same h5,sF z0,sF z1,sF z2,sF z3,sF z4,sF z5,by simpa using hs⟩⟩
theorem Cells6.off {V:World} {D G o:Nat} {x0 x1 x2 x3 x4 x5:Value} (h:Cells6 V G x0 x1 x2 x3 x4 x5) (hne:D≠G) (p:Value):Cells6 (V.setCell ⟨D,o,none⟩ p) G x0 x1 x2 x3 x4 x5:=by
 obtain⟨h0,h1,h2,h3,h4,h5,z0,z1,z2,z3,z4,z5,hs⟩:=h;exact⟨sO h0 (aN (.inl hne)),sO h1 (aN (.inl hne)),sO h2 (aN (.inl hne)),sO h3 (aN (.inl hne)),sO h4 (aN (.inl hne)),sO h5 (aN (.inl hne)),sF z0,sF z1,sF z2,sF z3,sF z4,sF z5,by simpa using hs⟩
theorem Cells4.off {V:World} {D G o:Nat} {x0 x1 x2 x3:Value} (h:Cells4 V G x0 x1 x2 x3) (hne:D≠G) (p:Value):Cells4 (V.setCell ⟨D,o,none⟩ p) G x0 x1 x2 x3:=by
 obtain⟨h0,h1,h2,h3,z0,z1,z2,z3,hs⟩:=h;exact⟨sO h0 (aN (.inl hne)),sO h1 (aN (.inl hne)),sO h2 (aN (.inl hne)),sO h3 (aN (.inl hne)),sF z0,sF z1,sF z2,sF z3,by simpa using hs⟩
theorem Cells4.box (w:World) (d:Dk) (t:TypeId):Cells4 (w.alloc (.cells #[.slice d.bA d.bn d.bc,.slice d.pA d.pn d.pc,.slice d.rA d.rn d.rc,.int .i64 d.arms] t)) w.heap.size (.slice d.bA d.bn d.bc) (.slice d.pA d.pn d.pc) (.slice d.rA d.rn d.rc) (.int .i64 d.arms):=Cells4.new w t _ _ _ _
abbrev DkAt (V:World) (D:Nat) (d:Dk):Prop:=Cells4 V D (.slice d.bA d.bn d.bc) (.slice d.pA d.pn d.pc) (.slice d.rA d.rn d.rc) (.int .i64 d.arms)
abbrev SkAt (V:World) (D:Nat) (s:Stk):Prop:=Cells6 V D (.slice s.cA s.cl.length s.cc) (.slice s.lA s.ll.length s.lc) (.slice s.tA s.tl.length s.tc) (.int .i64 s.st) (.int .i64 s.inn) (.int .i64 s.out)
end Go.Proofs.YtacjonncakhhmaaGreat
namespace Go.Proofs.YtacjonncakhhmaaGreat.Two
open Go.RowKit
theorem snoc_ind {α:Type} {p:List α→Prop} (h0:p []) (h1:∀l c,p l→p (l++[c])) (l:List α):p l:=by
 suffices h:∀r:List α,p r.reverse by
  have:=h l.reverse
  rwa [List.reverse_reverse]at this
 intro r
 induction r with
 | nil=>exact h0
 | cons c r ih=>rw[List.reverse_cons];exact h1 _ _ ih
def IsL (w:World) (B:Nat) (v:Value) (xs:List Int):Prop:=
 (∃A cap,v=.slice A xs.length cap∧xs.length≤cap∧(0<xs.length→∃b off,A=some ⟨b,off,none⟩∧b<B∧∀i,i<xs.length→w.cell? ⟨b,off+i,none⟩=some (.int .i64 (xs.getD i 0))))∧
  (∀x∈xs,fits x)∧xs.length≤9223372036854775807
theorem IsL.below {w w':World} {B:Nat} {v:Value} {xs:List Int} (h:IsL w B v xs) (hb:Below B w w'):IsL w' B v xs:=by
 obtain⟨⟨A,cap,rfl,hc,hA⟩,hf,hl⟩:=h;refine⟨⟨A,cap,rfl,hc,fun h0=>?_⟩,hf,hl⟩;obtain⟨b,off,rfl,hbB,hcell⟩:=hA h0;exact⟨b,off,rfl,hbB,fun i hi=>(hb.cell (p:=⟨b,off+i,none⟩) hbB).trans (hcell i hi)⟩
theorem IsL.more {w:World} {B B':Nat} {v:Value} {xs:List Int} (h:IsL w B v xs) (hB:B≤B'):IsL w B' v xs:=by
 obtain⟨⟨A,cap,rfl,hc,hA⟩,hf,hl⟩:=h;refine⟨⟨A,cap,rfl,hc,fun h0=>?_⟩,hf,hl⟩;obtain⟨b,off,rfl,hbB,hcell⟩:=hA h0;exact⟨b,off,rfl,by omega,hcell⟩
theorem IsL.drewN {w:World} {B:Nat} {v:Value} {xs:List Int} (h:IsL w B v xs) (d:Nat):IsL (w.drewN d) B v xs:=h
theorem IsL.nil (w:World) (B:Nat) (A:Option Addr) (cap:Nat):IsL w B (.slice A 0 cap) []:=
 ⟨⟨A,cap,rfl,Nat.zero_le _,fun h=>absurd h (by simp)⟩,fun x hx=>by simp at hx,by simp⟩
theorem below_drewN {B:Nat} {a w:World} (h:Below B a w) (d:Nat):Below B a (w.drewN d):=⟨h.os,h.tape,h.output,h.size,h.block⟩
theorem getD_fits {xs:List Int} (h:∀x∈xs,fits x) (i:Nat):fits (xs.getD i 0):=by
 rw[List.getD_eq_getElem?_getD];by_cases hi:i<xs.length
 ·rw[List.getElem?_eq_getElem hi];exact h _ (List.getElem_mem hi)
 ·rw[List.getElem?_eq_none (by omega)];decide
def iv (x:Int):Value:=.int .i64 x
def Own (w:World) (base:Nat) (v:Value) (xs:List Int):Prop:=w.ownsRow base 3 1 v xs.length (xs.map iv)∧∀x∈xs,fits x
theorem int_info:(Tryz.prog.info? 3).map (fun i=>(i.zero,i.size,i.bytes))=some (some (.int .i64 0),1,8):=by kernel_rfl
theorem getD_map (xs:List Int) (i:Nat) (h:i<xs.length):(xs.map iv)[i]? =some (.int .i64 (xs.getD i 0)):=by
 rw[List.getElem?_map,List.getD_eq_getElem?_getD,List.getElem?_eq_getElem h];rfl
theorem Own.isL {w:World} {base:Nat} {v:Value} {xs:List Int} (h:Own w base v xs) (hl:xs.length≤9223372036854775807):IsL w w.heap.size v xs:=by
 obtain⟨h,hf⟩:=h;rcases h.2 with ⟨rfl,h0⟩ | ⟨g,cap,cur,rfl,hb,hg,hnc,_⟩
 ·obtain rfl:xs=[]:=List.eq_nil_of_length_eq_zero h0;exact IsL.nil _ _ _ _
 ·refine⟨⟨_,cap,rfl,hnc,fun h0=>⟨g,0,rfl,(Array.getElem?_eq_some_iff.1 hg).1,fun i hi=>?_⟩⟩,hf,hl⟩;rw[Nat.zero_add,h.cellAt i (by omega),getD_map xs i hi]
theorem Own.nil (w:World) (base:Nat):Own w base (.slice none 0 0) []:=⟨World.ownsRow_nil _ _ _ _,fun x hx=>by simp at hx⟩
theorem Own.alloc {w:World} {base:Nat} {v:Value} {xs:List Int} (h:Own w base v xs) (o:Obj):Own (w.alloc o) base v xs:=⟨h.1.alloc o,h.2⟩
theorem Own.drewN {w:World} {base:Nat} {v:Value} {xs:List Int} (h:Own w base v xs) (d:Nat):Own (w.drewN d) base v xs:=h
theorem Own.mono {w:World} {base base':Nat} {v:Value} {xs:List Int} (h:Own w base v xs) (hb:base'≤base):Own w base' v xs:=⟨h.1.mono hb,h.2⟩
theorem Own.kept {w w':World} {row:Option Nat} {base:Nat} {v:Value} {xs:List Int} (h:Own w base v xs) (hg:w.grownBy w' row) (hne:v.ownBlock=none∨v.ownBlock≠row):Own w' base v xs:=⟨h.1.kept hg hne,h.2⟩
theorem Own.lt {w:World} {base:Nat} {v:Value} {xs:List Int} (h:Own w base v xs):∀k,v.ownBlock=some k→base≤k∧k<w.heap.size:=h.1.lt
theorem Own.below {w w':World} {base:Nat} {v:Value} {xs:List Int} (h:Own w base v xs) (hb:Below w.heap.size w w'):Own w' base v xs:=by
 obtain⟨⟨h1,h2⟩,hf⟩:=h;refine⟨⟨h1,?_⟩,hf⟩;rcases h2 with hn | ⟨g,cap,cur,rfl,hb2,hg,rest⟩
 ·exact .inl hn
 ·exact .inr ⟨g,cap,cur,rfl,hb2,(hb.block g (Array.getElem?_eq_some_iff.1 hg).1).trans hg,rest⟩
theorem Own.made (w:World) (base cap:Nat) (cur:Array Value) (hb:base≤w.heap.size) (hm:cap≤maxLen) (hs:cur.size=cap):Own (w.alloc (.cells cur 3)) base (.slice (some ⟨w.heap.size,0,none⟩) 0 cap) []:=
 ⟨World.ownsRow_made w cur cap hb hm (by omega),fun x hx=>by simp at hx⟩
theorem IsL.lit (w:World) (x:Int) (hx:fits x):IsL (w.alloc (.cells #[.int .i64 x] 3)) (w.heap.size+1) (.slice (some ⟨w.heap.size,0,none⟩) 1 1) [x]:=by
 refine⟨⟨_,1,rfl,by simp,fun _=>⟨w.heap.size,0,rfl,by omega,fun i hi=>?_⟩⟩,fun y hy=>by simp at hy;rw[hy];exact hx,by simp⟩;have:i=0:=by simpa using hi
 subst this;rw[cell_of_row _ w.heap.size _ _ _ (0,0) (heap_alloc_new w _)];rfl
theorem oneCell_iv (xs:List Int):∀u∈xs.map iv,u.oneCell'=true:=by
 intro u hu;obtain⟨x,_,rfl⟩:=List.mem_map.1 hu;rfl
theorem run_append_nothing (w:World) (base:Nat) (ty:TypeId) (v:Value) (xs:List Int) (h:Own w base v xs) (c:Nat):(Builtin.append_ #[45,45] ty #[v,.slice none 0 c]).run Tryz.prog w=.ok v w:=by
 obtain⟨i0,hi,hz0,hz1,hz2⟩:=info_parts int_info;rcases h.1.2 with ⟨rfl,_⟩ | ⟨g,cap,cur,rfl,_,_,hnc,_⟩
 ·simp[Builtin.append_,run_underlying Tryz.underlying45,sizeOf,typeInfo,hi,Builtin.lenOf,Builtin.firstCells]
 ·simp[Builtin.append_,run_underlying Tryz.underlying45,sizeOf,typeInfo,hi,Builtin.lenOf,Builtin.firstCells,hnc,storeCells]
theorem run_app (w:World) (base B:Nat) (ty:TypeId) (v src:Value) (xs ys:List Int) (h:Own w base v xs) (hs:IsL w B src ys) (hl:xs.length+ys.length≤1000000) (hb:base≤w.heap.size):
  ∃v' w',(Builtin.append_ #[45,45] ty #[v,src]).run Tryz.prog w=.ok v' w'∧Own w' base v' (xs++ys)∧w.grownBy w' v.ownBlock∧(v'.ownBlock=v.ownBlock∨v'.ownBlock=some w.heap.size):=by
 obtain⟨i0,hi,hz0,hz1,hz2⟩:=info_parts int_info;obtain⟨⟨A,cap,rfl,hc,hA⟩,hf,hll⟩:=hs;have hfa:∀x∈xs++ys,fits x:=fun x hx=>by
  rcases List.mem_append.1 hx with hx | hx
  ·exact h.2 x hx
  ·exact hf x hx
 by_cases h0:ys=[]
 ·subst h0
  match A with
  | none=>exact⟨v,w,run_append_nothing w base ty v xs h cap,by simpa using h,World.grownBy.refl w _,.inl rfl⟩
  | some ad=>
   obtain⟨v',w',hrun,h2,h3,_,h5⟩:=run_append_own_at (P:=Tryz.prog) w base 45 ty 3 i0 (.int .i64 0) 1 8 Tryz.underlying45 hi hz0 hz1 hz2 rfl (by decide) v xs.length (xs.map iv) h.1 ad 0 cap [] rfl
    (fun j u hu=>by simp at hu) (fun u hu=>by simp at hu) (by unfold maxLen;simp at hl;omega) (by simp at hl;omega) hb
   exact⟨v',w',hrun,⟨by simpa using h2,hfa⟩,h3,h5⟩
 ·have hpos:0<ys.length:=by
   rcases Nat.eq_zero_or_pos ys.length with h | h
   ·exact absurd (List.eq_nil_of_length_eq_zero h) h0
   ·exact h
  obtain⟨b,off,rfl,hbB,hcell⟩:=hA hpos;obtain⟨v',w',hrun,h2,h3,_,h5⟩:=run_append_own_at (P:=Tryz.prog) w base 45 ty 3 i0 (.int .i64 0) 1 8 Tryz.underlying45 hi hz0 hz1 hz2 rfl (by decide) v xs.length (xs.map iv) h.1 ⟨b,off,none⟩ ys.length cap (ys.map iv) (by simp)
   (fun j u hu=>by
    have hj:j<ys.length:=by
     have:=(List.getElem?_eq_some_iff.1 hu).1;simpa using this
    rw[getD_map ys j hj]at hu;rw[Go.WideShapes.add_plain,hcell j hj];exact hu) (oneCell_iv ys) (by unfold maxLen;omega) (by omega) hb
  exact⟨v',w',hrun,⟨by rw[List.length_append,List.map_append];exact h2,hfa⟩,h3,h5⟩
theorem wp_app {o:Oper} {a:Act} {K:Act→World→Prop} {Q:Exit→Act→World→Prop} (w:World) (s x:Operand)
  (ho:o.op=.call {callee:=.builtin .append,args:=#[s,x],argTypes:=#[45,45]}) (base B:Nat) (v src:Value) (xs ys:List Int) (hs:a.eval s=v) (hx:a.eval x=src)
  (h:Own w base v xs) (hy:IsL w B src ys) (hl:xs.length+ys.length≤1000000) (hb:base≤w.heap.size)
  (hk:∀v' w',Own w' base v' (xs++ys)→w.grownBy w' v.ownBlock→(v'.ownBlock=v.ownBlock∨v'.ownBlock=some w.heap.size)→K (a.put o.dst v') w'):o.wp Tryz.prog a w K Q:=by
 obtain⟨v',w',hrun,h2,h3,h4⟩:=run_app w base B o.type v src xs ys h hy hl hb;unfold Oper.wp execOp;simp only[ho,resolve,invoke,builtin,Sem.run_bind,Sem.run_pure,Result.andThen_ok,List.map_toArray,List.map_cons,List.map_nil,hs,hx,hrun];exact hk v' w' h2 h3 h4
theorem wpList_app {ops:Array Oper} {rest:List Oper} {o:Oper} {a:Act} {Q:Exit→Act→World→Prop} (w:World) (hgd:o.guard=none) (s x:Operand)
  (ho:o.op=.call {callee:=.builtin .append,args:=#[s,x],argTypes:=#[45,45]}) (base B:Nat) (v src:Value) (xs ys:List Int) (hs:a.eval s=v) (hx:a.eval x=src)
  (h:Own w base v xs) (hy:IsL w B src ys) (hl:xs.length+ys.length≤1000000) (hb:base≤w.heap.size)
  (hk:∀v' w',Own w' base v' (xs++ys)→w.grownBy w' v.ownBlock→(v'.ownBlock=v.ownBlock∨v'.ownBlock=some w.heap.size)→wpList Tryz.prog ops Q rest (a.put o.dst v') w'):wpList Tryz.prog ops Q (o::rest) a w:=
 wpList_plain hgd fun _ hK=>wp_app w s x ho base B v src xs ys hs hx h hy hl hb fun v' w' h2 h3 h4=>hK _ _ (hk v' w' h2 h3 h4)
def Inc (l:List Int):Prop:=l.Pairwise (· < ·)
instance (l:List Int):Decidable (Inc l):=inferInstanceAs (Decidable (List.Pairwise _ l))
def put:List Int→Int→List Int
 | [],n=>[n]
 | x::r,n=>if x<n then x::put r n else if x=n then x::r else n::x::r
def mk (l:List Int):List Int:=l.foldl put []
theorem inc_cons {x:Int} {r:List Int}:Inc (x::r)↔(∀y∈r,x<y)∧Inc r:=List.pairwise_cons
theorem inc_nil:Inc []:=List.Pairwise.nil
theorem inc_ext:∀ {a b:List Int},Inc a→Inc b→(∀x,x∈a↔x∈b)→a=b
 | [],[],_,_,_=>rfl
 | [],y::s,_,_,h=>absurd ((h y).2 (by simp)) (by simp)
 | x::r,[],_,_,h=>absurd ((h x).1 (by simp)) (by simp)
 | x::r,y::s,ha,hb,h=>by
  obtain⟨h1,h2⟩:=inc_cons.1 ha;obtain⟨h3,h4⟩:=inc_cons.1 hb;have hxy:x=y:=by
   have e1:=(h x).1 (by simp);have e2:=(h y).2 (by simp);rcases List.mem_cons.1 e1 with e1 | e1
   ·exact e1
   ·rcases List.mem_cons.1 e2 with e2 | e2
    ·exact e2.symm
    ·have:=h1 y e2;have:=h3 x e1;omega
  subst hxy;rw[inc_ext h2 h4 (fun z=>?_)];constructor
  ·intro hz;rcases List.mem_cons.1 ((h z).1 (by simp[hz]))with e | e
   ·have:=h1 z hz;omega
   ·exact e
  ·intro hz;rcases List.mem_cons.1 ((h z).2 (by simp[hz]))with e | e
   ·have:=h3 z hz;omega
   ·exact e
theorem mem_put (s:List Int) (n x:Int):x∈put s n↔x∈s∨x=n:=by
 induction s with
 | nil=>simp[put]
 | cons y r ih=>
  rw[put]
  split
  ·rw[List.mem_cons,List.mem_cons,ih,or_assoc]
  ·split
   ·rename_i h;subst h;simp;intro h;exact Or.inl h
   ·rw[List.mem_cons,or_comm]
theorem inc_put {s:List Int} (n:Int) (h:Inc s):Inc (put s n):=by
 induction s with
 | nil=>exact List.pairwise_singleton _ _
 | cons y r ih=>
  obtain⟨h1,h2⟩:=inc_cons.1 h;rw[put]
  split
  ·rename_i hy
   refine inc_cons.2 ⟨fun z hz=>?_,ih h2⟩;rcases(mem_put r n z).1 hz with hz | hz
   ·exact h1 z hz
   ·omega
  ·split
   ·exact h
   ·refine inc_cons.2 ⟨fun z hz=>?_,h⟩;rcases List.mem_cons.1 hz with hz | hz
    ·omega
    ·have:=h1 z hz;omega
theorem foldl_put (l:List Int):∀s:List Int,Inc s→Inc (l.foldl put s)∧∀x,x∈l.foldl put s↔x∈s∨x∈l:=by
 induction l with
 | nil=>intro s h;exact⟨h,fun x=>by simp⟩
 | cons y r ih=>
  intro s h;obtain⟨h1,h2⟩:=ih (put s y) (inc_put y h);refine⟨h1,fun x=>?_⟩;rw[List.foldl_cons,h2,mem_put,List.mem_cons,or_assoc]
theorem inc_mk (l:List Int):Inc (mk l):=(foldl_put l [] inc_nil).1
theorem mem_mk (l:List Int) (x:Int):x∈mk l↔x∈l:=by rw[mk,(foldl_put l [] inc_nil).2];simp
theorem mk_snoc (l:List Int) (x:Int):mk (l++[x])=put (mk l) x:=by rw[mk,List.foldl_append];rfl
theorem put_len_new (s:List Int) (n:Int) (h:n ∉ s):(put s n).length=s.length+1:=by
 induction s with
 | nil=>rfl
 | cons y r ih=>
  rw[put]
  split
  ·rw[List.length_cons,ih (fun hh=>h (by simp[hh])),List.length_cons]
  ·split
   ·rename_i hy;exact absurd hy.symm (fun e=>h (by simp[e]))
   ·rfl
theorem put_old {s:List Int} (hs:Inc s) (n:Int) (h:n∈s):put s n=s:=inc_ext (inc_put n hs) hs fun x=>by
 rw[mem_put];exact⟨fun k=>k.elim id (fun e=>e▸h),Or.inl⟩
theorem mk_len_snoc (l:List Int) (x:Int):(mk (l++[x])).length=(mk l).length+(if x∈l then 0 else 1):=by
 rw[mk_snoc];by_cases h:x∈l
 ·rw[put_old (inc_mk l) x ((mem_mk l x).2 h),if_pos h,Nat.add_zero]
 ·rw[put_len_new _ _ (fun k=>h ((mem_mk l x).1 k)),if_neg h]
theorem mk_len_le (l:List Int):(mk l).length≤l.length:=by
 refine snoc_ind (p:=fun l=>(mk l).length≤l.length) (nR _) ?_ l;intro l c ih;rw[mk_len_snoc,List.length_append,List.length_cons,List.length_nil]
 split <;> omega
def Tw (l:List Int) (t:Int):Prop:=
 (t= -1∧∀i,i<l.length→l.getD i 0 ∉ l.take i)∨(∃i:Nat,i<l.length∧t=i∧l.getD i 0∈l.take i∧∀j,j<i→l.getD j 0 ∉ l.take j)
theorem mk_len_all (l:List Int):(mk l).length=l.length↔∀i,i<l.length→l.getD i 0 ∉ l.take i:=by
 refine snoc_ind (p:=fun l=>(mk l).length=l.length↔∀i,i<l.length→l.getD i 0 ∉ l.take i) ?_ ?_ l
 ·simp[mk]
 ·intro l c ih;have hle:=mk_len_le l;have hlast:(l++[c]).getD l.length 0=c:=by simp
  have htake:(l++[c]).take l.length=l:=by simp
  rw[mk_len_snoc,List.length_append,List.length_cons,List.length_nil];constructor
  ·intro h i hi;by_cases hc:c∈l
   ·rw[if_pos hc]at h;omega
   ·rw[if_neg hc]at h;by_cases hil:i<l.length
    ·have:=ih.1 (by omega) i hil;rw[List.take_append_of_le_length (by omega)];rw[List.getD_eq_getElem?_getD,List.getElem?_append_left hil,←List.getD_eq_getElem?_getD];exact this
    ·obtain rfl:i=l.length:=by omega
     rw[hlast,htake];exact hc
  ·intro h;have hc:c ∉ l:=by
    have:=h l.length (by omega)
    rwa [hlast,htake]at this
   have:=ih.2 (fun i hi=>by
    have:=h i (by omega);rw[List.take_append_of_le_length (by omega),List.getD_eq_getElem?_getD,List.getElem?_append_left hi,←List.getD_eq_getElem?_getD]at this;exact this)
   rw[if_neg hc];omega
theorem Tw.len {l:List Int} {t:Int} (h:Tw l t):decide ((mk l).length=l.length)=decide (t= -1):=by
 rw[decide_eq_decide,mk_len_all];rcases h with ⟨rfl,h⟩ | ⟨i,hi,rfl,h1,h2⟩
 ·exact⟨fun _=>rfl,fun _=>h⟩
 ·exact⟨fun k=>absurd h1 (k i hi),fun k=>by omega⟩
structure Made (X W:World) (H:Nat):Prop where
 own:Own W X.heap.size (.slice (some ⟨H,0,none⟩) 0 0) []
 below:Below X.heap.size X W
 size:X.heap.size≤W.heap.size
theorem IsL.one {W:World} {H:Nat} {x:Int} (hx:fits x) (h:W.heap[H]? =some (Obj.cells #[.int .i64 x] 3)):IsL W (H+1) (.slice (some ⟨H,0,none⟩) 1 1) [x]:=by
 refine⟨⟨_,1,rfl,by simp,fun _=>⟨H,0,rfl,by omega,fun i hi=>?_⟩⟩,fun y hy=>by simp at hy;rw[hy];exact hx,by simp⟩;have:i=0:=by simpa using hi
 subst this;rw[cell_of_row _ H _ _ _ (0,0) h];rfl
theorem Own.grow' {S:Nat} {X W W':World} {v:Value} {xs:List Int} (h:Own W S v xs) (hb:Below S X W) (hs:S≤W.heap.size) (hg:W.grownBy W' v.ownBlock):Below S X W':=hb.grown hg hs fun k hk=>(h.lt k hk).1
end Go.Proofs.YtacjonncakhhmaaGreat.Two
