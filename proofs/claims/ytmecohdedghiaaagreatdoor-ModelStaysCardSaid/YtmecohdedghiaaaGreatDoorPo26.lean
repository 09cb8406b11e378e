/- Owners: what is taken, given, owned, lacked, as the program tells it. -/
import Derived.Test.YtmecohdedghiaaaGreatDoorPo25
import Derived.Deep.MidRow
set_option maxRecDepth 100000
set_option maxHeartbeats 8000000
open Go.Proofs.Tryz
namespace Go.Proofs.YtmecohdedghiaaaGreatDoor
open Go.RowKit
def Row (V:World) (D:Nat) (l:List Value):Prop:=D<V.heap.size∧∀i v,l[i]? =some v→V.cell? ⟨D,i,none⟩=some v∧V.frozen? ⟨D,i,none⟩=false
theorem Row.g {V:World} {D:Nat} {l:List Value} (h:Row V D l) (i:Nat) {v:Value} (e:l[i]? =some v):V.cell? ⟨D,i,none⟩=some v:=(h.2 i v e).1
theorem Row.z {V:World} {D:Nat} {l:List Value} (h:Row V D l) (i:Nat) {v:Value} (e:l[i]? =some v):V.frozen? ⟨D,i,none⟩=false:=(h.2 i v e).2
theorem Row.new (V:World) (t:TypeId) (l:List Value) (cs:Array Value) (e:cs=l.toArray):Row (V.alloc (.cells cs t)) V.heap.size l:=by
 subst e;exact⟨by simp,fun i _ h=>⟨by rw[ah,List.getElem?_toArray];exact h,by simp⟩⟩
theorem Row.n1 {w w0:World} {cs:Array Value} {t:TypeId} (h:w0=w.alloc (.cells cs t)) (l:List Value) (e:cs=l.toArray):Row w0 w.heap.size l:=by rw[h];exact Row.new _ _ _ _ e
theorem Row.g3 {V:World} {D:Nat} {a0 a1 a2:Value} {t:List Value} (h:Row V D (a0::a1::a2::t)):V.cell? ⟨D,0,none⟩=some a0∧V.cell? ⟨D,1,none⟩=some a1∧V.cell? ⟨D,2,none⟩=some a2:=⟨h.g 0 rfl,h.g 1 rfl,h.g 2 rfl⟩
theorem Row.g4 {V:World} {D:Nat} {a0 a1 a2 a3:Value} {t:List Value} (h:Row V D (a0::a1::a2::a3::t)):V.cell? ⟨D,0,none⟩=some a0∧V.cell? ⟨D,1,none⟩=some a1∧V.cell? ⟨D,2,none⟩=some a2∧V.cell? ⟨D,3,none⟩=some a3:=⟨h.g 0 rfl,h.g 1 rfl,h.g 2 rfl,h.g 3 rfl⟩
theorem Row.g5 {V:World} {D:Nat} {a0 a1 a2 a3 a4:Value} {t:List Value} (h:Row V D (a0::a1::a2::a3::a4::t)):V.cell? ⟨D,0,none⟩=some a0∧V.cell? ⟨D,1,none⟩=some a1∧V.cell? ⟨D,2,none⟩=some a2∧V.cell? ⟨D,3,none⟩=some a3∧V.cell? ⟨D,4,none⟩=some a4:=⟨h.g 0 rfl,h.g 1 rfl,h.g 2 rfl,h.g 3 rfl,h.g 4 rfl⟩
theorem Row.g6 {V:World} {D:Nat} {a0 a1 a2 a3 a4 a5:Value} {t:List Value} (h:Row V D (a0::a1::a2::a3::a4::a5::t)):V.cell? ⟨D,0,none⟩=some a0∧V.cell? ⟨D,1,none⟩=some a1∧V.cell? ⟨D,2,none⟩=some a2∧V.cell? ⟨D,3,none⟩=some a3∧V.cell? ⟨D,4,none⟩=some a4∧V.cell? ⟨D,5,none⟩=some a5:=⟨h.g 0 rfl,h.g 1 rfl,h.g 2 rfl,h.g 3 rfl,h.g 4 rfl,h.g 5 rfl⟩
theorem Row.g7 {V:World} {D:Nat} {a0 a1 a2 a3 a4 a5 a6:Value} {t:List Value} (h:Row V D (a0::a1::a2::a3::a4::a5::a6::t)):V.cell? ⟨D,0,none⟩=some a0∧V.cell? ⟨D,1,none⟩=some a1∧V.cell? ⟨D,2,none⟩=some a2∧V.cell? ⟨D,3,none⟩=some a3∧V.cell? ⟨D,4,none⟩=some a4∧V.cell? ⟨D,5,none⟩=some a5∧V.cell? ⟨D,6,none⟩=some a6:=⟨h.g 0 rfl,h.g 1 rfl,h.g 2 rfl,h.g 3 rfl,h.g 4 rfl,h.g 5 rfl,h.g 6 rfl⟩
theorem Row.g8 {V:World} {D:Nat} {a0 a1 a2 a3 a4 a5 a6 a7:Value} {t:List Value} (h:Row V D (a0::a1::a2::a3::a4::a5::a6::a7::t)):V.cell? ⟨D,0,none⟩=some a0∧V.cell? ⟨D,1,none⟩=some a1∧V.cell? ⟨D,2,none⟩=some a2∧V.cell? ⟨D,3,none⟩=some a3∧V.cell? ⟨D,4,none⟩=some a4∧V.cell? ⟨D,5,none⟩=some a5∧V.cell? ⟨D,6,none⟩=some a6∧V.cell? ⟨D,7,none⟩=some a7:=⟨h.g 0 rfl,h.g 1 rfl,h.g 2 rfl,h.g 3 rfl,h.g 4 rfl,h.g 5 rfl,h.g 6 rfl,h.g 7 rfl⟩
theorem Row.g9 {V:World} {D:Nat} {a0 a1 a2 a3 a4 a5 a6 a7 a8:Value} {t:List Value} (h:Row V D (a0::a1::a2::a3::a4::a5::a6::a7::a8::t)):V.cell? ⟨D,0,none⟩=some a0∧V.cell? ⟨D,1,none⟩=some a1∧V.cell? ⟨D,2,none⟩=some a2∧V.cell? ⟨D,3,none⟩=some a3∧V.cell? ⟨D,4,none⟩=some a4∧V.cell? ⟨D,5,none⟩=some a5∧V.cell? ⟨D,6,none⟩=some a6∧V.cell? ⟨D,7,none⟩=some a7∧V.cell? ⟨D,8,none⟩=some a8:=⟨h.g 0 rfl,h.g 1 rfl,h.g 2 rfl,h.g 3 rfl,h.g 4 rfl,h.g 5 rfl,h.g 6 rfl,h.g 7 rfl,h.g 8 rfl⟩
theorem Row.g10 {V:World} {D:Nat} {a0 a1 a2 a3 a4 a5 a6 a7 a8 a9:Value} {t:List Value} (h:Row V D (a0::a1::a2::a3::a4::a5::a6::a7::a8::a9::t)):V.cell? ⟨D,0,none⟩=some a0∧V.cell? ⟨D,1,none⟩=some a1∧V.cell? ⟨D,2,none⟩=some a2∧V.cell? ⟨D,3,none⟩=some a3∧V.cell? ⟨D,4,none⟩=some a4∧V.cell? ⟨D,5,none⟩=some a5∧V.cell? ⟨D,6,none⟩=some a6∧V.cell? ⟨D,7,none⟩=some a7∧V.cell? ⟨D,8,none⟩=some a8∧V.cell? ⟨D,9,none⟩=some a9:=⟨h.g 0 rfl,h.g 1 rfl,h.g 2 rfl,h.g 3 rfl,h.g 4 rfl,h.g 5 rfl,h.g 6 rfl,h.g 7 rfl,h.g 8 rfl,h.g 9 rfl⟩
theorem Row.g11 {V:World} {D:Nat} {a0 a1 a2 a3 a4 a5 a6 a7 a8 a9 a10:Value} {t:List Value} (h:Row V D (a0::a1::a2::a3::a4::a5::a6::a7::a8::a9::a10::t)):V.cell? ⟨D,0,none⟩=some a0∧V.cell? ⟨D,1,none⟩=some a1∧V.cell? ⟨D,2,none⟩=some a2∧V.cell? ⟨D,3,none⟩=some a3∧V.cell? ⟨D,4,none⟩=some a4∧V.cell? ⟨D,5,none⟩=some a5∧V.cell? ⟨D,6,none⟩=some a6∧V.cell? ⟨D,7,none⟩=some a7∧V.cell? ⟨D,8,none⟩=some a8∧V.cell? ⟨D,9,none⟩=some a9∧V.cell? ⟨D,10,none⟩=some a10:=⟨h.g 0 rfl,h.g 1 rfl,h.g 2 rfl,h.g 3 rfl,h.g 4 rfl,h.g 5 rfl,h.g 6 rfl,h.g 7 rfl,h.g 8 rfl,h.g 9 rfl,h.g 10 rfl⟩
theorem Row.g12 {V:World} {D:Nat} {a0 a1 a2 a3 a4 a5 a6 a7 a8 a9 a10 a11:Value} {t:List Value} (h:Row V D (a0::a1::a2::a3::a4::a5::a6::a7::a8::a9::a10::a11::t)):V.cell? ⟨D,0,none⟩=some a0∧V.cell? ⟨D,1,none⟩=some a1∧V.cell? ⟨D,2,none⟩=some a2∧V.cell? ⟨D,3,none⟩=some a3∧V.cell? ⟨D,4,none⟩=some a4∧V.cell? ⟨D,5,none⟩=some a5∧V.cell? ⟨D,6,none⟩=some a6∧V.cell? ⟨D,7,none⟩=some a7∧V.cell? ⟨D,8,none⟩=some a8∧V.cell? ⟨D,9,none⟩=some a9∧V.cell? ⟨D,10,none⟩=some a10∧V.cell? ⟨D,11,none⟩=some a11:=⟨h.g 0 rfl,h.g 1 rfl,h.g 2 rfl,h.g 3 rfl,h.g 4 rfl,h.g 5 rfl,h.g 6 rfl,h.g 7 rfl,h.g 8 rfl,h.g 9 rfl,h.g 10 rfl,h.g 11 rfl⟩
theorem Row.set {V:World} {D:Nat} {l:List Value} (h:Row V D l) (i:Nat) (u:Value):Row (V.setCell ⟨D,i,none⟩ u) D (l.set i u):=by
 refine⟨by simpa using h.1,fun j v hj=>?_⟩;have CI:j<l.length:=by
  have:=(List.getElem?_eq_some_iff.1 hj).1
  rwa [List.length_set]at this
 have hold:=h.2 j _ (List.getElem?_eq_getElem CI);refine⟨?_,sF hold.2⟩;by_cases Im:i=j
 ·subst Im;rw[List.getElem?_set_self CI]at hj;injection hj with hj
  subst hj;exact ag hold.1
 ·rw[List.getElem?_set_ne Im]at hj;exact sO (h.2 j v hj).1 (aN (.inr Im))
theorem Row.off {V:World} {D G o:Nat} {l:List Value} (h:Row V G l) (CJ:D≠G) (u:Value):Row (V.setCell ⟨D,o,none⟩ u) G l:=
 ⟨by simpa using h.1,fun i _ e=>⟨sO (h.2 i _ e).1 (aN (.inl CJ)),sF (h.2 i _ e).2⟩⟩
structure But (D:Nat) (w w':World):Prop where
 os:w'.os=w.os
 tape:w'.tape=w.tape
 output:w'.output=w.output
 size:w.heap.size≤w'.heap.size
 block:∀k,k<w.heap.size→k≠D→w'.heap[k]? =w.heap[k]?
theorem But.refl (D:Nat) (w:World):But D w w:=⟨rfl,rfl,rfl,nR _,fun _ _ _=>rfl⟩
theorem But.trans {D:Nat} {a b c:World} (h:But D a b) (k:But D b c):But D a c:=
 ⟨k.os.trans h.os,k.tape.trans h.tape,k.output.trans h.output,Nat.le_trans h.size k.size,fun i hi hn=>(k.block i (nL hi h.size) hn).trans (h.block i hi hn)⟩
theorem But.of {D:Nat} {w w':World} (h:Below w.heap.size w w'):But D w w':=⟨h.os,h.tape,h.output,h.size,fun k hk _=>h.block k hk⟩
theorem But.st {D o:Nat} {w w':World} (h:But D w w') (u:Value):But D w (w'.setCell ⟨D,o,none⟩ u):=
 ⟨h.os,h.tape,h.output,by simpa [World.setCell]using h.size,fun k hk hn=>(Below.heap_setCell _ _ _ _ hn).trans (h.block k hk hn)⟩
theorem But.call {D:Nat} {a b c:World} (h:But D a b) (k:Below b.heap.size b c):But D a c:=h.trans (.of k)
theorem But.below {D:Nat} {w w':World} (h:But D w w') (hD:D≤w.heap.size):Below D w w':=⟨h.os,h.tape,h.output,h.size,fun k hk=>h.block k (by omega) (by omega)⟩
theorem But.all {D B:Nat} {w w':World} (h:But D w w') (hB:B≤w.heap.size) (hD:B≤D):Below B w w':=⟨h.os,h.tape,h.output,h.size,fun k hk=>h.block k (by omega) (by omega)⟩
theorem But.cell {D:Nat} {w w':World} (h:But D w w') {p:Addr} {v:Value} (hp:p.block≠D) (e:w.cell? p=some v):w'.cell? p=some v:=
 (World.cell?_of_block (w:=w) (h.block p.block (wB w p e) hp)).trans e
theorem But.row {D G:Nat} {w w':World} {l:List Value} (h:But D w w') (hr:Row w G l) (CJ:G≠D):Row w' G l:=
 ⟨nL hr.1 h.size,fun i _ e=>⟨h.cell CJ (hr.g i e),(World.frozen?_of_block (w:=w) (h.block G hr.1 CJ)).trans (hr.z i e)⟩⟩
theorem Row.below {V V':World} {D:Nat} {l:List Value} (h:Row V D l) (hb:Below V.heap.size V V'):Row V' D l:=(But.of (D:=V.heap.size) hb).row h (Nat.ne_of_lt h.1)
theorem Row.low {V V':World} {B D:Nat} {l:List Value} (h:Row V D l) (hb:Below B V V') (hD:D<B):Row V' D l:=
 ⟨nL h.1 hb.size,fun i _ e=>⟨(hb.cell (p:=⟨D,i,none⟩) hD).trans (h.g i e),(hb.frozen (p:=⟨D,i,none⟩) hD).trans (h.z i e)⟩⟩
theorem But.fill (G:Nat):∀(l:List Value) (V:World) (o:Nat),But G V (V.setCells G o l)
 |[],V,_=>But.refl G V
 |x::l,V,o=>((But.refl G V).st x).trans (But.fill G l (V.setCell ⟨G,o,none⟩ x) (o+1))
theorem am (G:Nat):∀(l:List Value) (V:World) (o:Nat),(V.setCells G o l).heap.size=V.heap.size
 |[],_,_=>rfl
 |x::l,V,o=>(am G l (V.setCell ⟨G,o,none⟩ x) (o+1)).trans (by simp)
theorem Below.fill {B G:Nat} {w:World} (hB:B≤G):∀(l:List Value) (V:World) (o:Nat),Below B w V→Below B w (V.setCells G o l)
 |[],_,_,h=>h
 |x::l,V,o,h=>Below.fill hB l (V.setCell ⟨G,o,none⟩ x) (o+1) (h.setCell (p:=⟨G,o,none⟩) hB x)
theorem Row.fill' {G:Nat}:∀(b' a b:List Value) (V:World),Row V G (a++b)→b'.length=b.length→Row (V.setCells G a.length b') G (a++b')
 |[],a,b,V,h,e=>by
  obtain rfl:b=[]:=List.eq_nil_of_length_eq_zero e.symm;exact h
 |x::b',a,b,V,h,e=>by
  cases b with
  |nil=>cases e
  |cons y b=>
   have q:=h.set a.length x;rw[List.set_append_right _ _ (nR _),Nat.sub_self,List.set_cons_zero,show a++x::b=(a++[x])++b by simp]at q;have k:=Row.fill' b' (a++[x]) b _ q (by simpa using e);rw[List.length_append,show(a++[x])++b'=a++x::b' by simp]at k;exact k
theorem Row.fill {G:Nat} {V:World} {l:List Value} (h:Row V G l) (l':List Value) (e:l'.length=l.length):Row (V.setCells G 0 l') G l':=Row.fill' l' [] l V h e
theorem Row.there {V:World} {D n:Nat} {l:List Value} (h:Row V D l) (e:n=l.length):V.there D 0 n:=fun j hj=>by
 have q:=h.2 j _ (List.getElem?_eq_getElem (by omega));rw[Nat.zero_add];exact⟨by rw[q.1];rfl,q.2⟩
theorem Row.offs {V:World} {D G o:Nat} {l l':List Value} (h:Row V D l) (CJ:G≠D):Row (V.setCells G o l') D l:=(But.fill G l' V o).row h CJ.symm
structure Rs where
 e:Int
 i:Int
 n:Int
 u:Int
 A:Option Addr
 c:Nat
 xs:List Ch
abbrev Rs.v (x:Rs):Value:=.agg #[.int .i64 x.e,.int .i64 x.i,.int .i64 x.n,.int .i64 x.u,.slice x.A x.xs.length x.c]
def Rs.ab (x:Rs):Int×Int×Int×Int×List Ch:=(x.e,x.i,x.n,x.u,x.xs)
structure Rs.In (w:World) (B:Nat) (x:Rs):Prop where
 l:KC.IsL w B (.slice x.A x.xs.length x.c) x.xs
theorem Rs.In.below {w w':World} {B:Nat} {x:Rs} (h:x.In w B) (hb:Below B w w'):x.In w' B:=⟨h.l.below hb⟩
theorem Rs.In.more {w:World} {B B':Nat} {x:Rs} (h:x.In w B) (hB:B≤B'):x.In w B':=⟨h.l.more hB⟩
theorem Rs.In.then {w w':World} {x:Rs} (h:x.In w w.heap.size) (hb:Below w.heap.size w w'):x.In w' w'.heap.size:=(h.below hb).more hb.size
def rs0:Rs:=⟨0,0,0,0,none,0,[]⟩
abbrev Ct (m:Md) (who:Int) (r:Rq) (x:Rs):List Value:=[.slice m.d.bA m.d.bn m.d.bc,.slice m.d.pA m.d.pn m.d.pc,.slice m.d.rA m.d.rn m.d.rc,.int .i64 m.d.arms,.slice m.s.cA m.s.cl.length m.s.cc,.slice m.s.lA m.s.ll.length m.s.lc,.slice m.s.tA m.s.tl.length m.s.tc,.int .i64 m.s.st,.int .i64 m.s.inn,.int .i64 m.s.out,.slice m.oA m.o.length m.oc,.int .i64 who,.int .i64 r.k,.slice r.iA r.il.length r.ic,.int .i64 r.a,.int .i64 r.b,.int .i64 r.u,.int .u64 r.v,.int .i64 x.e,.int .i64 x.i,.int .i64 x.n,.int .i64 x.u,.slice x.A x.xs.length x.c]
def OffL (G:Nat) (A:Option Addr) (n:Nat):Prop:=n=0∨∀a,A=some a→a.block≠G
theorem Lk.IsL.offL {P:Program} {α:Type} {K:Lk P α} {w:World} {B G:Nat} {A:Option Addr} {n c:Nat} {xs:List α} (h:K.IsL w B (.slice A n c) xs) (hG:B≤G):OffL G A n:=by
 obtain⟨⟨A',c',hv,hc,hA⟩,hf,hl⟩:=h;injection hv with e1 e2 e3
 by_cases h0:n=0
 ·exact .inl h0
 ·obtain⟨b,off,e,hbB,_⟩:=hA (by omega);refine .inr fun a ha=>?_;rw[e1,e]at ha
  cases ha
  show b≠G;omega
theorem Lk.IsL.nt {P:Program} {α:Type} {K:Lk P α} {w w':World} {B D:Nat} {A:Option Addr} {n c:Nat} {xs:List α} (h:K.IsL w B (.slice A n c) xs) (ho:OffL D A n) (hb:But D w w'):K.IsL w' B (.slice A n c) xs:=by
 obtain⟨⟨A',c',hv,hc,hA⟩,hf,hl⟩:=h;refine⟨⟨A',c',hv,hc,fun h0=>?_⟩,hf,hl⟩;obtain⟨b,off,e,hbB,CD⟩:=hA h0;injection hv with e1 e2 e3
 rcases ho with h|h
 ·omega
 ·exact⟨b,off,e,hbB,fun i hi j u hu=>hb.cell (h ⟨b,off,none⟩ (by rw[e1,e])) (CD i hi j u hu)⟩
def Dk.Off (d:Dk) (G:Nat):Prop:=OffL G d.bA d.bn∧OffL G d.pA d.pn∧OffL G d.rA d.rn∧∀q∈d.pl,OffL G q.sA q.sn
def Stk.Off (s:Stk) (G:Nat):Prop:=OffL G s.cA s.cl.length∧OffL G s.lA s.ll.length∧OffL G s.tA s.tl.length∧∀q∈s.ll,OffL G q.A q.xs.length
def Md.Off (m:Md) (G:Nat):Prop:=m.d.Off G∧m.s.Off G∧OffL G m.oA m.o.length
theorem OffL.far {G B:Nat} {A:Option Addr} {n:Nat} (h:∀a,A=some a→B≤a.block) (hG:G<B):OffL G A n:=.inr fun a ha=>by have:=h a ha;omega
theorem Dk.Far.off {d:Dk} {B G:Nat} (h:d.Far B) (hG:G<B):d.Off G:=⟨.far h.1 hG,.far h.2.1 hG,.far h.2.2.1 hG,fun q hq=>.far (h.2.2.2 q hq) hG⟩
theorem Stk.Far.off {s:Stk} {B G:Nat} (h:s.Far B) (hG:G<B):s.Off G:=⟨.far h.1 hG,.far h.2.1 hG,.far h.2.2.1 hG,fun q hq=>.far (h.2.2.2 q hq) hG⟩
theorem Md.Far.off {m:Md} {B G:Nat} (h:m.Far B) (hG:G<B):m.Off G:=⟨h.d.off hG,h.s.off hG,.far h.o hG⟩
theorem Dk.In.off {w:World} {B G:Nat} {d:Dk} (h:d.In w B) (hG:B≤G):d.Off G:=⟨h.b.offL hG,h.p.offL hG,h.r.offL hG,fun q hq=>(h.s q hq).offL hG⟩
theorem Stk.In.off {w:World} {B G:Nat} {s:Stk} (h:s.In w B) (hG:B≤G):s.Off G:=⟨h.c.offL hG,h.l.offL hG,h.t.offL hG,fun q hq=>(h.x q hq).offL hG⟩
theorem Md.In.off {w:World} {B G:Nat} {m:Md} (h:m.In w B) (hG:B≤G):m.Off G:=⟨h.d.off hG,h.s.off hG,h.o.offL hG⟩
theorem Dk.In.nt {w w':World} {B D:Nat} {d:Dk} (h:d.In w B) (ho:d.Off D) (hb:But D w w'):d.In w' B:=⟨h.b.nt ho.1 hb,h.p.nt ho.2.1 hb,h.r.nt ho.2.2.1 hb,fun q hq=>(h.s q hq).nt (ho.2.2.2 q hq) hb,h.a⟩
theorem Stk.In.nt {w w':World} {B D:Nat} {s:Stk} (h:s.In w B) (ho:s.Off D) (hb:But D w w'):s.In w' B:=⟨h.c.nt ho.1 hb,h.l.nt ho.2.1 hb,h.t.nt ho.2.2.1 hb,fun q hq=>(h.x q hq).nt (ho.2.2.2 q hq) hb,h.f⟩
theorem Md.In.nt {w w':World} {B D:Nat} {m:Md} (h:m.In w B) (ho:m.Off D) (hb:But D w w'):m.In w' B:=⟨h.d.nt ho.1 hb,h.s.nt ho.2.1 hb,h.o.nt ho.2.2 hb⟩
structure Tu (w:World) (D:Nat) (m:Md) (who:Int) (r:Rq) (x:Rs):Prop where
 row:Row w D (Ct m who r x)
 im:m.In w w.heap.size
 off:m.Off D
 ir:r.In w D
 ix:KC.IsL w w.heap.size (.slice x.A x.xs.length x.c) x.xs
 ox:OffL D x.A x.xs.length
 fw:ae who
theorem Tu.then {w w':World} {D:Nat} {m:Md} {who:Int} {r:Rq} {x:Rs} (h:Tu w D m who r x) (hb:Below w.heap.size w w'):Tu w' D m who r x:=
 ⟨h.row.below hb,h.im.then hb,h.off,h.ir.below (hb.mono (Nat.le_of_lt h.row.1)),h.ix.then hb,h.ox,h.fw⟩
theorem Tu.lt {w:World} {D:Nat} {m:Md} {who:Int} {r:Rq} {x:Rs} (h:Tu w D m who r x):D<w.heap.size:=h.row.1
theorem But.size_st {w:World} {D o:Nat} (u:Value):(w.setCell ⟨D,o,none⟩ u).heap.size=w.heap.size:=by simp
structure Aft (w w':World) (D:Nat) (m m':Md) (who:Int) (r:Rq) (x x':Rs):Prop where
 tu:Tu w' D m' who r x'
 but:But D w w'
 keep:∀G,G<w.heap.size→m.Off G→OffL G x.A x.xs.length→m'.Off G∧OffL G x'.A x'.xs.length
 dd:m'.d=m.d
section
variable {w w' w'':World} {D:Nat} {m m' m'':Md} {who:Int} {r:Rq} {x x' x'':Rs}
theorem Aft.of (h:Tu w D m who r x) (hb:Below w.heap.size w w'):Aft w w' D m m who r x x:=⟨h.then hb,.of hb,fun _ _ h k=>⟨h,k⟩,rfl⟩
theorem Aft.refl (h:Tu w D m who r x):Aft w w D m m who r x x:=.of h (bR _ _)
theorem Aft.trans (h:Aft w w' D m m' who r x x') (k:Aft w' w'' D m' m'' who r x' x''):Aft w w'' D m m'' who r x x'':=
 ⟨k.tu,h.but.trans k.but,fun G hG hm hx=>have q:=h.keep G hG hm hx;k.keep G (nL hG h.but.size) q.1 q.2,k.dd.trans h.dd⟩
theorem Aft.call (h:Aft w w' D m m' who r x x') (hb:Below w'.heap.size w' w''):Aft w w'' D m m' who r x x':=h.trans (.of h.tu hb)
theorem Tu.other (h:Tu w D m who r x) {G o:Nat} (hG:D<G) (hm:m.Off G) (hx:OffL G x.A x.xs.length) (u:Value):Tu (w.setCell ⟨G,o,none⟩ u) D m who r x:=by
 have hb:But G w (w.setCell ⟨G,o,none⟩ u):=(But.refl _ _).st u;have hs:=But.size_st (w:=w) (D:=G) (o:=o) u;exact⟨h.row.off (Nat.ne_of_gt hG) u,by rw[hs];exact h.im.nt hm hb,h.off,h.ir.below ((bR D w).setCell (p:=⟨G,o,none⟩) (Nat.le_of_lt hG) u),by rw[hs];exact h.ix.nt hx hb,h.ox,h.fw⟩
theorem But.new {G o:Nat} (h:But D w w') (hG:w.heap.size≤G) (u:Value):But D w (w'.setCell ⟨G,o,none⟩ u):=
 ⟨h.os,h.tape,h.output,by rw[But.size_st];exact h.size,fun k hk hn=>(Below.heap_setCell _ _ _ _ (by show k≠G;omega)).trans (h.block k hk hn)⟩
theorem Aft.other (h:Aft w w' D m m' who r x x') {G o:Nat} (hG:w.heap.size≤G) (hm:m'.Off G) (hx:OffL G x'.A x'.xs.length) (hD:D<G) (u:Value):Aft w (w'.setCell ⟨G,o,none⟩ u) D m m' who r x x':=
 ⟨h.tu.other hD hm hx u,h.but.new hG u,h.keep,h.dd⟩
theorem Aft.al {o:Obj} (h:Aft (w.alloc o) w' D m m' who r x x'):Aft w w' D m m' who r x x':=
 ⟨h.tu,(But.of (bL (bR _ _) _)).trans h.but,fun G hG=>h.keep G (by simp;omega),h.dd⟩
theorem Aft.from (h:Aft w' w'' D m m' who r x x') (hb:Below w.heap.size w w'):Aft w w'' D m m' who r x x':=
 ⟨h.tu,(But.of hb).trans h.but,fun G hG=>h.keep G (nL hG hb.size),h.dd⟩
theorem Tu.put (h:Tu w D m who r x) (o:Nat) (u:Value):m.In (w.setCell ⟨D,o,none⟩ u) (w.setCell ⟨D,o,none⟩ u).heap.size∧r.In (w.setCell ⟨D,o,none⟩ u) D∧KC.IsL (w.setCell ⟨D,o,none⟩ u) (w.setCell ⟨D,o,none⟩ u).heap.size (.slice x.A x.xs.length x.c) x.xs:=by
 have hb:But D w (w.setCell ⟨D,o,none⟩ u):=(But.refl _ _).st u;rw[But.size_st];exact⟨h.im.nt h.off hb,h.ir.below ((bR D w).setCell (p:=⟨D,o,none⟩) (nR D) u),h.ix.nt h.ox hb⟩
theorem Tu.setI (h:Tu w D m who r x) (n:Int):Tu (w.setCell ⟨D,19,none⟩ (.int .i64 n)) D m who r {x with i:=n}:=
 have q:=h.put 19 (.int .i64 n);⟨h.row.set 19 _,q.1,h.off,q.2.1,q.2.2,h.ox,h.fw⟩
theorem Tu.setN (h:Tu w D m who r x) (n:Int):Tu (w.setCell ⟨D,20,none⟩ (.int .i64 n)) D m who r {x with n:=n}:=
 have q:=h.put 20 (.int .i64 n);⟨h.row.set 20 _,q.1,h.off,q.2.1,q.2.2,h.ox,h.fw⟩
theorem Tu.setU (h:Tu w D m who r x) (n:Int):Tu (w.setCell ⟨D,21,none⟩ (.int .i64 n)) D m who r {x with u:=n}:=
 have q:=h.put 21 (.int .i64 n);⟨h.row.set 21 _,q.1,h.off,q.2.1,q.2.2,h.ox,h.fw⟩
theorem Tu.setX (h:Tu w D m who r x) {A:Option Addr} {c:Nat} {xs:List Ch} (hx:KC.IsL w w.heap.size (.slice A xs.length c) xs) (ho:OffL D A xs.length):Tu (w.setCell ⟨D,22,none⟩ (.slice A xs.length c)) D m who r {x with A:=A,c:=c,xs:=xs}:=
 have q:=h.put 22 (.slice A xs.length c);⟨h.row.set 22 _,q.1,h.off,q.2.1,by rw[But.size_st];exact hx.nt ho ((But.refl _ _).st _),ho,h.fw⟩
theorem Tu.setO (h:Tu w D m who r x) {A:Option Addr} {c:Nat} {xs:List Int} (hx:KI.IsL w w.heap.size (.slice A xs.length c) xs) (ho:OffL D A xs.length):Tu (w.setCell ⟨D,10,none⟩ (.slice A xs.length c)) D {m with oA:=A,oc:=c,o:=xs} who r x:=
 have q:=h.put 10 (.slice A xs.length c);⟨h.row.set 10 _,⟨q.1.d,q.1.s,by rw[But.size_st];exact hx.nt ho ((But.refl _ _).st _)⟩,⟨h.off.1,h.off.2.1,ho⟩,q.2.1,q.2.2,h.ox,h.fw⟩
theorem Tu.setS (h:Tu w D m who r x) {s:Stk} (hs:s.In w w.heap.size) (ho:s.Off D):Tu ((((((w.setCell ⟨D,4,none⟩ (.slice s.cA s.cl.length s.cc)).setCell ⟨D,5,none⟩ (.slice s.lA s.ll.length s.lc)).setCell ⟨D,6,none⟩ (.slice s.tA s.tl.length s.tc)).setCell ⟨D,7,none⟩ (.int .i64 s.st)).setCell ⟨D,8,none⟩ (.int .i64 s.inn)).setCell ⟨D,9,none⟩ (.int .i64 s.out)) D {m with s:=s} who r x:=by
 have hb:But D w ((((((w.setCell ⟨D,4,none⟩ (.slice s.cA s.cl.length s.cc)).setCell ⟨D,5,none⟩ (.slice s.lA s.ll.length s.lc)).setCell ⟨D,6,none⟩ (.slice s.tA s.tl.length s.tc)).setCell ⟨D,7,none⟩ (.int .i64 s.st)).setCell ⟨D,8,none⟩ (.int .i64 s.inn)).setCell ⟨D,9,none⟩ (.int .i64 s.out)):=((((((But.refl _ _).st _).st _).st _).st _).st _).st _;have hd:Below D w ((((((w.setCell ⟨D,4,none⟩ (.slice s.cA s.cl.length s.cc)).setCell ⟨D,5,none⟩ (.slice s.lA s.ll.length s.lc)).setCell ⟨D,6,none⟩ (.slice s.tA s.tl.length s.tc)).setCell ⟨D,7,none⟩ (.int .i64 s.st)).setCell ⟨D,8,none⟩ (.int .i64 s.inn)).setCell ⟨D,9,none⟩ (.int .i64 s.out)):=hb.below (Nat.le_of_lt h.lt);have hz:((((((w.setCell ⟨D,4,none⟩ (.slice s.cA s.cl.length s.cc)).setCell ⟨D,5,none⟩ (.slice s.lA s.ll.length s.lc)).setCell ⟨D,6,none⟩ (.slice s.tA s.tl.length s.tc)).setCell ⟨D,7,none⟩ (.int .i64 s.st)).setCell ⟨D,8,none⟩ (.int .i64 s.inn)).setCell ⟨D,9,none⟩ (.int .i64 s.out)).heap.size=w.heap.size:=by simp
 exact⟨((((((h.row.set 4 _).set 5 _).set 6 _).set 7 _).set 8 _).set 9 _),by rw[hz];exact⟨h.im.d.nt h.off.1 hb,hs.nt ho hb,h.im.o.nt h.off.2.2 hb⟩,⟨h.off.1,ho,h.off.2.2⟩,h.ir.below hd,by rw[hz];exact h.ix.nt h.ox hb,h.ox,h.fw⟩
theorem Tu.oths (h:Tu w D m who r x) {G o:Nat} {l:List Value} (hG:G≠D) (hm:m.Off G) (hx:OffL G x.A x.xs.length) (hr:OffL G r.iA r.il.length):Tu (w.setCells G o l) D m who r x:=by
 have hb:=But.fill G l w o;have hs:=am G l w o;exact⟨h.row.offs hG,by rw[hs];exact h.im.nt hm hb,h.off,⟨h.ir.l.nt hr hb,h.ir.k,h.ir.a,h.ir.b,h.ir.u,h.ir.v⟩,by rw[hs];exact h.ix.nt hx hb,h.ox,h.fw⟩
theorem Aft.setI (h:Aft w w' D m m' who r x x') (n:Int):Aft w (w'.setCell ⟨D,19,none⟩ (.int .i64 n)) D m m' who r x {x' with i:=n}:=⟨h.tu.setI n,h.but.st _,h.keep,h.dd⟩
theorem Aft.setN (h:Aft w w' D m m' who r x x') (n:Int):Aft w (w'.setCell ⟨D,20,none⟩ (.int .i64 n)) D m m' who r x {x' with n:=n}:=⟨h.tu.setN n,h.but.st _,h.keep,h.dd⟩
theorem Aft.setU (h:Aft w w' D m m' who r x x') (n:Int):Aft w (w'.setCell ⟨D,21,none⟩ (.int .i64 n)) D m m' who r x {x' with u:=n}:=⟨h.tu.setU n,h.but.st _,h.keep,h.dd⟩
end
noncomputable def cG (d:Dk) (a:Ab) (b':Int):Int×Bool:=if cE d a=true then(if (dU a b').2=true then((a.c.length:Int)+(dU a b').1,true)else(-1,false))else(-1,false)
theorem lq (d:Dk) (s:Stk) (b':Int) (w:World) (hd:d.In w w.heap.size) (hs:s.In w w.heap.size):Calls prog 61 #[d.v,s.v,.int .i64 b'] w fun e w'=>e=.returned (.tuple #[.int .i64 (cG d s.ab b').1,.bool (cG d s.ab b').2])∧Below w.heap.size w w':=by
 obtain⟨w0,hw0⟩:∃w0,w0=(w.alloc d.ob).alloc s.ob:=⟨_,rfl⟩;have CG:=aH (gj hw0);have CR:=aH (hd.then CG.out);have Dq:=aH (hs.then CG.out);have DO:=aH (show dv w0 w.heap.size d by rw[hw0];exact(Cells4.new w _ _ _ _ _).below (bL (bR _ _) _));have CN:=aH (show cn w0 (w.heap.size+1) s by
  have e:(w.alloc d.ob).heap.size=w.heap.size+1:=by simp
  rw[hw0,←e];exact Cells6.new (w.alloc d.ob) 41 _ _ _ _ _ _)
 have EV:=aH (fun w h1 h2=>ks d s w h1 h2);have Tc:=aH (fun w h=>Tp.held_any (.slice s.tA s.tl.length s.tc) s.tl b' w h);have Ki:=aH (show Tp.fstV (Tp.hdP s.tl b' 0) s.tl.length=dU s.ab b' from rfl);have HL:=aH (eu d s);have HV:=aH (show cG d s.ab b'=(if cE d s.ab=true then(if (dU s.ab b').2=true then((s.cl.length:Int)+(dU s.ab b').1,true)else(-1,false))else(-1,false))from rfl);have Hv:=aH (tF s.ab b');obtain⟨⟨f1,f2⟩,hf⟩:∃x,dU s.ab b'=x:=⟨_,rfl⟩;rw[hf]at HV Hv Ki;dsimp only at HV Hv;obtain⟨⟨v1,v2⟩,hv⟩:∃x,cG d s.ab b'=x:=⟨_,rfl⟩;rw[hv];rw[hv]at HV;dsimp only;obtain⟨r,hr⟩:∃r,cE d s.ab=r:=⟨_,rfl⟩;rw[hr]at HV EV HL;obtain⟨t0,t1,t2,t3,t4,t5,_⟩:=CN.out;obtain⟨d0,d1,d2,d3,_⟩:=DO.out;clear hd hs hf hv hr
 cases r
 case false=>
  have MZ:v1= -1∧v2=false:=by have h:=HV.out;exact⟨congrArg Prod.fst h,congrArg Prod.snd h⟩
  obtain⟨rfl,rfl⟩:=MZ;go_enter func61,ntmps61;go_wp2_with fail;rw[←hw0];clear hw0;refine(EV.out _ CR.out Dq.out).mono ?_;rintro e w1 ⟨rfl,CE⟩;have CH:=aH (bC CG.out CE);clear CE t0 t1 t2 t3 t4 t5 d0 d1 d2 d3;go_wp2;refine bP (v:=.tuple #[.int .i64 (-1),.bool false]) ?_ rfl ⟨rfl,CH.out⟩;simp[results,results61,go_sem]
 go_enter func61,ntmps61;go_wp2_with fail;rw[←hw0];clear hw0;refine(EV.out _ CR.out Dq.out).mono ?_;rintro e w1 ⟨rfl,CE⟩;have CH:=aH (bC CG.out CE);have Du:=aH (Dq.out.then CE);have DS:=aH (CN.out.below CE);clear CE t0 t1 t2 t3 t4 t5 d0 d1 d2 d3;obtain⟨t0,t1,t2,t3,t4,t5,_⟩:=DS.out;go_wp2_with fail;refine(Tc.out _ Du.out.t).mono ?_;rintro e w2 ⟨rfl,CM⟩;rw[Ki.out];have CL:=aH (bC CH.out CM);have Er:=aH (DS.out.below CM);clear CM t0 t1 t2 t3 t4 t5;obtain⟨t0,t1,t2,t3,t4,t5,_⟩:=Er.out
 cases f2
 case false=>
  have MZ:v1= -1∧v2=false:=by have h:=HV.out;exact⟨congrArg Prod.fst h,congrArg Prod.snd h⟩
  obtain⟨rfl,rfl⟩:=MZ;go_wp2;refine bP (v:=.tuple #[.int .i64 (-1),.bool false]) ?_ rfl ⟨rfl,CL.out⟩;simp[results,results61,go_sem]
 have MZ:v1=(s.cl.length:Int)+f1∧v2=true:=by have h:=HV.out;exact⟨congrArg Prod.fst h,congrArg Prod.snd h⟩
 obtain⟨rfl,rfl⟩:=MZ;obtain⟨k,rfl,hk⟩:=Hv.out rfl;have Hj:Go.RowKit.wrap64 ((s.cl.length:Int)+(k:Int))=(s.cl.length:Int)+k:=by
  have h1:=(HL.out (by simp)).1;have h2:=(HL.out (by simp)).2.2.1;have h3:k<s.tl.length:=hk;exact ef _ (by unfold ae;omega)
 clear hk;go_wp2;refine bP (v:=.tuple #[.int .i64 ((s.cl.length:Int)+k),.bool true]) ?_ rfl ⟨rfl,CL.out⟩;simp[results,results61,go_sem];exact Hj
def aO (o ids:List Int) (x:Int):List Int:=ids.foldl (fun l id=>l.set id.toNat x) o
theorem cT (o ids:List Int) (x:Int):(aO o ids x).length=o.length:=by
 unfold aO
 induction ids generalizing o with
 |nil=>rfl
 |cons a r ih=>rw[List.foldl_cons,ih,List.length_set]
theorem lN (o ids:List Int) (id x:Int):aO o (ids++[id]) x=(aO o ids x).set id.toNat x:=by
 unfold aO;rw[List.foldl_append];rfl
def cM (o ids:List Int) (who:Int) (q:Int→Bool) (nt:Int):Int:=
 if wG o&&gI who&&decide (Two.Inc ids)then if ids.any (fun x=>!cW o.length x)then 3 else if ids.any (fun x=>!q (o.getD x.toNat 0))then nt else 0 else 1
def eP (o ids:List Int) (who:Int) (q:Int→Bool):Int:=
 if wG o&&gI who&&decide (Two.Inc ids)then if ids.any (fun x=>!cW o.length x)then(bX (fun x=>!cW o.length x) ids).1 else(bX (fun x=>!q (o.getD x.toNat 0)) ids).1 else 0
def li (o ids:List Int) (who:Int) (q:Int→Bool) (nx:Int):List Int:=
 if wG o&&gI who&&decide (Two.Inc ids)then if ids.any (fun x=>!cW o.length x)then []else if ids.any (fun x=>!q (o.getD x.toNat 0))then []else aO o ids nx else []
theorem tD (n:Nat) (x:Int):cW n x=true↔0≤x∧x<n:=by unfold cW;rw[Bool.and_eq_true,decide_eq_true_eq,decide_eq_true_eq]
theorem vt (n:Nat) (ids:List Int) (h:ids.any (fun x=>!cW n x)=false):∀x∈ids,0≤x∧x<n:=fun x hx=>by
 rw[List.any_eq_false]at h;have:=h x hx;rw[Bool.not_eq_true,Bool.not_eq_false']at this;exact(tD n x).1 this
theorem du {p:Int→Bool} {xs:List Int} {z:Int} (h:bX p xs=(z,false)):z=0:=by
 induction xs with
 |nil=>simp only[bX,Prod.mk.injEq]at h;exact h.1.symm
 |cons x r ih=>
  by_cases hp:p x=true
  ·simp[bX,hp]at h
  ·exact ih (by simpa [bX,hp]using h)
theorem lT (v u:Value) (o ids:List Int) (who:Int) (kf:Nat) (cap:Array Value) (q:Int→Bool) (nt nx:Int) (w:World) (hv:KI.IsL w w.heap.size v o) (hu:KI.IsL w w.heap.size u ids) (hl:o.length≤1000) (hnx:ae nx)
  (H2:∀(w':World) (x:Int) (b1 b0:Nat),w'.cell? ⟨b1,0,none⟩=some (.func (.func kf) #[] cap)→w'.cell? ⟨b0,0,none⟩=some v→Below w.heap.size w w'→0≤x→x<o.length→Calls prog 231 #[.int .i64 x,.pointer (some ⟨b1,0,none⟩),.pointer (some ⟨b0,0,none⟩)] w' fun e w''=>e=.returned (.bool (!q (o.getD x.toNat 0)))∧Below w'.heap.size w' w''):
  Calls prog 183 #[v,u,.int .i64 who,.func (.func kf) #[] cap,.int .i64 nt,.int .i64 nx] w fun e w'=>∃v',e=.returned (.tuple #[v',.int .i64 (eP o ids who q),.int .i64 (cM o ids who q nt)])∧KI.Own w' w.heap.size v' (li o ids who q nx)∧Below w.heap.size w w':=by
 have HV:=aH hv;have HU:=aH hu;have HH:=aH H2;have Nr:∀args w,(callFunc 230 args).run prog w=.ok (.enter 230 args) w:=enters_of func230 (by kernel_rfl) rfl;have TI:=aH Nr;have Te:=aH (show ∀args w,(callFunc 231 args).run prog w=.ok (.enter 231 args) w from enters_of func231 (by kernel_rfl) rfl);have FE:∀(fn:Fn) (first cap:Array Value) (w:World),(Instr.makeFunc fn first cap).run prog w=.ok (.func fn first cap) w:=fun _ _ _ _=>rfl;obtain⟨A,c,rfl,hc⟩:=hv.shape;obtain⟨A2,c2,rfl,EA⟩:=hu.shape;have hE:cM o ids who q nt=if wG o&&gI who&&decide (Two.Inc ids)then if ids.any (fun x=>!cW o.length x)then 3 else if ids.any (fun x=>!q (o.getD x.toNat 0))then nt else 0 else 1:=rfl
 have hI:eP o ids who q=if wG o&&gI who&&decide (Two.Inc ids)then if ids.any (fun x=>!cW o.length x)then(bX (fun x=>!cW o.length x) ids).1 else(bX (fun x=>!q (o.getD x.toNat 0)) ids).1 else 0:=rfl
 have hL:li o ids who q nx=if wG o&&gI who&&decide (Two.Inc ids)then if ids.any (fun x=>!cW o.length x)then []else if ids.any (fun x=>!q (o.getD x.toNat 0))then []else aO o ids nx else []:=rfl
 rw[hE,hI,hL];clear hE hI hL hv hu H2 Nr;obtain⟨w0,hw0⟩:∃w0,w0=(w.alloc (.cells #[.slice A o.length c] 27)).alloc (.cells #[.func (.func kf) #[] cap] 158):=⟨_,rfl⟩;have c0:w0.cell? ⟨w.heap.size,0,none⟩=some (.slice A o.length c):=by rw[hw0];simp[go_sem]
 have c1:w0.cell? ⟨w.heap.size+1,0,none⟩=some (.func (.func kf) #[] cap):=by rw[hw0];simp[go_sem]
 have CG:=aH (gj hw0);have HR:=aH (fun w=>xL (.slice A o.length c) o w);have HA:=aH (fun w=>mQ who w);have HS:=aH (fun w h=>Two.right_any (.slice A2 ids.length c2) ids w h);have PD:=aH (fun x b w h=>qs x b A o.length c w h);generalize wG o=r at *;generalize gI who=a at *;generalize decide (Two.Inc ids)=i at *
 cases r
 ·simp only[Bool.false_and,Bool.false_eq_true,if_false];go_enter func183,ntmps183;go_wp2_with fail;rw[←hw0];clear hw0;refine(HR.out _ (HV.out.then CG.out)).mono ?_;rintro e w1 ⟨rfl,CE⟩;have CH:=aH (bC CG.out CE);clear CE;go_wp2
  go_ret3
  exact⟨_,rfl,Lk.Own.nil _ _,CH.out⟩
 cases a
 ·simp only[Bool.and_false,Bool.false_and,Bool.false_eq_true,if_false];go_enter func183,ntmps183;go_wp2_with fail;rw[←hw0];clear hw0;refine(HR.out _ (HV.out.then CG.out)).mono ?_;rintro e w1 ⟨rfl,CE⟩;have CH:=aH (bC CG.out CE);clear CE;go_wp2_with fail;refine(HA.out _).mono ?_;rintro e w1 ⟨rfl,rfl⟩;go_wp2
  go_ret3
  exact⟨_,rfl,Lk.Own.nil _ _,CH.out⟩
 have START:=True.intro
 cases i
 ·simp only[Bool.and_false,Bool.false_eq_true,if_false];go_enter func183,ntmps183;go_wp2_with fail;rw[←hw0];clear hw0;refine(HR.out _ (HV.out.then CG.out)).mono ?_;rintro e w1 ⟨rfl,CE⟩;have CH:=aH (bC CG.out CE);clear CE;go_wp2_with fail;refine(HA.out _).mono ?_;rintro e w1 ⟨rfl,rfl⟩;go_wp2_with fail;refine(HS.out _ (bo (HU.out.then CH.out))).mono ?_;rintro e w3 ⟨rfl,d,rfl⟩;have CL:=aH (aa CH.out d);go_wp2
  go_ret3
  exact⟨_,rfl,Lk.Own.nil _ _,CL.out⟩
 simp only[Bool.and_self,if_true];have K4:=aH (fun h=>vt o.length ids h);rw[←cV]at K4;rw[←cV,←cV];obtain⟨z,hz⟩:∃z,bX (fun x=>!cW o.length x) ids=z:=⟨_,rfl⟩;obtain⟨y,hy⟩:∃y,bX (fun x=>!q (o.getD x.toNat 0)) ids=y:=⟨_,rfl⟩;rw[hz]at K4;rw[hz,hy];have HZ:=aH hz;have HY:=aH hy;clear hz hy;obtain⟨z1,z2⟩:=z;obtain⟨y1,y2⟩:=y;go_enter func183,ntmps183;go_wp2_with fail;rw[←hw0];clear hw0;refine(HR.out _ (HV.out.then CG.out)).mono ?_;rintro e w1 ⟨rfl,hb1'⟩;have c0:=kK hb1' c0;have c1:=kK hb1' c1;have CH:=aH (bC CG.out hb1');clear hb1';go_wp2_with fail;refine(HA.out _).mono ?_;rintro e w1 ⟨rfl,rfl⟩;go_wp2_with fail;refine(HS.out _ (bo (HU.out.then CH.out))).mono ?_;rintro e w3 ⟨rfl,d,rfl⟩;have CL:=aH (aa CH.out d);have c0:(w1.drewN d).cell? ⟨w.heap.size,0,none⟩=some (.slice A o.length c):=c0;have c1:(w1.drewN d).cell? ⟨w.heap.size+1,0,none⟩=some (.func (.func kf) #[] cap):=c1;generalize w1.drewN d=w2 at *;have EB:=aH (eE (.slice A2 ids.length c2) ids 230 #[.pointer (some ⟨w.heap.size,0,none⟩)] (fun x=>!cW o.length x) w2 (HU.out.then CL.out) TI.out (fun w' hb x _=>(PD.out x w.heap.size w' (kK hb c0)).mono fun _ _ q=>⟨q.1,by rw[←q.2];exact bR _ _⟩));rw[HZ.out]at EB;go_wp2_with fail;refine(EB.out).mono ?_;rintro e w3 ⟨rfl,CO⟩;have c0:=kK CO c0;have c1:=kK CO c1;have CS:=aH (bC CL.out CO);clear CO EB
 cases z2
 case true=>
  go_wp2
  go_ret3
  simp only;exact⟨_,rfl,Lk.Own.nil _ _,CS.out⟩
 case false=>
  have Qj:=aH (K4.out rfl);have EB:=aH (eE (.slice A2 ids.length c2) ids 231 #[.pointer (some ⟨w.heap.size+1,0,none⟩),.pointer (some ⟨w.heap.size,0,none⟩)] (fun x=>!q (o.getD x.toNat 0)) w3 (HU.out.then CS.out) Te.out (fun w' hb x hx=>HH.out w' x (w.heap.size+1) w.heap.size (kK hb c1) (kK hb c0) (bC CS.out hb) (Qj.out x hx).1 (Qj.out x hx).2));rw[HY.out]at EB;go_wp2_with fail;refine(EB.out).mono ?_;rintro e w4 ⟨rfl,Do⟩;have c0:=kK Do c0;have c1:=kK Do c1;have CW:=aH (bC CS.out Do);clear Do EB
  cases y2
  case true=>
   go_wp2
   go_ret3
   simp only;exact⟨_,rfl,Lk.Own.nil _ _,CW.out⟩
  case false=>
   have HC:=aH (fun w h=>kF (.slice A o.length c) o w h (by omega));go_wp2_with fail;refine(HC.out _ (HV.out.then CW.out)).mono ?_;rintro e w5 ⟨v5,rfl,ho5,EN⟩;have DH:=aH (bC CW.out EN);have Hp:=aH ho5;have Hz:=aH CW.out.size;clear ho5 EN c0 c1;go_wp2
   go_loopw [56] (fun i wr=>∃k:Nat,k≤ids.length∧i=.int .i64 k∧KI.Own wr w4.heap.size v5 (aO o (ids.take k) nx)∧Below w.heap.size w wr) (fun i _=>ids.length-(intOf i).toNat)
   case atStart=>exact⟨0,Nat.zero_le _,rfl,Hp.out,DH.out⟩
   case round=>
    obtain⟨k,hk,rfl,CF,CP⟩:=hrel;have HO:=aH CF;have HB:=aH CP;clear CF CP;by_cases CI:k<ids.length
    ·obtain⟨b,off,cap',hs,_,hb,E8,CD,_⟩:=KI.cells (HU.out.then HB.out) (by omega);simp only[Value.slice.injEq]at hs;obtain⟨rfl,_,rfl⟩:=hs;have e1:=CD k CI;have Kb:=Qj.out _ (af ids k 0 CI);have HS:=aH (lN o (ids.take k) (ids.getD k 0) nx);rw[←aX ids k 0 CI]at HS;have Oc:=cT o (ids.take k) nx;clear CD;generalize ids.getD k 0=x at *;obtain⟨hx0,hx1⟩:=Kb;obtain⟨j,rfl⟩:=Int.eq_ofNat_of_zero_le hx0;obtain⟨g,cp,hv5,hg1,DT,hg3⟩:=HO.out.shape (by omega);rw[Oc]at hv5 hg3;subst hv5;obtain⟨f1,f2⟩:=KI.Own.at HO.out Oc j (by omega);generalize (aO o (ids.take k) nx).getD j 0=old at *;go_wp2
     go_roundw
     case rel=>
      have hp:=KI.Own.put HO.out Oc j nx hnx;rw[show((j:Int)).toNat=j from rfl]at HS;exact⟨k+1,by omega,ai (by omega),by rw[HS.out];exact hp.1,HB.out.setCell (Nat.le_trans Hz.out hg1) _⟩
     case measure=>simp[intOf];omega
    ·obtain rfl:k=ids.length:=(by omega);rw[List.take_length]at HO;go_wp2
     go_ret3
     simp only;have e1:=du HZ.out;have e2:=du HY.out;subst e1;subst e2;exact⟨_,rfl,HO.out.mono Hz.out,HB.out⟩
def bq (who x:Int):Bool:=decide (x=0)||decide (x=who)
def ay (who x:Int):Bool:=decide (x=who)
theorem zf (v u:Value) (o ids:List Int) (who:Int) (hw:ae who) (w:World) (hv:KI.IsL w w.heap.size v o) (hu:KI.IsL w w.heap.size u ids) (hl:o.length≤1000):
  Calls prog 181 #[v,u,.int .i64 who] w fun e w'=>∃v',e=.returned (.tuple #[v',.int .i64 (eP o ids who (bq who)),.int .i64 (cM o ids who (bq who) 140)])∧KI.Own w' w.heap.size v' (li o ids who (bq who) who)∧Below w.heap.size w w':=by
 obtain⟨w0,hw0⟩:∃w0,w0=w.alloc (.cells #[.int .i64 who] 3):=⟨_,rfl⟩;have c0:w0.cell? ⟨w.heap.size,0,none⟩=some (.int .i64 who):=by rw[hw0];simp[go_sem]
 have DI:Below w.heap.size w w0:=by rw[hw0];exact bL (bR _ _) _
 have CG:=aH DI;have FE:∀(fn:Fn) (first cap:Array Value) (w:World),(Instr.makeFunc fn first cap).run prog w=.ok (.func fn first cap) w:=fun _ _ _ _=>rfl;have FP:=hv.then DI;have HP:=aH (lT v u o ids who 227 #[.pointer (some ⟨w.heap.size,0,none⟩)] (bq who) 140 who w0 FP (hu.then DI) hl hw (fun w' x b1 b0 h1 h0 hb hx DY=>nM x _ who b1 b0 w.heap.size v o w' h1 (kK hb c0) h0 (FP.then hb) hx DY rfl));clear FP hv hu DI hw;generalize eP o ids who (bq who)=y at *;generalize cM o ids who (bq who) 140=z at *;generalize li o ids who (bq who) who=l at *;go_enter func181,ntmps181;go_wp2_with fail;rw[←hw0];clear hw0;refine HP.out.mono ?_;rintro e w1 ⟨v',rfl,ho,hb⟩;go_wp2
 go_ret3
 exact⟨_,rfl,ho.mono CG.out.size,bC CG.out hb⟩
theorem zI (v u:Value) (o ids:List Int) (who:Int) (w:World) (hv:KI.IsL w w.heap.size v o) (hu:KI.IsL w w.heap.size u ids) (hl:o.length≤1000):
  Calls prog 122 #[v,u,.int .i64 who] w fun e w'=>∃v',e=.returned (.tuple #[v',.int .i64 (eP o ids who (ay who)),.int .i64 (cM o ids who (ay who) 141)])∧KI.Own w' w.heap.size v' (li o ids who (ay who) 0)∧Below w.heap.size w w':=by
 obtain⟨w0,hw0⟩:∃w0,w0=w.alloc (.cells #[.int .i64 who] 3):=⟨_,rfl⟩;have c0:w0.cell? ⟨w.heap.size,0,none⟩=some (.int .i64 who):=by rw[hw0];simp[go_sem]
 have DI:Below w.heap.size w w0:=by rw[hw0];exact bL (bR _ _) _
 have CG:=aH DI;have FE:∀(fn:Fn) (first cap:Array Value) (w:World),(Instr.makeFunc fn first cap).run prog w=.ok (.func fn first cap) w:=fun _ _ _ _=>rfl;have FP:=hv.then DI;have HP:=aH (lT v u o ids who 182 #[.pointer (some ⟨w.heap.size,0,none⟩)] (ay who) 141 0 w0 FP (hu.then DI) hl (by decide) (fun w' x b1 b0 h1 h0 hb hx DY=>nT x _ who b1 b0 w.heap.size v o w' h1 (kK hb c0) h0 (FP.then hb) hx DY rfl));clear FP hv hu DI;generalize eP o ids who (ay who)=y at *;generalize cM o ids who (ay who) 141=z at *;generalize li o ids who (ay who) 0=l at *;go_enter func122,ntmps122;go_wp2_with fail;rw[←hw0];clear hw0;refine HP.out.mono ?_;rintro e w1 ⟨v',rfl,ho,hb⟩;go_wp2
 go_ret3
 exact⟨_,rfl,ho.mono CG.out.size,bC CG.out hb⟩
theorem wC (v u:Value) (o ids:List Int) (who:Int) (w:World) (hv:KI.IsL w w.heap.size v o) (hu:KI.IsL w w.heap.size u ids):
  Calls prog 119 #[v,u,.int .i64 who] w fun e w'=>e=.returned (Ck (bX (uG o who) ids))∧Below w.heap.size w w':=by
 obtain⟨w0,hw0⟩:∃w0,w0=(w.alloc (.cells #[v] 27)).alloc (.cells #[.int .i64 who] 3):=⟨_,rfl⟩;have c0:w0.cell? ⟨w.heap.size,0,none⟩=some v:=by rw[hw0];simp[go_sem]
 have c1:w0.cell? ⟨w.heap.size+1,0,none⟩=some (.int .i64 who):=by rw[hw0];simp[go_sem]
 have DI:Below w.heap.size w w0:=by rw[hw0];exact bL (bL (bR _ _) _) _
 have CG:=aH DI;have FE:∀(fn:Fn) (first cap:Array Value) (w:World),(Instr.makeFunc fn first cap).run prog w=.ok (.func fn first cap) w:=fun _ _ _ _=>rfl;have FP:=hv.then DI;have HP:=aH (eE u ids 178 #[.pointer (some ⟨w.heap.size,0,none⟩),.pointer (some ⟨w.heap.size+1,0,none⟩)] (uG o who) w0 (hu.then DI) (enters_of func178 (by kernel_rfl) rfl) (fun w' hb x _=>n6 x who w.heap.size (w.heap.size+1) v o w' (kK hb c1) (kK hb c0) (FP.then hb)));obtain⟨A,c,rfl,hc⟩:=hv.shape;clear FP hv hu DI;generalize bX (uG o who) ids=y at *;obtain⟨y1,y2⟩:=y;go_enter func119,ntmps119;go_wp2_with fail;rw[←hw0];clear hw0;refine HP.out.mono ?_;rintro e w1 ⟨rfl,hb⟩;go_wp2
 go_ret2
 exact⟨rfl,bC CG.out hb⟩
def qC (n:Int):List Int:=if n<0∨n > 2147483647 then []else List.replicate n.toNat 0
theorem Be (n:Int) (w:World):Calls prog 52 #[.int .i64 n] w fun e w'=>∃v',e=.returned v'∧KI.Own w' w.heap.size v' (qC n)∧Below w.heap.size w w':=by
 by_cases h:n<0
 ·rw[show qC n=[]from if_pos (Or.inl h)];go_enter func52,ntmps52;go_wp2
  go_ret
  exact⟨_,rfl,Lk.Own.nil _ _,bR _ _⟩
 by_cases h2:n > 2147483647
 ·rw[show qC n=[]from if_pos (Or.inr h2)];go_enter func52,ntmps52;go_wp2
  go_ret
  exact⟨_,rfl,Lk.Own.nil _ _,bR _ _⟩
 rw[show qC n=List.replicate n.toNat 0 from if_neg (by omega)];obtain⟨k,rfl⟩:=Int.eq_ofNat_of_zero_le (show 0≤n by omega);rw[show((k:Int)).toNat=k from rfl];obtain⟨i0,hi,D9,DZ,_⟩:=info_parts KI.info;go_enter func52,ntmps52;go_wp2_with (at_make;refine wpList_make_full _ rfl _ _ 27 rfl w.heap.size 3 i0 (.int .i64 0) 1 underlying27 hi D9 DZ _ _ _ _ k rfl rfl rfl rfl ?bytes ?maxLen ?base ?_)
 case bytes=>rw[show KI.bytes=8 from rfl];omega
 case maxLen=>unfold maxLen;omega
 intro w' CF hgrow;have ho:KI.Own w' w.heap.size (.slice (some ⟨w.heap.size,0,none⟩) k k) (List.replicate k 0):=by
  refine⟨?_,fun x hx=>?_⟩
  ·have e:=Lk.flat_made KI 0 rfl k;rw[←e,List.length_replicate,show k*KI.n=k from Nat.mul_one k];exact CF
  ·rw[List.mem_replicate]at hx;rw[hx.2];show ae 0;decide
 have HB:=aH ((bR w.heap.size w).grown hgrow (nR _) (fun k hk=>by cases hk));have HO:=aH ho;clear CF hgrow ho;go_wp2
 go_ret
 exact⟨_,rfl,HO.out,HB.out⟩
def b9 (o:List Int) (who:Int) (k:Nat):List Int:=((List.range k).filter fun i=>decide (o.getD i 0=who)).map Int.ofNat
theorem sz (o:List Int) (who:Int) (k:Nat):b9 o who (k+1)=b9 o who k++(if o.getD k 0=who then [((k:Nat):Int)]else []):=by
 unfold b9;rw[List.range_succ,List.filter_append,List.map_append];by_cases h:o.getD k 0=who
 ·rw[if_pos h,List.filter_cons_of_pos (by simpa using h)];rfl
 ·rw[if_neg h,List.filter_cons_of_neg (by simpa using h)];rfl
theorem dM (o:List Int) (who:Int) (k:Nat):(b9 o who k).length≤k:=by
 unfold b9;rw[List.length_map];exact Nat.le_trans (List.length_filter_le _ _) (by simp)
theorem BS (v:Value) (o:List Int) (who:Int) (w:World) (hv:KI.IsL w w.heap.size v o) (hl:o.length≤1000):
  Calls prog 226 #[v,.int .i64 who] w fun e w'=>∃v',e=.returned v'∧KI.Own w' w.heap.size v' (b9 o who o.length)∧Below w.heap.size w w':=by
 have HV:=aH hv;obtain⟨A,c,rfl,hc⟩:=hv.shape;clear hv;go_enter func226,ntmps226;go_wp2
 go_loopw [5,10] (fun u i wr=>∃k:Nat,k≤o.length∧i=.int .i64 k∧KI.Own wr w.heap.size u (b9 o who k)∧Below w.heap.size w wr) (fun _ i _=>o.length-(intOf i).toNat)
 case atStart=>exact⟨0,Nat.zero_le _,rfl,(show KI.Own w w.heap.size (.slice none 0 0) []from Lk.Own.nil _ _),bR _ _⟩
 case round=>
  obtain⟨k,hk,rfl,CF,CP⟩:=hrel;have HO:=aH CF;have HB:=aH CP;clear CF CP;by_cases CI:k<o.length
  ·obtain⟨b,off,cap',hs,_,hb,E8,CD,hf⟩:=KI.cells (HV.out.then HB.out) (by omega);simp only[Value.slice.injEq]at hs;obtain⟨rfl,_,rfl⟩:=hs;have e1:=CD k CI;have HS:=aH (sz o who k);have HL:=aH (dM o who k);clear CD hf;generalize o.getD k 0=x at *;by_cases hx:x=who
   ·rw[if_pos hx]at HS;go_wp2_with (at_builtin;refine Lk.wpList_app (K:=KI) _ rfl _ _ rfl rfl w.heap.size (wr.heap.size+1) _ _ (b9 o who k) [(k:Int)] rfl rfl (HO.out.alloc _) (Lk.IsL.lit (K:=KI) _ (k:Int) _ (show ae (k:Int)by unfold ae;omega) rfl wr.heap.size rfl) ?c1 ?c2 ?_)
    case c1=>have:=HL.out;simp;omega
    case c2=>have:=HB.out.size;simp;omega
    intro v1 w4 CF hgrow _;have CW:=aH (Lk.Own.grow' (HO.out.alloc _) (bL HB.out _) (by have:=HB.out.size;simp;omega) hgrow);have DB:=aH CF;clear CF hgrow;go_wp2
    go_roundw
    case rel=>exact⟨k+1,by omega,ai (by omega),by rw[HS.out];exact DB.out,CW.out⟩
    case measure=>simp[intOf];omega
   ·rw[if_neg hx,List.append_nil]at HS;go_wp2
    go_roundw
    case rel=>exact⟨k+1,by omega,ai (by omega),by rw[HS.out];exact HO.out,HB.out⟩
    case measure=>simp[intOf];omega
  ·obtain rfl:k=o.length:=(by omega);go_wp2
   go_ret
   exact⟨_,rfl,HO.out,HB.out⟩
end Go.Proofs.YtmecohdedghiaaaGreatDoor
