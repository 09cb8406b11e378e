/- Owners: what may not be passed on, and what is passed; what an arm owns, and what it lacks. -/
import Derived.Test.YtmecohdedghiaaaGreatDoorPn00
import Derived.Test.YtmecohdedghiaaaGreatDoorPn13
import Derived.Test.YtmecohdedghiaaaGreatDoorPn18
import Derived.Test.YtmecohdedghiaaaGreatDoorPn27
import Derived.Test.YtmecohdedghiaaaGreatDoorPn26
import Derived.Deep.MidRow
import Derived.Test.YtmecohdedghiaaaGreatDoorPn23
set_option maxRecDepth 100000
set_option maxHeartbeats 8000000
namespace Go.Proofs.YtmecohdedghiaaaGreatDoor
open Go.RowKit
structure Rq where
  k:Int
  iA:Option Addr
  ic:Nat
  il:List Int
  a:Int
  b:Int
  u:Int
  v:Nat
abbrev Rq.ob (r:Rq):Array Value:=#[.int .i64 r.k,.slice r.iA r.il.length r.ic,.int .i64 r.a,.int .i64 r.b,.int .i64 r.u,.int .u64 r.v]
abbrev Rq.val (r:Rq):Value:=.agg #[.int .i64 r.k,.slice r.iA r.il.length r.ic,.int .i64 r.a,.int .i64 r.b,.int .i64 r.u,.int .u64 r.v]
structure Rq.In (w:World) (B:Nat) (r:Rq):Prop where
  l:KI.IsL w B (.slice r.iA r.il.length r.ic) r.il
  k:fits r.k
  a:fits r.a
  b:fits r.b
  u:fits r.u
  v:r.v<18446744073709551616
theorem Rq.In.below {w w':World} {B:Nat} {r:Rq} (h:r.In w B) (hb:Below B w w'):r.In w' B:=⟨h.l.below hb,h.k,h.a,h.b,h.u,h.v⟩
theorem Rq.In.more {w:World} {B B':Nat} {r:Rq} (h:r.In w B) (hB:B≤B'):r.In w B':=⟨h.l.more hB,h.k,h.a,h.b,h.u,h.v⟩
theorem Rq.In.then {w w':World} {r:Rq} (h:r.In w w.heap.size) (hb:Below w.heap.size w w'):r.In w' w'.heap.size:=(h.below hb).more hb.size
abbrev RqAt (w:World) (B:Nat) (r:Rq):Prop:=Cells6 w B (.int .i64 r.k) (.slice r.iA r.il.length r.ic) (.int .i64 r.a) (.int .i64 r.b) (.int .i64 r.u) (.int .u64 r.v)
theorem Nn.Tab.below {w w':World} (h:Nn.Tab w) (hb:Below w.heap.size w w'):Nn.Tab w':=fun j hj=>kK hb (h j hj)
def voE (v:Nat):Int:=if Nn.ofE v=0∧Nn.ofV v=0 then 1 else Nn.ofE v
def voV (v:Nat):Int:=Nn.ofV v
theorem volume_any (r:Rq) (w:World) (hv:r.v<18446744073709551616) (hT:Nn.Tab w):Calls Tryz.prog 38 #[r.val] w fun e w'=>e=.returned (.tuple #[.int .i64 (voV r.v),.int .i64 (voE r.v)])∧Below w.heap.size w w':=by
  have hfb:=fun(b:Int) w=>Nn.run_frombits b w;have HT1:=aH (hT.below (bL (bR w.heap.size w) (.cells r.ob 30)));have HO:=aH (fun w h=>Nn.of_any r.v hv w h);have HE:=aH (show voE r.v=if Nn.ofE r.v=0∧voV r.v=0 then 1 else Nn.ofE r.v by unfold voE voV;simp only[Int.natCast_eq_zero]);have hV:(Nn.ofV r.v:Int)=voV r.v:=rfl;rw[hV]at HO;generalize voE r.v=VE at *;generalize voV r.v=V at *;obtain⟨k,iA,ic,il,a,b,u,v⟩:=r;dsimp only at *;generalize Nn.ofE v=E at *;clear hV hv hT;by_cases hE:E=0
  · subst hE
    by_cases hV:V=0
    · subst hV
      obtain rfl:VE=1:=(by rw[HE.out];simp);go_enter Tryz.func38,Tryz.ntmps38;go_wp2_with fail;refine(HO.out _ HT1.out).mono ?_;rintro e w1 ⟨rfl,d,rfl⟩;go_wp2
      go_ret2
      exact⟨rfl,below_drewN (bL (bR _ _) _) d⟩
    · obtain rfl:VE=0:=by rw[HE.out];simp[hV]
      have hV':(V==0)=false:=(by simpa using hV);clear hV;go_enter Tryz.func38,Tryz.ntmps38;go_wp2_with fail;refine(HO.out _ HT1.out).mono ?_;rintro e w1 ⟨rfl,d,rfl⟩;go_wp2
      go_ret2
      exact⟨rfl,below_drewN (bL (bR _ _) _) d⟩
  · obtain rfl:VE=E:=by rw[HE.out];simp[hE]
    have hE':(VE==0)=false:=(by simpa using hE);clear hE HE;go_enter Tryz.func38,Tryz.ntmps38;go_wp2_with fail;refine(HO.out _ HT1.out).mono ?_;rintro e w1 ⟨rfl,d,rfl⟩;go_wp2
    go_ret2
    exact⟨rfl,below_drewN (bL (bR _ _) _) d⟩
def Row (V:World) (D:Nat) (l:List Value):Prop:=D<V.heap.size∧∀i v,l[i]? =some v→V.cell? ⟨D,i,none⟩=some v∧V.frozen? ⟨D,i,none⟩=false
theorem Row.g {V:World} {D:Nat} {l:List Value} (h:Row V D l) (i:Nat) {v:Value} (e:l[i]? =some v):V.cell? ⟨D,i,none⟩=some v:=(h.2 i v e).1
theorem Row.z {V:World} {D:Nat} {l:List Value} (h:Row V D l) (i:Nat) {v:Value} (e:l[i]? =some v):V.frozen? ⟨D,i,none⟩=false:=(h.2 i v e).2
theorem Row.new (V:World) (t:TypeId) (l:List Value) (cs:Array Value) (e:cs=l.toArray):Row (V.alloc (.cells cs t)) V.heap.size l:=by
 subst e;exact⟨by simp,fun i _ h=>⟨by rw[alloc_at,List.getElem?_toArray];exact h,by simp⟩⟩
theorem Row.set {V:World} {D:Nat} {l:List Value} (h:Row V D l) (i:Nat) (u:Value):Row (V.setCell ⟨D,i,none⟩ u) D (l.set i u):=by
 refine⟨by simpa using h.1,fun j v hj=>?_⟩;have hlt:j<l.length:=by
  have:=(List.getElem?_eq_some_iff.1 hj).1
  rwa [List.length_set]at this
 have hold:=h.2 j _ (List.getElem?_eq_getElem hlt);refine⟨?_,sF hold.2⟩;by_cases hij:i=j
 ·subst hij;rw[List.getElem?_set_self hlt]at hj;injection hj with hj
  subst hj;exact st_same hold.1
 ·rw[List.getElem?_set_ne hij]at hj;exact sO (h.2 j v hj).1 (aN (.inr hij))
theorem Row.off {V:World} {D G o:Nat} {l:List Value} (h:Row V G l) (hne:D≠G) (u:Value):Row (V.setCell ⟨D,o,none⟩ u) G l:=
 ⟨by simpa using h.1,fun i _ e=>⟨sO (h.2 i _ e).1 (aN (.inl hne)),sF (h.2 i _ e).2⟩⟩
structure But (D:Nat) (w w':World):Prop where
 os:w'.os=w.os
 tape:w'.tape=w.tape
 output:w'.output=w.output
 size:w.heap.size≤w'.heap.size
 block:∀k,k<w.heap.size→k≠D→w'.heap[k]? =w.heap[k]?
theorem But.refl (D:Nat) (w:World):But D w w:=⟨rfl,rfl,rfl,nR _,fun _ _ _=>rfl⟩
theorem But.trans {D:Nat} {a b c:World} (h:But D a b) (k:But D b c):But D a c:=
 ⟨k.os.trans h.os,k.tape.trans h.tape,k.output.trans h.output,Nat.le_trans h.size k.size,fun i hi hn=>(k.block i (nL hi h.size) hn).trans (h.block i hi hn)⟩
theorem But.of {D:Nat} {w w':World} (h:Below w.heap.size w w'):But D w w':=⟨h.os,h.tape,h.output,h.size,fun k hk _=>h.block k hk⟩
theorem But.st {D o:Nat} {w w':World} (h:But D w w') (u:Value):But D w (w'.setCell ⟨D,o,none⟩ u):=
 ⟨h.os,h.tape,h.output,by simpa [World.setCell]using h.size,fun k hk hn=>(Below.heap_setCell _ _ _ _ hn).trans (h.block k hk hn)⟩
theorem But.call {D:Nat} {a b c:World} (h:But D a b) (k:Below b.heap.size b c):But D a c:=h.trans (.of k)
theorem But.below {D:Nat} {w w':World} (h:But D w w') (hD:D≤w.heap.size):Below D w w':=⟨h.os,h.tape,h.output,h.size,fun k hk=>h.block k (by omega) (by omega)⟩
theorem But.all {D B:Nat} {w w':World} (h:But D w w') (hB:B≤w.heap.size) (hD:B≤D):Below B w w':=⟨h.os,h.tape,h.output,h.size,fun k hk=>h.block k (by omega) (by omega)⟩
theorem But.cell {D:Nat} {w w':World} (h:But D w w') {p:Addr} {v:Value} (hp:p.block≠D) (e:w.cell? p=some v):w'.cell? p=some v:=
 (World.cell?_of_block (w:=w) (h.block p.block (wB w p e) hp)).trans e
theorem But.row {D G:Nat} {w w':World} {l:List Value} (h:But D w w') (hr:Row w G l) (hne:G≠D):Row w' G l:=
 ⟨nL hr.1 h.size,fun i _ e=>⟨h.cell hne (hr.g i e),(World.frozen?_of_block (w:=w) (h.block G hr.1 hne)).trans (hr.z i e)⟩⟩
theorem Row.below {V V':World} {D:Nat} {l:List Value} (h:Row V D l) (hb:Below V.heap.size V V'):Row V' D l:=(But.of (D:=V.heap.size) hb).row h (Nat.ne_of_lt h.1)
theorem Row.low {V V':World} {B D:Nat} {l:List Value} (h:Row V D l) (hb:Below B V V') (hD:D<B):Row V' D l:=
 ⟨nL h.1 hb.size,fun i _ e=>⟨(hb.cell (p:=⟨D,i,none⟩) hD).trans (h.g i e),(hb.frozen (p:=⟨D,i,none⟩) hD).trans (h.z i e)⟩⟩
theorem But.fill (G:Nat):∀(l:List Value) (V:World) (o:Nat),But G V (V.setCells G o l)
 |[],V,_=>But.refl G V
 |x::l,V,o=>((But.refl G V).st x).trans (But.fill G l (V.setCell ⟨G,o,none⟩ x) (o+1))
theorem setCells_size (G:Nat):∀(l:List Value) (V:World) (o:Nat),(V.setCells G o l).heap.size=V.heap.size
 |[],_,_=>rfl
 |x::l,V,o=>(setCells_size G l (V.setCell ⟨G,o,none⟩ x) (o+1)).trans (by simp)
theorem Below.fill {B G:Nat} {w:World} (hB:B≤G):∀(l:List Value) (V:World) (o:Nat),Below B w V→Below B w (V.setCells G o l)
 |[],_,_,h=>h
 |x::l,V,o,h=>Below.fill hB l (V.setCell ⟨G,o,none⟩ x) (o+1) (h.setCell (p:=⟨G,o,none⟩) hB x)
theorem Row.fill' {G:Nat}:∀(b' a b:List Value) (V:World),Row V G (a++b)→b'.length=b.length→Row (V.setCells G a.length b') G (a++b')
 |[],a,b,V,h,e=>by
  obtain rfl:b=[]:=List.eq_nil_of_length_eq_zero e.symm;exact h
 |x::b',a,b,V,h,e=>by
  cases b with
  |nil=>cases e
  |cons y b=>
   have q:=h.set a.length x;rw[List.set_append_right _ _ (nR _),Nat.sub_self,List.set_cons_zero,show a++x::b=(a++[x])++b by simp]at q;have k:=Row.fill' b' (a++[x]) b _ q (by simpa using e);rw[List.length_append,show(a++[x])++b'=a++x::b' by simp]at k;exact k
theorem Row.fill {G:Nat} {V:World} {l:List Value} (h:Row V G l) (l':List Value) (e:l'.length=l.length):Row (V.setCells G 0 l') G l':=Row.fill' l' [] l V h e
theorem Row.there {V:World} {D n:Nat} {l:List Value} (h:Row V D l) (e:n=l.length):V.there D 0 n:=fun j hj=>by
 have q:=h.2 j _ (List.getElem?_eq_getElem (by omega));rw[Nat.zero_add];exact⟨by rw[q.1];rfl,q.2⟩
theorem Row.offs {V:World} {D G o:Nat} {l l':List Value} (h:Row V D l) (hne:G≠D):Row (V.setCells G o l') D l:=(But.fill G l' V o).row h hne.symm
structure Rs where
 e:Int
 i:Int
 n:Int
 u:Int
 A:Option Addr
 c:Nat
 xs:List Ch
abbrev Rs.v (x:Rs):Value:=.agg #[.int .i64 x.e,.int .i64 x.i,.int .i64 x.n,.int .i64 x.u,.slice x.A x.xs.length x.c]
def Rs.ab (x:Rs):Int×Int×Int×Int×List Ch:=(x.e,x.i,x.n,x.u,x.xs)
structure Rs.In (w:World) (B:Nat) (x:Rs):Prop where
 l:KC.IsL w B (.slice x.A x.xs.length x.c) x.xs
theorem Rs.In.below {w w':World} {B:Nat} {x:Rs} (h:x.In w B) (hb:Below B w w'):x.In w' B:=⟨h.l.below hb⟩
theorem Rs.In.more {w:World} {B B':Nat} {x:Rs} (h:x.In w B) (hB:B≤B'):x.In w B':=⟨h.l.more hB⟩
theorem Rs.In.then {w w':World} {x:Rs} (h:x.In w w.heap.size) (hb:Below w.heap.size w w'):x.In w' w'.heap.size:=(h.below hb).more hb.size
def rs0:Rs:=⟨0,0,0,0,none,0,[]⟩
abbrev tuL (m:Md) (who:Int) (r:Rq) (x:Rs):List Value:=[.slice m.d.bA m.d.bn m.d.bc,.slice m.d.pA m.d.pn m.d.pc,.slice m.d.rA m.d.rn m.d.rc,.int .i64 m.d.arms,.slice m.s.cA m.s.cl.length m.s.cc,.slice m.s.lA m.s.ll.length m.s.lc,.slice m.s.tA m.s.tl.length m.s.tc,.int .i64 m.s.st,.int .i64 m.s.inn,.int .i64 m.s.out,.slice m.oA m.o.length m.oc,.int .i64 who,.int .i64 r.k,.slice r.iA r.il.length r.ic,.int .i64 r.a,.int .i64 r.b,.int .i64 r.u,.int .u64 r.v,.int .i64 x.e,.int .i64 x.i,.int .i64 x.n,.int .i64 x.u,.slice x.A x.xs.length x.c]
def OffL (G:Nat) (A:Option Addr) (n:Nat):Prop:=n=0∨∀a,A=some a→a.block≠G
theorem Lk.IsL.offL {P:Program} {α:Type} {K:Lk P α} {w:World} {B G:Nat} {A:Option Addr} {n c:Nat} {xs:List α} (h:K.IsL w B (.slice A n c) xs) (hG:B≤G):OffL G A n:=by
 obtain⟨⟨A',c',hv,hc,hA⟩,hf,hl⟩:=h;injection hv with e1 e2 e3
 by_cases h0:n=0
 ·exact .inl h0
 ·obtain⟨b,off,e,hbB,_⟩:=hA (by omega);refine .inr fun a ha=>?_;rw[e1,e]at ha
  cases ha
  show b≠G;omega
theorem Lk.IsL.nt {P:Program} {α:Type} {K:Lk P α} {w w':World} {B D:Nat} {A:Option Addr} {n c:Nat} {xs:List α} (h:K.IsL w B (.slice A n c) xs) (ho:OffL D A n) (hb:But D w w'):K.IsL w' B (.slice A n c) xs:=by
 obtain⟨⟨A',c',hv,hc,hA⟩,hf,hl⟩:=h;refine⟨⟨A',c',hv,hc,fun h0=>?_⟩,hf,hl⟩;obtain⟨b,off,e,hbB,hcell⟩:=hA h0;injection hv with e1 e2 e3
 rcases ho with h|h
 ·omega
 ·exact⟨b,off,e,hbB,fun i hi j u hu=>hb.cell (h ⟨b,off,none⟩ (by rw[e1,e])) (hcell i hi j u hu)⟩
def Dk.Off (d:Dk) (G:Nat):Prop:=OffL G d.bA d.bn∧OffL G d.pA d.pn∧OffL G d.rA d.rn∧∀q∈d.pl,OffL G q.sA q.sn
def Stk.Off (s:Stk) (G:Nat):Prop:=OffL G s.cA s.cl.length∧OffL G s.lA s.ll.length∧OffL G s.tA s.tl.length∧∀q∈s.ll,OffL G q.A q.xs.length
def Md.Off (m:Md) (G:Nat):Prop:=m.d.Off G∧m.s.Off G∧OffL G m.oA m.o.length
theorem OffL.far {G B:Nat} {A:Option Addr} {n:Nat} (h:∀a,A=some a→B≤a.block) (hG:G<B):OffL G A n:=.inr fun a ha=>by have:=h a ha;omega
theorem Dk.Far.off {d:Dk} {B G:Nat} (h:d.Far B) (hG:G<B):d.Off G:=⟨.far h.1 hG,.far h.2.1 hG,.far h.2.2.1 hG,fun q hq=>.far (h.2.2.2 q hq) hG⟩
theorem Stk.Far.off {s:Stk} {B G:Nat} (h:s.Far B) (hG:G<B):s.Off G:=⟨.far h.1 hG,.far h.2.1 hG,.far h.2.2.1 hG,fun q hq=>.far (h.2.2.2 q hq) hG⟩
theorem Md.Far.off {m:Md} {B G:Nat} (h:m.Far B) (hG:G<B):m.Off G:=⟨h.d.off hG,h.s.off hG,.far h.o hG⟩
theorem Dk.In.off {w:World} {B G:Nat} {d:Dk} (h:d.In w B) (hG:B≤G):d.Off G:=⟨h.b.offL hG,h.p.offL hG,h.r.offL hG,fun q hq=>(h.s q hq).offL hG⟩
theorem Stk.In.off {w:World} {B G:Nat} {s:Stk} (h:s.In w B) (hG:B≤G):s.Off G:=⟨h.c.offL hG,h.l.offL hG,h.t.offL hG,fun q hq=>(h.x q hq).offL hG⟩
theorem Md.In.off {w:World} {B G:Nat} {m:Md} (h:m.In w B) (hG:B≤G):m.Off G:=⟨h.d.off hG,h.s.off hG,h.o.offL hG⟩
theorem Dk.In.nt {w w':World} {B D:Nat} {d:Dk} (h:d.In w B) (ho:d.Off D) (hb:But D w w'):d.In w' B:=⟨h.b.nt ho.1 hb,h.p.nt ho.2.1 hb,h.r.nt ho.2.2.1 hb,fun q hq=>(h.s q hq).nt (ho.2.2.2 q hq) hb,h.a⟩
theorem Stk.In.nt {w w':World} {B D:Nat} {s:Stk} (h:s.In w B) (ho:s.Off D) (hb:But D w w'):s.In w' B:=⟨h.c.nt ho.1 hb,h.l.nt ho.2.1 hb,h.t.nt ho.2.2.1 hb,fun q hq=>(h.x q hq).nt (ho.2.2.2 q hq) hb,h.f⟩
theorem Md.In.nt {w w':World} {B D:Nat} {m:Md} (h:m.In w B) (ho:m.Off D) (hb:But D w w'):m.In w' B:=⟨h.d.nt ho.1 hb,h.s.nt ho.2.1 hb,h.o.nt ho.2.2 hb⟩
structure Tu (w:World) (D:Nat) (m:Md) (who:Int) (r:Rq) (x:Rs):Prop where
 row:Row w D (tuL m who r x)
 im:m.In w w.heap.size
 off:m.Off D
 ir:r.In w D
 ix:KC.IsL w w.heap.size (.slice x.A x.xs.length x.c) x.xs
 ox:OffL D x.A x.xs.length
 fw:fits who
theorem Tu.then {w w':World} {D:Nat} {m:Md} {who:Int} {r:Rq} {x:Rs} (h:Tu w D m who r x) (hb:Below w.heap.size w w'):Tu w' D m who r x:=
 ⟨h.row.below hb,h.im.then hb,h.off,h.ir.below (hb.mono (Nat.le_of_lt h.row.1)),h.ix.then hb,h.ox,h.fw⟩
theorem Tu.lt {w:World} {D:Nat} {m:Md} {who:Int} {r:Rq} {x:Rs} (h:Tu w D m who r x):D<w.heap.size:=h.row.1
theorem But.size_st {w:World} {D o:Nat} (u:Value):(w.setCell ⟨D,o,none⟩ u).heap.size=w.heap.size:=by simp
structure Aft (w w':World) (D:Nat) (m m':Md) (who:Int) (r:Rq) (x x':Rs):Prop where
 tu:Tu w' D m' who r x'
 but:But D w w'
 keep:∀G,G<w.heap.size→m.Off G→OffL G x.A x.xs.length→m'.Off G∧OffL G x'.A x'.xs.length
 dd:m'.d=m.d
section
variable {w w' w'':World} {D:Nat} {m m' m'':Md} {who:Int} {r:Rq} {x x' x'':Rs}
theorem Aft.of (h:Tu w D m who r x) (hb:Below w.heap.size w w'):Aft w w' D m m who r x x:=⟨h.then hb,.of hb,fun _ _ h k=>⟨h,k⟩,rfl⟩
theorem Aft.refl (h:Tu w D m who r x):Aft w w D m m who r x x:=.of h (bR _ _)
theorem Aft.trans (h:Aft w w' D m m' who r x x') (k:Aft w' w'' D m' m'' who r x' x''):Aft w w'' D m m'' who r x x'':=
 ⟨k.tu,h.but.trans k.but,fun G hG hm hx=>have q:=h.keep G hG hm hx;k.keep G (nL hG h.but.size) q.1 q.2,k.dd.trans h.dd⟩
theorem Aft.call (h:Aft w w' D m m' who r x x') (hb:Below w'.heap.size w' w''):Aft w w'' D m m' who r x x':=h.trans (.of h.tu hb)
theorem Tu.other (h:Tu w D m who r x) {G o:Nat} (hG:D<G) (hm:m.Off G) (hx:OffL G x.A x.xs.length) (u:Value):Tu (w.setCell ⟨G,o,none⟩ u) D m who r x:=by
 have hb:But G w (w.setCell ⟨G,o,none⟩ u):=(But.refl _ _).st u;have hs:=But.size_st (w:=w) (D:=G) (o:=o) u;exact⟨h.row.off (Nat.ne_of_gt hG) u,by rw[hs];exact h.im.nt hm hb,h.off,h.ir.below ((bR D w).setCell (p:=⟨G,o,none⟩) (Nat.le_of_lt hG) u),by rw[hs];exact h.ix.nt hx hb,h.ox,h.fw⟩
theorem But.new {G o:Nat} (h:But D w w') (hG:w.heap.size≤G) (u:Value):But D w (w'.setCell ⟨G,o,none⟩ u):=
 ⟨h.os,h.tape,h.output,by rw[But.size_st];exact h.size,fun k hk hn=>(Below.heap_setCell _ _ _ _ (by show k≠G;omega)).trans (h.block k hk hn)⟩
theorem Aft.other (h:Aft w w' D m m' who r x x') {G o:Nat} (hG:w.heap.size≤G) (hm:m'.Off G) (hx:OffL G x'.A x'.xs.length) (hD:D<G) (u:Value):Aft w (w'.setCell ⟨G,o,none⟩ u) D m m' who r x x':=
 ⟨h.tu.other hD hm hx u,h.but.new hG u,h.keep,h.dd⟩
theorem Aft.al {o:Obj} (h:Aft (w.alloc o) w' D m m' who r x x'):Aft w w' D m m' who r x x':=
 ⟨h.tu,(But.of (bL (bR _ _) _)).trans h.but,fun G hG=>h.keep G (by simp;omega),h.dd⟩
theorem Aft.from (h:Aft w' w'' D m m' who r x x') (hb:Below w.heap.size w w'):Aft w w'' D m m' who r x x':=
 ⟨h.tu,(But.of hb).trans h.but,fun G hG=>h.keep G (nL hG hb.size),h.dd⟩
theorem Tu.put (h:Tu w D m who r x) (o:Nat) (u:Value):m.In (w.setCell ⟨D,o,none⟩ u) (w.setCell ⟨D,o,none⟩ u).heap.size∧r.In (w.setCell ⟨D,o,none⟩ u) D∧KC.IsL (w.setCell ⟨D,o,none⟩ u) (w.setCell ⟨D,o,none⟩ u).heap.size (.slice x.A x.xs.length x.c) x.xs:=by
 have hb:But D w (w.setCell ⟨D,o,none⟩ u):=(But.refl _ _).st u;rw[But.size_st];exact⟨h.im.nt h.off hb,h.ir.below ((bR D w).setCell (p:=⟨D,o,none⟩) (nR D) u),h.ix.nt h.ox hb⟩
theorem Tu.setI (h:Tu w D m who r x) (n:Int):Tu (w.setCell ⟨D,19,none⟩ (.int .i64 n)) D m who r {x with i:=n}:=
 have q:=h.put 19 (.int .i64 n);⟨h.row.set 19 _,q.1,h.off,q.2.1,q.2.2,h.ox,h.fw⟩
theorem Tu.setN (h:Tu w D m who r x) (n:Int):Tu (w.setCell ⟨D,20,none⟩ (.int .i64 n)) D m who r {x with n:=n}:=
 have q:=h.put 20 (.int .i64 n);⟨h.row.set 20 _,q.1,h.off,q.2.1,q.2.2,h.ox,h.fw⟩
theorem Tu.setU (h:Tu w D m who r x) (n:Int):Tu (w.setCell ⟨D,21,none⟩ (.int .i64 n)) D m who r {x with u:=n}:=
 have q:=h.put 21 (.int .i64 n);⟨h.row.set 21 _,q.1,h.off,q.2.1,q.2.2,h.ox,h.fw⟩
theorem Tu.setO (h:Tu w D m who r x) {A:Option Addr} {c:Nat} {xs:List Int} (hx:KI.IsL w w.heap.size (.slice A xs.length c) xs) (ho:OffL D A xs.length):Tu (w.setCell ⟨D,10,none⟩ (.slice A xs.length c)) D {m with oA:=A,oc:=c,o:=xs} who r x:=
 have q:=h.put 10 (.slice A xs.length c);⟨h.row.set 10 _,⟨q.1.d,q.1.s,by rw[But.size_st];exact hx.nt ho ((But.refl _ _).st _)⟩,⟨h.off.1,h.off.2.1,ho⟩,q.2.1,q.2.2,h.ox,h.fw⟩
theorem Tu.setS (h:Tu w D m who r x) {s:Stk} (hs:s.In w w.heap.size) (ho:s.Off D):Tu ((((((w.setCell ⟨D,4,none⟩ (.slice s.cA s.cl.length s.cc)).setCell ⟨D,5,none⟩ (.slice s.lA s.ll.length s.lc)).setCell ⟨D,6,none⟩ (.slice s.tA s.tl.length s.tc)).setCell ⟨D,7,none⟩ (.int .i64 s.st)).setCell ⟨D,8,none⟩ (.int .i64 s.inn)).setCell ⟨D,9,none⟩ (.int .i64 s.out)) D {m with s:=s} who r x:=by
 have hb:But D w ((((((w.setCell ⟨D,4,none⟩ (.slice s.cA s.cl.length s.cc)).setCell ⟨D,5,none⟩ (.slice s.lA s.ll.length s.lc)).setCell ⟨D,6,none⟩ (.slice s.tA s.tl.length s.tc)).setCell ⟨D,7,none⟩ (.int .i64 s.st)).setCell ⟨D,8,none⟩ (.int .i64 s.inn)).setCell ⟨D,9,none⟩ (.int .i64 s.out)):=((((((But.refl _ _).st _).st _).st _).st _).st _).st _;have hd:Below D w ((((((w.setCell ⟨D,4,none⟩ (.slice s.cA s.cl.length s.cc)).setCell ⟨D,5,none⟩ (.slice s.lA s.ll.length s.lc)).setCell ⟨D,6,none⟩ (.slice s.tA s.tl.length s.tc)).setCell ⟨D,7,none⟩ (.int .i64 s.st)).setCell ⟨D,8,none⟩ (.int .i64 s.inn)).setCell ⟨D,9,none⟩ (.int .i64 s.out)):=hb.below (Nat.le_of_lt h.lt);have hz:((((((w.setCell ⟨D,4,none⟩ (.slice s.cA s.cl.length s.cc)).setCell ⟨D,5,none⟩ (.slice s.lA s.ll.length s.lc)).setCell ⟨D,6,none⟩ (.slice s.tA s.tl.length s.tc)).setCell ⟨D,7,none⟩ (.int .i64 s.st)).setCell ⟨D,8,none⟩ (.int .i64 s.inn)).setCell ⟨D,9,none⟩ (.int .i64 s.out)).heap.size=w.heap.size:=by simp
 exact⟨((((((h.row.set 4 _).set 5 _).set 6 _).set 7 _).set 8 _).set 9 _),by rw[hz];exact⟨h.im.d.nt h.off.1 hb,hs.nt ho hb,h.im.o.nt h.off.2.2 hb⟩,⟨h.off.1,ho,h.off.2.2⟩,h.ir.below hd,by rw[hz];exact h.ix.nt h.ox hb,h.ox,h.fw⟩
theorem Tu.oths (h:Tu w D m who r x) {G o:Nat} {l:List Value} (hG:G≠D) (hm:m.Off G) (hx:OffL G x.A x.xs.length) (hr:OffL G r.iA r.il.length):Tu (w.setCells G o l) D m who r x:=by
 have hb:=But.fill G l w o;have hs:=setCells_size G l w o;exact⟨h.row.offs hG,by rw[hs];exact h.im.nt hm hb,h.off,⟨h.ir.l.nt hr hb,h.ir.k,h.ir.a,h.ir.b,h.ir.u,h.ir.v⟩,by rw[hs];exact h.ix.nt hx hb,h.ox,h.fw⟩
theorem Aft.setI (h:Aft w w' D m m' who r x x') (n:Int):Aft w (w'.setCell ⟨D,19,none⟩ (.int .i64 n)) D m m' who r x {x' with i:=n}:=⟨h.tu.setI n,h.but.st _,h.keep,h.dd⟩
theorem Aft.setN (h:Aft w w' D m m' who r x x') (n:Int):Aft w (w'.setCell ⟨D,20,none⟩ (.int .i64 n)) D m m' who r x {x' with n:=n}:=⟨h.tu.setN n,h.but.st _,h.keep,h.dd⟩
theorem Aft.setU (h:Aft w w' D m m' who r x x') (n:Int):Aft w (w'.setCell ⟨D,21,none⟩ (.int .i64 n)) D m m' who r x {x' with u:=n}:=⟨h.tu.setU n,h.but.st _,h.keep,h.dd⟩
end
noncomputable def haV (d:Dk) (a:Ab) (b':Int):Int×Bool:=if rgS d a=true then(if (hdF a b').2=true then((a.c.length:Int)+(hdF a b').1,true)else(-1,false))else(-1,false)
theorem hand_any (d:Dk) (s:Stk) (b':Int) (w:World) (hd:d.In w w.heap.size) (hs:s.In w w.heap.size):Calls Tryz.prog 61 #[d.v,s.v,.int .i64 b'] w fun e w'=>e=.returned (.tuple #[.int .i64 (haV d s.ab b').1,.bool (haV d s.ab b').2])∧Below w.heap.size w w':=by
 obtain⟨w0,hw0⟩:∃w0,w0=(w.alloc d.ob).alloc s.ob:=⟨_,rfl⟩;have HB0:=aH (show Below w.heap.size w w0 by rw[hw0];exact bL (bL (bR _ _) _) _);have HD0:=aH (hd.then HB0.out);have HS0:=aH (hs.then HB0.out);have HK0:=aH (show DkAt w0 w.heap.size d by rw[hw0];exact(Cells4.new w _ _ _ _ _).below (bL (bR _ _) _));have HT0:=aH (show SkAt w0 (w.heap.size+1) s by
  have e:(w.alloc d.ob).heap.size=w.heap.size+1:=by simp
  rw[hw0,←e];exact Cells6.new (w.alloc d.ob) 41 _ _ _ _ _ _)
 have HRG:=aH (fun w h1 h2=>right_s d s w h1 h2);have HHD:=aH (fun w h=>Tp.held_any (.slice s.tA s.tl.length s.tc) s.tl b' w h);have HHF:=aH (show Tp.fstV (Tp.hdP s.tl b' 0) s.tl.length=hdF s.ab b' from rfl);have HL:=aH (rg_lens d s);have HV:=aH (show haV d s.ab b'=(if rgS d s.ab=true then(if (hdF s.ab b').2=true then((s.cl.length:Int)+(hdF s.ab b').1,true)else(-1,false))else(-1,false))from rfl);have HAT:=aH (hdF_at s.ab b');obtain⟨⟨f1,f2⟩,hf⟩:∃x,hdF s.ab b'=x:=⟨_,rfl⟩;rw[hf]at HV HAT HHF;dsimp only at HV HAT;obtain⟨⟨v1,v2⟩,hv⟩:∃x,haV d s.ab b'=x:=⟨_,rfl⟩;rw[hv];rw[hv]at HV;dsimp only;obtain⟨r,hr⟩:∃r,rgS d s.ab=r:=⟨_,rfl⟩;rw[hr]at HV HRG HL;obtain⟨t0,t1,t2,t3,t4,t5,_⟩:=HT0.out;obtain⟨d0,d1,d2,d3,_⟩:=HK0.out;clear hd hs hf hv hr
 cases r
 case false=>
  have hVV:v1= -1∧v2=false:=by have h:=HV.out;exact⟨congrArg Prod.fst h,congrArg Prod.snd h⟩
  obtain⟨rfl,rfl⟩:=hVV;go_enter Tryz.func61,Tryz.ntmps61;go_wp2_with fail;rw[←hw0];clear hw0;refine(HRG.out _ HD0.out HS0.out).mono ?_;rintro e w1 ⟨rfl,hb1⟩;have HB1:=aH (bC HB0.out hb1);clear hb1 t0 t1 t2 t3 t4 t5 d0 d1 d2 d3;go_wp2;refine bP (v:=.tuple #[.int .i64 (-1),.bool false]) ?_ rfl ⟨rfl,HB1.out⟩;simp[results,Tryz.results61,go_sem]
 go_enter Tryz.func61,Tryz.ntmps61;go_wp2_with fail;rw[←hw0];clear hw0;refine(HRG.out _ HD0.out HS0.out).mono ?_;rintro e w1 ⟨rfl,hb1⟩;have HB1:=aH (bC HB0.out hb1);have HS1:=aH (HS0.out.then hb1);have HT1:=aH (HT0.out.below hb1);clear hb1 t0 t1 t2 t3 t4 t5 d0 d1 d2 d3;obtain⟨t0,t1,t2,t3,t4,t5,_⟩:=HT1.out;go_wp2_with fail;refine(HHD.out _ HS1.out.t).mono ?_;rintro e w2 ⟨rfl,hb2⟩;rw[HHF.out];have HB2:=aH (bC HB1.out hb2);have HT2:=aH (HT1.out.below hb2);clear hb2 t0 t1 t2 t3 t4 t5;obtain⟨t0,t1,t2,t3,t4,t5,_⟩:=HT2.out
 cases f2
 case false=>
  have hVV:v1= -1∧v2=false:=by have h:=HV.out;exact⟨congrArg Prod.fst h,congrArg Prod.snd h⟩
  obtain⟨rfl,rfl⟩:=hVV;go_wp2;refine bP (v:=.tuple #[.int .i64 (-1),.bool false]) ?_ rfl ⟨rfl,HB2.out⟩;simp[results,Tryz.results61,go_sem]
 have hVV:v1=(s.cl.length:Int)+f1∧v2=true:=by have h:=HV.out;exact⟨congrArg Prod.fst h,congrArg Prod.snd h⟩
 obtain⟨rfl,rfl⟩:=hVV;obtain⟨k,rfl,hk⟩:=HAT.out rfl;have hwr:Go.RowKit.wrap64 ((s.cl.length:Int)+(k:Int))=(s.cl.length:Int)+k:=by
  have h1:=(HL.out (by simp)).1;have h2:=(HL.out (by simp)).2.2.1;have h3:k<s.tl.length:=hk;exact wrap64_fits _ (by unfold fits;omega)
 clear hk;go_wp2;refine bP (v:=.tuple #[.int .i64 ((s.cl.length:Int)+k),.bool true]) ?_ rfl ⟨rfl,HB2.out⟩;simp[results,Tryz.results61,go_sem];exact hwr
def setAll (o ids:List Int) (x:Int):List Int:=ids.foldl (fun l id=>l.set id.toNat x) o
theorem setAll_len (o ids:List Int) (x:Int):(setAll o ids x).length=o.length:=by
 unfold setAll
 induction ids generalizing o with
 |nil=>rfl
 |cons a r ih=>rw[List.foldl_cons,ih,List.length_set]
theorem setAll_snoc (o ids:List Int) (id x:Int):setAll o (ids++[id]) x=(setAll o ids x).set id.toNat x:=by
 unfold setAll;rw[List.foldl_append];rfl
def psE (o ids:List Int) (who:Int) (q:Int→Bool) (nt:Int):Int:=
 if rgO o&&armO who&&decide (Two.Inc ids)then if ids.any (fun x=>!hasO o.length x)then 3 else if ids.any (fun x=>!q (o.getD x.toNat 0))then nt else 0 else 1
def psI (o ids:List Int) (who:Int) (q:Int→Bool):Int:=
 if rgO o&&armO who&&decide (Two.Inc ids)then if ids.any (fun x=>!hasO o.length x)then(fstN (fun x=>!hasO o.length x) ids).1 else(fstN (fun x=>!q (o.getD x.toNat 0)) ids).1 else 0
def psL (o ids:List Int) (who:Int) (q:Int→Bool) (nx:Int):List Int:=
 if rgO o&&armO who&&decide (Two.Inc ids)then if ids.any (fun x=>!hasO o.length x)then []else if ids.any (fun x=>!q (o.getD x.toNat 0))then []else setAll o ids nx else []
theorem hasO_iff (n:Nat) (x:Int):hasO n x=true↔0≤x∧x<n:=by unfold hasO;rw[Bool.and_eq_true,decide_eq_true_eq,decide_eq_true_eq]
theorem has_all (n:Nat) (ids:List Int) (h:ids.any (fun x=>!hasO n x)=false):∀x∈ids,0≤x∧x<n:=fun x hx=>by
 rw[List.any_eq_false]at h;have:=h x hx;rw[Bool.not_eq_true,Bool.not_eq_false']at this;exact(hasO_iff n x).1 this
theorem fstN_miss {p:Int→Bool} {xs:List Int} {z:Int} (h:fstN p xs=(z,false)):z=0:=by
 induction xs with
 |nil=>simp only[fstN,Prod.mk.injEq]at h;exact h.1.symm
 |cons x r ih=>
  by_cases hp:p x=true
  ·simp[fstN,hp]at h
  ·exact ih (by simpa [fstN,hp]using h)
theorem pass_any (v u:Value) (o ids:List Int) (who:Int) (kf:Nat) (cap:Array Value) (q:Int→Bool) (nt nx:Int) (w:World) (hv:KI.IsL w w.heap.size v o) (hu:KI.IsL w w.heap.size u ids) (hl:o.length≤1000) (hnx:fits nx)
  (H2:∀(w':World) (x:Int) (b1 b0:Nat),w'.cell? ⟨b1,0,none⟩=some (.func (.func kf) #[] cap)→w'.cell? ⟨b0,0,none⟩=some v→Below w.heap.size w w'→0≤x→x<o.length→Calls Tryz.prog 231 #[.int .i64 x,.pointer (some ⟨b1,0,none⟩),.pointer (some ⟨b0,0,none⟩)] w' fun e w''=>e=.returned (.bool (!q (o.getD x.toNat 0)))∧Below w'.heap.size w' w''):
  Calls Tryz.prog 183 #[v,u,.int .i64 who,.func (.func kf) #[] cap,.int .i64 nt,.int .i64 nx] w fun e w'=>∃v',e=.returned (.tuple #[v',.int .i64 (psI o ids who q),.int .i64 (psE o ids who q nt)])∧KI.Own w' w.heap.size v' (psL o ids who q nx)∧Below w.heap.size w w':=by
 have HV:=aH hv;have HU:=aH hu;have HH:=aH H2;have hen1:∀args w,(callFunc 230 args).run Tryz.prog w=.ok (.enter 230 args) w:=enters_of Tryz.func230 (by kernel_rfl) rfl;have HE1:=aH hen1;have HE2:=aH (show ∀args w,(callFunc 231 args).run Tryz.prog w=.ok (.enter 231 args) w from enters_of Tryz.func231 (by kernel_rfl) rfl);have hmf:∀(fn:Fn) (first cap:Array Value) (w:World),(Instr.makeFunc fn first cap).run Tryz.prog w=.ok (.func fn first cap) w:=fun _ _ _ _=>rfl;obtain⟨A,c,rfl,hc⟩:=hv.shape;obtain⟨A2,c2,rfl,hc2⟩:=hu.shape;have hE:psE o ids who q nt=if rgO o&&armO who&&decide (Two.Inc ids)then if ids.any (fun x=>!hasO o.length x)then 3 else if ids.any (fun x=>!q (o.getD x.toNat 0))then nt else 0 else 1:=rfl
 have hI:psI o ids who q=if rgO o&&armO who&&decide (Two.Inc ids)then if ids.any (fun x=>!hasO o.length x)then(fstN (fun x=>!hasO o.length x) ids).1 else(fstN (fun x=>!q (o.getD x.toNat 0)) ids).1 else 0:=rfl
 have hL:psL o ids who q nx=if rgO o&&armO who&&decide (Two.Inc ids)then if ids.any (fun x=>!hasO o.length x)then []else if ids.any (fun x=>!q (o.getD x.toNat 0))then []else setAll o ids nx else []:=rfl
 rw[hE,hI,hL];clear hE hI hL hv hu H2 hen1;obtain⟨w0,hw0⟩:∃w0,w0=(w.alloc (.cells #[.slice A o.length c] 27)).alloc (.cells #[.func (.func kf) #[] cap] 158):=⟨_,rfl⟩;have c0:w0.cell? ⟨w.heap.size,0,none⟩=some (.slice A o.length c):=by rw[hw0];simp[go_sem]
 have c1:w0.cell? ⟨w.heap.size+1,0,none⟩=some (.func (.func kf) #[] cap):=by rw[hw0];simp[go_sem]
 have HB0:=aH (show Below w.heap.size w w0 by rw[hw0];exact bL (bL (bR _ _) _) _);have HR:=aH (fun w=>right_o (.slice A o.length c) o w);have HA:=aH (fun w=>armO_any who w);have HS:=aH (fun w h=>Two.right_any (.slice A2 ids.length c2) ids w h);have H115:=aH (fun x b w h=>pass1_any x b A o.length c w h);generalize rgO o=r at *;generalize armO who=a at *;generalize decide (Two.Inc ids)=i at *
 cases r
 ·simp only[Bool.false_and,Bool.false_eq_true,if_false];go_enter Tryz.func183,Tryz.ntmps183;go_wp2_with fail;rw[←hw0];clear hw0;refine(HR.out _ (HV.out.then HB0.out)).mono ?_;rintro e w1 ⟨rfl,hb1⟩;have HB1:=aH (bC HB0.out hb1);clear hb1;go_wp2
  go_ret3
  exact⟨_,rfl,Lk.Own.nil _ _,HB1.out⟩
 cases a
 ·simp only[Bool.and_false,Bool.false_and,Bool.false_eq_true,if_false];go_enter Tryz.func183,Tryz.ntmps183;go_wp2_with fail;rw[←hw0];clear hw0;refine(HR.out _ (HV.out.then HB0.out)).mono ?_;rintro e w1 ⟨rfl,hb1⟩;have HB1:=aH (bC HB0.out hb1);clear hb1;go_wp2_with fail;refine(HA.out _).mono ?_;rintro e w1 ⟨rfl,rfl⟩;go_wp2
  go_ret3
  exact⟨_,rfl,Lk.Own.nil _ _,HB1.out⟩
 have START:=True.intro
 cases i
 ·simp only[Bool.and_false,Bool.false_eq_true,if_false];go_enter Tryz.func183,Tryz.ntmps183;go_wp2_with fail;rw[←hw0];clear hw0;refine(HR.out _ (HV.out.then HB0.out)).mono ?_;rintro e w1 ⟨rfl,hb1⟩;have HB1:=aH (bC HB0.out hb1);clear hb1;go_wp2_with fail;refine(HA.out _).mono ?_;rintro e w1 ⟨rfl,rfl⟩;go_wp2_with fail;refine(HS.out _ (two_of (HU.out.then HB1.out))).mono ?_;rintro e w3 ⟨rfl,d,rfl⟩;have HB2:=aH (below_drewN HB1.out d);go_wp2
  go_ret3
  exact⟨_,rfl,Lk.Own.nil _ _,HB2.out⟩
 simp only[Bool.and_self,if_true];have HAL:=aH (fun h=>has_all o.length ids h);rw[←fstN_snd]at HAL;rw[←fstN_snd,←fstN_snd];obtain⟨z,hz⟩:∃z,fstN (fun x=>!hasO o.length x) ids=z:=⟨_,rfl⟩;obtain⟨y,hy⟩:∃y,fstN (fun x=>!q (o.getD x.toNat 0)) ids=y:=⟨_,rfl⟩;rw[hz]at HAL;rw[hz,hy];have HZ:=aH hz;have HY:=aH hy;clear hz hy;obtain⟨z1,z2⟩:=z;obtain⟨y1,y2⟩:=y;go_enter Tryz.func183,Tryz.ntmps183;go_wp2_with fail;rw[←hw0];clear hw0;refine(HR.out _ (HV.out.then HB0.out)).mono ?_;rintro e w1 ⟨rfl,hb1'⟩;have c0:=kK hb1' c0;have c1:=kK hb1' c1;have HB1:=aH (bC HB0.out hb1');clear hb1';go_wp2_with fail;refine(HA.out _).mono ?_;rintro e w1 ⟨rfl,rfl⟩;go_wp2_with fail;refine(HS.out _ (two_of (HU.out.then HB1.out))).mono ?_;rintro e w3 ⟨rfl,d,rfl⟩;have HB2:=aH (below_drewN HB1.out d);have c0:(w1.drewN d).cell? ⟨w.heap.size,0,none⟩=some (.slice A o.length c):=c0;have c1:(w1.drewN d).cell? ⟨w.heap.size+1,0,none⟩=some (.func (.func kf) #[] cap):=c1;generalize w1.drewN d=w2 at *;have HF1:=aH (first_any (.slice A2 ids.length c2) ids 230 #[.pointer (some ⟨w.heap.size,0,none⟩)] (fun x=>!hasO o.length x) w2 (HU.out.then HB2.out) HE1.out (fun w' hb x _=>(H115.out x w.heap.size w' (kK hb c0)).mono fun _ _ q=>⟨q.1,by rw[←q.2];exact bR _ _⟩));rw[HZ.out]at HF1;go_wp2_with fail;refine(HF1.out).mono ?_;rintro e w3 ⟨rfl,hb3⟩;have c0:=kK hb3 c0;have c1:=kK hb3 c1;have HB3:=aH (bC HB2.out hb3);clear hb3 HF1
 cases z2
 case true=>
  go_wp2
  go_ret3
  simp only;exact⟨_,rfl,Lk.Own.nil _ _,HB3.out⟩
 case false=>
  have HAM:=aH (HAL.out rfl);have HF1:=aH (first_any (.slice A2 ids.length c2) ids 231 #[.pointer (some ⟨w.heap.size+1,0,none⟩),.pointer (some ⟨w.heap.size,0,none⟩)] (fun x=>!q (o.getD x.toNat 0)) w3 (HU.out.then HB3.out) HE2.out (fun w' hb x hx=>HH.out w' x (w.heap.size+1) w.heap.size (kK hb c1) (kK hb c0) (bC HB3.out hb) (HAM.out x hx).1 (HAM.out x hx).2));rw[HY.out]at HF1;go_wp2_with fail;refine(HF1.out).mono ?_;rintro e w4 ⟨rfl,hb4⟩;have c0:=kK hb4 c0;have c1:=kK hb4 c1;have HB4:=aH (bC HB3.out hb4);clear hb4 HF1
  cases y2
  case true=>
   go_wp2
   go_ret3
   simp only;exact⟨_,rfl,Lk.Own.nil _ _,HB4.out⟩
  case false=>
   have HC:=aH (fun w h=>clone_o (.slice A o.length c) o w h (by omega));go_wp2_with fail;refine(HC.out _ (HV.out.then HB4.out)).mono ?_;rintro e w5 ⟨v5,rfl,ho5,hb5⟩;have HB5:=aH (bC HB4.out hb5);have HO5:=aH ho5;have HS4:=aH HB4.out.size;clear ho5 hb5 c0 c1;go_wp2
   go_loopw [56] (fun i wr=>∃k:Nat,k≤ids.length∧i=.int .i64 k∧KI.Own wr w4.heap.size v5 (setAll o (ids.take k) nx)∧Below w.heap.size w wr) (fun i _=>ids.length-(intOf i).toNat)
   case atStart=>exact⟨0,Nat.zero_le _,rfl,HO5.out,HB5.out⟩
   case round=>
    obtain⟨k,hk,rfl,hown,hbl⟩:=hrel;have HO:=aH hown;have HB:=aH hbl;clear hown hbl;by_cases hlt:k<ids.length
    ·obtain⟨b,off,cap',hs,_,hb,hl2,hcell,_⟩:=KI.cells (HU.out.then HB.out) (by omega);simp only[Value.slice.injEq]at hs;obtain⟨rfl,_,rfl⟩:=hs;have e1:=hcell k hlt;have hin:=HAM.out _ (getD_mem' ids k 0 hlt);have HS:=aH (setAll_snoc o (ids.take k) (ids.getD k 0) nx);rw[←take_snoc ids k 0 hlt]at HS;have hsl:=setAll_len o (ids.take k) nx;clear hcell;generalize ids.getD k 0=x at *;obtain⟨hx0,hx1⟩:=hin;obtain⟨j,rfl⟩:=Int.eq_ofNat_of_zero_le hx0;obtain⟨g,cp,hv5,hg1,hg2,hg3⟩:=HO.out.shape (by omega);rw[hsl]at hv5 hg3;subst hv5;obtain⟨f1,f2⟩:=KI.Own.at HO.out hsl j (by omega);generalize (setAll o (ids.take k) nx).getD j 0=old at *;go_wp2
     go_roundw
     case rel=>
      have hp:=KI.Own.put HO.out hsl j nx hnx;rw[show((j:Int)).toNat=j from rfl]at HS;exact⟨k+1,by omega,num_i (by omega),by rw[HS.out];exact hp.1,HB.out.setCell (Nat.le_trans HS4.out hg1) _⟩
     case measure=>simp[intOf];omega
    ·obtain rfl:k=ids.length:=(by omega);rw[List.take_length]at HO;go_wp2
     go_ret3
     simp only;have e1:=fstN_miss HZ.out;have e2:=fstN_miss HY.out;subst e1;subst e2;exact⟨_,rfl,HO.out.mono HS4.out,HB.out⟩
end Go.Proofs.YtmecohdedghiaaaGreatDoor
