/- A stock made one's own: its rows copied. -/
import Derived.Test.YtmecohdedghiaaaGreatDoorPo17
import Derived.Deep.Cut
set_option maxRecDepth 100000
set_option maxHeartbeats 8000000
open Go.Proofs.Tryz
namespace Go.Proofs.YtmecohdedghiaaaGreatDoor
open Go.RowKit
theorem vB (v:Value) (o:List Cel.Ce) (w:World) (hv:KE.IsL w w.heap.size v o) (hl:o.length≤100000):Calls prog 173 #[v] w fun e w'=>∃v',e=.returned v'∧KE.Own w' w.heap.size v' o∧Below w.heap.size w w':=by
 have HV:=aH hv;have q:∀(w:World) (a:Option Addr) (n c n' c':Nat),(binOp .eql 37 (.slice a n c) (.slice none n' c')).run prog w=.ok (.bool a.isNone) w:=fun w a n c n' c'=>Lib.run_eql_slice_nil w _ _ a n c n' c' underlying37;obtain⟨A,c,rfl,hc⟩:=hv.shape;clear hv
 match A with
 |none=>
  have h0:o.length=0:=by
   rcases Nat.eq_zero_or_pos o.length with h|h
   ·exact h
   ·obtain⟨b,off,e,_⟩:=HV.out.elem h
    cases e
  obtain rfl:=List.eq_nil_of_length_eq_zero h0;clear HV h0 hc;simp only[List.length_nil];go_enter func173,ntmps173;go_wp2
  go_ret
  exact⟨_,rfl,Lk.Own.nil _ _,bR _ _⟩
 |some a=>
  go_enter func173,ntmps173;go_wp2_with (at_builtin;refine Lk.wpList_app (K:=KE) _ rfl _ _ rfl rfl w.heap.size w.heap.size _ _ [] o rfl rfl (Lk.Own.made w w.heap.size 0 #[] (nR _) (by unfold maxLen;omega) rfl) (HV.out.below (bL (bR _ w) _)) ?c1 ?c2 ?_)
  case c1=>simp;omega
  case c2=>simp
  intro v1 w4 CF hgrow _;have CW:=aH (Lk.Own.grow' (K:=KE) (Lk.Own.made w w.heap.size 0 #[] (nR _) (by unfold maxLen;omega) rfl) (bL (bR _ w) _) (by simp) hgrow);have DB:=aH CF;clear CF hgrow;go_wp2
  go_ret
  exact⟨_,rfl,by simpa using DB.out,CW.out⟩
theorem uT (v:Value) (o:List Lo) (w:World) (hv:KL.IsL w w.heap.size v o) (hl:o.length≤100000):Calls prog 174 #[v] w fun e w'=>∃v',e=.returned v'∧KL.Own w' w.heap.size v' o∧Below w.heap.size w w':=by
 have HV:=aH hv;have q:∀(w:World) (a:Option Addr) (n c n' c':Nat),(binOp .eql 38 (.slice a n c) (.slice none n' c')).run prog w=.ok (.bool a.isNone) w:=fun w a n c n' c'=>Lib.run_eql_slice_nil w _ _ a n c n' c' underlying38;obtain⟨A,c,rfl,hc⟩:=hv.shape;clear hv
 match A with
 |none=>
  have h0:o.length=0:=by
   rcases Nat.eq_zero_or_pos o.length with h|h
   ·exact h
   ·obtain⟨b,off,e,_⟩:=HV.out.elem h
    cases e
  obtain rfl:=List.eq_nil_of_length_eq_zero h0;clear HV h0 hc;simp only[List.length_nil];go_enter func174,ntmps174;go_wp2
  go_ret
  exact⟨_,rfl,Lk.Own.nil _ _,bR _ _⟩
 |some a=>
  go_enter func174,ntmps174;go_wp2_with (at_builtin;refine Lk.wpList_app (K:=KL) _ rfl _ _ rfl rfl w.heap.size w.heap.size _ _ [] o rfl rfl (Lk.Own.made w w.heap.size 0 #[] (nR _) (by unfold maxLen;omega) rfl) (HV.out.below (bL (bR _ w) _)) ?c1 ?c2 ?_)
  case c1=>simp;omega
  case c2=>simp
  intro v1 w4 CF hgrow _;have CW:=aH (Lk.Own.grow' (K:=KL) (Lk.Own.made w w.heap.size 0 #[] (nR _) (by unfold maxLen;omega) rfl) (bL (bR _ w) _) (by simp) hgrow);have DB:=aH CF;clear CF hgrow;go_wp2
  go_ret
  exact⟨_,rfl,by simpa using DB.out,CW.out⟩
theorem ve (v:Value) (o:List Ch) (w:World) (hv:KC.IsL w w.heap.size v o) (hl:o.length≤100000):Calls prog 175 #[v] w fun e w'=>∃v',e=.returned v'∧KC.Own w' w.heap.size v' o∧Below w.heap.size w w':=by
 have HV:=aH hv;have q:∀(w:World) (a:Option Addr) (n c n' c':Nat),(binOp .eql 54 (.slice a n c) (.slice none n' c')).run prog w=.ok (.bool a.isNone) w:=fun w a n c n' c'=>Lib.run_eql_slice_nil w _ _ a n c n' c' underlying54;obtain⟨A,c,rfl,hc⟩:=hv.shape;clear hv
 match A with
 |none=>
  have h0:o.length=0:=by
   rcases Nat.eq_zero_or_pos o.length with h|h
   ·exact h
   ·obtain⟨b,off,e,_⟩:=HV.out.elem h
    cases e
  obtain rfl:=List.eq_nil_of_length_eq_zero h0;clear HV h0 hc;simp only[List.length_nil];go_enter func175,ntmps175;go_wp2
  go_ret
  exact⟨_,rfl,Lk.Own.nil _ _,bR _ _⟩
 |some a=>
  go_enter func175,ntmps175;go_wp2_with (at_builtin;refine Lk.wpList_app (K:=KC) _ rfl _ _ rfl rfl w.heap.size w.heap.size _ _ [] o rfl rfl (Lk.Own.made w w.heap.size 0 #[] (nR _) (by unfold maxLen;omega) rfl) (HV.out.below (bL (bR _ w) _)) ?c1 ?c2 ?_)
  case c1=>simp;omega
  case c2=>simp
  intro v1 w4 CF hgrow _;have CW:=aH (Lk.Own.grow' (K:=KC) (Lk.Own.made w w.heap.size 0 #[] (nR _) (by unfold maxLen;omega) rfl) (bL (bR _ w) _) (by simp) hgrow);have DB:=aH CF;clear CF hgrow;go_wp2
  go_ret
  exact⟨_,rfl,by simpa using DB.out,CW.out⟩
theorem ww (v:Value) (o:List (Int×Int)) (w:World) (hv:KT.IsL w w.heap.size v o) (hl:o.length≤100000):Calls prog 176 #[v] w fun e w'=>∃v',e=.returned v'∧KT.Own w' w.heap.size v' o∧Below w.heap.size w w':=by
 have HV:=aH hv;have q:∀(w:World) (a:Option Addr) (n c n' c':Nat),(binOp .eql 39 (.slice a n c) (.slice none n' c')).run prog w=.ok (.bool a.isNone) w:=fun w a n c n' c'=>Lib.run_eql_slice_nil w _ _ a n c n' c' underlying39;obtain⟨A,c,rfl,hc⟩:=hv.shape;clear hv
 match A with
 |none=>
  have h0:o.length=0:=by
   rcases Nat.eq_zero_or_pos o.length with h|h
   ·exact h
   ·obtain⟨b,off,e,_⟩:=HV.out.elem h
    cases e
  obtain rfl:=List.eq_nil_of_length_eq_zero h0;clear HV h0 hc;simp only[List.length_nil];go_enter func176,ntmps176;go_wp2
  go_ret
  exact⟨_,rfl,Lk.Own.nil _ _,bR _ _⟩
 |some a=>
  go_enter func176,ntmps176;go_wp2_with (at_builtin;refine Lk.wpList_app (K:=KT) _ rfl _ _ rfl rfl w.heap.size w.heap.size _ _ [] o rfl rfl (Lk.Own.made w w.heap.size 0 #[] (nR _) (by unfold maxLen;omega) rfl) (HV.out.below (bL (bR _ w) _)) ?c1 ?c2 ?_)
  case c1=>simp;omega
  case c2=>simp
  intro v1 w4 CF hgrow _;have CW:=aH (Lk.Own.grow' (K:=KT) (Lk.Own.made w w.heap.size 0 #[] (nR _) (by unfold maxLen;omega) rfl) (bL (bR _ w) _) (by simp) hgrow);have DB:=aH CF;clear CF hgrow;go_wp2
  go_ret
  exact⟨_,rfl,by simpa using DB.out,CW.out⟩
theorem Lk.IsL.far {P:Program} {α:Type} {K:Lk P α} {w:World} {B:Nat} {A:Option Addr} {n c:Nat} {xs:List α} (h:K.IsL w B (.slice A n c) xs) {D:Nat} (CJ:∀a,A=some a→a.block≠D) (o:Nat) (u:Value):K.IsL (w.setCell ⟨D,o,none⟩ u) B (.slice A n c) xs:=by
 obtain⟨⟨A',c',hv,hc,hA⟩,hf,hl⟩:=h;refine⟨⟨A',c',hv,hc,fun h0=>?_⟩,hf,hl⟩;obtain⟨b,off,e,hb,CD⟩:=hA h0;injection hv with e1 e2 e3
 refine⟨b,off,e,hb,fun i hi j u' hu=>sO (CD i hi j u' hu) (aN (.inl ?_))⟩;exact(CJ ⟨b,off,none⟩ (by rw[e1,e])).symm
structure Mine (V:World) (B D:Nat) (s:Stk):Prop where
 at':cn V D s
 c:KE.Own V B (.slice s.cA s.cl.length s.cc) s.cl
 l:KL.Own V B (.slice s.lA s.ll.length s.lc) s.ll
 t:KT.Own V B (.slice s.tA s.tl.length s.tc) s.tl
 x:∀q∈s.ll,KC.IsL V V.heap.size (.slice q.A q.xs.length q.c) q.xs
 y:∀q∈s.ll,∀a,q.A=some a→some a.block≠bk s.cA∧some a.block≠bk s.lA∧some a.block≠bk s.tA∧B≤a.block
 n1:∀b,bk s.cA=some b→bk s.lA≠some b
 n2:∀b,bk s.cA=some b→bk s.tA≠some b
 n3:∀b,bk s.lA=some b→bk s.tA≠some b
 lt:D<B
 le:B≤V.heap.size
 f:ae s.st∧ae s.inn∧ae s.out
theorem dL {A:Option Addr} {n c b:Nat} (h:(Value.slice A n c).ownBlock=some b):bk A=some b:=by
 cases A with
 |none=>cases h
 |some a=>exact h
theorem Mine.inn {V:World} {B D:Nat} {s:Stk} (h:Mine V B D s) (h1:s.cl.length≤100000) (h2:s.ll.length≤100000) (h3:s.tl.length≤100000):s.In V V.heap.size:=
 ⟨h.c.isL (by omega),h.l.isL (by omega),h.t.isL (by omega),h.x,h.f⟩
theorem Mine.below {V V':World} {B D:Nat} {s:Stk} (h:Mine V B D s) (hb:Below V.heap.size V V'):Mine V' B D s where
 at':=h.at'.below hb
 c:=h.c.below hb
 l:=h.l.below hb
 t:=h.t.below hb
 x:=fun q hq=>(h.x q hq).then hb
 y:=h.y
 n1:=h.n1
 n2:=h.n2
 n3:=h.n3
 lt:=h.lt
 le:=Nat.le_trans h.le hb.size
 f:=h.f
theorem Mine.cAt {V:World} {B D:Nat} {s:Stk} (h:Mine V B D s) (h0:0<s.cl.length):∃g,s.cA=some ⟨g,0,none⟩∧B≤g∧g<V.heap.size∧s.cl.length≤s.cc:=by
 obtain⟨g,cap,e,h1,h2,h3⟩:=h.c.shape h0;simp only[Value.slice.injEq]at e;exact⟨g,e.1,h1,h2,by omega⟩
theorem Mine.lAt {V:World} {B D:Nat} {s:Stk} (h:Mine V B D s) (h0:0<s.ll.length):∃g,s.lA=some ⟨g,0,none⟩∧B≤g∧g<V.heap.size∧s.ll.length≤s.lc:=by
 obtain⟨g,cap,e,h1,h2,h3⟩:=h.l.shape h0;simp only[Value.slice.injEq]at e;exact⟨g,e.1,h1,h2,by omega⟩
theorem Mine.tAt {V:World} {B D:Nat} {s:Stk} (h:Mine V B D s) (h0:0<s.tl.length):∃g,s.tA=some ⟨g,0,none⟩∧B≤g∧g<V.heap.size∧s.tl.length≤s.tc:=by
 obtain⟨g,cap,e,h1,h2,h3⟩:=h.t.shape h0;simp only[Value.slice.injEq]at e;exact⟨g,e.1,h1,h2,by omega⟩
theorem Mine.putC {V:World} {B D:Nat} {s:Stk} (h:Mine V B D s) (k:Nat) (hk:k<s.cl.length) (g:Nat) (hg:s.cA=some ⟨g,0,none⟩) (q:Cel.Ce) (hq:q.Fit):
  Mine (((V.setCell ⟨g,k*3,none⟩ (.int .i64 q.a)).setCell ⟨g,k*3+1,none⟩ (.int .i64 q.b)).setCell ⟨g,k*3+2,none⟩ (.int .i64 q.c)) B D {s with cl:=s.cl.set k q}:=by
 have Rd:B≤g:=(h.c.lt g (ax (by rw[hg];rfl))).1;have MC:g≠D:=by have:=h.lt;omega
 have hc:=h.c;rw[hg]at hc;have hl:((Value.slice s.lA s.ll.length s.lc)).ownBlock≠some g:=fun e=>h.n1 g (by rw[hg];rfl) (dL e);have ht:((Value.slice s.tA s.tl.length s.tc)).ownBlock≠some g:=fun e=>h.n2 g (by rw[hg];rfl) (dL e);refine⟨?_,?_,?_,?_,fun p hp=>?_,h.y,h.n1,h.n2,h.n3,h.lt,by simpa using h.le,h.f⟩
 ·have:=h.at'.apart3 MC (k*3) (k*3+1) (k*3+2) (.int .i64 q.a) (.int .i64 q.b) (.int .i64 q.c);simpa [cn]using this
 ·have:=hc.put3 (K:=KE) rfl rfl k hk q _ _ _ rfl hq;show KE.Own _ B (.slice s.cA (s.cl.set k q).length s.cc) (s.cl.set k q);rw[List.length_set,hg];exact this
 ·exact h.l.far3o (fun b hb e=>hl (by rw[hb,e])) _ _ _ _ _ _
 ·exact h.t.far3o (fun b hb e=>ht (by rw[hb,e])) _ _ _ _ _ _
 ·have hy:=h.y p hp;have CJ:∀a,p.A=some a→a.block≠g:=fun a ha e=>(hy a ha).1 (by rw[e,hg];rfl);have:=(((h.x p hp).far CJ (k*3) (.int .i64 q.a)).far CJ (k*3+1) (.int .i64 q.b)).far CJ (k*3+2) (.int .i64 q.c);simpa using this
theorem Mine.putL {V:World} {B D:Nat} {s:Stk} (h:Mine V B D s) (k:Nat) (hk:k<s.ll.length) (g:Nat) (hg:s.lA=some ⟨g,0,none⟩) (q:Lo) (hq:ae q.r∧ae q.l) (hx:KC.IsL V V.heap.size (.slice q.A q.xs.length q.c) q.xs)
  (hy:∀a,q.A=some a→some a.block≠bk s.cA∧some a.block≠bk s.lA∧some a.block≠bk s.tA∧B≤a.block):
  Mine (((V.setCell ⟨g,k*3,none⟩ (.int .i64 q.r)).setCell ⟨g,k*3+1,none⟩ (.int .i64 q.l)).setCell ⟨g,k*3+2,none⟩ (.slice q.A q.xs.length q.c)) B D {s with ll:=s.ll.set k q}:=by
 have Rd:B≤g:=(h.l.lt g (ax (by rw[hg];rfl))).1;have MC:g≠D:=by have:=h.lt;omega
 have hc:=h.l;rw[hg]at hc;have hl:((Value.slice s.cA s.cl.length s.cc)).ownBlock≠some g:=fun e=>h.n1 g (dL e) (by rw[hg];rfl);have ht:((Value.slice s.tA s.tl.length s.tc)).ownBlock≠some g:=fun e=>h.n3 g (by rw[hg];rfl) (dL e);have hY:∀p∈s.ll.set k q,∀a,p.A=some a→some a.block≠bk s.cA∧some a.block≠bk s.lA∧some a.block≠bk s.tA∧B≤a.block:=jD h.y k q hy;have hX:∀p∈s.ll.set k q,KC.IsL V V.heap.size (.slice p.A p.xs.length p.c) p.xs:=jD h.x k q hx;refine⟨?_,?_,?_,?_,fun p hp=>?_,hY,h.n1,h.n2,h.n3,h.lt,by simpa using h.le,h.f⟩
 ·have:=h.at'.apart3 MC (k*3) (k*3+1) (k*3+2) (.int .i64 q.r) (.int .i64 q.l) (.slice q.A q.xs.length q.c);simpa [cn]using this
 ·exact h.c.far3o (fun b hb e=>hl (by rw[hb,e])) _ _ _ _ _ _
 ·have:=hc.put3 (K:=KL) rfl rfl k hk q _ _ _ rfl hq;show KL.Own _ B (.slice s.lA (s.ll.set k q).length s.lc) (s.ll.set k q);rw[List.length_set,hg];exact this
 ·exact h.t.far3o (fun b hb e=>ht (by rw[hb,e])) _ _ _ _ _ _
 ·have CJ:∀a,p.A=some a→a.block≠g:=fun a ha e=>(hY p hp a ha).2.1 (by rw[e,hg];rfl);have:=(((hX p hp).far CJ (k*3) (.int .i64 q.r)).far CJ (k*3+1) (.int .i64 q.l)).far CJ (k*3+2) (.slice q.A q.xs.length q.c);simpa using this
theorem Mine.putT {V:World} {B D:Nat} {s:Stk} (h:Mine V B D s) (k:Nat) (hk:k<s.tl.length) (g:Nat) (hg:s.tA=some ⟨g,0,none⟩) (q:Int×Int) (hq:ae q.1∧ae q.2):
  Mine ((V.setCell ⟨g,k*2,none⟩ (.int .i64 q.1)).setCell ⟨g,k*2+1,none⟩ (.int .i64 q.2)) B D {s with tl:=s.tl.set k q}:=by
 have Rd:B≤g:=(h.t.lt g (ax (by rw[hg];rfl))).1;have MC:g≠D:=by have:=h.lt;omega
 have hc:=h.t;rw[hg]at hc;have hl:((Value.slice s.cA s.cl.length s.cc)).ownBlock≠some g:=fun e=>h.n2 g (dL e) (by rw[hg];rfl);have ht:((Value.slice s.lA s.ll.length s.lc)).ownBlock≠some g:=fun e=>h.n3 g (dL e) (by rw[hg];rfl);refine⟨?_,?_,?_,?_,fun p hp=>?_,h.y,h.n1,h.n2,h.n3,h.lt,by simpa using h.le,h.f⟩
 ·have:=h.at'.apart2 MC (k*2) (k*2+1) (.int .i64 q.1) (.int .i64 q.2);simpa [cn]using this
 ·exact h.c.far2o (fun b hb e=>hl (by rw[hb,e])) _ _ _ _
 ·exact h.l.far2o (fun b hb e=>ht (by rw[hb,e])) _ _ _ _
 ·have:=hc.put2 (K:=KT) rfl rfl k hk q _ _ rfl hq;show KT.Own _ B (.slice s.tA (s.tl.set k q).length s.tc) (s.tl.set k q);rw[List.length_set,hg];exact this
 ·have hy:=h.y p hp;have CJ:∀a,p.A=some a→a.block≠g:=fun a ha e=>(hy a ha).2.2.1 (by rw[e,hg];rfl);have:=((h.x p hp).far CJ (k*2) (.int .i64 q.1)).far CJ (k*2+1) (.int .i64 q.2);simpa using this
theorem Mine.putF {V:World} {B D:Nat} {s:Stk} (h:Mine V B D s) (n:Int) (hn:ae n):Mine (V.setCell ⟨D,4,none⟩ (.int .i64 n)) B D {s with inn:=n}∧Mine (V.setCell ⟨D,5,none⟩ (.int .i64 n)) B D {s with out:=n}:=by
 have far:∀(v:Value) (b:Nat),v.ownBlock=some b→B≤b→b≠D:=fun v b _ hb=>by have:=h.lt;omega
 have hx:∀o,∀p∈s.ll,KC.IsL (V.setCell ⟨D,o,none⟩ (.int .i64 n)) (V.setCell ⟨D,o,none⟩ (.int .i64 n)).heap.size (.slice p.A p.xs.length p.c) p.xs:=fun o p hp=>by
  have:=(h.x p hp).far (D:=D) (fun a ha=>by have h1:=(h.y p hp a ha).2.2.2;have h2:=h.lt;omega) o (.int .i64 n);simpa using this
 have hS:=h.at'.s (.int .i64 n);constructor
 ·exact⟨hS.2.2.2.2.1,h.c.far (fun b hb=>far _ b hb (h.c.lt b hb).1) 4 _,h.l.far (fun b hb=>far _ b hb (h.l.lt b hb).1) 4 _,h.t.far (fun b hb=>far _ b hb (h.t.lt b hb).1) 4 _,hx 4,h.y,h.n1,h.n2,h.n3,h.lt,by simpa using h.le,h.f.1,hn,h.f.2.2⟩
 ·exact⟨hS.2.2.2.2.2,h.c.far (fun b hb=>far _ b hb (h.c.lt b hb).1) 5 _,h.l.far (fun b hb=>far _ b hb (h.l.lt b hb).1) 5 _,h.t.far (fun b hb=>far _ b hb (h.t.lt b hb).1) 5 _,hx 5,h.y,h.n1,h.n2,h.n3,h.lt,by simpa using h.le,h.f.1,h.f.2.1,hn⟩
def Tl (V:World) (D:Nat) (d:Dk) (by':Int):Prop:=V.cell? ⟨D,6,none⟩=some (.slice d.bA d.bn d.bc)∧V.cell? ⟨D,7,none⟩=some (.slice d.pA d.pn d.pc)∧V.cell? ⟨D,8,none⟩=some (.slice d.rA d.rn d.rc)∧V.cell? ⟨D,9,none⟩=some (.int .i64 d.arms)∧V.cell? ⟨D,10,none⟩=some (.int .i64 by')∧D<V.heap.size
theorem Tl.below {V V':World} {D:Nat} {d:Dk} {b:Int} (h:Tl V D d b) (hb:Below V.heap.size V V'):Tl V' D d b:=⟨kK hb h.1,kK hb h.2.1,kK hb h.2.2.1,kK hb h.2.2.2.1,kK hb h.2.2.2.2.1,nL h.2.2.2.2.2 hb.size⟩
theorem Tl.off {V:World} {D g o:Nat} {d:Dk} {b:Int} (h:Tl V D d b) (CJ:g≠D∨o<6) (v:Value):Tl (V.setCell ⟨g,o,none⟩ v) D d b:=by
 have:∀i,6≤i→(⟨g,o,none⟩:Addr)≠⟨D,i,none⟩:=fun i hi=>aN (by omega);exact⟨sO h.1 (this 6 (by omega)),sO h.2.1 (this 7 (by omega)),sO h.2.2.1 (this 8 (by omega)),sO h.2.2.2.1 (this 9 (by omega)),sO h.2.2.2.2.1 (this 10 (by omega)),by simpa using h.2.2.2.2.2⟩
theorem mJ (l m:List Lo) (h:l.map Lo.ab=m.map Lo.ab) (k:Nat) (q:Lo) (hk:k<l.length) (hq:q.ab=(m.getD k av).ab):(l.set k q).map Lo.ab=m.map Lo.ab:=by
 have hl:l.length=m.length:=by have:=congrArg List.length h;simpa using this
 apply List.ext_getElem?;intro j;rw[List.getElem?_map,List.getElem?_map];by_cases e:k=j
 ·subst e;rw[List.getElem?_set_self hk,List.getElem?_eq_getElem (by omega:k<m.length)];rw[List.getD_eq_getElem?_getD,List.getElem?_eq_getElem (by omega:k<m.length)]at hq;simp only[Option.map_some,Option.some.injEq];exact hq
 ·rw[List.getElem?_set_ne e,←List.getElem?_map,h,List.getElem?_map]
theorem fA (l:List Lo) (k j:Nat) (q:Lo) (h:k≠j):(l.set k q).getD j av=l.getD j av:=by rw[List.getD_eq_getElem?_getD,List.getElem?_set_ne h,List.getD_eq_getElem?_getD]
theorem kX (l:List Lo) (k:Nat) (q:Lo) (h:k<l.length):(l.set k q).getD k av=q:=by rw[List.getD_eq_getElem?_getD,List.getElem?_set_self h];rfl
theorem qZ (s:Stk) (D:Nat) (d:Dk) (b':Int) (V:World) (hs:s.In V D) (hS:cn V D s) (hT:Tl V D d b') (Gj:s.cl.length≤100000) (E8:s.ll.length≤100000) (E6:s.tl.length≤100000) (hl4:∀q∈s.ll,q.xs.length≤100000):
  Calls prog 235 #[.pointer (some ⟨D,0,none⟩)] V fun e V'=>∃s':Stk,e=.returned (.tuple #[])∧s'.ab=s.ab∧Mine V' V.heap.size D s'∧Tl V' D d b'∧Below D V V':=by
 have EL:=aH (show D<V.heap.size from hT.2.2.2.2.2);have HI:=aH (fun W (hb:Below D V W)=>(hs.below hb).more (show D≤W.heap.size from Nat.le_trans (Nat.le_of_lt hT.2.2.2.2.2) hb.size));obtain⟨cA,cc,cl,lA,lc,ll,tA,tc,tl,st,inn,out⟩:=s;have HF:=aH hs.f;have HS:=aH hS;have HT:=aH hT;have GU:=aH (fun w h=>vB (.slice cA cl.length cc) cl w h Gj);have Hi:=aH (fun w h=>uT (.slice lA ll.length lc) ll w h E8);have NM:=aH (fun w h=>ww (.slice tA tl.length tc) tl w h E6);have Ju:=aH hl4;have ES:=aH Gj;have GM:=aH E8;have Ha:=aH E6;dsimp only at HI HS HT GU Hi NM Ju ES GM Ha HF;clear hs hS hT Gj E8 E6 hl4;obtain⟨g0,g1,g2,g3,g4,g5,z0,z1,z2,z3,z4,z5,zl⟩:=HS.out;clear g1 g2 g3 g4 g5 z0 z1 z2 z3 z4 z5 zl;go_enter func235,ntmps235;go_wp2_with fail;refine(GU.out _ (HI.out V (bR _ _)).c).mono ?_;rintro e V1 ⟨v1,rfl,ho,hb⟩;have O1:=aH ho;obtain⟨cA',cc',rfl,_⟩:=(ho.isL (by have:=ES.out;omega)).shape;have S1:=aH (HS.out.below hb);have T1:=aH (HT.out.below hb);have B1:=aH (hb.mono (Nat.le_of_lt EL.out));obtain⟨g0,g1,g2,g3,g4,g5,z0,z1,z2,z3,z4,z5,zl⟩:=S1.out;clear g1 g2 g3 g4 g5 z1 z2 z3 z4 z5 zl ho hb HS HT
 go_upto_region 1 with fail
 clear g0 z0;have Iq:∀b,V.heap.size≤b→b≠D:=fun b h=>by have:=EL.out;omega
 have S2:=aH (S1.out.s (.slice cA' cl.length cc')).1;have T2:=aH (T1.out.off (g:=D) (o:=0) (.inr (by decide)) (.slice cA' cl.length cc'));have O2:=aH (O1.out.far (D:=D) (fun b hb=>Iq b (O1.out.lt b hb).1) 0 (.slice cA' cl.length cc'));have B2:=aH (show Below D V (V1.setCell ⟨D,0,none⟩ (.slice cA' cl.length cc'))from B1.out.setCell (nR _) _);have DL:=aH Iq;clear Iq S1 T1 O1 B1;generalize V1.setCell ⟨D,0,none⟩ (.slice cA' cl.length cc')=V2 at *;obtain⟨g0,g1,g2,g3,g4,g5,z0,z1,z2,z3,z4,z5,zl⟩:=S2.out;clear g0 g2 g3 g4 g5 z0 z1 z2 z3 z4 z5 zl;go_wp2_with fail;refine(Hi.out _ (HI.out V2 B2.out).l).mono ?_;rintro e V3 ⟨v3,rfl,ho,hb⟩;have KJ:V.heap.size≤V2.heap.size:=B2.out.size;have P3:=aH (ho.mono KJ);obtain⟨lA',lc',rfl,_⟩:=(ho.isL (by have:=GM.out;omega)).shape;have S3:=aH (S2.out.below hb);have T3:=aH (T2.out.below hb);have O3:=aH (O2.out.below hb);have B3:=aH (B2.out.trans (hb.mono (Nat.le_trans (Nat.le_of_lt EL.out) KJ)));have N3:=aH (show ∀b,bk cA'=some b→bk lA'≠some b from fun b h1 h2=>by
  have a1:=(O2.out.lt b (ax h1)).2;have a2:=(ho.lt b (ax h2)).1;omega)
 obtain⟨g0,g1,g2,g3,g4,g5,z0,z1,z2,z3,z4,z5,zl⟩:=S3.out;clear g0 g2 g3 g4 g5 z0 z2 z3 z4 z5 zl ho hb KJ S2 T2 O2 B2
 go_upto_region 2 with fail
 clear g1 z1;have S4:=aH (S3.out.s (.slice lA' ll.length lc')).2.1;have T4:=aH (T3.out.off (g:=D) (o:=1) (.inr (by decide)) (.slice lA' ll.length lc'));have O4:=aH (O3.out.far (D:=D) (fun b hb=>DL.out b (O3.out.lt b hb).1) 1 (.slice lA' ll.length lc'));have P4:=aH (P3.out.far (D:=D) (fun b hb=>DL.out b (P3.out.lt b hb).1) 1 (.slice lA' ll.length lc'));have B4:=aH (show Below D V (V3.setCell ⟨D,1,none⟩ (.slice lA' ll.length lc'))from B3.out.setCell (nR _) _);clear S3 T3 O3 P3 B3;generalize V3.setCell ⟨D,1,none⟩ (.slice lA' ll.length lc')=V4 at *;obtain⟨g0,g1,g2,g3,g4,g5,z0,z1,z2,z3,z4,z5,zl⟩:=S4.out;clear g0 g2 g3 g4 g5 z0 z2 z3 z4 z5 zl;have Jy:(ll.length:Int)≤100000:=by have:=GM.out;omega
 go_wp2;clear g1 z1
 go_loopw [30] (fun i wr=>∃(k:Nat) (LL:List Lo),i=.int .i64 k∧k≤ll.length∧Hid (LL.length=ll.length∧LL.map Lo.ab=ll.map Lo.ab∧∀j,k≤j→LL.getD j av=ll.getD j av)∧Hid (Cells6 wr D (.slice cA' cl.length cc') (.slice lA' ll.length lc') (.slice tA tl.length tc) (.int .i64 st) (.int .i64 inn) (.int .i64 out))∧
   Hid (Tl wr D d b')∧Hid (KE.Own wr V.heap.size (.slice cA' cl.length cc') cl)∧Hid (KL.Own wr V.heap.size (.slice lA' ll.length lc') LL)∧
   Hid (∀j,j<k→KC.IsL wr wr.heap.size (.slice (LL.getD j av).A (LL.getD j av).xs.length (LL.getD j av).c) (LL.getD j av).xs∧∀a,(LL.getD j av).A=some a→some a.block≠bk cA'∧some a.block≠bk lA'∧V.heap.size≤a.block∧a.block<wr.heap.size)∧Hid (Below D V wr)) (fun i _=>ll.length-(intOf i).toNat)
 case atStart=>exact⟨0,ll,rfl,Nat.zero_le _,aH ⟨rfl,rfl,fun _ _=>rfl⟩,S4,T4,O4,P4,aH (fun j hj=>absurd hj (Nat.not_lt_zero _)),B4⟩
 case round=>
  clear S4 T4 O4 P4 B4;obtain⟨k,LL,rfl,hk,FC,hS,hT,hO,hP,hX,hB⟩:=hrel;have DJ:=aH FC.out;have S5:=aH hS.out;have T5:=aH hT.out;have O5:=aH hO.out;have P5:=aH hP.out;have X5:=aH hX.out;have B5:=aH hB.out;clear FC hS hT hO hP hX hB;by_cases CI:k<ll.length
  ·have EC:LL.length=ll.length:=DJ.out.1;obtain⟨gl,cpl,Gc,hg1,DT,hg3⟩:=P5.out.shape (by omega);rw[EC]at Gc hg3;simp only[Value.slice.injEq]at Gc;obtain⟨rfl,_,rfl⟩:=Gc;obtain⟨q0,q1,q2,y0,y1,y2⟩:=KL.Own.at3 P5.out EC k CI;have H8:LL.getD k av=ll.getD k av:=DJ.out.2.2 k (nR _);rw[H8]at q0 q1 q2;have Hh:=aH ((HI.out wr B5.out).x _ (af ll k av CI));have Hk:=aH (Ju.out _ (af ll k av CI));have Ip:=aH ((HI.out wr B5.out).l.2.1 _ (af ll k av CI));have Jq:=aH H8;clear H8;have Fw:=aH (fun q hq=>mJ LL ll DJ.out.2.1 k q (by omega) hq);have OM:=aH (show(ll.getD k av)=ll.getD k av from rfl);obtain⟨Q,hQ⟩:∃Q,ll.getD k av=Q:=⟨_,rfl⟩;rw[hQ]at q0 q1 q2 Hh Hk Ip Jq Fw;clear hQ OM y0 y1 y2;obtain⟨qr,ql,qA,qc,qx⟩:=Q;dsimp only at *;have CZ:=bL (bR wr.heap.size wr) (.cells #[.int .i64 qr,.int .i64 ql,.slice qA qx.length qc] 115);have Kc:V.heap.size≤wr.heap.size:=B5.out.size;have EY:=aH (show ∀w1,Below (wr.alloc (.cells #[.int .i64 qr,.int .i64 ql,.slice qA qx.length qc] 115)).heap.size (wr.alloc (.cells #[.int .i64 qr,.int .i64 ql,.slice qA qx.length qc] 115)) w1→(w1.cell? ⟨wr.heap.size,2,none⟩=some (.slice qA qx.length qc))from by
    intro w1 hb;refine kK hb ?_;simp[go_sem])
   have S6:=aH (S5.out.below CZ);have T6:=aH (T5.out.below CZ);have O6:=aH (O5.out.below CZ);have P6:=aH (P5.out.below CZ);have X6:=aH (show ∀j,j<k→KC.IsL (wr.alloc (.cells #[.int .i64 qr,.int .i64 ql,.slice qA qx.length qc] 115)) (wr.alloc (.cells #[.int .i64 qr,.int .i64 ql,.slice qA qx.length qc] 115)).heap.size (.slice (LL.getD j av).A (LL.getD j av).xs.length (LL.getD j av).c) (LL.getD j av).xs∧∀a,(LL.getD j av).A=some a→some a.block≠bk cA'∧some a.block≠bk (some ⟨gl,0,none⟩)∧V.heap.size≤a.block∧a.block<(wr.alloc (.cells #[.int .i64 qr,.int .i64 ql,.slice qA qx.length qc] 115)).heap.size from fun j hj=>⟨(X5.out j hj).1.then CZ,fun a ha=>⟨((X5.out j hj).2 a ha).1,((X5.out j hj).2 a ha).2.1,((X5.out j hj).2 a ha).2.2.1,nL ((X5.out j hj).2 a ha).2.2.2 CZ.size⟩⟩);have B6:=aH (B5.out.trans (CZ.mono (Nat.le_trans (Nat.le_of_lt EL.out) Kc)));have Q6:=aH (Hh.out.then CZ);have GH:=aH (fun w h=>ve (.slice qA qx.length qc) qx w h Hk.out);have Gm:=aH (show gl<wr.heap.size from DT);have CV:=aH (show gl<wr.heap.size from DT);have QX:=aH hg1;have g1:=S5.out.2.1;obtain⟨Lb,hLb⟩:∃Lb,wr.heap.size=Lb:=⟨_,rfl⟩;clear S5 T5 O5 P5 X5 B5 Kc CZ Hh
   go_upto_region 5 with fail
   generalize wr.alloc (.cells #[.int .i64 qr,.int .i64 ql,.slice qA qx.length qc] 115)=V5 at *;rw[hLb]at EY Gm CV;(try simp only[hLb]);clear hLb q0 q1 q2 g1;obtain⟨e1,e2⟩:V5.drew.cell? ⟨D,1,none⟩=some (.slice (some ⟨gl,0,none⟩) ll.length lc')∧V5.drew.cell? ⟨Lb,2,none⟩=some (.slice qA qx.length qc):=⟨S6.out.2.1,EY.out V5.drew (bR _ _).drew⟩;refine pE ⟨e1,e2⟩ (by kernel_rfl) (fun CC=>?_);clear e1 e2;have bw:=(bR V5.heap.size V5).drew;have S7:=aH (S6.out.below bw);have T7:=aH (T6.out.below bw);have O7:=aH (O6.out.below bw);have P7:=aH (P6.out.below bw);have X7:=aH (show ∀j,j<k→KC.IsL V5.drew V5.drew.heap.size (.slice (LL.getD j av).A (LL.getD j av).xs.length (LL.getD j av).c) (LL.getD j av).xs∧∀a,(LL.getD j av).A=some a→some a.block≠bk cA'∧some a.block≠bk (some ⟨gl,0,none⟩)∧V.heap.size≤a.block∧a.block<V5.drew.heap.size from fun j hj=>X6.out j hj);have B7:=aH (Below.drew B6.out);have Q7:=aH (Q6.out.then bw);have BV:=aH bw;have Gm:=aH (show gl<V5.drew.heap.size from nL Gm.out (by have h:=wB _ _ (EY.out V5 (bR _ _));exact Nat.le_of_lt h));clear bw S6 T6 O6 P6 X6 B6 Q6;generalize V5.drew=v0 at *;refine wk [.k 0 35,.k 1 36,.k 2 37,.k 3 38,.k 4 39,.k 5 40,.k 6 41,.k 7 42] (fun _ _ _ _ _ h=>h) CC ?_ (by kernel_rfl);repeat (refine .k (v:=?_) rfl (by kernel_rfl) ?_ ?_;rotate_left 1;(intro w h;go_simp<;>try rfl);try simp only[sp])
   refine .nil ?_;refine wQ 8 (some 43) rfl (fun K hK=>?_) (by kernel_rfl);go_simp;refine(GH.out _ Q7.out).mono ?_;rintro e v1 ⟨vx,rfl,ho,hb⟩;obtain⟨xA,xc,rfl,_⟩:=(ho.isL (by have:=Hk.out;omega)).shape;have Kc:V.heap.size≤v0.heap.size:=B7.out.size;have S8:=aH (S7.out.below hb);have T8:=aH (T7.out.below hb);have O8:=aH (O7.out.below hb);have P8:=aH (P7.out.below hb);have X8:=aH (show ∀j,j<k→KC.IsL v1 v1.heap.size (.slice (LL.getD j av).A (LL.getD j av).xs.length (LL.getD j av).c) (LL.getD j av).xs∧∀a,(LL.getD j av).A=some a→some a.block≠bk cA'∧some a.block≠bk (some ⟨gl,0,none⟩)∧V.heap.size≤a.block∧a.block<v1.heap.size from fun j hj=>⟨(X7.out j hj).1.then hb,fun a ha=>⟨((X7.out j hj).2 a ha).1,((X7.out j hj).2 a ha).2.1,((X7.out j hj).2 a ha).2.2.1,nL ((X7.out j hj).2 a ha).2.2.2 hb.size⟩⟩);have B8:=aH (B7.out.trans (hb.mono (Nat.le_trans (Nat.le_of_lt EL.out) Kc)));have BV:=aH (bC BV.out hb);have MK:∀a,xA=some a→v0.heap.size≤a.block∧a.block<v1.heap.size:=fun a ha=>ho.lt a.block (ax (by rw[ha];rfl));have C8:=aH (show some gl≠bk cA' from fun e=>by have h:=N3.out gl e.symm;exact h rfl);have XN:=aH (show KC.IsL v1 v1.heap.size (.slice xA qx.length xc) qx∧∀a,xA=some a→some a.block≠bk cA'∧some a.block≠bk (some ⟨gl,0,none⟩)∧V.heap.size≤a.block∧a.block<v1.heap.size from⟨ho.isL (by have:=Hk.out;omega),fun a ha=>⟨fun e=>by
     have h1:=(O7.out.lt a.block (ax e.symm)).2;have h2:=(MK a ha).1;omega,fun e=>by
     have h3:gl=a.block:=(by simpa [bk]using e.symm);have h2:=(MK a ha).1;have:=Gm.out;omega,by have h2:=(MK a ha).1;omega,(MK a ha).2⟩⟩)
   have hH:=aI (S8.out.2.1) (EY.out v1 BV.out);go_wp2_with fail;clear ho hb Kc MK S7 T7 O7 P7 X7 B7 Q7;refine hK.out _ _ hH (fun CC=>?_);clear hK K;clear hH;(try simp only[sp]);refine wk [.k 9 44,.k 10 45] (fun _ _ _ _ _ h=>h) CC ?_ (by kernel_rfl);repeat (refine .k (v:=?_) rfl (by kernel_rfl) ?_ ?_;rotate_left 1;(intro w h;go_simp<;>try rfl);try simp only[sp])
   refine .nil ?_;refine wQ 11 none rfl (fun K hK=>?_) (by kernel_rfl);have EC:LL.length=ll.length:=DJ.out.1;obtain⟨q0,q1,q2,y0,y1,y2⟩:=KL.Own.at3 P8.out EC k CI;go_simp;clear q0 q1 q2 y0 y1 y2;have EO:gl≠D:=DL.out gl QX.out;have S9:=aH (S8.out.off EO (o:=k*3+2) (.slice xA qx.length xc));have T9:=aH (T8.out.off (g:=gl) (o:=k*3+2) (.inl EO) (.slice xA qx.length xc));have O9:=aH (O8.out.far (D:=gl) (fun b hb e=>C8.out (by rw[←e];exact(dL hb).symm)) (k*3+2) (.slice xA qx.length xc));have P9:=aH (show KL.Own (v1.setCell ⟨gl,k*3+2,none⟩ (.slice xA qx.length xc)) V.heap.size (.slice (some ⟨gl,0,none⟩) ll.length lc') (LL.set k ⟨qr,ql,xA,xc,qx⟩)from P8.out.put3c (K:=KL) rfl EC k CI ⟨qr,ql,xA,xc,qx⟩ (.int .i64 qr) (.int .i64 ql) (.slice xA qx.length xc) (.slice qA qx.length qc) (by show gP (LL.getD k av)=_;rw[Jq.out];rfl) rfl Ip.out);have B9:=aH (show Below D V (v1.setCell ⟨gl,k*3+2,none⟩ (.slice xA qx.length xc))from B8.out.setCell (by show D≤gl;have:=QX.out;have:=EL.out;omega) _);have Jh:∀(A:Option Addr) (n c:Nat) (xs:List Ch),KC.IsL v1 v1.heap.size (.slice A n c) xs→(∀a,A=some a→some a.block≠bk (some ⟨gl,0,none⟩))→KC.IsL (v1.setCell ⟨gl,k*3+2,none⟩ (.slice xA qx.length xc)) (v1.setCell ⟨gl,k*3+2,none⟩ (.slice xA qx.length xc)).heap.size (.slice A n c) xs:=fun A n c xs h1 h2=>by
    have:=h1.far (D:=gl) (fun a ha e=>h2 a ha (by rw[e];rfl)) (k*3+2) (.slice xA qx.length xc);simpa using this
   have X9:=aH (show ∀j,j<k+1→KC.IsL (v1.setCell ⟨gl,k*3+2,none⟩ (.slice xA qx.length xc)) (v1.setCell ⟨gl,k*3+2,none⟩ (.slice xA qx.length xc)).heap.size (.slice ((LL.set k ⟨qr,ql,xA,xc,qx⟩).getD j av).A ((LL.set k ⟨qr,ql,xA,xc,qx⟩).getD j av).xs.length ((LL.set k ⟨qr,ql,xA,xc,qx⟩).getD j av).c) ((LL.set k ⟨qr,ql,xA,xc,qx⟩).getD j av).xs∧∀a,((LL.set k ⟨qr,ql,xA,xc,qx⟩).getD j av).A=some a→some a.block≠bk cA'∧some a.block≠bk (some ⟨gl,0,none⟩)∧V.heap.size≤a.block∧a.block<(v1.setCell ⟨gl,k*3+2,none⟩ (.slice xA qx.length xc)).heap.size from fun j hj=>by
    by_cases e:k=j
    ·subst e;rw[kX LL k _ (by omega)];exact⟨Jh _ _ _ _ XN.out.1 (fun a ha=>(XN.out.2 a ha).2.1),fun a ha=>by have h:=XN.out.2 a ha;exact⟨h.1,h.2.1,h.2.2.1,by simpa using h.2.2.2⟩⟩
    ·rw[fA LL k j _ e];have h:=X8.out j (by omega);exact⟨Jh _ _ _ _ h.1 (fun a ha=>(h.2 a ha).2.1),fun a ha=>by have h2:=h.2 a ha;exact⟨h2.1,h2.2.1,h2.2.2.1,by simpa using h2.2.2.2⟩⟩)
   have L9:=aH (show(LL.set k ⟨qr,ql,xA,xc,qx⟩).length=ll.length∧(LL.set k ⟨qr,ql,xA,xc,qx⟩).map Lo.ab=ll.map Lo.ab∧∀j,k+1≤j→(LL.set k ⟨qr,ql,xA,xc,qx⟩).getD j av=ll.getD j av from⟨by rw[List.length_set,EC],Fw.out ⟨qr,ql,xA,xc,qx⟩ rfl,fun j hj=>by rw[fA LL k j _ (by omega)];exact DJ.out.2.2 j (by omega)⟩);have Np:gl≠Lb:=by
    intro e;have h:=CV.out;omega
   have IL:=aI (S9.out.2.1) (sO (v:=.slice xA qx.length xc) (EY.out v1 BV.out) (aN (a:=gl) (b:=k*3+2) (.inl Np)));refine hK.out _ _ IL (fun CC=>?_);clear hK K;clear IL CC Np Jh EC EO S8 T8 O8 P8 X8 B8 XN;(try simp only[sp]);refine wD (by kernel_rfl) ?_;generalize v1.setCell ⟨gl,k*3+2,none⟩ (.slice xA qx.length xc)=vx at *;go_wp2
   go_roundw
   case rel=>exact⟨k+1,LL.set k ⟨qr,ql,xA,xc,qx⟩,ai (by omega),by omega,L9,S9,T9,O9,P9,X9,B9⟩
   case measure=>simp[intOf];omega
  ·obtain rfl:k=ll.length:=(by omega);obtain⟨g0,g1,g2,g3,g4,g5,z0,z1,z2,z3,z4,z5,zl⟩:=S5.out;clear g0 g1 g3 g4 g5 z0 z1 z2 z3 z4 z5 zl;go_wp2_with fail;refine(NM.out _ (HI.out wr B5.out).t).mono ?_;rintro e V7 ⟨v7,rfl,ho,hb⟩;obtain⟨tA',tc',rfl,_⟩:=(ho.isL (by have:=Ha.out;omega)).shape;have Kc:V.heap.size≤wr.heap.size:=B5.out.size;have S7:=aH (S5.out.below hb);have T7:=aH (T5.out.below hb);have O7:=aH (O5.out.below hb);have P7:=aH (P5.out.below hb);have B7:=aH (B5.out.trans (hb.mono (Nat.le_trans (Nat.le_of_lt EL.out) Kc)));have X7:=aH (show ∀j,j<ll.length→KC.IsL V7 V7.heap.size (.slice (LL.getD j av).A (LL.getD j av).xs.length (LL.getD j av).c) (LL.getD j av).xs∧∀a,(LL.getD j av).A=some a→some a.block≠bk cA'∧some a.block≠bk lA'∧some a.block≠bk tA'∧V.heap.size≤a.block from fun j hj=>⟨(X5.out j hj).1.then hb,fun a ha=>⟨((X5.out j hj).2 a ha).1,((X5.out j hj).2 a ha).2.1,fun e=>by
    have h1:=(ho.lt a.block (ax e.symm)).1;have h2:=((X5.out j hj).2 a ha).2.2.2;omega,((X5.out j hj).2 a ha).2.2.1⟩⟩)
   have N7:=aH (show(∀b,bk cA'=some b→bk tA'≠some b)∧(∀b,bk lA'=some b→bk tA'≠some b)from⟨fun b h1 h2=>by
    have a1:=(O5.out.lt b (ax h1)).2;have a2:=(ho.lt b (ax h2)).1;omega,fun b h1 h2=>by
    have a1:=(P5.out.lt b (ax h1)).2;have a2:=(ho.lt b (ax h2)).1;omega⟩)
   have R7:=aH (ho.mono Kc);obtain⟨g0,g1,g2,g3,g4,g5,z0,z1,z2,z3,z4,z5,zl⟩:=S7.out;clear g0 g1 g3 g4 g5 z0 z1 z3 z4 z5 zl ho hb;go_wp2;have EC:LL.length=ll.length:=DJ.out.1;have S8:=(S7.out.s (.slice tA' tl.length tc')).2.2.1;have D8:(V7.setCell ⟨D,2,none⟩ (.slice tA' tl.length tc')).heap.size=V7.heap.size:=(by simp)
   go_end0
   ·refine⟨⟨cA',cc',cl,lA',lc',LL,tA',tc',tl,st,inn,out⟩,rfl,?_,?_,T7.out.off (.inr (by decide)) _,B7.out.setCell (nR _) _⟩
    ·simp only[Stk.ab];rw[DJ.out.2.1]
    ·refine⟨?_,O7.out.far (fun b hb=>DL.out b (O7.out.lt b hb).1) 2 _,?_,R7.out.far (fun b hb=>DL.out b (R7.out.lt b hb).1) 2 _,fun q hq=>?_,fun q hq a ha=>?_,N3.out,N7.out.1,N7.out.2,EL.out,by rw[D8];exact B7.out.size,HF.out⟩
     ·show Cells6 _ D _ (.slice lA' LL.length lc') _ _ _ _;rw[EC];exact S8
     ·show KL.Own _ _ (.slice lA' LL.length lc') LL;rw[EC];exact P7.out.far (fun b hb=>DL.out b (P7.out.lt b hb).1) 2 _
     ·obtain⟨j,hj,rfl⟩:=List.getElem_of_mem hq;have hj:j<LL.length:=hj;have e:LL.getD j av=LL[j]:=(by rw[List.getD_eq_getElem?_getD,List.getElem?_eq_getElem hj];rfl);have h:=(X7.out j (by omega));rw[e]at h;rw[D8];exact h.1.far (fun a ha=>DL.out _ (h.2 a ha).2.2.2) 2 _
     ·obtain⟨j,hj,rfl⟩:=List.getElem_of_mem hq;have hj:j<LL.length:=hj;have e:LL.getD j av=LL[j]:=(by rw[List.getD_eq_getElem?_getD,List.getElem?_eq_getElem hj];rfl);have h:=(X7.out j (by omega));rw[e]at h;exact h.2 a ha
end Go.Proofs.YtmecohdedghiaaaGreatDoor
