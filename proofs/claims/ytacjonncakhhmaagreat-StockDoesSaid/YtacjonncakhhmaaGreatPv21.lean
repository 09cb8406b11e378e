/- Logs: a further change, noted by the reference. -/
import Derived.Test.YtacjonncakhhmaaGreatPv00
import Derived.Test.YtacjonncakhhmaaGreatPv20
import Derived.Test.YtacjonncakhhmaaGreatPv07
set_option maxRecDepth 100000
set_option maxHeartbeats 8000000
namespace Go.Proofs.YtacjonncakhhmaaGreat
open Go.RowKit
structure Rw (V:World) (B:Nat) (s:Stk):Prop where
 c:KE.Own V B (.slice s.cA s.cl.length s.cc) s.cl
 l:KL.Own V B (.slice s.lA s.ll.length s.lc) s.ll
 t:KT.Own V B (.slice s.tA s.tl.length s.tc) s.tl
 x:∀q∈s.ll,KC.IsL V V.heap.size (.slice q.A q.xs.length q.c) q.xs
 y:∀q∈s.ll,∀a,q.A=some a→some a.block≠bk s.cA∧some a.block≠bk s.lA∧some a.block≠bk s.tA∧B≤a.block
 n1:∀b,bk s.cA=some b→bk s.lA≠some b
 n2:∀b,bk s.cA=some b→bk s.tA≠some b
 n3:∀b,bk s.lA=some b→bk s.tA≠some b
 le:B≤V.heap.size
 f:fits s.st∧fits s.inn∧fits s.out
theorem Rw.inn {V:World} {B:Nat} {s:Stk} (h:Rw V B s) (h1:s.cl.length≤100000) (h2:s.ll.length≤100000) (h3:s.tl.length≤100000):s.In V V.heap.size:=
 ⟨h.c.isL (by omega),h.l.isL (by omega),h.t.isL (by omega),h.x,h.f⟩
theorem Rw.below {V V':World} {B:Nat} {s:Stk} (h:Rw V B s) (hb:Below V.heap.size V V'):Rw V' B s where
 c:=h.c.below hb
 l:=h.l.below hb
 t:=h.t.below hb
 x:=fun q hq=>(h.x q hq).then hb
 y:=h.y
 n1:=h.n1
 n2:=h.n2
 n3:=h.n3
 le:=Nat.le_trans h.le hb.size
 f:=h.f
theorem Rw.far {V:World} {B D o:Nat} {s:Stk} (h:Rw V B s) (h1:bk s.cA≠some D) (h2:bk s.lA≠some D) (h3:bk s.tA≠some D) (h4:∀q∈s.ll,∀a,q.A=some a→a.block≠D) (u:Value):Rw (V.setCell ⟨D,o,none⟩ u) B s:=
 ⟨h.c.far (fun b hb e=>h1 (by rw[own_bk hb,e])) o u,h.l.far (fun b hb e=>h2 (by rw[own_bk hb,e])) o u,h.t.far (fun b hb e=>h3 (by rw[own_bk hb,e])) o u,fun q hq=>by have:=(h.x q hq).far (h4 q hq) o u;simpa using this,h.y,h.n1,h.n2,h.n3,by simpa using h.le,h.f⟩
theorem Rw.out {V:World} {B D:Nat} {s:Stk} (h:Rw V B s) (hD:V.heap.size≤D):bk s.cA≠some D∧bk s.lA≠some D∧bk s.tA≠some D:=
 ⟨fun e=>by have:=(h.c.lt D (bk_own e)).2;omega,fun e=>by have:=(h.l.lt D (bk_own e)).2;omega,fun e=>by have:=(h.t.lt D (bk_own e)).2;omega⟩
theorem Rw.putC {V:World} {B:Nat} {s:Stk} (h:Rw V B s) (k:Nat) (hk:k<s.cl.length) (g:Nat) (hg:s.cA=some ⟨g,0,none⟩) (q:Cel.Ce) (hq:q.Fit):
  Rw (((V.setCell ⟨g,k*3,none⟩ (.int .i64 q.a)).setCell ⟨g,k*3+1,none⟩ (.int .i64 q.b)).setCell ⟨g,k*3+2,none⟩ (.int .i64 q.c)) B {s with cl:=s.cl.set k q}:=by
 have hc:=h.c;rw[hg]at hc;have hl:((Value.slice s.lA s.ll.length s.lc)).ownBlock≠some g:=fun e=>h.n1 g (by rw[hg];rfl) (own_bk e);have ht:((Value.slice s.tA s.tl.length s.tc)).ownBlock≠some g:=fun e=>h.n2 g (by rw[hg];rfl) (own_bk e);refine⟨?_,?_,?_,fun p hp=>?_,h.y,h.n1,h.n2,h.n3,by simpa using h.le,h.f⟩
 ·have:=hc.put3 (K:=KE) rfl rfl k hk q _ _ _ rfl hq;show KE.Own _ B (.slice s.cA (s.cl.set k q).length s.cc) (s.cl.set k q);rw[List.length_set,hg];exact this
 ·exact h.l.far3o (fun b hb e=>hl (by rw[hb,e])) _ _ _ _ _ _
 ·exact h.t.far3o (fun b hb e=>ht (by rw[hb,e])) _ _ _ _ _ _
 ·have hy:=h.y p hp;have hne:∀a,p.A=some a→a.block≠g:=fun a ha e=>(hy a ha).1 (by rw[e,hg];rfl);have:=(((h.x p hp).far hne (k*3) (.int .i64 q.a)).far hne (k*3+1) (.int .i64 q.b)).far hne (k*3+2) (.int .i64 q.c);simpa using this
theorem Rw.putL {V:World} {B:Nat} {s:Stk} (h:Rw V B s) (k:Nat) (hk:k<s.ll.length) (g:Nat) (hg:s.lA=some ⟨g,0,none⟩) (q:Lo) (hq:fits q.r∧fits q.l) (hx:KC.IsL V V.heap.size (.slice q.A q.xs.length q.c) q.xs)
  (hy:∀a,q.A=some a→some a.block≠bk s.cA∧some a.block≠bk s.lA∧some a.block≠bk s.tA∧B≤a.block):
  Rw (((V.setCell ⟨g,k*3,none⟩ (.int .i64 q.r)).setCell ⟨g,k*3+1,none⟩ (.int .i64 q.l)).setCell ⟨g,k*3+2,none⟩ (.slice q.A q.xs.length q.c)) B {s with ll:=s.ll.set k q}:=by
 have hc:=h.l;rw[hg]at hc;have hl:((Value.slice s.cA s.cl.length s.cc)).ownBlock≠some g:=fun e=>h.n1 g (own_bk e) (by rw[hg];rfl);have ht:((Value.slice s.tA s.tl.length s.tc)).ownBlock≠some g:=fun e=>h.n3 g (by rw[hg];rfl) (own_bk e);have hY:∀p∈s.ll.set k q,∀a,p.A=some a→some a.block≠bk s.cA∧some a.block≠bk s.lA∧some a.block≠bk s.tA∧B≤a.block:=setOk h.y k q hy;have hX:∀p∈s.ll.set k q,KC.IsL V V.heap.size (.slice p.A p.xs.length p.c) p.xs:=setOk h.x k q hx;refine⟨?_,?_,?_,fun p hp=>?_,hY,h.n1,h.n2,h.n3,by simpa using h.le,h.f⟩
 ·exact h.c.far3o (fun b hb e=>hl (by rw[hb,e])) _ _ _ _ _ _
 ·have:=hc.put3 (K:=KL) rfl rfl k hk q _ _ _ rfl hq;show KL.Own _ B (.slice s.lA (s.ll.set k q).length s.lc) (s.ll.set k q);rw[List.length_set,hg];exact this
 ·exact h.t.far3o (fun b hb e=>ht (by rw[hb,e])) _ _ _ _ _ _
 ·have hne:∀a,p.A=some a→a.block≠g:=fun a ha e=>(hY p hp a ha).2.1 (by rw[e,hg];rfl);have:=(((hX p hp).far hne (k*3) (.int .i64 q.r)).far hne (k*3+1) (.int .i64 q.l)).far hne (k*3+2) (.slice q.A q.xs.length q.c);simpa using this
theorem Rw.putT {V:World} {B:Nat} {s:Stk} (h:Rw V B s) (k:Nat) (hk:k<s.tl.length) (g:Nat) (hg:s.tA=some ⟨g,0,none⟩) (q:Int×Int) (hq:fits q.1∧fits q.2):
  Rw ((V.setCell ⟨g,k*2,none⟩ (.int .i64 q.1)).setCell ⟨g,k*2+1,none⟩ (.int .i64 q.2)) B {s with tl:=s.tl.set k q}:=by
 have hc:=h.t;rw[hg]at hc;have hl:((Value.slice s.cA s.cl.length s.cc)).ownBlock≠some g:=fun e=>h.n2 g (own_bk e) (by rw[hg];rfl);have ht:((Value.slice s.lA s.ll.length s.lc)).ownBlock≠some g:=fun e=>h.n3 g (own_bk e) (by rw[hg];rfl);refine⟨?_,?_,?_,fun p hp=>?_,h.y,h.n1,h.n2,h.n3,by simpa using h.le,h.f⟩
 ·exact h.c.far2o (fun b hb e=>hl (by rw[hb,e])) _ _ _ _
 ·exact h.l.far2o (fun b hb e=>ht (by rw[hb,e])) _ _ _ _
 ·have:=hc.put2 (K:=KT) rfl rfl k hk q _ _ rfl hq;show KT.Own _ B (.slice s.tA (s.tl.set k q).length s.tc) (s.tl.set k q);rw[List.length_set,hg];exact this
 ·have hy:=h.y p hp;have hne:∀a,p.A=some a→a.block≠g:=fun a ha e=>(hy a ha).2.2.1 (by rw[e,hg];rfl);have:=((h.x p hp).far hne (k*2) (.int .i64 q.1)).far hne (k*2+1) (.int .i64 q.2);simpa using this
theorem Rw.cAt {V:World} {B:Nat} {s:Stk} (h:Rw V B s) (h0:0<s.cl.length):∃g,s.cA=some ⟨g,0,none⟩∧B≤g∧g<V.heap.size∧s.cl.length≤s.cc:=by
 obtain⟨g,cap,e,h1,h2,h3⟩:=h.c.shape h0;simp only[Value.slice.injEq]at e;exact⟨g,e.1,h1,h2,by omega⟩
theorem Rw.lAt {V:World} {B:Nat} {s:Stk} (h:Rw V B s) (h0:0<s.ll.length):∃g,s.lA=some ⟨g,0,none⟩∧B≤g∧g<V.heap.size∧s.ll.length≤s.lc:=by
 obtain⟨g,cap,e,h1,h2,h3⟩:=h.l.shape h0;simp only[Value.slice.injEq]at e;exact⟨g,e.1,h1,h2,by omega⟩
theorem Rw.tAt {V:World} {B:Nat} {s:Stk} (h:Rw V B s) (h0:0<s.tl.length):∃g,s.tA=some ⟨g,0,none⟩∧B≤g∧g<V.heap.size∧s.tl.length≤s.tc:=by
 obtain⟨g,cap,e,h1,h2,h3⟩:=h.t.shape h0;simp only[Value.slice.injEq]at e;exact⟨g,e.1,h1,h2,by omega⟩
theorem Rw.farr {V:World} {B:Nat} {s:Stk} (h:Rw V B s):s.Far B:=
 ⟨fun a ha=>(h.c.lt a.block (bk_own (by rw[ha];rfl))).1,fun a ha=>(h.l.lt a.block (bk_own (by rw[ha];rfl))).1,fun a ha=>(h.t.lt a.block (bk_own (by rw[ha];rfl))).1,fun q hq a ha=>(h.y q hq a ha).2.2.2⟩
end Go.Proofs.YtacjonncakhhmaaGreat
namespace Go.Proofs.YtacjonncakhhmaaGreat.Lg
open Go.RowKit
theorem rnote_bad (r l:Int) (A:Option Addr) (c:Nat) (xs:List Ch) (b n:Int) (hE:ntE r l xs b n≠0) (w:World) (hv:KC.IsL w w.heap.size (.slice A xs.length c) xs):Calls Tryz.prog 82 #[lgV r l A xs.length c,.int .i64 b,.int .i64 n] w fun e w'=>
  e=.returned (.tuple #[lgV 0 0 none 0 0,.int .i64 (ntE r l xs b n)])∧Below w.heap.size w w':=by
 have HV:=aH hv;have HR:=aH (fun w h=>rlright_any r l A c xs w h);have HM:=aH (fun w=>rmay_any b n w);obtain⟨w0,hw0⟩:∃w0,w0=(w.alloc (.cells #[.int .i64 r,.int .i64 l,.slice A xs.length c] 50)).alloc (.cells #[.int .i64 0,.int .i64 0,.slice none 0 0] 50):=⟨_,rfl⟩;have HB0:=aH (show Below w.heap.size w w0 by rw[hw0];exact bL (bL (bR _ _) _) _);have HA0:=aH (show Cells3 w0 w.heap.size (.int .i64 r) (.int .i64 l) (.slice A xs.length c)by rw[hw0];exact(Cells3.new w _ _ _ _).below (bL (bR _ _) _));have HZ0:=aH (show Cells3 w0 (w.heap.size+1) (.int .i64 0) (.int .i64 0) (.slice none 0 0)by
  rw[hw0];have q:=Cells3.new (w.alloc (.cells #[.int .i64 r,.int .i64 l,.slice A xs.length c] 50)) 50 (.int .i64 0) (.int .i64 0) (.slice none 0 0);rw[show(w.alloc (.cells #[.int .i64 r,.int .i64 l,.slice A xs.length c] 50)).heap.size=w.heap.size+1 by simp]at q;exact q)
 clear hv;unfold ntE at hE⊢
 cases h1:rgB r l xs
 ·rw[if_pos rfl];rw[h1]at HR;clear h1 hE;go_enter Tryz.func82,Tryz.ntmps82;go_wp2_with fail;rw[←hw0];clear hw0;obtain⟨G,hG⟩:∃G,w.heap.size=G:=⟨_,rfl⟩;rw[hG]at HA0 HZ0;simp only[hG];refine(HR.out _ (HV.out.then HB0.out)).mono ?_;rintro e w1 ⟨rfl,hb1⟩;have HA1:=aH (HA0.out.below hb1);have HZ1:=aH (HZ0.out.below hb1);have HB1:=aH (bC HB0.out hb1);clear hb1 HA0 HZ0 HB0;obtain⟨a0,a1,a2,_⟩:=HA1.out;obtain⟨q0,q1,q2,_⟩:=HZ1.out.set (.int .i64 0) (.int .i64 0) (.slice none 0 0);obtain⟨k0,k1,k2,y0,y1,y2,_⟩:=HZ1.out;go_wp2;refine bP (v:=.tuple #[lgV 0 0 none 0 0,.int .i64 110]) (by simp[results,Tryz.results82,go_sem,q0,q1,q2]) rfl ⟨rfl,?_⟩;exact below_set3 HB1.out (by omega) _ _ _
 ·rw[if_neg (by decide)];rw[h1]at HR hE;rw[if_neg (by decide)]at hE;clear h1
  cases h2:mayB b n
  ·rw[if_pos rfl];rw[h2]at HM;clear h2 hE;go_enter Tryz.func82,Tryz.ntmps82;go_wp2_with fail;rw[←hw0];clear hw0;obtain⟨G,hG⟩:∃G,w.heap.size=G:=⟨_,rfl⟩;rw[hG]at HA0 HZ0;simp only[hG];refine(HR.out _ (HV.out.then HB0.out)).mono ?_;rintro e w1 ⟨rfl,hb1⟩;have HA1:=aH (HA0.out.below hb1);have HZ1:=aH (HZ0.out.below hb1);have HB1:=aH (bC HB0.out hb1);clear hb1 HA0 HZ0 HB0;obtain⟨a0,a1,a2,_⟩:=HA1.out;go_wp2_with fail;refine(HM.out _).mono ?_;rintro e w2 ⟨rfl,rfl⟩;obtain⟨q0,q1,q2,_⟩:=HZ1.out.set (.int .i64 0) (.int .i64 0) (.slice none 0 0);obtain⟨k0,k1,k2,y0,y1,y2,_⟩:=HZ1.out;go_wp2;refine bP (v:=.tuple #[lgV 0 0 none 0 0,.int .i64 1]) (by simp[results,Tryz.results82,go_sem,q0,q1,q2]) rfl ⟨rfl,?_⟩;exact below_set3 HB1.out (by omega) _ _ _
  ·rw[if_neg (by decide)];rw[h2]at HM hE;rw[if_neg (by decide)]at hE;clear h2;have h3:l=2147483647:=by
    by_cases h:l=2147483647
    ·exact h
    ·rw[if_neg h]at hE;exact absurd rfl hE
   rw[if_pos h3];subst h3;clear hE;go_enter Tryz.func82,Tryz.ntmps82;go_wp2_with fail;rw[←hw0];clear hw0;obtain⟨G,hG⟩:∃G,w.heap.size=G:=⟨_,rfl⟩;rw[hG]at HA0 HZ0;simp only[hG];refine(HR.out _ (HV.out.then HB0.out)).mono ?_;rintro e w1 ⟨rfl,hb1⟩;have HA1:=aH (HA0.out.below hb1);have HZ1:=aH (HZ0.out.below hb1);have HB1:=aH (bC HB0.out hb1);clear hb1 HA0 HZ0 HB0;obtain⟨a0,a1,a2,_⟩:=HA1.out;go_wp2_with fail;refine(HM.out _).mono ?_;rintro e w2 ⟨rfl,rfl⟩;obtain⟨q0,q1,q2,_⟩:=HZ1.out.set (.int .i64 0) (.int .i64 0) (.slice none 0 0);obtain⟨k0,k1,k2,y0,y1,y2,_⟩:=HZ1.out;go_wp2;refine bP (v:=.tuple #[lgV 0 0 none 0 0,.int .i64 101]) (by simp[results,Tryz.results82,go_sem,q0,q1,q2]) rfl ⟨rfl,?_⟩;exact below_set3 HB1.out (by omega) _ _ _
theorem _root_.Go.Proofs.YtacjonncakhhmaaGreat.Lk.IsL.grown {P:Program} {α:Type} {K:Lk P α} {w w':World} {B H n c:Nat} {row:Option Nat} {xs:List α} (h:K.IsL w B (.slice (some ⟨H,0,none⟩) n c) xs) (hg:w.grownBy w' row) (hlt:H<w.heap.size) (hne:some H≠row):K.IsL w' B (.slice (some ⟨H,0,none⟩) n c) xs:=by
 obtain⟨⟨A,cap,e,hc,hA⟩,hf,hl⟩:=h;simp only[Value.slice.injEq]at e;obtain⟨rfl,rfl,rfl⟩:=e;refine⟨⟨_,_,rfl,hc,fun h0=>?_⟩,hf,hl⟩;obtain⟨b,off,e2,hb,hcell⟩:=hA h0;simp only[Option.some.injEq,Addr.mk.injEq,and_true]at e2;obtain⟨rfl,rfl⟩:=e2;exact⟨_,_,rfl,hb,fun i hi j u hu=>(hg.cell_far ⟨H,0+(i*K.n+j),none⟩ hlt hne).trans (hcell i hi j u hu)⟩
theorem _root_.Go.Proofs.YtacjonncakhhmaaGreat.Lk.Own.form {P:Program} {α:Type} {K:Lk P α} {w:World} {base:Nat} {v:Value} {xs:List α} (h:K.Own w base v xs) (h0:0<xs.length):∃g c,v=.slice (some ⟨g,0,none⟩) xs.length c∧xs.length≤c∧base≤g∧g<w.heap.size:=by
 rcases h.1.2 with ⟨_,k⟩|⟨g,cap,cur,rfl,hb,hg,hnc,_⟩
 ·omega
 ·exact⟨g,cap,rfl,hnc,hb,(Array.getElem?_eq_some_iff.1 hg).1⟩
theorem rnote_ok (r l:Int) (A:Option Addr) (c:Nat) (xs:List Ch) (b n:Int) (hE:ntE r l xs b n=0) (w:World) (hv:KC.IsL w w.heap.size (.slice A xs.length c) xs):Calls Tryz.prog 82 #[lgV r l A xs.length c,.int .i64 b,.int .i64 n] w fun e w'=>
  ∃A' c',e=.returned (.tuple #[lgV r (l+1) A' (ntL r l xs b n).length c',.int .i64 0])∧KC.IsL w' w'.heap.size (.slice A' (ntL r l xs b n).length c') (ntL r l xs b n)∧Below w.heap.size w w'∧(∀a,A'=some a→w.heap.size≤a.block):=by
 obtain⟨h1,h2,h3⟩:=nt_ok hE;obtain⟨⟨g0,g1,g2,g3,g4,g5⟩,_⟩:=rg_parts h1;have HV:=aH hv;have HR:=aH (fun w h=>rlright_any r l A c xs w h);have HM:=aH (fun w=>rmay_any b n w);rw[h1]at HR;rw[h2]at HM;have HK:=aH (show KC.ok ⟨l+1,b,n⟩by
  have q:=of_decide_eq_true h2;refine⟨?_,?_,?_⟩<;>(dsimp only;unfold fits;omega))
 clear hE h1 h2 hv;obtain⟨w0,hw0⟩:∃w0,w0=(w.alloc (.cells #[.int .i64 r,.int .i64 l,.slice A xs.length c] 50)).alloc (.cells #[.int .i64 0,.int .i64 0,.slice none 0 0] 50):=⟨_,rfl⟩;have HB0:=aH (show Below w.heap.size w w0 by rw[hw0];exact bL (bL (bR _ _) _) _);have HA0:=aH (show Cells3 w0 w.heap.size (.int .i64 r) (.int .i64 l) (.slice A xs.length c)by rw[hw0];exact(Cells3.new w _ _ _ _).below (bL (bR _ _) _));have HZ0:=aH (show Cells3 w0 (w.heap.size+1) (.int .i64 0) (.int .i64 0) (.slice none 0 0)by
  rw[hw0];have q:=Cells3.new (w.alloc (.cells #[.int .i64 r,.int .i64 l,.slice A xs.length c] 50)) 50 (.int .i64 0) (.int .i64 0) (.slice none 0 0);rw[show(w.alloc (.cells #[.int .i64 r,.int .i64 l,.slice A xs.length c] 50)).heap.size=w.heap.size+1 by simp]at q;exact q)
 go_enter Tryz.func82,Tryz.ntmps82;go_wp2_with fail;rw[←hw0];clear hw0;obtain⟨G,hG⟩:∃G,w.heap.size=G:=⟨_,rfl⟩;rw[hG]at HA0 HZ0;simp only[hG];refine(HR.out _ (HV.out.then HB0.out)).mono ?_;rintro e w1 ⟨rfl,hb1⟩;have HA1:=aH (HA0.out.below hb1);have HZ1:=aH (HZ0.out.below hb1);have HB1:=aH (bC HB0.out hb1);clear hb1 HA0 HZ0 HB0;obtain⟨a0,a1,a2,_⟩:=HA1.out;go_wp2_with fail;refine(HM.out _).mono ?_;rintro e w2 ⟨rfl,rfl⟩;obtain⟨D,hD⟩:∃D,w1.heap.size=D:=⟨_,rfl⟩;have hGD:G+1<D:=by rw[←hD];exact HZ1.out.2.2.2.2.2.2
 obtain⟨w5,hw5⟩:∃w5,w5=w1.alloc (.cells #[.int .i64 r,.int .i64 (l+1),.slice none 0 0] 50):=⟨_,rfl⟩;have HA5:=aH (show Cells3 w5 G (.int .i64 r) (.int .i64 l) (.slice A xs.length c)by rw[hw5];exact HA1.out.below (bL (bR _ _) _));have HZ5:=aH (show Cells3 w5 (G+1) (.int .i64 0) (.int .i64 0) (.slice none 0 0)by rw[hw5];exact HZ1.out.below (bL (bR _ _) _));have HB5:=aH (show Below w.heap.size w w5 by rw[hw5];exact bL HB1.out _);have HD5:=aH (show Cells3 w5 D (.int .i64 r) (.int .i64 (l+1)) (.slice none 0 0)by rw[hw5,←hD];exact Cells3.new w1 _ _ _ _);go_wp2_with fail;try rw[←hw5]
 clear hw5 a0 a1 a2 HA1 HZ1 HB1 hD;have XL:=aH (HV.out.then HB5.out);have S1:=aH HA5.out.2.1;have S2:=aH HA5.out.2.2.1;have hDB:D<w5.heap.size:=HD5.out.2.2.2.2.2.2;obtain⟨B5,hB5⟩:∃B5,w5.heap.size=B5:=⟨_,rfl⟩;rw[hB5]at XL hDB;have HGB:=aH (show G<B5 by omega);have HW:=aH (show IntKind.i64.wrap (l+1)=l+1 from wrap_fits _ (by unfold fits;omega));refine wp_region_held_drew (S:=fun w'=>w'.cell? ⟨G,1,none⟩=some (.int .i64 l)∧w'.cell? ⟨G,2,none⟩=some (.slice A xs.length c)) (by kernel_rfl) ?_ (fun hHeld=>?_)
 ·exact⟨S1.out,S2.out⟩
 refine wk [.k 1 30,.k 2 31,.k 4 33,.k 5 34,.k 6 35,.k 7 36,.k 8 37,.k 9 38] (fun _ _ _ _ _ h=>h) hHeld ?_ (by kernel_rfl);repeat (refine .k (v:=?_) rfl (by kernel_rfl) ?_ ?_;rotate_left 1;(intro w h;go_simp<;>try rfl);try simp only[sp])
 refine .nil ?_;simp only[HW.out];have BV:=aH (show Below B5 w5 w5.drew from(bR B5 w5).drew);have BVS:=aH (show B5≤w5.drew.heap.size from Nat.le_of_eq hB5.symm);generalize w5.drew=v0 at *;clear hHeld;refine wR 0 [10] (by kernel_rfl) ?_;refine rK (some 29) rfl (fun K hK=>?_) ?_
 ·go_simp;have QB1:=aH (BV.out.alloc BVS.out (.cells #[] 128));have QO1:=aH (show KC.Own (v0.alloc (.cells #[] 128)) B5 (.slice (some ⟨v0.heap.size,0,none⟩) 0 0) []from Lk.Own.made (K:=KC) v0 B5 0 #[] BVS.out (by unfold maxLen;omega) (by simp));clear BV;generalize v0.alloc (.cells #[] 128)=v1 at *;generalize v0.heap.size=QH1 at *;refine hK.out _ _ ?_ (fun hHeld=>?_)
  ·exact⟨(QB1.out.cell (p:=⟨G,1,none⟩) HGB.out).trans S1.out,(QB1.out.cell (p:=⟨G,2,none⟩) HGB.out).trans S2.out⟩
  clear hK K hHeld;try simp only[sp]
  refine wR 3 [10] (by kernel_rfl) ?_;refine rK (some 32) rfl (fun K hK=>?_) (rK (some 39) rfl (fun K hK=>?_) rN);refine Lk.wp_app (K:=KC) v1 _ _ rfl rfl B5 B5 _ (.slice A xs.length c) [] xs rfl rfl QO1.out (XL.out.below QB1.out) ?_ (show B5≤v1.heap.size from hB5▸QB1.out.size) ?_
  ·simp only[List.length_nil];omega
  intro va v2 ho hg _;have QB2:=aH (Lk.Own.grow' QO1.out QB1.out (show B5≤v1.heap.size from hB5▸QB1.out.size) hg);have QO2:=aH (show KC.Own v2 B5 va xs from ho);clear ho hg QO1 QB1;refine hK.out _ _ ?_ (fun hHeld=>?_)
  ·exact⟨(QB2.out.cell (p:=⟨G,1,none⟩) HGB.out).trans S1.out,(QB2.out.cell (p:=⟨G,2,none⟩) HGB.out).trans S2.out⟩
  clear hK K hHeld;try simp only[sp]
  refine wQ 10 (some 39) rfl (fun K hK=>?_) (by kernel_rfl);go_simp;have QB3:=aH (QB2.out.alloc (show B5≤v2.heap.size from hB5▸QB2.out.size) (.cells #[.int .i64 (l+1),.int .i64 b,.int .i64 n] 128));have QL3:=aH (show KC.IsL (v2.alloc (.cells #[.int .i64 (l+1),.int .i64 b,.int .i64 n] 128)) (v2.alloc (.cells #[.int .i64 (l+1),.int .i64 b,.int .i64 n] 128)).heap.size (.slice (some ⟨v2.heap.size,0,none⟩) 1 1) [⟨l+1,b,n⟩]from(Lk.IsL.lit (K:=KC) v2 ⟨l+1,b,n⟩ _ HK.out rfl _ rfl).more (by simp));have QLT3:=aH (show v2.heap.size<(v2.alloc (.cells #[.int .i64 (l+1),.int .i64 b,.int .i64 n] 128)).heap.size by simp);have QO3:=aH (QO2.out.alloc (.cells #[.int .i64 (l+1),.int .i64 b,.int .i64 n] 128));clear QO2;clear QB2;generalize v2.alloc (.cells #[.int .i64 (l+1),.int .i64 b,.int .i64 n] 128)=v3 at *;generalize v2.heap.size=QH3 at *;refine hK.out _ _ ?_ (fun hHeld=>?_)
  ·exact⟨(QB3.out.cell (p:=⟨G,1,none⟩) HGB.out).trans S1.out,(QB3.out.cell (p:=⟨G,2,none⟩) HGB.out).trans S2.out⟩
  clear hK K hHeld;try simp only[sp]
  rotate_left 1
  go_simp;have QB5:=aH (QB1.out.alloc (show B5≤v1.heap.size from hB5▸QB1.out.size) (.cells #[.int .i64 (l+1),.int .i64 b,.int .i64 n] 128));have QL5:=aH (show KC.IsL (v1.alloc (.cells #[.int .i64 (l+1),.int .i64 b,.int .i64 n] 128)) (v1.alloc (.cells #[.int .i64 (l+1),.int .i64 b,.int .i64 n] 128)).heap.size (.slice (some ⟨v1.heap.size,0,none⟩) 1 1) [⟨l+1,b,n⟩]from(Lk.IsL.lit (K:=KC) v1 ⟨l+1,b,n⟩ _ HK.out rfl _ rfl).more (by simp));have QLT5:=aH (show v1.heap.size<(v1.alloc (.cells #[.int .i64 (l+1),.int .i64 b,.int .i64 n] 128)).heap.size by simp);have QO5:=aH (QO1.out.alloc (.cells #[.int .i64 (l+1),.int .i64 b,.int .i64 n] 128));have NE:=aH (show v1.heap.size≠QH1 from Nat.ne_of_gt (QO1.out.lt _ rfl).2);clear QO1;clear QB1;generalize v1.alloc (.cells #[.int .i64 (l+1),.int .i64 b,.int .i64 n] 128)=v5 at *;generalize v1.heap.size=QH5 at *;refine hK.out _ _ ?_ (fun hHeld=>?_)
  ·exact⟨(QB5.out.cell (p:=⟨G,1,none⟩) HGB.out).trans S1.out,(QB5.out.cell (p:=⟨G,2,none⟩) HGB.out).trans S2.out⟩
  clear hK K hHeld;try simp only[sp]
  refine wQ 3 (some 32) rfl (fun K hK=>?_) (by kernel_rfl);refine Lk.wp_app (K:=KC) v5 _ _ rfl rfl B5 B5 _ (.slice A xs.length c) [] xs rfl rfl QO5.out (XL.out.below QB5.out) ?_ (show B5≤v5.heap.size from hB5▸QB5.out.size) ?_
  ·simp only[List.length_nil];omega
  intro va v3 ho hg _;have QB3:=aH (Lk.Own.grow' QO5.out QB5.out (show B5≤v5.heap.size from hB5▸QB5.out.size) hg);have QO3:=aH (show KC.Own v3 B5 va xs from ho);have QL3:=aH ((QL5.out.grown hg QLT5.out (show some QH5≠some QH1 from fun e=>NE.out (Option.some.inj e))).more hg.size);clear QL5 QLT5;clear ho hg QO5 QB5;refine hK.out _ _ ?_ (fun hHeld=>?_)
  ·exact⟨(QB3.out.cell (p:=⟨G,1,none⟩) HGB.out).trans S1.out,(QB3.out.cell (p:=⟨G,2,none⟩) HGB.out).trans S2.out⟩
  clear hK K hHeld;try simp only[sp]
  all_goals
   refine wQ 11 (some 40) rfl (fun K hK=>?_) (by kernel_rfl);refine Lk.wp_app (K:=KC) v3 _ _ rfl rfl B5 v3.heap.size _ _ xs [⟨l+1,b,n⟩] rfl rfl QO3.out QL3.out ?_ (show B5≤v3.heap.size from hB5▸QB3.out.size) ?_
   ·simp only[List.length_cons,List.length_nil];omega
   intro vb vz ho hg _;have BZ:=aH (Lk.Own.grow' QO3.out QB3.out (show B5≤v3.heap.size from hB5▸QB3.out.size) hg);have OZ:=aH ho;clear ho hg QO3 QL3 QB3;refine hK.out _ _ ?_ (fun hHeld=>?_)
   ·exact⟨(BZ.out.cell (p:=⟨G,1,none⟩) HGB.out).trans S1.out,(BZ.out.cell (p:=⟨G,2,none⟩) HGB.out).trans S2.out⟩
   clear hK K;(try simp only[sp]);refine wk [.k 12 9] (fun _ _ _ _ _ h=>h) hHeld ?_ (by kernel_rfl);repeat (refine .k (v:=?_) rfl (by kernel_rfl) ?_ ?_;rotate_left 1;(intro w h;go_simp<;>try rfl);try simp only[sp])
   refine .nil ?_;refine wD (by kernel_rfl) ?_;clear hHeld;obtain⟨g,c2,rfl,hc2,hg5,hgz⟩:=OZ.out.form (by simp);have HA6:=aH (HA5.out.below (hB5▸BZ.out));have HD6:=aH (HD5.out.below (hB5▸BZ.out));have HZ6:=aH (HZ5.out.below (hB5▸BZ.out));have HB6:=aH (bC HB5.out (hB5▸BZ.out));have hln:(xs++[(⟨l+1,b,n⟩:Ch)]).length=xs.length+1:=(by simp);clear BZ;rw[hln];by_cases hr:(xs.length:Int)+1≤r
   ·have HQ2:=aH (show ntL r l xs b n=xs++[(⟨l+1,b,n⟩:Ch)]by
     unfold ntL;rw[show xs.length-min xs.length (r-1).toNat=0 by omega,List.drop_zero])
    have HD7:=aH (HD6.out.s2 (.slice (some ⟨g,0,none⟩) (xs.length+1) c2));have HZ7:=aH (HZ6.out.off (D:=D) (o:=2) (by omega) (.slice (some ⟨g,0,none⟩) (xs.length+1) c2));obtain⟨q0,q1,q2,_⟩:=HZ7.out.set (.int .i64 r) (.int .i64 (l+1)) (.slice (some ⟨g,0,none⟩) (xs.length+1) c2);obtain⟨a0,a1,a2,_⟩:=HA6.out;obtain⟨d0,d1,d2,z0,z1,z2,_⟩:=HD6.out;obtain⟨b0,b1,b2,_⟩:=HD7.out;obtain⟨k0,k1,k2,y0,y1,y2,_⟩:=HZ7.out;go_wp2;refine bP (v:=.tuple #[lgV r (l+1) (some ⟨g,0,none⟩) (xs.length+1) (c2),.int .i64 0]) (by simp[results,Tryz.results82,go_sem,q0,q1,q2]) rfl ⟨some ⟨g,0,none⟩,c2,by rw[HQ2.out,hln],?_,?_,fun a ha=>by cases ha;have h9:=(OZ.out.lt g rfl).1;have h8:=HGB.out;first|(show w.heap.size≤g;omega)|(show G≤g;omega)⟩
    ·rw[HQ2.out,hln];have q:=((((OZ.out.set (a:=⟨D,2,none⟩) (show D<B5 by omega) (.slice (some ⟨g,0,none⟩) (xs.length+1) c2)).set (a:=⟨G+1,0,none⟩) (show G+1<B5 by omega) (.int .i64 r)).set (a:=⟨G+1,1,none⟩) (show G+1<B5 by omega) (.int .i64 (l+1))).set (a:=⟨G+1,2,none⟩) (show G+1<B5 by omega) (.slice (some ⟨g,0,none⟩) (xs.length+1) c2)).isL (by omega);rw[hln]at q;exact q
    ·first
     |exact below_set3 (D:=G+1) (bS (p:=⟨D,2,none⟩) HB6.out (show w.heap.size≤D by omega)) (by omega) _ _ _
     |exact below_set3 (D:=G+1) ((show Below G w vz from hG▸HB6.out).setCell (p:=⟨D,2,none⟩) (show G≤D by omega) _) (by omega) _ _ _
   ·have HQ2:=aH (show ntL r l xs b n=(xs++[(⟨l+1,b,n⟩:Ch)]).drop 1 by
     unfold ntL;rw[show xs.length-min xs.length (r-1).toNat=1 by omega,List.drop_append_of_le_length (by omega)])
    have hld:((xs++[(⟨l+1,b,n⟩:Ch)]).drop 1).length=xs.length:=(by rw[List.length_drop,hln];omega);have HD7:=aH (HD6.out.s2 (.slice (some ⟨g,3,none⟩) xs.length (c2-1)));have HZ7:=aH (HZ6.out.off (D:=D) (o:=2) (by omega) (.slice (some ⟨g,3,none⟩) xs.length (c2-1)));obtain⟨q0,q1,q2,_⟩:=HZ7.out.set (.int .i64 r) (.int .i64 (l+1)) (.slice (some ⟨g,3,none⟩) xs.length (c2-1));obtain⟨a0,a1,a2,_⟩:=HA6.out;obtain⟨d0,d1,d2,z0,z1,z2,_⟩:=HD6.out;obtain⟨b0,b1,b2,_⟩:=HD7.out;obtain⟨k0,k1,k2,y0,y1,y2,_⟩:=HZ7.out;go_wp2;refine bP (v:=.tuple #[lgV r (l+1) (some ⟨g,3,none⟩) xs.length ((c2-1)),.int .i64 0]) (by simp[results,Tryz.results82,go_sem,q0,q1,q2]) rfl ⟨some ⟨g,3,none⟩,(c2-1),by rw[HQ2.out,hld],?_,?_,fun a ha=>by cases ha;have h9:=(OZ.out.lt g rfl).1;have h8:=HGB.out;first|(show w.heap.size≤g;omega)|(show G≤g;omega)⟩
    ·rw[HQ2.out,hld];have q:=((((OZ.out.set (a:=⟨D,2,none⟩) (show D<B5 by omega) (.slice (some ⟨g,3,none⟩) xs.length (c2-1))).set (a:=⟨G+1,0,none⟩) (show G+1<B5 by omega) (.int .i64 r)).set (a:=⟨G+1,1,none⟩) (show G+1<B5 by omega) (.int .i64 (l+1))).set (a:=⟨G+1,2,none⟩) (show G+1<B5 by omega) (.slice (some ⟨g,3,none⟩) xs.length (c2-1))).isL (by omega);rw[hln]at q;have q2:=Lk.IsL.part (xs:=xs++[(⟨l+1,b,n⟩:Ch)]) (by rw[hln];exact q) 1 (by rw[hln];omega) xs.length (c2-1) (by rw[hln];omega) (by omega) 3 rfl;exact q2
    ·first
     |exact below_set3 (D:=G+1) (bS (p:=⟨D,2,none⟩) HB6.out (show w.heap.size≤D by omega)) (by omega) _ _ _
     |exact below_set3 (D:=G+1) ((show Below G w vz from hG▸HB6.out).setCell (p:=⟨D,2,none⟩) (show G≤D by omega) _) (by omega) _ _ _
 refine rK (some 39) rfl (fun K hK=>?_) rN;go_simp;have QB8:=aH (BV.out.alloc BVS.out (.cells #[.int .i64 (l+1),.int .i64 b,.int .i64 n] 128));have QL8:=aH (show KC.IsL (v0.alloc (.cells #[.int .i64 (l+1),.int .i64 b,.int .i64 n] 128)) (v0.alloc (.cells #[.int .i64 (l+1),.int .i64 b,.int .i64 n] 128)).heap.size (.slice (some ⟨v0.heap.size,0,none⟩) 1 1) [⟨l+1,b,n⟩]from(Lk.IsL.lit (K:=KC) v0 ⟨l+1,b,n⟩ _ HK.out rfl _ rfl).more (by simp));have QLT8:=aH (show v0.heap.size<(v0.alloc (.cells #[.int .i64 (l+1),.int .i64 b,.int .i64 n] 128)).heap.size by simp);clear BV;generalize v0.alloc (.cells #[.int .i64 (l+1),.int .i64 b,.int .i64 n] 128)=v8 at *;generalize v0.heap.size=QH8 at *;refine hK.out _ _ ?_ (fun hHeld=>?_)
 ·exact⟨(QB8.out.cell (p:=⟨G,1,none⟩) HGB.out).trans S1.out,(QB8.out.cell (p:=⟨G,2,none⟩) HGB.out).trans S2.out⟩
 clear hK K hHeld;try simp only[sp]
 refine wQ 0 (some 29) rfl (fun K hK=>?_) (by kernel_rfl);go_simp;have QB9:=aH (QB8.out.alloc (show B5≤v8.heap.size from hB5▸QB8.out.size) (.cells #[] 128));have QO9:=aH (show KC.Own (v8.alloc (.cells #[] 128)) B5 (.slice (some ⟨v8.heap.size,0,none⟩) 0 0) []from Lk.Own.made (K:=KC) v8 B5 0 #[] (show B5≤v8.heap.size from hB5▸QB8.out.size) (by unfold maxLen;omega) (by simp));have QL9:=aH ((QL8.out.below ((bR _ v8).alloc (nR _) (.cells #[] 128))).more (show v8.heap.size≤(v8.alloc (.cells #[] 128)).heap.size by simp));have NE:=aH (show QH8≠v8.heap.size from Nat.ne_of_lt QLT8.out);have QLT9:=aH (show QH8<(v8.alloc (.cells #[] 128)).heap.size from nL QLT8.out (by simp));clear QL8 QLT8;clear QB8;generalize v8.alloc (.cells #[] 128)=v9 at *;generalize v8.heap.size=QH9 at *;refine hK.out _ _ ?_ (fun hHeld=>?_)
 ·exact⟨(QB9.out.cell (p:=⟨G,1,none⟩) HGB.out).trans S1.out,(QB9.out.cell (p:=⟨G,2,none⟩) HGB.out).trans S2.out⟩
 clear hK K hHeld;try simp only[sp]
 refine wQ 3 (some 32) rfl (fun K hK=>?_) (by kernel_rfl);refine Lk.wp_app (K:=KC) v9 _ _ rfl rfl B5 B5 _ (.slice A xs.length c) [] xs rfl rfl QO9.out (XL.out.below QB9.out) ?_ (show B5≤v9.heap.size from hB5▸QB9.out.size) ?_
 ·simp only[List.length_nil];omega
 intro va v10 ho hg _;have QB10:=aH (Lk.Own.grow' QO9.out QB9.out (show B5≤v9.heap.size from hB5▸QB9.out.size) hg);have QO10:=aH (show KC.Own v10 B5 va xs from ho);have QL10:=aH ((QL9.out.grown hg QLT9.out (show some QH8≠some QH9 from fun e=>NE.out (Option.some.inj e))).more hg.size);clear QL9 QLT9;clear ho hg QO9 QB9;refine hK.out _ _ ?_ (fun hHeld=>?_)
 ·exact⟨(QB10.out.cell (p:=⟨G,1,none⟩) HGB.out).trans S1.out,(QB10.out.cell (p:=⟨G,2,none⟩) HGB.out).trans S2.out⟩
 clear hK K hHeld;try simp only[sp]
 refine wQ 11 (some 40) rfl (fun K hK=>?_) (by kernel_rfl);refine Lk.wp_app (K:=KC) v10 _ _ rfl rfl B5 v10.heap.size _ _ xs [⟨l+1,b,n⟩] rfl rfl QO10.out QL10.out ?_ (show B5≤v10.heap.size from hB5▸QB10.out.size) ?_
 ·simp only[List.length_cons,List.length_nil];omega
 intro vb vz ho hg _;have BZ:=aH (Lk.Own.grow' QO10.out QB10.out (show B5≤v10.heap.size from hB5▸QB10.out.size) hg);have OZ:=aH ho;clear ho hg QO10 QL10 QB10;refine hK.out _ _ ?_ (fun hHeld=>?_)
 ·exact⟨(BZ.out.cell (p:=⟨G,1,none⟩) HGB.out).trans S1.out,(BZ.out.cell (p:=⟨G,2,none⟩) HGB.out).trans S2.out⟩
 clear hK K;try simp only[sp]
 refine wk [.k 12 9] (fun _ _ _ _ _ h=>h) hHeld ?_ (by kernel_rfl);repeat (refine .k (v:=?_) rfl (by kernel_rfl) ?_ ?_;rotate_left 1;(intro w h;go_simp<;>try rfl);try simp only[sp])
 refine .nil ?_;refine wD (by kernel_rfl) ?_;clear hHeld;obtain⟨g,c2,rfl,hc2,hg5,hgz⟩:=OZ.out.form (by simp);have HA6:=aH (HA5.out.below (hB5▸BZ.out));have HD6:=aH (HD5.out.below (hB5▸BZ.out));have HZ6:=aH (HZ5.out.below (hB5▸BZ.out));have HB6:=aH (bC HB5.out (hB5▸BZ.out));have hln:(xs++[(⟨l+1,b,n⟩:Ch)]).length=xs.length+1:=by simp
 clear BZ;rw[hln];by_cases hr:(xs.length:Int)+1≤r
 ·have HQ2:=aH (show ntL r l xs b n=xs++[(⟨l+1,b,n⟩:Ch)]by
   unfold ntL;rw[show xs.length-min xs.length (r-1).toNat=0 by omega,List.drop_zero])
  have HD7:=aH (HD6.out.s2 (.slice (some ⟨g,0,none⟩) (xs.length+1) c2));have HZ7:=aH (HZ6.out.off (D:=D) (o:=2) (by omega) (.slice (some ⟨g,0,none⟩) (xs.length+1) c2));obtain⟨q0,q1,q2,_⟩:=HZ7.out.set (.int .i64 r) (.int .i64 (l+1)) (.slice (some ⟨g,0,none⟩) (xs.length+1) c2);obtain⟨a0,a1,a2,_⟩:=HA6.out;obtain⟨d0,d1,d2,z0,z1,z2,_⟩:=HD6.out;obtain⟨b0,b1,b2,_⟩:=HD7.out;obtain⟨k0,k1,k2,y0,y1,y2,_⟩:=HZ7.out;go_wp2;refine bP (v:=.tuple #[lgV r (l+1) (some ⟨g,0,none⟩) (xs.length+1) (c2),.int .i64 0]) (by simp[results,Tryz.results82,go_sem,q0,q1,q2]) rfl ⟨some ⟨g,0,none⟩,c2,by rw[HQ2.out,hln],?_,?_,fun a ha=>by cases ha;have h9:=(OZ.out.lt g rfl).1;have h8:=HGB.out;first|(show w.heap.size≤g;omega)|(show G≤g;omega)⟩
  ·rw[HQ2.out,hln];have q:=((((OZ.out.set (a:=⟨D,2,none⟩) (show D<B5 by omega) (.slice (some ⟨g,0,none⟩) (xs.length+1) c2)).set (a:=⟨G+1,0,none⟩) (show G+1<B5 by omega) (.int .i64 r)).set (a:=⟨G+1,1,none⟩) (show G+1<B5 by omega) (.int .i64 (l+1))).set (a:=⟨G+1,2,none⟩) (show G+1<B5 by omega) (.slice (some ⟨g,0,none⟩) (xs.length+1) c2)).isL (by omega);rw[hln]at q;exact q
  ·first
   |exact below_set3 (D:=G+1) (bS (p:=⟨D,2,none⟩) HB6.out (show w.heap.size≤D by omega)) (by omega) _ _ _
   |exact below_set3 (D:=G+1) ((show Below G w vz from hG▸HB6.out).setCell (p:=⟨D,2,none⟩) (show G≤D by omega) _) (by omega) _ _ _
 ·have HQ2:=aH (show ntL r l xs b n=(xs++[(⟨l+1,b,n⟩:Ch)]).drop 1 by
   unfold ntL;rw[show xs.length-min xs.length (r-1).toNat=1 by omega,List.drop_append_of_le_length (by omega)])
  have hld:((xs++[(⟨l+1,b,n⟩:Ch)]).drop 1).length=xs.length:=by rw[List.length_drop,hln];omega
  have HD7:=aH (HD6.out.s2 (.slice (some ⟨g,3,none⟩) xs.length (c2-1)));have HZ7:=aH (HZ6.out.off (D:=D) (o:=2) (by omega) (.slice (some ⟨g,3,none⟩) xs.length (c2-1)));obtain⟨q0,q1,q2,_⟩:=HZ7.out.set (.int .i64 r) (.int .i64 (l+1)) (.slice (some ⟨g,3,none⟩) xs.length (c2-1));obtain⟨a0,a1,a2,_⟩:=HA6.out;obtain⟨d0,d1,d2,z0,z1,z2,_⟩:=HD6.out;obtain⟨b0,b1,b2,_⟩:=HD7.out;obtain⟨k0,k1,k2,y0,y1,y2,_⟩:=HZ7.out;go_wp2;refine bP (v:=.tuple #[lgV r (l+1) (some ⟨g,3,none⟩) xs.length ((c2-1)),.int .i64 0]) (by simp[results,Tryz.results82,go_sem,q0,q1,q2]) rfl ⟨some ⟨g,3,none⟩,(c2-1),by rw[HQ2.out,hld],?_,?_,fun a ha=>by cases ha;have h9:=(OZ.out.lt g rfl).1;have h8:=HGB.out;first|(show w.heap.size≤g;omega)|(show G≤g;omega)⟩
  ·rw[HQ2.out,hld];have q:=((((OZ.out.set (a:=⟨D,2,none⟩) (show D<B5 by omega) (.slice (some ⟨g,3,none⟩) xs.length (c2-1))).set (a:=⟨G+1,0,none⟩) (show G+1<B5 by omega) (.int .i64 r)).set (a:=⟨G+1,1,none⟩) (show G+1<B5 by omega) (.int .i64 (l+1))).set (a:=⟨G+1,2,none⟩) (show G+1<B5 by omega) (.slice (some ⟨g,3,none⟩) xs.length (c2-1))).isL (by omega);rw[hln]at q;have q2:=Lk.IsL.part (xs:=xs++[(⟨l+1,b,n⟩:Ch)]) (by rw[hln];exact q) 1 (by rw[hln];omega) xs.length (c2-1) (by rw[hln];omega) (by omega) 3 rfl;exact q2
  ·first
   |exact below_set3 (D:=G+1) (bS (p:=⟨D,2,none⟩) HB6.out (show w.heap.size≤D by omega)) (by omega) _ _ _
   |exact below_set3 (D:=G+1) ((show Below G w vz from hG▸HB6.out).setCell (p:=⟨D,2,none⟩) (show G≤D by omega) _) (by omega) _ _ _
theorem rnote_all (r l:Int) (A:Option Addr) (c:Nat) (xs:List Ch) (b n:Int) (w:World) (hv:KC.IsL w w.heap.size (.slice A xs.length c) xs):Calls Tryz.prog 82 #[lgV r l A xs.length c,.int .i64 b,.int .i64 n] w fun e w'=>
  ∃A' c',e=.returned (.tuple #[lgV (ntR r l xs b n) (ntM r l xs b n) A' (ntZ r l xs b n).length c',.int .i64 (ntE r l xs b n)])∧KC.IsL w' w'.heap.size (.slice A' (ntZ r l xs b n).length c') (ntZ r l xs b n)∧Below w.heap.size w w'∧(∀a,A'=some a→w.heap.size≤a.block):=by
 unfold ntR ntM ntZ;by_cases h:ntE r l xs b n=0
 ·rw[if_pos h,if_pos h,if_pos h,h];exact rnote_ok r l A c xs b n h w hv
 ·rw[if_neg h,if_neg h,if_neg h];refine(rnote_bad r l A c xs b n h w hv).mono ?_;rintro e w' ⟨rfl,hb⟩;exact⟨none,0,rfl,Lk.IsL.nil _ _ _ _,hb,fun a ha=>by cases ha⟩
end Go.Proofs.YtacjonncakhhmaaGreat.Lg
