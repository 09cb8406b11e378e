/- Elements of own lists of cells, of logs and of tips. -/
import Derived.Test.YtacjonncakhhmaaGreatPy00
import Derived.Test.YtacjonncakhhmaaGreatPy07
import Derived.Test.YtacjonncakhhmaaGreatPy03
import Derived.Test.YtacjonncakhhmaaGreatPy05
set_option maxRecDepth 100000
set_option maxHeartbeats 8000000
namespace Go.Proofs.YtacjonncakhhmaaGreat
open Go.RowKit
theorem two_of {w:World} {B:Nat} {v:Value} {xs:List Int} (h:KI.IsL w B v xs):Two.IsL w B v xs:=by
 obtain⟨⟨A,cap,hv,hc,hA⟩,hf,hl⟩:=h;refine⟨⟨A,cap,hv,hc,fun h0=>?_⟩,hf,hl⟩;obtain⟨b,off,e,hb,hcell⟩:=hA h0;refine⟨b,off,e,hb,fun i hi=>?_⟩;have:=hcell i hi 0 (.int .i64 (xs.getD i 0)) rfl;simpa [KI]using this
theorem Lk.Own.shape {P:Program} {α:Type} {K:Lk P α} {w:World} {base:Nat} {v:Value} {xs:List α} (h:K.Own w base v xs) (h0:0<xs.length):∃g cap,v=.slice (some ⟨g,0,none⟩) xs.length cap∧base≤g∧g<w.heap.size∧xs.length≤cap:=by
 obtain⟨⟨h1,h2⟩,hf⟩:=h;rcases h2 with ⟨_,hn⟩ | ⟨g,cap,cur,rfl,hb2,hg,hn,_⟩
 ·omega
 ·exact⟨g,cap,rfl,hb2,(Array.getElem?_eq_some_iff.1 hg).1,hn⟩
theorem KI.flat_at (xs:List Int):KI.flat xs=xs.map fun x=>Value.int .i64 x:=by
 induction xs with
 | nil=>rfl
 | cons x r ih=>show Value.int .i64 x::KI.flat r=_;rw[ih];rfl
theorem KI.Own.put {w:World} {B g n c:Nat} {ys:List Int} (h:KI.Own w B (.slice (some ⟨g,0,none⟩) n c) ys) (hn:ys.length=n) (k:Nat) (x:Int) (hx:fits x):
  KI.Own (w.setCell ⟨g,k,none⟩ (.int .i64 x)) B (.slice (some ⟨g,0,none⟩) n c) (ys.set k x)∧w.grownBy (w.setCell ⟨g,k,none⟩ (.int .i64 x)) (some g):=by
 obtain⟨h1,h2⟩:=h;have q:=World.ownsRow.stored (n:=n) (by rw[hn]at h1;exact h1) k (.int .i64 x);refine⟨⟨?_,fun q hq=>?_⟩,q.2⟩
 ·rw[KI.flat_at]at q⊢;rw[List.length_set,hn,List.map_set];exact q.1
 ·rcases List.mem_or_eq_of_mem_set hq with hq | rfl
  ·exact h2 q hq
  ·exact hx
theorem KI.Own.at {w:World} {B g n c:Nat} {ys:List Int} (h:KI.Own w B (.slice (some ⟨g,0,none⟩) n c) ys) (hn:ys.length=n) (k:Nat) (hk:k<n):w.cell? ⟨g,k,none⟩=some (.int .i64 (ys.getD k 0))∧w.frozen? ⟨g,k,none⟩=false:=by
 obtain⟨h1,h2⟩:=h;rw[hn]at h1;refine⟨?_,h1.frozenAt k⟩;have:=h1.cellAt k (by show k<n * 1;omega);rw[this,KI.flat_at,List.getElem?_map,List.getD_eq_getElem?_getD,List.getElem?_eq_getElem (by omega)];rfl
theorem Lk.flat_made {P:Program} {α:Type} (K:Lk P α) (z0:α) (hz:K.zero.cells.toList=K.cells z0) (n:Nat):(madeCells K.zero.cells (n * K.n)).toList=K.flat (List.replicate n z0):=by
 apply List.ext_getElem?;intro j;have hs:K.zero.cells.size=K.n:=K.zs;have hp:=K.pos;by_cases hj:j<n * K.n
 ·have hq:j / K.n<n:=(Nat.div_lt_iff_lt_mul hp).2 hj;have hr:=Nat.mod_lt j hp;have e:j=j / K.n * K.n+j % K.n:=by rw[Nat.mul_comm];exact(Nat.div_add_mod j K.n).symm
  have hf:=K.flat_at (List.replicate n z0) (j / K.n) (j % K.n) (by rw[List.length_replicate];exact hq) hr;rw[←e]at hf;rw[hf,List.getD_eq_getElem?_getD,List.getElem?_replicate,if_pos hq,Option.getD_some,←hz];simp[madeCells,hj,hs];have hr':j % K.n<K.zero.cells.size:=by rw[hs];exact hr
  rw[Array.getElem?_eq_getElem hr',getElem!_pos K.zero.cells (j % K.n) hr']
 ·rw[List.getElem?_eq_none (by rw[Array.length_toList,size_madeCells];omega),List.getElem?_eq_none (by rw[K.flat_len,List.length_replicate];omega)]
theorem Lk.flat_set3 {P:Program} {α:Type} {K:Lk P α} (hn:K.n=3) (ys:List α) (k:Nat) (y:α) (p0 p1 p2:Value) (hy:K.cells y=[p0,p1,p2]) (hk:k<ys.length):(((K.flat ys).set (k * 3) p0).set (k * 3+1) p1).set (k * 3+2) p2=K.flat (ys.set k y):=by
 induction ys generalizing k with
 | nil=>simp at hk
 | cons z r ih=>
  have hz:=K.len z;rw[hn]at hz;obtain⟨z0,z1,z2,ez⟩:∃z0 z1 z2,K.cells z=[z0,z1,z2]:=by
   match h:K.cells z,hz with
   | [a,b,c],_=>exact⟨a,b,c,rfl⟩
  have e:K.flat (z::r)=z0::z1::z2::K.flat r:=by show K.cells z++K.flat r=_;rw[ez];rfl
  rw[e]
  cases k with
  | zero=>
   show p0::p1::p2::K.flat r=K.cells y++K.flat r;rw[hy];rfl
  | succ k=>
   have e2:K.flat ((z::r).set (k+1) y)=z0::z1::z2::K.flat (r.set k y):=by show K.cells z++K.flat (r.set k y)=_;rw[ez];rfl
   rw[e2,←ih k (by simpa using hk),show(k+1) * 3=k * 3+1+1+1 by omega,show k * 3+1+1+1+1=(k * 3+1)+1+1+1 by omega,show k * 3+1+1+1+2=(k * 3+2)+1+1+1 by omega];rfl
theorem Lk.flat_set2 {P:Program} {α:Type} {K:Lk P α} (hn:K.n=2) (ys:List α) (k:Nat) (y:α) (p0 p1:Value) (hy:K.cells y=[p0,p1]) (hk:k<ys.length):((K.flat ys).set (k * 2) p0).set (k * 2+1) p1=K.flat (ys.set k y):=by
 induction ys generalizing k with
 | nil=>simp at hk
 | cons z r ih=>
  have hz:=K.len z;rw[hn]at hz;obtain⟨z0,z1,ez⟩:∃z0 z1,K.cells z=[z0,z1]:=by
   match h:K.cells z,hz with
   | [a,b],_=>exact⟨a,b,rfl⟩
  have e:K.flat (z::r)=z0::z1::K.flat r:=by show K.cells z++K.flat r=_;rw[ez];rfl
  rw[e]
  cases k with
  | zero=>
   show p0::p1::K.flat r=K.cells y++K.flat r;rw[hy];rfl
  | succ k=>
   have e2:K.flat ((z::r).set (k+1) y)=z0::z1::K.flat (r.set k y):=by show K.cells z++K.flat (r.set k y)=_;rw[ez];rfl
   rw[e2,←ih k (by simpa using hk),show(k+1) * 2=k * 2+1+1 by omega,show k * 2+1+1+1=(k * 2+1)+1+1 by omega];rfl
theorem setOk {α:Type} {ys:List α} {Q:α→Prop} (h:∀x∈ys,Q x) (k:Nat) (y:α) (hy:Q y):∀x∈ys.set k y,Q x:=fun q hq=>by
 rcases List.mem_or_eq_of_mem_set hq with hq | rfl
 ·exact h q hq
 ·exact hy
theorem Lk.Own.put3 {P:Program} {α:Type} {K:Lk P α} (hK:K.n=3) {w:World} {B g n c:Nat} {ys:List α} (h:K.Own w B (.slice (some ⟨g,0,none⟩) n c) ys) (hn:ys.length=n) (k:Nat) (hk:k<n) (y:α) (p0 p1 p2:Value) (hy:K.cells y=[p0,p1,p2]) (hok:K.ok y):
  K.Own (((w.setCell ⟨g,k * 3,none⟩ p0).setCell ⟨g,k * 3+1,none⟩ p1).setCell ⟨g,k * 3+2,none⟩ p2) B (.slice (some ⟨g,0,none⟩) n c) (ys.set k y):=by
 obtain⟨h1,h2⟩:=h;rw[hn]at h1;have q0:=(World.ownsRow.stored (n:=n) h1 (k * 3) p0).1;have q1:=(World.ownsRow.stored (n:=n) q0 (k * 3+1) p1).1;have q2:=(World.ownsRow.stored (n:=n) q1 (k * 3+2) p2).1;rw[Lk.flat_set3 hK ys k y p0 p1 p2 hy (by omega)]at q2;exact⟨by rw[List.length_set,hn];exact q2,setOk h2 k y hok⟩
theorem Lk.Own.put2 {P:Program} {α:Type} {K:Lk P α} (hK:K.n=2) {w:World} {B g n c:Nat} {ys:List α} (h:K.Own w B (.slice (some ⟨g,0,none⟩) n c) ys) (hn:ys.length=n) (k:Nat) (hk:k<n) (y:α) (p0 p1:Value) (hy:K.cells y=[p0,p1]) (hok:K.ok y):
  K.Own ((w.setCell ⟨g,k * 2,none⟩ p0).setCell ⟨g,k * 2+1,none⟩ p1) B (.slice (some ⟨g,0,none⟩) n c) (ys.set k y):=by
 obtain⟨h1,h2⟩:=h;rw[hn]at h1;have q0:=(World.ownsRow.stored (n:=n) h1 (k * 2) p0).1;have q1:=(World.ownsRow.stored (n:=n) q0 (k * 2+1) p1).1;rw[Lk.flat_set2 hK ys k y p0 p1 hy (by omega)]at q1;exact⟨by rw[List.length_set,hn];exact q1,setOk h2 k y hok⟩
theorem set_self' {α:Type} {l:List α} {i:Nat} {x:α} (h:l[i]? =some x):l.set (i) x=l:=by
 obtain⟨hi,e⟩:=List.getElem?_eq_some_iff.1 h;rw[←e,List.set_getElem_self]
theorem Lk.Own.put3c {P:Program} {α:Type} {K:Lk P α} (hK:K.n=3) {w:World} {B g n c:Nat} {ys:List α} (h:K.Own w B (.slice (some ⟨g,0,none⟩) n c) ys) (hn:ys.length=n) (k:Nat) (hk:k<n) (y:α) (p0 p1 p2 p:Value) (ho:K.cells (ys.getD k K.dflt)=[p0,p1,p]) (hy:K.cells y=[p0,p1,p2]) (hok:K.ok y):
  K.Own (w.setCell ⟨g,k * 3+2,none⟩ p2) B (.slice (some ⟨g,0,none⟩) n c) (ys.set k y):=by
 obtain⟨h1,h2⟩:=h;rw[hn]at h1;have q2:=(World.ownsRow.stored (n:=n) h1 (k * 3+2) p2).1;have f0:=K.flat_at ys k 0 (by omega) (by omega);have f1:=K.flat_at ys k 1 (by omega) (by omega);rw[ho,hK]at f0 f1;have e:=Lk.flat_set3 hK ys k y p0 p1 p2 hy (by omega);rw[set_self' (i:=k * 3) f0,set_self' f1]at e;rw[e]at q2;exact⟨by rw[List.length_set,hn];exact q2,setOk h2 k y hok⟩
theorem Lk.Own.cellAt {P:Program} {α:Type} {K:Lk P α} {w:World} {B g n c:Nat} {ys:List α} (h:K.Own w B (.slice (some ⟨g,0,none⟩) n c) ys) (hn:ys.length=n) (k j:Nat) (hk:k<n) (u:Value) (hu:(K.cells (ys.getD k K.dflt))[j]? =some u):w.cell? ⟨g,k * K.n+j,none⟩=some u∧w.frozen? ⟨g,k * K.n+j,none⟩=false:=by
 obtain⟨h1,h2⟩:=h;rw[hn]at h1;have hj:j<K.n:=by
  have:=(List.getElem?_eq_some_iff.1 hu).1;rw[K.len]at this;exact this
 refine⟨?_,h1.frozenAt _⟩;have hm:k * K.n+j<n * K.n:=by
  have:(k+1) * K.n≤n * K.n:=Nat.mul_le_mul_right _ hk;rw[Nat.succ_mul]at this;omega
 rw[h1.cellAt _ hm,K.flat_at ys k j (by omega) hj,hu]
theorem KE.Own.at3 {w:World} {B g n c:Nat} {ys:List _} (h:KE.Own w B (.slice (some ⟨g,0,none⟩) n c) ys) (hn:ys.length=n) (k:Nat) (hk:k<n):
  w.cell? ⟨g,k * 3,none⟩=some (.int .i64 (ys.getD k ce0).a)∧w.cell? ⟨g,k * 3+1,none⟩=some (.int .i64 (ys.getD k ce0).b)∧w.cell? ⟨g,k * 3+2,none⟩=some (.int .i64 (ys.getD k ce0).c)∧w.frozen? ⟨g,k * 3,none⟩=false∧w.frozen? ⟨g,k * 3+1,none⟩=false∧w.frozen? ⟨g,k * 3+2,none⟩=false:=by
 obtain⟨q0,z0⟩:=h.cellAt hn k 0 hk _ rfl;obtain⟨q1,z1⟩:=h.cellAt hn k 1 hk _ rfl;obtain⟨q2,z2⟩:=h.cellAt hn k 2 hk _ rfl;exact⟨q0,q1,q2,z0,z1,z2⟩
theorem KL.Own.at3 {w:World} {B g n c:Nat} {ys:List _} (h:KL.Own w B (.slice (some ⟨g,0,none⟩) n c) ys) (hn:ys.length=n) (k:Nat) (hk:k<n):
  w.cell? ⟨g,k * 3,none⟩=some (.int .i64 (ys.getD k lo0).r)∧w.cell? ⟨g,k * 3+1,none⟩=some (.int .i64 (ys.getD k lo0).l)∧w.cell? ⟨g,k * 3+2,none⟩=some (.slice (ys.getD k lo0).A (ys.getD k lo0).xs.length (ys.getD k lo0).c)∧w.frozen? ⟨g,k * 3,none⟩=false∧w.frozen? ⟨g,k * 3+1,none⟩=false∧w.frozen? ⟨g,k * 3+2,none⟩=false:=by
 obtain⟨q0,z0⟩:=h.cellAt hn k 0 hk _ rfl;obtain⟨q1,z1⟩:=h.cellAt hn k 1 hk _ rfl;obtain⟨q2,z2⟩:=h.cellAt hn k 2 hk _ rfl;exact⟨q0,q1,q2,z0,z1,z2⟩
theorem KT.Own.at2 {w:World} {B g n c:Nat} {ys:List (Int×Int)} (h:KT.Own w B (.slice (some ⟨g,0,none⟩) n c) ys) (hn:ys.length=n) (k:Nat) (hk:k<n):
  w.cell? ⟨g,k * 2,none⟩=some (.int .i64 (ys.getD k (0,0)).1)∧w.cell? ⟨g,k * 2+1,none⟩=some (.int .i64 (ys.getD k (0,0)).2)∧w.frozen? ⟨g,k * 2,none⟩=false∧w.frozen? ⟨g,k * 2+1,none⟩=false:=by
 obtain⟨q0,z0⟩:=h.cellAt hn k 0 hk _ rfl;obtain⟨q1,z1⟩:=h.cellAt hn k 1 hk _ rfl;exact⟨q0,q1,z0,z1⟩
end Go.Proofs.YtacjonncakhhmaaGreat
