/- Cells: moves. -/
import Derived.Test.YtmecohdedghiaaaGreatDoorPn00
import Derived.Test.YtmecohdedghiaaaGreatDoorPn01
import Derived.Test.YtmecohdedghiaaaGreatDoorPn03
import Derived.Test.YtmecohdedghiaaaGreatDoorPn12
import Derived.Test.YtmecohdedghiaaaGreatDoorChecked
import Derived.WalkKit
import Derived.WalkLawsBesides
import Derived.WalkSpells
import Derived.Outline
import Derived.KernelRfl
import Derived.Lib.Hide
set_option maxRecDepth 100000
set_option maxHeartbeats 8000000
namespace Go.Proofs.YtmecohdedghiaaaGreatDoor
open Go.RowKit
theorem Lk.Own.shape {P:Program} {α:Type} {K:Lk P α} {w:World} {base:Nat} {v:Value} {xs:List α} (h:K.Own w base v xs) (h0:0<xs.length):∃g cap,v=.slice (some ⟨g,0,none⟩) xs.length cap∧base≤g∧g<w.heap.size∧xs.length≤cap:=by
 obtain⟨⟨h1,h2⟩,hf⟩:=h;rcases h2 with ⟨_,hn⟩|⟨g,cap,cur,rfl,hb2,hg,hn,_⟩
 ·omega
 ·exact⟨g,cap,rfl,hb2,(Array.getElem?_eq_some_iff.1 hg).1,hn⟩
theorem KI.flat_at (xs:List Int):KI.flat xs=xs.map fun x=>Value.int .i64 x:=by
 induction xs with
 |nil=>rfl
 |cons x r ih=>show Value.int .i64 x::KI.flat r=_;rw[ih];rfl
theorem KI.Own.put {w:World} {B g n c:Nat} {ys:List Int} (h:KI.Own w B (.slice (some ⟨g,0,none⟩) n c) ys) (hn:ys.length=n) (k:Nat) (x:Int) (hx:fits x):
  KI.Own (w.setCell ⟨g,k,none⟩ (.int .i64 x)) B (.slice (some ⟨g,0,none⟩) n c) (ys.set k x)∧w.grownBy (w.setCell ⟨g,k,none⟩ (.int .i64 x)) (some g):=by
 obtain⟨h1,h2⟩:=h;have q:=World.ownsRow.stored (n:=n) (by rw[hn]at h1;exact h1) k (.int .i64 x);refine⟨⟨?_,fun q hq=>?_⟩,q.2⟩
 ·rw[KI.flat_at]at q⊢;rw[List.length_set,hn,List.map_set];exact q.1
 ·rcases List.mem_or_eq_of_mem_set hq with hq|rfl
  ·exact h2 q hq
  ·exact hx
theorem KI.Own.at {w:World} {B g n c:Nat} {ys:List Int} (h:KI.Own w B (.slice (some ⟨g,0,none⟩) n c) ys) (hn:ys.length=n) (k:Nat) (hk:k<n):w.cell? ⟨g,k,none⟩=some (.int .i64 (ys.getD k 0))∧w.frozen? ⟨g,k,none⟩=false:=by
 obtain⟨h1,h2⟩:=h;rw[hn]at h1;refine⟨?_,h1.frozenAt k⟩;have:=h1.cellAt k (by show k<n*1;omega);rw[this,KI.flat_at,List.getElem?_map,List.getD_eq_getElem?_getD,List.getElem?_eq_getElem (by omega)];rfl
theorem Lk.flat_made {P:Program} {α:Type} (K:Lk P α) (z0:α) (hz:K.zero.cells.toList=K.cells z0) (n:Nat):(madeCells K.zero.cells (n*K.n)).toList=K.flat (List.replicate n z0):=by
 apply List.ext_getElem?;intro j;have hs:K.zero.cells.size=K.n:=K.zs;have hp:=K.pos;by_cases hj:j<n*K.n
 ·have hq:j/K.n<n:=(Nat.div_lt_iff_lt_mul hp).2 hj;have hr:=Nat.mod_lt j hp;have e:j=j/K.n*K.n+j%K.n:=by rw[Nat.mul_comm];exact(Nat.div_add_mod j K.n).symm
  have hf:=K.flat_at (List.replicate n z0) (j/K.n) (j%K.n) (by rw[List.length_replicate];exact hq) hr;rw[←e]at hf;rw[hf,List.getD_eq_getElem?_getD,List.getElem?_replicate,if_pos hq,Option.getD_some,←hz];simp[madeCells,hj,hs];have hr':j%K.n<K.zero.cells.size:=by rw[hs];exact hr
  rw[Array.getElem?_eq_getElem hr',getElem!_pos K.zero.cells (j%K.n) hr']
 ·rw[List.getElem?_eq_none (by rw[Array.length_toList,size_madeCells];omega),List.getElem?_eq_none (by rw[K.flat_len,List.length_replicate];omega)]
theorem Lk.flat_set3 {P:Program} {α:Type} {K:Lk P α} (hn:K.n=3) (ys:List α) (k:Nat) (y:α) (p0 p1 p2:Value) (hy:K.cells y=[p0,p1,p2]) (hk:k<ys.length):(((K.flat ys).set (k*3) p0).set (k*3+1) p1).set (k*3+2) p2=K.flat (ys.set k y):=by
 induction ys generalizing k with
 |nil=>simp at hk
 |cons z r ih=>
  have hz:=K.len z;rw[hn]at hz;obtain⟨z0,z1,z2,ez⟩:∃z0 z1 z2,K.cells z=[z0,z1,z2]:=by
   match h:K.cells z,hz with
   |[a,b,c],_=>exact⟨a,b,c,rfl⟩
  have e:K.flat (z::r)=z0::z1::z2::K.flat r:=by show K.cells z++K.flat r=_;rw[ez];rfl
  rw[e]
  cases k with
  |zero=>
   show p0::p1::p2::K.flat r=K.cells y++K.flat r;rw[hy];rfl
  |succ k=>
   have e2:K.flat ((z::r).set (k+1) y)=z0::z1::z2::K.flat (r.set k y):=(by show K.cells z++K.flat (r.set k y)=_;rw[ez];rfl);rw[e2,←ih k (by simpa using hk),show(k+1)*3=k*3+1+1+1 by omega,show k*3+1+1+1+1=(k*3+1)+1+1+1 by omega,show k*3+1+1+1+2=(k*3+2)+1+1+1 by omega];rfl
theorem Lk.flat_set2 {P:Program} {α:Type} {K:Lk P α} (hn:K.n=2) (ys:List α) (k:Nat) (y:α) (p0 p1:Value) (hy:K.cells y=[p0,p1]) (hk:k<ys.length):((K.flat ys).set (k*2) p0).set (k*2+1) p1=K.flat (ys.set k y):=by
 induction ys generalizing k with
 |nil=>simp at hk
 |cons z r ih=>
  have hz:=K.len z;rw[hn]at hz;obtain⟨z0,z1,ez⟩:∃z0 z1,K.cells z=[z0,z1]:=by
   match h:K.cells z,hz with
   |[a,b],_=>exact⟨a,b,rfl⟩
  have e:K.flat (z::r)=z0::z1::K.flat r:=by show K.cells z++K.flat r=_;rw[ez];rfl
  rw[e]
  cases k with
  |zero=>
   show p0::p1::K.flat r=K.cells y++K.flat r;rw[hy];rfl
  |succ k=>
   have e2:K.flat ((z::r).set (k+1) y)=z0::z1::K.flat (r.set k y):=(by show K.cells z++K.flat (r.set k y)=_;rw[ez];rfl);rw[e2,←ih k (by simpa using hk),show(k+1)*2=k*2+1+1 by omega,show k*2+1+1+1=(k*2+1)+1+1 by omega];rfl
theorem setOk {α:Type} {ys:List α} {Q:α→Prop} (h:∀x∈ys,Q x) (k:Nat) (y:α) (hy:Q y):∀x∈ys.set k y,Q x:=fun q hq=>by
 rcases List.mem_or_eq_of_mem_set hq with hq|rfl
 ·exact h q hq
 ·exact hy
theorem Lk.Own.put3 {P:Program} {α:Type} {K:Lk P α} (hK:K.n=3) {w:World} {B g n c:Nat} {ys:List α} (h:K.Own w B (.slice (some ⟨g,0,none⟩) n c) ys) (hn:ys.length=n) (k:Nat) (hk:k<n) (y:α) (p0 p1 p2:Value) (hy:K.cells y=[p0,p1,p2]) (hok:K.ok y):
  K.Own (((w.setCell ⟨g,k*3,none⟩ p0).setCell ⟨g,k*3+1,none⟩ p1).setCell ⟨g,k*3+2,none⟩ p2) B (.slice (some ⟨g,0,none⟩) n c) (ys.set k y):=by
 obtain⟨h1,h2⟩:=h;rw[hn]at h1;have q0:=(World.ownsRow.stored (n:=n) h1 (k*3) p0).1;have q1:=(World.ownsRow.stored (n:=n) q0 (k*3+1) p1).1;have q2:=(World.ownsRow.stored (n:=n) q1 (k*3+2) p2).1;rw[Lk.flat_set3 hK ys k y p0 p1 p2 hy (by omega)]at q2;exact⟨by rw[List.length_set,hn];exact q2,setOk h2 k y hok⟩
theorem Lk.Own.put2 {P:Program} {α:Type} {K:Lk P α} (hK:K.n=2) {w:World} {B g n c:Nat} {ys:List α} (h:K.Own w B (.slice (some ⟨g,0,none⟩) n c) ys) (hn:ys.length=n) (k:Nat) (hk:k<n) (y:α) (p0 p1:Value) (hy:K.cells y=[p0,p1]) (hok:K.ok y):
  K.Own ((w.setCell ⟨g,k*2,none⟩ p0).setCell ⟨g,k*2+1,none⟩ p1) B (.slice (some ⟨g,0,none⟩) n c) (ys.set k y):=by
 obtain⟨h1,h2⟩:=h;rw[hn]at h1;have q0:=(World.ownsRow.stored (n:=n) h1 (k*2) p0).1;have q1:=(World.ownsRow.stored (n:=n) q0 (k*2+1) p1).1;rw[Lk.flat_set2 hK ys k y p0 p1 hy (by omega)]at q1;exact⟨by rw[List.length_set,hn];exact q1,setOk h2 k y hok⟩
theorem set_self' {α:Type} {l:List α} {i:Nat} {x:α} (h:l[i]? =some x):l.set (i) x=l:=by
 obtain⟨hi,e⟩:=List.getElem?_eq_some_iff.1 h;rw[←e,List.set_getElem_self]
theorem Lk.Own.put3c {P:Program} {α:Type} {K:Lk P α} (hK:K.n=3) {w:World} {B g n c:Nat} {ys:List α} (h:K.Own w B (.slice (some ⟨g,0,none⟩) n c) ys) (hn:ys.length=n) (k:Nat) (hk:k<n) (y:α) (p0 p1 p2 p:Value) (ho:K.cells (ys.getD k K.dflt)=[p0,p1,p]) (hy:K.cells y=[p0,p1,p2]) (hok:K.ok y):
  K.Own (w.setCell ⟨g,k*3+2,none⟩ p2) B (.slice (some ⟨g,0,none⟩) n c) (ys.set k y):=by
 obtain⟨h1,h2⟩:=h;rw[hn]at h1;have q2:=(World.ownsRow.stored (n:=n) h1 (k*3+2) p2).1;have f0:=K.flat_at ys k 0 (by omega) (by omega);have f1:=K.flat_at ys k 1 (by omega) (by omega);rw[ho,hK]at f0 f1;have e:=Lk.flat_set3 hK ys k y p0 p1 p2 hy (by omega);rw[set_self' (i:=k*3) f0,set_self' f1]at e;rw[e]at q2;exact⟨by rw[List.length_set,hn];exact q2,setOk h2 k y hok⟩
theorem Lk.Own.cellAt {P:Program} {α:Type} {K:Lk P α} {w:World} {B g n c:Nat} {ys:List α} (h:K.Own w B (.slice (some ⟨g,0,none⟩) n c) ys) (hn:ys.length=n) (k j:Nat) (hk:k<n) (u:Value) (hu:(K.cells (ys.getD k K.dflt))[j]? =some u):w.cell? ⟨g,k*K.n+j,none⟩=some u∧w.frozen? ⟨g,k*K.n+j,none⟩=false:=by
 obtain⟨h1,h2⟩:=h;rw[hn]at h1;have hj:j<K.n:=by
  have:=(List.getElem?_eq_some_iff.1 hu).1;rw[K.len]at this;exact this
 refine⟨?_,h1.frozenAt _⟩;have hm:k*K.n+j<n*K.n:=by
  have:(k+1)*K.n≤n*K.n:=Nat.mul_le_mul_right _ hk;rw[Nat.succ_mul]at this;omega
 rw[h1.cellAt _ hm,K.flat_at ys k j (by omega) hj,hu]
theorem clone_o (v:Value) (o:List Int) (w:World) (hv:KI.IsL w w.heap.size v o) (hl:o.length≤100000):Calls Tryz.prog 100 #[v] w fun e w'=>∃v',e=.returned v'∧KI.Own w' w.heap.size v' o∧Below w.heap.size w w':=by
 have HV:=aH hv;have q:∀(w:World) (a:Option Addr) (n c n' c':Nat),(binOp .eql 27 (.slice a n c) (.slice none n' c')).run Tryz.prog w=.ok (.bool a.isNone) w:=fun w a n c n' c'=>Lib.run_eql_slice_nil w _ _ a n c n' c' Tryz.underlying27;obtain⟨A,c,rfl,hc⟩:=hv.shape;clear hv
 match A with
 |none=>
  have h0:o.length=0:=by
   rcases Nat.eq_zero_or_pos o.length with h|h
   ·exact h
   ·obtain⟨b,off,e,_⟩:=HV.out.elem h
    cases e
  obtain rfl:=List.eq_nil_of_length_eq_zero h0;clear HV h0 hc;simp only[List.length_nil];go_enter Tryz.func100,Tryz.ntmps100;go_wp2
  go_ret
  exact⟨_,rfl,Lk.Own.nil _ _,bR _ _⟩
 |some a=>
  go_enter Tryz.func100,Tryz.ntmps100;go_wp2_with (at_builtin;refine Lk.wpList_app (K:=KI) _ rfl _ _ rfl rfl w.heap.size w.heap.size _ _ [] o rfl rfl (Lk.Own.made w w.heap.size 0 #[] (nR _) (by unfold maxLen;omega) rfl) (HV.out.below (bL (bR _ w) _)) ?c1 ?c2 ?_)
  case c1=>simp;omega
  case c2=>simp
  intro v1 w4 hown hgrow _;have HB4:=aH (Lk.Own.grow' (K:=KI) (Lk.Own.made w w.heap.size 0 #[] (nR _) (by unfold maxLen;omega) rfl) (bL (bR _ w) _) (by simp) hgrow);have HO4:=aH hown;clear hown hgrow;go_wp2
  go_ret
  exact⟨_,rfl,by simpa using HO4.out,HB4.out⟩
theorem pass2_take (x z who:Int) (b1 b0 bw:Nat) (v:Value) (o:List Int) (w:World) (h1:w.cell? ⟨b1,0,none⟩=some (.func (.func 227) #[] #[.pointer (some ⟨bw,0,none⟩)])) (h2:w.cell? ⟨bw,0,none⟩=some (.int .i64 who)) (h0:w.cell? ⟨b0,0,none⟩=some v)
  (hv:KI.IsL w w.heap.size v o) (hx:0≤x) (hx2:x<o.length) (hz:o.getD x.toNat 0=z):Calls Tryz.prog 231 #[.int .i64 x,.pointer (some ⟨b1,0,none⟩),.pointer (some ⟨b0,0,none⟩)] w fun e w'=>e=.returned (.bool (!(decide (z=0)||decide (z=who))))∧Below w.heap.size w w':=by
 obtain⟨j,rfl⟩:=Int.eq_ofNat_of_zero_le hx;obtain⟨b,off,cap,rfl,hc,hb,hl,hcell,hf⟩:=KI.cells hv (by omega);have e1:=hcell j (by omega);rw[show((j:Int)).toNat=j from rfl]at hz;rw[hz]at e1;have HA:=aH (fun n=>take1o_any z who bw (w.drewN n) h2);clear hz hcell hf hv h2;generalize (decide (z=0)||decide (z=who))=q at *;go_enter Tryz.func231,Tryz.ntmps231;go_wp2_with fail;go_quiet ((go_at_call 227;exact Calls.quiet_of_same ((HA.out _).mono fun _ _ q=>⟨q.1,q.2.symm⟩)));go_wp2
 go_ret
 exact⟨rfl,below_drewN (bR _ _) _⟩
theorem pass2_give (x z who:Int) (b1 b0 bw:Nat) (v:Value) (o:List Int) (w:World) (h1:w.cell? ⟨b1,0,none⟩=some (.func (.func 182) #[] #[.pointer (some ⟨bw,0,none⟩)])) (h2:w.cell? ⟨bw,0,none⟩=some (.int .i64 who)) (h0:w.cell? ⟨b0,0,none⟩=some v)
  (hv:KI.IsL w w.heap.size v o) (hx:0≤x) (hx2:x<o.length) (hz:o.getD x.toNat 0=z):Calls Tryz.prog 231 #[.int .i64 x,.pointer (some ⟨b1,0,none⟩),.pointer (some ⟨b0,0,none⟩)] w fun e w'=>e=.returned (.bool (!decide (z=who)))∧Below w.heap.size w w':=by
 obtain⟨j,rfl⟩:=Int.eq_ofNat_of_zero_le hx;obtain⟨b,off,cap,rfl,hc,hb,hl,hcell,hf⟩:=KI.cells hv (by omega);have e1:=hcell j (by omega);rw[show((j:Int)).toNat=j from rfl]at hz;rw[hz]at e1;have HA:=aH (fun n=>give1_any z who bw (w.drewN n) h2);clear hz hcell hf hv h2;generalize decide (z=who)=q at *;go_enter Tryz.func231,Tryz.ntmps231;go_wp2_with fail;go_quiet ((go_at_call 182;exact Calls.quiet_of_same ((HA.out _).mono fun _ _ q=>⟨q.1,q.2.symm⟩)));go_wp2
 go_ret
 exact⟨rfl,below_drewN (bR _ _) _⟩
def lkB (o:List Int) (who x:Int):Bool:=!hasO o.length x|| !decide (o.getD x.toNat 0=who)
theorem lacks1_any (x who:Int) (b0 bw:Nat) (v:Value) (o:List Int) (w:World) (h2:w.cell? ⟨bw,0,none⟩=some (.int .i64 who)) (h0:w.cell? ⟨b0,0,none⟩=some v)
  (hv:KI.IsL w w.heap.size v o):Calls Tryz.prog 178 #[.int .i64 x,.pointer (some ⟨b0,0,none⟩),.pointer (some ⟨bw,0,none⟩)] w fun e w'=>e=.returned (.bool (lkB o who x))∧Below w.heap.size w w':=by
 obtain⟨A,c,rfl,hc⟩:=hv.shape;have e:lkB o who x=(!hasO o.length x|| !decide (o.getD x.toNat 0=who)):=rfl;have HA:=aH (fun n=>has_o A o.length c x (w.drewN n));by_cases hh:0≤x∧x<o.length
 ·have e2:hasO o.length x=true:=by unfold hasO;rw[dT hh.1,dT hh.2];rfl
  rw[e2]at e HA;simp only[Bool.not_true,Bool.false_or]at e;rw[e];obtain⟨hx,hx2⟩:=hh;obtain⟨j,rfl⟩:=Int.eq_ofNat_of_zero_le hx;obtain⟨b,off,cap,hs,hc,hb,hl,hcell,hf⟩:=KI.cells hv (by omega);simp only[Value.slice.injEq]at hs;obtain⟨rfl,_,rfl⟩:=hs;have e1:=hcell j (by omega);rw[show((j:Int)).toNat=j from rfl];clear hcell hf hv e e2;generalize o.getD j 0=z at *;go_enter Tryz.func178,Tryz.ntmps178;go_wp2_with fail;go_quiet ((go_at_call 179;exact Calls.quiet_of_same ((HA.out _).mono fun _ _ q=>⟨q.1,q.2.symm⟩)));go_wp2
  go_ret
  exact⟨ret_b (by rw[Bool.eq_iff_iff];simp),below_drewN (bR _ _) _⟩
 ·have e2:hasO o.length x=false:=by unfold hasO;rw[Bool.and_eq_false_iff,decide_eq_false_iff_not,decide_eq_false_iff_not];omega
  rw[e2]at e HA;simp only[Bool.not_false,Bool.true_or]at e;rw[e];clear e e2 hv;go_enter Tryz.func178,Tryz.ntmps178;go_wp2_with fail;go_quiet ((go_at_call 179;exact Calls.quiet_of_same ((HA.out _).mono fun _ _ q=>⟨q.1,q.2.symm⟩)));go_wp2
  go_ret
  exact⟨rfl,below_drewN (bR _ _) _⟩
theorem radd_any (a b:Int) (ha:fits a) (hb:fits b) (w:World):Calls Tryz.prog 225 #[.int .i64 a,.int .i64 b] w fun e w'=>e=.returned (.tuple #[.int .i64 (fitV (a+b)),.int .i64 (fitE (a+b))])∧w=w':=by
 unfold fits at ha hb;go_enter Tryz.func225,Tryz.ntmps225;go_wp2;all_goals
  go_ret2
  refine⟨ret_ii ?_ ?_,rfl⟩;all_goals
   simp only[fitV,fitE,fits]at *;(try simp only[wrap64]at *)
   first|omega|(split<;>omega)
end Go.Proofs.YtmecohdedghiaaaGreatDoor
namespace Go.Proofs.YtmecohdedghiaaaGreatDoor.Cel
open Go.RowKit
structure Ce where
 a:Int
 b:Int
 c:Int
abbrev Ce.v (x:Ce):Value:=.agg #[.int .i64 x.a,.int .i64 x.b,.int .i64 x.c]
structure Ce.Fit (x:Ce):Prop where
 a:fits x.a
 b:fits x.b
 c:fits x.c
def Ce.Right (x:Ce):Prop:=1≤x.a∧x.a≤1099511627776∧0≤x.b∧x.b≤x.a∧0≤x.c∧x.c≤2147483647
instance (x:Ce):Decidable x.Right:=by unfold Ce.Right;infer_instance
def rightB (x:Ce):Bool:=decide x.Right
def chE (x:Ce) (n:Int):Int:=if ¬x.Right then 100 else if n=0 then 1 else if x.c=2147483647 then 101 else if x.b+n<0 then 102 else if x.a<x.b+n then 103 else 0
def nought:Ce:=⟨0,0,0⟩
def chV (x:Ce) (n:Int):Ce:=if chE x n=0 then⟨x.a,x.b+n,x.c+1⟩else nought
theorem Below.box {w w':World} (o:Obj) (h:Below (w.alloc o).heap.size (w.alloc o) w'):Below w.heap.size w w':=bC (bL (bR _ _) o) h
theorem fits_add {a b:Int} (ha:0≤a) (hb:fits b) (hk:a≤1099511627776):¬fits (a+b)→0<a+b:=by unfold fits at *;omega
theorem right_any (x:Ce) (w:World):Calls Tryz.prog 164 #[x.v] w fun e w'=>e=.returned (.bool (rightB x))∧Below w.heap.size w w':=by
 obtain⟨a,b,c⟩:=x;show Calls Tryz.prog 164 #[.agg #[.int .i64 a,.int .i64 b,.int .i64 c]] w fun e w'=>e=.returned (.bool (decide (1≤a∧a≤1099511627776∧0≤b∧b≤a∧0≤c∧c≤2147483647)))∧Below w.heap.size w w';by_cases h1:1≤a
 ·by_cases h2:a≤1099511627776
  ·by_cases h3:0≤b
   ·by_cases h4:b≤a
    ·by_cases h5:0≤c
     ·by_cases h6:c≤2147483647
      ·rw[show decide (1≤a∧a≤1099511627776∧0≤b∧b≤a∧0≤c∧c≤2147483647)=true from dT ⟨h1,h2,h3,h4,h5,h6⟩];go_enter Tryz.func164,Tryz.ntmps164;go_wp2
       go_ret
       exact⟨ret_b (by simp),bL (bR _ _) _⟩
      ·rw[show decide (1≤a∧a≤1099511627776∧0≤b∧b≤a∧0≤c∧c≤2147483647)=false from dF (by omega)];go_enter Tryz.func164,Tryz.ntmps164;go_wp2
       go_ret
       exact⟨ret_b (by simp),bL (bR _ _) _⟩
     ·rw[show decide (1≤a∧a≤1099511627776∧0≤b∧b≤a∧0≤c∧c≤2147483647)=false from dF (by omega)];go_enter Tryz.func164,Tryz.ntmps164;go_wp2
      go_ret
      exact⟨ret_b (by simp),bL (bR _ _) _⟩
    ·rw[show decide (1≤a∧a≤1099511627776∧0≤b∧b≤a∧0≤c∧c≤2147483647)=false from dF (by omega)];go_enter Tryz.func164,Tryz.ntmps164;go_wp2
     go_ret
     exact⟨ret_b (by simp),bL (bR _ _) _⟩
   ·rw[show decide (1≤a∧a≤1099511627776∧0≤b∧b≤a∧0≤c∧c≤2147483647)=false from dF (by omega)];go_enter Tryz.func164,Tryz.ntmps164;go_wp2
    go_ret
    exact⟨ret_b (by simp),bL (bR _ _) _⟩
  ·rw[show decide (1≤a∧a≤1099511627776∧0≤b∧b≤a∧0≤c∧c≤2147483647)=false from dF (by omega)];go_enter Tryz.func164,Tryz.ntmps164;go_wp2
   go_ret
   exact⟨ret_b (by simp),bL (bR _ _) _⟩
 ·rw[show decide (1≤a∧a≤1099511627776∧0≤b∧b≤a∧0≤c∧c≤2147483647)=false from dF (by omega)];go_enter Tryz.func164,Tryz.ntmps164;go_wp2
  go_ret
  exact⟨ret_b (by simp),bL (bR _ _) _⟩
theorem rright_any (x:Ce) (w:World):Calls Tryz.prog 112 #[x.v] w fun e w'=>e=.returned (.bool (rightB x))∧Below w.heap.size w w':=by
 obtain⟨a,b,c⟩:=x;show Calls Tryz.prog 112 #[.agg #[.int .i64 a,.int .i64 b,.int .i64 c]] w fun e w'=>e=.returned (.bool (decide (1≤a∧a≤1099511627776∧0≤b∧b≤a∧0≤c∧c≤2147483647)))∧Below w.heap.size w w';by_cases h1:1≤a
 ·by_cases h2:a≤1099511627776
  ·by_cases h3:0≤b
   ·by_cases h4:b≤a
    ·by_cases h5:0≤c
     ·by_cases h6:c≤2147483647
      ·rw[show decide (1≤a∧a≤1099511627776∧0≤b∧b≤a∧0≤c∧c≤2147483647)=true from dT ⟨h1,h2,h3,h4,h5,h6⟩];go_enter Tryz.func112,Tryz.ntmps112;go_wp2
       go_ret
       exact⟨ret_b (by simp),bL (bR _ _) _⟩
      ·rw[show decide (1≤a∧a≤1099511627776∧0≤b∧b≤a∧0≤c∧c≤2147483647)=false from dF (by omega)];go_enter Tryz.func112,Tryz.ntmps112;go_wp2
       go_ret
       exact⟨ret_b (by simp),bL (bR _ _) _⟩
     ·rw[show decide (1≤a∧a≤1099511627776∧0≤b∧b≤a∧0≤c∧c≤2147483647)=false from dF (by omega)];go_enter Tryz.func112,Tryz.ntmps112;go_wp2
      go_ret
      exact⟨ret_b (by simp),bL (bR _ _) _⟩
    ·rw[show decide (1≤a∧a≤1099511627776∧0≤b∧b≤a∧0≤c∧c≤2147483647)=false from dF (by omega)];go_enter Tryz.func112,Tryz.ntmps112;go_wp2
     go_ret
     exact⟨ret_b (by simp),bL (bR _ _) _⟩
   ·rw[show decide (1≤a∧a≤1099511627776∧0≤b∧b≤a∧0≤c∧c≤2147483647)=false from dF (by omega)];go_enter Tryz.func112,Tryz.ntmps112;go_wp2
    go_ret
    exact⟨ret_b (by simp),bL (bR _ _) _⟩
  ·rw[show decide (1≤a∧a≤1099511627776∧0≤b∧b≤a∧0≤c∧c≤2147483647)=false from dF (by omega)];go_enter Tryz.func112,Tryz.ntmps112;go_wp2
   go_ret
   exact⟨ret_b (by simp),bL (bR _ _) _⟩
 ·rw[show decide (1≤a∧a≤1099511627776∧0≤b∧b≤a∧0≤c∧c≤2147483647)=false from dF (by omega)];go_enter Tryz.func112,Tryz.ntmps112;go_wp2
  go_ret
  exact⟨ret_b (by simp),bL (bR _ _) _⟩
abbrev ceE (x:Ce) (e:Int):Value:=.tuple #[.agg #[.int .i64 x.a,.int .i64 x.b,.int .i64 x.c],.int .i64 e]
theorem right_t {a b c:Int} (h:(Ce.mk a b c).Right) (w:World):Calls Tryz.prog 164 #[.agg #[.int .i64 a,.int .i64 b,.int .i64 c]] w fun e w'=>e=.returned (.bool true)∧Below w.heap.size w w':=by
 have:=right_any ⟨a,b,c⟩ w
 rwa [show rightB ⟨a,b,c⟩=true from dT h]at this
theorem right_f {a b c:Int} (h:¬(Ce.mk a b c).Right) (w:World):Calls Tryz.prog 164 #[.agg #[.int .i64 a,.int .i64 b,.int .i64 c]] w fun e w'=>e=.returned (.bool false)∧Below w.heap.size w w':=by
 have:=right_any ⟨a,b,c⟩ w
 rwa [show rightB ⟨a,b,c⟩=false from dF h]at this
theorem change_any (x:Ce) (n:Int) (hx:x.Fit) (hn:fits n) (w:World):Calls Tryz.prog 265 #[x.v,.int .i64 n] w fun e w'=>e=.returned (ceE (chV x n) (chE x n))∧Below w.heap.size w w':=by
 obtain⟨a,b,c⟩:=x;by_cases hr:(Ce.mk a b c).Right
 ·have HK:=aH (fun w=>right_t hr w);have HR:=aH hr;obtain⟨r1,r2,r3,r4,r5,r6⟩:=hr;dsimp only at r1 r2 r3 r4 r5 r6;have HA:=aH (fun w=>add_any b n hx.b hn w);have HN:=aH hn;clear hx hn;by_cases h1:n=0
  ·subst h1;have T:chE ⟨a,b,c⟩ 0=1:=(by unfold chE;rw[if_neg (by simpa using HR.out),if_pos rfl]);have U:chV ⟨a,b,c⟩ 0=nought:=(by unfold chV;rw[T];rfl);rw[T,U];go_enter Tryz.func265,Tryz.ntmps265;go_wp2_with fail;refine(HK.out _).mono ?_;rintro e w1 ⟨rfl,hb1⟩;obtain⟨hc1,hf1⟩:=bcell hb1;have HB1:=aH hb1;have hz1_0:w.heap.size<w1.heap.size:=(by(have:=hb1.size;(try simp at this)<;>omega));have hz1_1:w.heap.size+1<w1.heap.size:=(by(have:=hb1.size;(try simp at this)<;>omega));clear hb1;go_wp2;refine bP (v:=.tuple #[.agg #[.int .i64 0,.int .i64 0,.int .i64 0],.int .i64 1]) (by simp[results,Tryz.results265,go_sem,hc1]) rfl ⟨rfl,?_⟩;(repeat (first|exact bR _ _|(with_reducible refine bS ?_ (by simp<;>omega))|(with_reducible refine bL ?_ _)|(with_reducible refine bC ?_ HB1.out)))
  ·by_cases h2:c=2147483647
   ·have T:chE ⟨a,b,c⟩ n=101:=(by unfold chE;rw[if_neg (by simpa using HR.out),if_neg h1,if_pos h2]);have U:chV ⟨a,b,c⟩ n=nought:=(by unfold chV;rw[T];rfl);rw[T,U];have q2:(c==2147483647)=true:=(by rw[beq_iff_eq];exact h2);clear T U h2;go_enter Tryz.func265,Tryz.ntmps265;go_wp2_with fail;refine(HK.out _).mono ?_;rintro e w1 ⟨rfl,hb1⟩;obtain⟨hc1,hf1⟩:=bcell hb1;have HB1:=aH hb1;have hz1_0:w.heap.size<w1.heap.size:=(by(have:=hb1.size;(try simp at this)<;>omega));have hz1_1:w.heap.size+1<w1.heap.size:=(by(have:=hb1.size;(try simp at this)<;>omega));clear hb1;go_wp2;refine bP (v:=.tuple #[.agg #[.int .i64 0,.int .i64 0,.int .i64 0],.int .i64 101]) (by simp[results,Tryz.results265,go_sem,hc1]) rfl ⟨rfl,?_⟩;(repeat (first|exact bR _ _|(with_reducible refine bS ?_ (by simp<;>omega))|(with_reducible refine bL ?_ _)|(with_reducible refine bC ?_ HB1.out)))
   ·by_cases h3:fits (b+n)
    ·have e1:fitV (b+n)=b+n:=if_pos h3;have e2:fitE (b+n)=0:=if_pos h3;rw[e1,e2]at HA;clear e1 e2;have H3:=aH h3;clear h3;by_cases h4:b+n<0
     ·have T:chE ⟨a,b,c⟩ n=102:=(by unfold chE;rw[if_neg (by simpa using HR.out),if_neg h1,if_neg h2,if_pos h4]);have U:chV ⟨a,b,c⟩ n=nought:=(by unfold chV;rw[T];rfl);rw[T,U];go_enter Tryz.func265,Tryz.ntmps265;go_wp2_with fail;refine(HK.out _).mono ?_;rintro e w1 ⟨rfl,hb1⟩;obtain⟨hc1,hf1⟩:=bcell hb1;have HB1:=aH hb1;have hz1_0:w.heap.size<w1.heap.size:=(by(have:=hb1.size;(try simp at this)<;>omega));have hz1_1:w.heap.size+1<w1.heap.size:=(by(have:=hb1.size;(try simp at this)<;>omega));clear hb1;go_wp2_with fail;refine(HA.out _).mono ?_;rintro e w2 ⟨rfl,rfl⟩;go_wp2;refine bP (v:=.tuple #[.agg #[.int .i64 0,.int .i64 0,.int .i64 0],.int .i64 102]) (by simp[results,Tryz.results265,go_sem,hc1]) rfl ⟨rfl,?_⟩;(repeat (first|exact bR _ _|(with_reducible refine bS ?_ (by simp<;>omega))|(with_reducible refine bL ?_ _)|(with_reducible refine bC ?_ HB1.out)))
     ·by_cases h5:a<b+n
      ·have T:chE ⟨a,b,c⟩ n=103:=(by unfold chE;rw[if_neg (by simpa using HR.out),if_neg h1,if_neg h2,if_neg h4,if_pos h5]);have U:chV ⟨a,b,c⟩ n=nought:=(by unfold chV;rw[T];rfl);rw[T,U];go_enter Tryz.func265,Tryz.ntmps265;go_wp2_with fail;refine(HK.out _).mono ?_;rintro e w1 ⟨rfl,hb1⟩;obtain⟨hc1,hf1⟩:=bcell hb1;have HB1:=aH hb1;have hz1_0:w.heap.size<w1.heap.size:=(by(have:=hb1.size;(try simp at this)<;>omega));have hz1_1:w.heap.size+1<w1.heap.size:=(by(have:=hb1.size;(try simp at this)<;>omega));clear hb1;go_wp2_with fail;refine(HA.out _).mono ?_;rintro e w2 ⟨rfl,rfl⟩;go_wp2;refine bP (v:=.tuple #[.agg #[.int .i64 0,.int .i64 0,.int .i64 0],.int .i64 103]) (by simp[results,Tryz.results265,go_sem,hc1]) rfl ⟨rfl,?_⟩;(repeat (first|exact bR _ _|(with_reducible refine bS ?_ (by simp<;>omega))|(with_reducible refine bL ?_ _)|(with_reducible refine bC ?_ HB1.out)))
      ·have T:chE ⟨a,b,c⟩ n=0:=(by unfold chE;rw[if_neg (by simpa using HR.out),if_neg h1,if_neg h2,if_neg h4,if_neg h5]);have U:chV ⟨a,b,c⟩ n=⟨a,b+n,c+1⟩:=(by unfold chV;rw[if_pos T]);rw[T,U];go_enter Tryz.func265,Tryz.ntmps265;go_wp2_with fail;refine(HK.out _).mono ?_;rintro e w1 ⟨rfl,hb1⟩;obtain⟨hc1,hf1⟩:=bcell hb1;have HB1:=aH hb1;have hz1_0:w.heap.size<w1.heap.size:=(by(have:=hb1.size;(try simp at this)<;>omega));have hz1_1:w.heap.size+1<w1.heap.size:=(by(have:=hb1.size;(try simp at this)<;>omega));clear hb1;go_wp2_with fail;refine(HA.out _).mono ?_;rintro e w2 ⟨rfl,rfl⟩;go_wp2;refine bP (v:=.tuple #[.agg #[.int .i64 a,.int .i64 (b+n),.int .i64 (c+1)],.int .i64 0]) (by simp[results,Tryz.results265,go_sem,hc1]) rfl ⟨rfl,?_⟩;(repeat (first|exact bR _ _|(with_reducible refine bS ?_ (by simp<;>omega))|(with_reducible refine bL ?_ _)|(with_reducible refine bC ?_ HB1.out)))
    ·have hp:0<b+n:=fits_add (a:=b) r3 HN.out (by omega) h3;have e1:fitV (b+n)=0:=if_neg h3;have e2:fitE (b+n)=4:=if_neg h3;rw[e1,e2]at HA;have T:chE ⟨a,b,c⟩ n=103:=by
      unfold fits at h3;unfold chE;rw[if_neg (by simpa using HR.out),if_neg h1,if_neg h2,if_neg (show ¬b+n<0 by omega),if_pos (show a<b+n by omega)]
     have U:chV ⟨a,b,c⟩ n=nought:=(by unfold chV;rw[T];rfl);rw[T,U];clear e1 e2 h3 hp;go_enter Tryz.func265,Tryz.ntmps265;go_wp2_with fail;refine(HK.out _).mono ?_;rintro e w1 ⟨rfl,hb1⟩;obtain⟨hc1,hf1⟩:=bcell hb1;have HB1:=aH hb1;have hz1_0:w.heap.size<w1.heap.size:=(by(have:=hb1.size;(try simp at this)<;>omega));have hz1_1:w.heap.size+1<w1.heap.size:=(by(have:=hb1.size;(try simp at this)<;>omega));clear hb1;go_wp2_with fail;refine(HA.out _).mono ?_;rintro e w2 ⟨rfl,rfl⟩;go_wp2;refine bP (v:=.tuple #[.agg #[.int .i64 0,.int .i64 0,.int .i64 0],.int .i64 103]) (by simp[results,Tryz.results265,go_sem,hc1]) rfl ⟨rfl,?_⟩;(repeat (first|exact bR _ _|(with_reducible refine bS ?_ (by simp<;>omega))|(with_reducible refine bL ?_ _)|(with_reducible refine bC ?_ HB1.out)))
 ·have HK:=aH (fun w=>right_f hr w);have T:chE ⟨a,b,c⟩ n=100:=by unfold chE;rw[if_pos hr]
  have U:chV ⟨a,b,c⟩ n=nought:=by unfold chV;rw[T];rfl
  rw[T,U];clear hx hn hr;go_enter Tryz.func265,Tryz.ntmps265;go_wp2_with fail;refine(HK.out _).mono ?_;rintro e w1 ⟨rfl,hb1⟩;obtain⟨hc1,hf1⟩:=bcell hb1;have HB1:=aH hb1;have hz1_0:w.heap.size<w1.heap.size:=by(have:=hb1.size;(try simp at this)<;>omega)
  have hz1_1:w.heap.size+1<w1.heap.size:=by(have:=hb1.size;(try simp at this)<;>omega)
  clear hb1;go_wp2;refine bP (v:=.tuple #[.agg #[.int .i64 0,.int .i64 0,.int .i64 0],.int .i64 100]) (by simp[results,Tryz.results265,go_sem,hc1]) rfl ⟨rfl,?_⟩;(repeat (first|exact bR _ _|(with_reducible refine bS ?_ (by simp<;>omega))|(with_reducible refine bL ?_ _)|(with_reducible refine bC ?_ HB1.out)))
def newE (a b:Int):Int:=if (Ce.mk a b 0).Right then 0 else 100
def newV (a b:Int):Ce:=if (Ce.mk a b 0).Right then⟨a,b,0⟩else nought
theorem new_any (a b:Int) (w:World):Calls Tryz.prog 158 #[.int .i64 a,.int .i64 b] w fun e w'=>e=.returned (ceE (newV a b) (newE a b))∧Below w.heap.size w w':=by
 by_cases hr:(Ce.mk a b 0).Right
 ·have HK:=aH (fun w=>right_t hr w);have T:newE a b=0:=by unfold newE;rw[if_pos hr]
  have U:newV a b=⟨a,b,0⟩:=by unfold newV;rw[if_pos hr]
  rw[T,U];clear T U hr;have hq:w.heap.size<w.heap.size+1+1:=by omega
  go_enter Tryz.func158,Tryz.ntmps158;go_wp2_with fail;refine(HK.out _).mono ?_;rintro e w1 ⟨rfl,hb1⟩;obtain⟨hc1,hf1⟩:=bcell hb1;have HB1:=aH hb1;have hz1_0:w.heap.size<w1.heap.size:=by(have:=hb1.size;(try simp at this)<;>omega)
  have hz1_1:w.heap.size+1<w1.heap.size:=by(have:=hb1.size;(try simp at this)<;>omega)
  clear hb1;go_wp2;refine bP (v:=.tuple #[.agg #[.int .i64 a,.int .i64 b,.int .i64 0],.int .i64 0]) (by simp[results,Tryz.results158,go_sem,hc1,hq]) rfl ⟨rfl,?_⟩;(repeat (first|exact bR _ _|(with_reducible refine bS ?_ (by simp<;>omega))|(with_reducible refine bL ?_ _)|(with_reducible refine bC ?_ HB1.out)))
 ·have HK:=aH (fun w=>right_f hr w);have T:newE a b=100:=by unfold newE;rw[if_neg hr]
  have U:newV a b=nought:=by unfold newV;rw[if_neg hr]
  rw[T,U];clear T U hr;have hq:w.heap.size<w.heap.size+1+1:=by omega
  go_enter Tryz.func158,Tryz.ntmps158;go_wp2_with fail;refine(HK.out _).mono ?_;rintro e w1 ⟨rfl,hb1⟩;obtain⟨hc1,hf1⟩:=bcell hb1;have HB1:=aH hb1;have hz1_0:w.heap.size<w1.heap.size:=by(have:=hb1.size;(try simp at this)<;>omega)
  have hz1_1:w.heap.size+1<w1.heap.size:=by(have:=hb1.size;(try simp at this)<;>omega)
  clear hb1;go_wp2;refine bP (v:=.tuple #[.agg #[.int .i64 0,.int .i64 0,.int .i64 0],.int .i64 100]) (by simp[results,Tryz.results158,go_sem,hc1,hq]) rfl ⟨rfl,?_⟩;(repeat (first|exact bR _ _|(with_reducible refine bS ?_ (by simp<;>omega))|(with_reducible refine bL ?_ _)|(with_reducible refine bC ?_ HB1.out)))
end Go.Proofs.YtmecohdedghiaaaGreatDoor.Cel
namespace Go.Proofs.YtmecohdedghiaaaGreatDoor
open Go.RowKit
def Cells6 (V:World) (D:Nat) (x0 x1 x2 x3 x4 x5:Value):Prop:=
 V.cell? ⟨D,0,none⟩=some x0∧V.cell? ⟨D,1,none⟩=some x1∧V.cell? ⟨D,2,none⟩=some x2∧V.cell? ⟨D,3,none⟩=some x3∧V.cell? ⟨D,4,none⟩=some x4∧V.cell? ⟨D,5,none⟩=some x5∧
 V.frozen? ⟨D,0,none⟩=false∧V.frozen? ⟨D,1,none⟩=false∧V.frozen? ⟨D,2,none⟩=false∧V.frozen? ⟨D,3,none⟩=false∧V.frozen? ⟨D,4,none⟩=false∧V.frozen? ⟨D,5,none⟩=false∧D<V.heap.size
theorem Cells6.new (V:World) (t:TypeId) (x0 x1 x2 x3 x4 x5:Value):Cells6 (V.alloc (.cells #[x0,x1,x2,x3,x4,x5] t)) V.heap.size x0 x1 x2 x3 x4 x5:=
 ⟨by rw[alloc_at];rfl,by rw[alloc_at];rfl,by rw[alloc_at];rfl,by rw[alloc_at];rfl,by rw[alloc_at];rfl,by rw[alloc_at];rfl,by simp,by simp,by simp,by simp,by simp,by simp,by simp⟩
theorem Cells6.below {V V':World} {D:Nat} {x0 x1 x2 x3 x4 x5:Value} (h:Cells6 V D x0 x1 x2 x3 x4 x5) (hb:Below V.heap.size V V'):Cells6 V' D x0 x1 x2 x3 x4 x5:=by
 obtain⟨h0,h1,h2,h3,h4,h5,z0,z1,z2,z3,z4,z5,hs⟩:=h;refine⟨kK hb h0,kK hb h1,kK hb h2,kK hb h3,kK hb h4,kK hb h5,?_,?_,?_,?_,?_,?_,nL hs hb.size⟩
 ·rw[hb.frozen (p:=⟨D,0,none⟩) hs];exact z0
 ·rw[hb.frozen (p:=⟨D,1,none⟩) hs];exact z1
 ·rw[hb.frozen (p:=⟨D,2,none⟩) hs];exact z2
 ·rw[hb.frozen (p:=⟨D,3,none⟩) hs];exact z3
 ·rw[hb.frozen (p:=⟨D,4,none⟩) hs];exact z4
 ·rw[hb.frozen (p:=⟨D,5,none⟩) hs];exact z5
theorem Cells6.set {V:World} {D:Nat} {x0 x1 x2 x3 x4 x5:Value} (h:Cells6 V D x0 x1 x2 x3 x4 x5) (p0 p1 p2 p3 p4 p5:Value):Cells6 ((((((V.setCell ⟨D,0,none⟩ p0).setCell ⟨D,1,none⟩ p1).setCell ⟨D,2,none⟩ p2).setCell ⟨D,3,none⟩ p3).setCell ⟨D,4,none⟩ p4).setCell ⟨D,5,none⟩ p5) D p0 p1 p2 p3 p4 p5:=by
 obtain⟨h0,h1,h2,h3,h4,h5,z0,z1,z2,z3,z4,z5,hs⟩:=h;refine⟨sO (sO (sO (sO (sO (st_same (h0)) (aN (.inr (by decide)))) (aN (.inr (by decide)))) (aN (.inr (by decide)))) (aN (.inr (by decide)))) (aN (.inr (by decide))),sO (sO (sO (sO (st_same (sO (h1) (aN (.inr (by decide))))) (aN (.inr (by decide)))) (aN (.inr (by decide)))) (aN (.inr (by decide)))) (aN (.inr (by decide))),sO (sO (sO (st_same (sO (sO (h2) (aN (.inr (by decide)))) (aN (.inr (by decide))))) (aN (.inr (by decide)))) (aN (.inr (by decide)))) (aN (.inr (by decide))),sO (sO (st_same (sO (sO (sO (h3) (aN (.inr (by decide)))) (aN (.inr (by decide)))) (aN (.inr (by decide))))) (aN (.inr (by decide)))) (aN (.inr (by decide))),sO (st_same (sO (sO (sO (sO (h4) (aN (.inr (by decide)))) (aN (.inr (by decide)))) (aN (.inr (by decide)))) (aN (.inr (by decide))))) (aN (.inr (by decide))),st_same (sO (sO (sO (sO (sO (h5) (aN (.inr (by decide)))) (aN (.inr (by decide)))) (aN (.inr (by decide)))) (aN (.inr (by decide)))) (aN (.inr (by decide)))),sF (sF (sF (sF (sF (sF (z0)))))),sF (sF (sF (sF (sF (sF (z1)))))),sF (sF (sF (sF (sF (sF (z2)))))),sF (sF (sF (sF (sF (sF (z3)))))),sF (sF (sF (sF (sF (sF (z4)))))),sF (sF (sF (sF (sF (sF (z5)))))),?_⟩;simpa using hs
theorem Cells6.s {V:World} {D:Nat} {x0 x1 x2 x3 x4 x5:Value} (h:Cells6 V D x0 x1 x2 x3 x4 x5) (p:Value):Cells6 (V.setCell ⟨D,0,none⟩ p) D p x1 x2 x3 x4 x5∧Cells6 (V.setCell ⟨D,1,none⟩ p) D x0 p x2 x3 x4 x5∧Cells6 (V.setCell ⟨D,2,none⟩ p) D x0 x1 p x3 x4 x5∧
  Cells6 (V.setCell ⟨D,3,none⟩ p) D x0 x1 x2 p x4 x5∧Cells6 (V.setCell ⟨D,4,none⟩ p) D x0 x1 x2 x3 p x5∧Cells6 (V.setCell ⟨D,5,none⟩ p) D x0 x1 x2 x3 x4 p:=by
 obtain⟨h0,h1,h2,h3,h4,h5,z0,z1,z2,z3,z4,z5,hs⟩:=h;have ne:∀ {i j:Nat},i≠j→(⟨D,i,none⟩:Addr)≠⟨D,j,none⟩:=fun h=>aN (.inr h);exact⟨⟨st_same h0,sO h1 (ne (by decide)),sO h2 (ne (by decide)),sO h3 (ne (by decide)),sO h4 (ne (by decide)),sO h5 (ne (by decide)),sF z0,sF z1,sF z2,sF z3,sF z4,sF z5,by simpa using hs⟩,
  ⟨sO h0 (ne (by decide)),st_same h1,sO h2 (ne (by decide)),sO h3 (ne (by decide)),sO h4 (ne (by decide)),sO h5 (ne (by decide)),sF z0,sF z1,sF z2,sF z3,sF z4,sF z5,by simpa using hs⟩,
  ⟨sO h0 (ne (by decide)),sO h1 (ne (by decide)),st_same h2,sO h3 (ne (by decide)),sO h4 (ne (by decide)),sO h5 (ne (by decide)),sF z0,sF z1,sF z2,sF z3,sF z4,sF z5,by simpa using hs⟩,
  ⟨sO h0 (ne (by decide)),sO h1 (ne (by decide)),sO h2 (ne (by decide)),st_same h3,sO h4 (ne (by decide)),sO h5 (ne (by decide)),sF z0,sF z1,sF z2,sF z3,sF z4,sF z5,by simpa using hs⟩,
  ⟨sO h0 (ne (by decide)),sO h1 (ne (by decide)),sO h2 (ne (by decide)),sO h3 (ne (by decide)),st_same h4,sO h5 (ne (by decide)),sF z0,sF z1,sF z2,sF z3,sF z4,sF z5,by simpa using hs⟩,
  ⟨sO h0 (ne (by decide)),sO h1 (ne (by decide)),sO h2 (ne (by decide)),sO h3 (ne (by decide)),sO h4 (ne (by decide)),st_same h5,sF z0,sF z1,sF z2,sF z3,sF z4,sF z5,by simpa using hs⟩⟩
end Go.Proofs.YtmecohdedghiaaaGreatDoor
namespace Go.Proofs.YtmecohdedghiaaaGreatDoor.Cel
open Go.RowKit
theorem aN {b b' o o':Nat} (h:b≠b'∨o≠o'):(⟨b,o,none⟩:Addr)≠⟨b',o',none⟩:=by
 intro e
 cases e
 rcases h with h|h<;>exact h rfl
end Go.Proofs.YtmecohdedghiaaaGreatDoor.Cel
