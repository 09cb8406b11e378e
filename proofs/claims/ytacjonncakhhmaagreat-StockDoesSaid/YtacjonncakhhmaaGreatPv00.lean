/- Cells: what becomes of them, as the program tells it. -/
import Derived.Laws.BitsAllLaws
import Derived.Laws.Bits64
import Derived.IntWalk
import Derived.RowKit
import Derived.Test.YtacjonncakhhmaaGreatChecked
import Derived.WalkKit
import Derived.WalkLawsBesides
import Derived.WalkSpells
import Derived.Outline
import Derived.KernelRfl
import Derived.Lib.Hide
import Derived.Maps.AppendAt
import Derived.Laws.OwnMore
import Derived.Laws.Cover2
import Derived.Laws.FloatArith
import Derived.Deep.AppendLies
import Derived.Deep.Onto
import Derived.OwnWalk
import Derived.LoopTactic
import Derived.Deep.QuietTactic
import Derived.BigQuiet
import Derived.Deep.RegionHeld3
import Derived.Deep.LoopGhost
import Derived.Deep.Cut
set_option maxRecDepth 100000
set_option maxHeartbeats 8000000
namespace Go.Proofs.YtacjonncakhhmaaGreat
theorem ret_i {a b:Int} (h:a=b):Ending.returned (.int .i64 a)=.returned (.int .i64 b):=by rw[h]
theorem ret_b {a b:Bool} (h:a=b):Ending.returned (.bool a)=.returned (.bool b):=by rw[h]
theorem ret_ii {a b c d:Int} (h:a=c) (k:b=d):Ending.returned (.tuple #[.int .i64 a,.int .i64 b])=.returned (.tuple #[.int .i64 c,.int .i64 d]):=by rw[h,k]
theorem num_i {a b:Int} (h:a=b):Value.int .i64 a=.int .i64 b:=by rw[h]
def fits (x:Int):Prop:=-9223372036854775808≤x∧x≤9223372036854775807
instance (x:Int):Decidable (fits x):=inferInstanceAs (Decidable (_∧_))
def fitV (x:Int):Int:=if fits x then x else 0
def fitE (x:Int):Int:=if fits x then 0 else 4
theorem wrap_toNat (v:BitVec 64):IntKind.i64.wrap (v.toNat:Int)=v.toInt:=by
 rw[IntKind.wrap_i64,BitVec.toInt_eq_toNat_cond];have:=v.isLt
 split<;>omega
theorem ofInt_neg (x:Int) (h:fits x):(BitVec.ofInt 64 x).msb=decide (x<0):=by
 obtain⟨h0,h1⟩:=h;have e:(BitVec.ofInt 64 x).toInt=x:=by
  rw[BitVec.toInt_ofInt];exact Int.bmod_eq_of_le (by omega) (by omega)
 rw[BitVec.msb_eq_toInt,e]
theorem and_neg (x y:Int) (hx:fits x) (hy:fits y):(bits .and .i64 x y<0)↔(x<0∧y<0):=by
 show IntKind.i64.wrap ((BitVec.ofInt 64 x&&& BitVec.ofInt 64 y).toNat:Int)<0↔_;rw[wrap_toNat];have e:=BitVec.msb_eq_toInt (x:=BitVec.ofInt 64 x&&& BitVec.ofInt 64 y);rw[BitVec.msb_and,ofInt_neg x hx,ofInt_neg y hy]at e;by_cases h:(BitVec.ofInt 64 x&&& BitVec.ofInt 64 y).toInt<0
 ·rw[decide_eq_true h,Bool.and_eq_true,decide_eq_true_eq,decide_eq_true_eq]at e;exact⟨fun _=>e,fun _=>h⟩
 ·rw[decide_eq_false h]at e;refine⟨fun k=>absurd k h,fun k=>?_⟩;rw[decide_eq_true k.1,decide_eq_true k.2]at e
  cases e
theorem xor_neg (x y:Int) (hx:fits x) (hy:fits y):(bits .xor .i64 x y<0)↔¬(x<0↔y<0):=by
 show IntKind.i64.wrap ((BitVec.ofInt 64 x ^^^ BitVec.ofInt 64 y).toNat:Int)<0↔_;rw[wrap_toNat];have e:=BitVec.msb_eq_toInt (x:=BitVec.ofInt 64 x ^^^ BitVec.ofInt 64 y);rw[BitVec.msb_xor,ofInt_neg x hx,ofInt_neg y hy]at e;generalize (BitVec.ofInt 64 x ^^^ BitVec.ofInt 64 y).toInt=t at *;by_cases hx0:x<0<;>by_cases hy0:y<0<;>by_cases h:t<0<;>simp[hx0,hy0,h]at e⊢ <;>omega
theorem xor_fits (x y:Int):fits (bits .xor .i64 x y):=by
 show fits (IntKind.i64.wrap ((BitVec.ofInt 64 x ^^^ BitVec.ofInt 64 y).toNat:Int));rw[IntKind.wrap_i64];constructor<;>omega
theorem add_signs (a b:Int) (ha:fits a) (hb:fits b):(bits .and .i64 (bits .xor .i64 a (IntKind.i64.wrap (a+b))) (bits .xor .i64 b (IntKind.i64.wrap (a+b)))<0)↔¬fits (a+b):=by
 have hs:fits (IntKind.i64.wrap (a+b)):=by rw[IntKind.wrap_i64];constructor<;>omega
 rw[and_neg _ _ (xor_fits _ _) (xor_fits _ _),xor_neg a _ ha hs,xor_neg b _ hb hs,IntKind.wrap_i64];unfold fits at *;omega
theorem wrap_fits (x:Int) (h:fits x):IntKind.i64.wrap x=x:=by
 obtain⟨h0,h1⟩:=h;rw[IntKind.wrap_i64];omega
theorem w64 (x:Int):IntKind.i64.wrap x=Go.RowKit.wrap64 x:=by rw[IntKind.wrap_i64,Go.RowKit.wrap64]
theorem wrap64_fits (x:Int) (h:fits x):Go.RowKit.wrap64 x=x:=by rw[←w64,wrap_fits x h]
open Go.RowKit
theorem below_drewN {B:Nat} {a w:World} (h:Below B a w) (d:Nat):Below B a (w.drewN d):=⟨h.os,h.tape,h.output,h.size,h.block⟩
theorem bcell {W w1:World} (hb:Below W.heap.size W w1):(∀b o,b<W.heap.size→w1.cell? ⟨b,o,none⟩=W.cell? ⟨b,o,none⟩)∧(∀b o,b<W.heap.size→w1.frozen? ⟨b,o,none⟩=W.frozen? ⟨b,o,none⟩):=
 ⟨fun b o h=>hb.cell (p:=⟨b,o,none⟩) h,fun b o h=>hb.frozen (p:=⟨b,o,none⟩) h⟩
theorem bL {w w':World} (h:Below w.heap.size w w') (o:Obj):Below w.heap.size w (w'.alloc o):=h.alloc h.size o
theorem bC {w w' w'':World} (h:Below w.heap.size w w') (k:Below w'.heap.size w' w''):Below w.heap.size w w'':=h.trans (k.mono h.size)
theorem bS {w w':World} {p:Addr} {v:Value} (h:Below w.heap.size w w') (hp:w.heap.size≤p.block):Below w.heap.size w (w'.setCell p v):=h.setCell hp v
theorem kK {w w1:World} {a:Addr} {v:Value} (hb:Below w.heap.size w w1) (h:w.cell? a=some v):w1.cell? a=some v:=(hb.cell (World.block_lt_of_cell? w a h)).trans h
theorem take_snoc {α:Type} (l:List α) (k:Nat) (d:α) (h:k<l.length):l.take (k+1)=l.take k++[l.getD k d]:=by
 rw[List.take_succ_eq_append_getElem h,List.getD_eq_getElem?_getD,List.getElem?_eq_getElem h];rfl
theorem getD_mem' {α:Type} (l:List α) (k:Nat) (d:α) (h:k<l.length):l.getD k d∈l:=by
 rw[List.getD_eq_getElem?_getD,List.getElem?_eq_getElem h];exact List.getElem_mem h
theorem drop_snoc {α:Type} (l:List α) (k:Nat) (d:α) (h:k<l.length):l.drop k=l.getD k d::l.drop (k+1):=by
 rw[List.drop_eq_getElem_cons h,List.getD_eq_getElem?_getD,List.getElem?_eq_getElem h];rfl
theorem st_same {w:World} {a:Addr} {u v:Value} (h:w.cell? a=some u):(w.setCell a v).cell? a=some v:=by apply World.cell?_setCell_same;exact h
theorem sO {w:World} {a b:Addr} {u v:Value} (h:w.cell? b=some u) (hne:a≠b):(w.setCell a v).cell? b=some u:=by rw[World.cell?_setCell_other (h:=hne)];exact h
theorem sF {w:World} {a b:Addr} {v:Value} (h:w.frozen? b=false):(w.setCell a v).frozen? b=false:=by rw[World.frozen?_setCell];exact h
inductive Tq where
 |k (i d:Nat)
 |u (i d:Nat)
inductive Wk (P:Program) (md:Region.Mode) (ops:Array Oper) (Q:Exit→Act→World→Prop) (S:World→Prop) (w:World):List Tq→Nat→Array Bool→Act→Prop where
 |nil {fuel listed a} (h:wpAnyH P md ops Q S fuel listed a w):Wk P md ops Q S w [] fuel listed a
 |k {i d x1 x2 x3 x4 x5 v l fuel listed a} (hi:ops[i]? =some ⟨some d,x1,x2,x3,x4,x5⟩)
  (hc:(Region.free md ops listed i&&((Region.ready md ops listed).contains i&&Region.wanted ⟨some d,x1,x2,x3,x4,x5⟩ (yielded ops a.tmps)))=true)
  (hy:∀w,S w→(execOp a.eval ⟨some d,x1,x2,x3,x4,x5⟩).run P w=.ok (.value v) w)
  (h:Wk P md ops Q S w l fuel (listed.setIfInBounds i true) (a.put (some d) v)):Wk P md ops Q S w (.k i d::l) (fuel+1) listed a
 |u {i d x1 x2 x3 x4 x5 l fuel listed a} (hi:ops[i]? =some ⟨some d,x1,x2,x3,x4,x5⟩)
  (hc:(Region.free md ops listed i&&((Region.ready md ops listed).contains i&& !Region.wanted ⟨some d,x1,x2,x3,x4,x5⟩ (yielded ops a.tmps)))=true)
  (h:Wk P md ops Q S w l fuel (listed.setIfInBounds i true) (a.put (some d) undef)):Wk P md ops Q S w (.u i d::l) (fuel+1) listed a
theorem wk {P:Program} {md:Region.Mode} {ops:Array Oper} {Q:Exit→Act→World→Prop} {S:World→Prop} {w:World} (l:List Tq) {fuel:Nat} {listed:Array Bool} {a:Act}
 (hQ:∀c a d v w,Q (.panic c) (a.put (some d) v) w→Q (.panic c) a w) (hS:S w) (h:Wk P md ops Q S w l fuel listed a) (hs:Region.noSelect ops=true):wpAnyH P md ops Q S fuel listed a w:=by
 induction h with
 |nil h=>exact h
 |k hi hc hy _ ih=>
  rw[Bool.and_eq_true,Bool.and_eq_true]at hc;exact wpAnyH_take hi hs hc.1 hc.2.1 (fun c a w h=>hQ c a _ _ w h) (Or.inl ⟨hc.2.2,hy⟩) hS ih
 |u hi hc _ ih=>
  rw[Bool.and_eq_true,Bool.and_eq_true]at hc;exact wpAnyH_take hi hs hc.1 hc.2.1 (fun c a w h=>hQ c a _ _ w h) (Or.inr ⟨by simpa using hc.2.2,rfl⟩) hS ih
theorem sp:(∀(a:Act) (d:Nat) (v:Value),a.put (some d) v={a with tmps:=a.tmps.setIfInBounds d v})∧(∀(a:Act) (v:Value),a.put none v=a)∧
 (∀(l:List Value) (i:Nat) (x:Value),l.toArray.setIfInBounds i x=(l.set i x).toArray)∧(∀(l:List Bool) (i:Nat) (x:Bool),l.toArray.setIfInBounds i x=(l.set i x).toArray)∧
 (∀(a x:Value) (l:List Value),(a::l).set 0 x=x::l)∧(∀(a x:Bool) (l:List Bool),(a::l).set 0 x=x::l)∧
 (∀(a x:Value) (l:List Value) (i:Nat),(a::l).set (i+1) x=a::l.set i x)∧(∀(a x:Bool) (l:List Bool) (i:Nat),(a::l).set (i+1) x=a::l.set i x):=
 ⟨fun _ _ _=>rfl,fun _ _=>rfl,fun _ _ _=>by simp,fun _ _ _=>by simp,fun _ _ _=>rfl,fun _ _ _=>rfl,fun _ _ _ _=>rfl,fun _ _ _ _=>rfl⟩
theorem aH {p:Prop} (h:p):Hid p:=h
theorem bR (B:Nat) (w:World):Below B w w:=Below.refl B w
theorem bP {P:Program} {fn:Func} {R:Ending→World→Prop} {a:Act} {w:World} {v:Value} (hr:(results fn a.tmps).run P w=.ok v w) (hd:a.defers=[]) (hR:R (.returned v) w):bodyPost P fn R .ret a w:=bodyPost_ret hr hd hR
theorem wB (w:World) (a:Addr) {u:Value} (h:w.cell? a=some u):a.block<w.heap.size:=World.block_lt_of_cell? w a h
theorem dF {p:Prop} [Decidable p] (h:¬p):decide p=false:=decide_eq_false h
theorem dT {p:Prop} [Decidable p] (h:p):decide p=true:=decide_eq_true h
theorem nR (n:Nat):n≤n:=Nat.le_refl n
theorem aI {a b:Prop} (h:a) (k:b):a∧b:=⟨h,k⟩
theorem nL {a b c:Nat} (h:a<b) (k:b≤c):a<c:=Nat.lt_of_lt_of_le h k
abbrev zo:Obj:=.cells #[.slice none 0 0,.slice none 0 0,.slice none 0 0,.int .i64 0,.int .i64 0,.int .i64 0] 31
abbrev zc:Obj:=.cells #[.int .i64 0,.int .i64 0,.int .i64 0] 58
theorem rG {P:Program} {ops:Array Oper} {Q:Exit→Act→World→Prop} {S:World→Prop} {id:Nat} {a:Act} {w:World} (HS:∀W,Below w.heap.size w W→S W) (hm:P.follows .mixedOrders=true)
 (h:S w.drew→wpAnyH P .any ops Q S ops.size (Array.replicate ops.size false) a w.drew):(Code.region id ops true).wp P Q a w:=wp_region_held_drew hm (HS _ (Below.refl _ _).drew) h
section
variable {P:Program} {md:Region.Mode} {ops:Array Oper} {Q:Exit→Act→World→Prop} {S:World→Prop} {fuel:Nat} {listed:Array Bool} {a:Act} {w:World}
theorem rN:AllReadyH P md ops Q S fuel listed a w []:=AllReadyH.nil
theorem rK {i:Nat} {rs:List Nat} (d:Option Nat) {x1 x2 x3 x4 x5} (ho:ops[i]? =some ⟨d,x1,x2,x3,x4,x5⟩)
 (h:∀K':Act→World→Prop,Shut (∀a w,S w→(S w→wpAnyH P md ops Q S fuel (listed.setIfInBounds i true) a w)→K' a w)→if Region.wanted ⟨d,x1,x2,x3,x4,x5⟩ (yielded ops a.tmps)=true then Oper.wp P ⟨d,x1,x2,x3,x4,x5⟩ a w K' Q else K' (a.put d undef) w)
 (hs:AllReadyH P md ops Q S fuel listed a w rs):AllReadyH P md ops Q S fuel listed a w (i::rs):=AllReadyH.cons ho h hs
theorem wR (i:Nat) (rs:List Nat) (hr:Region.ready md ops listed=i::rs) (h:AllReadyH P md ops Q S fuel listed a w (i::rs)):wpAnyH P md ops Q S (fuel+1) listed a w:=wpAnyH_ready hr (by simp) h
theorem wQ (i:Nat) (d:Option Nat) {x1 x2 x3 x4 x5} (ho:ops[i]? =some ⟨d,x1,x2,x3,x4,x5⟩)
 (h:∀K':Act→World→Prop,Shut (∀a w,S w→(S w→wpAnyH P md ops Q S fuel (listed.setIfInBounds i true) a w)→K' a w)→if Region.wanted ⟨d,x1,x2,x3,x4,x5⟩ (yielded ops a.tmps)=true then Oper.wp P ⟨d,x1,x2,x3,x4,x5⟩ a w K' Q else K' (a.put d undef) w)
 (hr:Region.ready md ops listed=[i]):wpAnyH P md ops Q S (fuel+1) listed a w:=wR i [] hr (rK d ho h rN)
theorem wD (hr:Region.ready md ops listed=[]) (h:Q .normal a w):wpAnyH P md ops Q S fuel listed a w:=wpAnyH_done hr h _
end
theorem add_any (a b:Int) (ha:fits a) (hb:fits b) (w:World):Calls Tryz.prog 102 #[.int .i64 a,.int .i64 b] w fun e w'=>e=.returned (.tuple #[.int .i64 (fitV (a+b)),.int .i64 (fitE (a+b))])∧w=w':=by
 have hs:=add_signs a b ha hb;rw[w64]at hs;have HS:=aH hs;have HA:=aH ha;have HB:=aH hb;clear hs ha hb;go_enter Tryz.func102,Tryz.ntmps102;go_wp2
 ·go_ret2
  have hn:=HS.out.1 ‹_›;exact⟨ret_ii (if_neg hn).symm (if_neg hn).symm,rfl⟩
 ·go_ret2
  have hn:fits (a+b):=Decidable.not_not.1 fun k=>absurd (HS.out.2 k) (by omega);refine⟨ret_ii ?_ (if_pos hn).symm,rfl⟩;rw[fitV,if_pos hn,wrap64_fits _ hn]
theorem radd_any (a b:Int) (ha:fits a) (hb:fits b) (w:World):Calls Tryz.prog 115 #[.int .i64 a,.int .i64 b] w fun e w'=>e=.returned (.tuple #[.int .i64 (fitV (a+b)),.int .i64 (fitE (a+b))])∧w=w':=by
 unfold fits at ha hb;go_enter Tryz.func115,Tryz.ntmps115;go_wp2;all_goals
  go_ret2
  refine⟨ret_ii ?_ ?_,rfl⟩;all_goals
   simp only[fitV,fitE,fits]at *;(try simp only[wrap64]at *)
   first|omega|(split<;>omega)
end Go.Proofs.YtacjonncakhhmaaGreat
namespace Go.Proofs.YtacjonncakhhmaaGreat.Cel
open Go.RowKit
structure Ce where
 a:Int
 b:Int
 c:Int
abbrev Ce.v (x:Ce):Value:=.agg #[.int .i64 x.a,.int .i64 x.b,.int .i64 x.c]
structure Ce.Fit (x:Ce):Prop where
 a:fits x.a
 b:fits x.b
 c:fits x.c
def Ce.Right (x:Ce):Prop:=1≤x.a∧x.a≤1099511627776∧0≤x.b∧x.b≤x.a∧0≤x.c∧x.c≤2147483647
instance (x:Ce):Decidable x.Right:=by unfold Ce.Right;infer_instance
def rightB (x:Ce):Bool:=decide x.Right
def chE (x:Ce) (n:Int):Int:=if ¬x.Right then 100 else if n=0 then 1 else if x.c=2147483647 then 101 else if x.b+n<0 then 102 else if x.a<x.b+n then 103 else 0
def nought:Ce:=⟨0,0,0⟩
def chV (x:Ce) (n:Int):Ce:=if chE x n=0 then⟨x.a,x.b+n,x.c+1⟩else nought
theorem Below.box {w w':World} (o:Obj) (h:Below (w.alloc o).heap.size (w.alloc o) w'):Below w.heap.size w w':=bC (bL (bR _ _) o) h
theorem fits_add {a b:Int} (ha:0≤a) (hb:fits b) (hk:a≤1099511627776):¬fits (a+b)→0<a+b:=by unfold fits at *;omega
theorem right_any (x:Ce) (w:World):Calls Tryz.prog 60 #[x.v] w fun e w'=>e=.returned (.bool (rightB x))∧Below w.heap.size w w':=by
 obtain⟨a,b,c⟩:=x;show Calls Tryz.prog 60 #[.agg #[.int .i64 a,.int .i64 b,.int .i64 c]] w fun e w'=>e=.returned (.bool (decide (1≤a∧a≤1099511627776∧0≤b∧b≤a∧0≤c∧c≤2147483647)))∧Below w.heap.size w w';by_cases h1:1≤a
 ·by_cases h2:a≤1099511627776
  ·by_cases h3:0≤b
   ·by_cases h4:b≤a
    ·by_cases h5:0≤c
     ·by_cases h6:c≤2147483647
      ·rw[show decide (1≤a∧a≤1099511627776∧0≤b∧b≤a∧0≤c∧c≤2147483647)=true from dT ⟨h1,h2,h3,h4,h5,h6⟩];go_enter Tryz.func60,Tryz.ntmps60;go_wp2
       go_ret
       exact⟨ret_b (by simp),bL (bR _ _) _⟩
      ·rw[show decide (1≤a∧a≤1099511627776∧0≤b∧b≤a∧0≤c∧c≤2147483647)=false from dF (by omega)];go_enter Tryz.func60,Tryz.ntmps60;go_wp2
       go_ret
       exact⟨ret_b (by simp),bL (bR _ _) _⟩
     ·rw[show decide (1≤a∧a≤1099511627776∧0≤b∧b≤a∧0≤c∧c≤2147483647)=false from dF (by omega)];go_enter Tryz.func60,Tryz.ntmps60;go_wp2
      go_ret
      exact⟨ret_b (by simp),bL (bR _ _) _⟩
    ·rw[show decide (1≤a∧a≤1099511627776∧0≤b∧b≤a∧0≤c∧c≤2147483647)=false from dF (by omega)];go_enter Tryz.func60,Tryz.ntmps60;go_wp2
     go_ret
     exact⟨ret_b (by simp),bL (bR _ _) _⟩
   ·rw[show decide (1≤a∧a≤1099511627776∧0≤b∧b≤a∧0≤c∧c≤2147483647)=false from dF (by omega)];go_enter Tryz.func60,Tryz.ntmps60;go_wp2
    go_ret
    exact⟨ret_b (by simp),bL (bR _ _) _⟩
  ·rw[show decide (1≤a∧a≤1099511627776∧0≤b∧b≤a∧0≤c∧c≤2147483647)=false from dF (by omega)];go_enter Tryz.func60,Tryz.ntmps60;go_wp2
   go_ret
   exact⟨ret_b (by simp),bL (bR _ _) _⟩
 ·rw[show decide (1≤a∧a≤1099511627776∧0≤b∧b≤a∧0≤c∧c≤2147483647)=false from dF (by omega)];go_enter Tryz.func60,Tryz.ntmps60;go_wp2
  go_ret
  exact⟨ret_b (by simp),bL (bR _ _) _⟩
theorem rright_any (x:Ce) (w:World):Calls Tryz.prog 80 #[x.v] w fun e w'=>e=.returned (.bool (rightB x))∧Below w.heap.size w w':=by
 obtain⟨a,b,c⟩:=x;show Calls Tryz.prog 80 #[.agg #[.int .i64 a,.int .i64 b,.int .i64 c]] w fun e w'=>e=.returned (.bool (decide (1≤a∧a≤1099511627776∧0≤b∧b≤a∧0≤c∧c≤2147483647)))∧Below w.heap.size w w';by_cases h1:1≤a
 ·by_cases h2:a≤1099511627776
  ·by_cases h3:0≤b
   ·by_cases h4:b≤a
    ·by_cases h5:0≤c
     ·by_cases h6:c≤2147483647
      ·rw[show decide (1≤a∧a≤1099511627776∧0≤b∧b≤a∧0≤c∧c≤2147483647)=true from dT ⟨h1,h2,h3,h4,h5,h6⟩];go_enter Tryz.func80,Tryz.ntmps80;go_wp2
       go_ret
       exact⟨ret_b (by simp),bL (bR _ _) _⟩
      ·rw[show decide (1≤a∧a≤1099511627776∧0≤b∧b≤a∧0≤c∧c≤2147483647)=false from dF (by omega)];go_enter Tryz.func80,Tryz.ntmps80;go_wp2
       go_ret
       exact⟨ret_b (by simp),bL (bR _ _) _⟩
     ·rw[show decide (1≤a∧a≤1099511627776∧0≤b∧b≤a∧0≤c∧c≤2147483647)=false from dF (by omega)];go_enter Tryz.func80,Tryz.ntmps80;go_wp2
      go_ret
      exact⟨ret_b (by simp),bL (bR _ _) _⟩
    ·rw[show decide (1≤a∧a≤1099511627776∧0≤b∧b≤a∧0≤c∧c≤2147483647)=false from dF (by omega)];go_enter Tryz.func80,Tryz.ntmps80;go_wp2
     go_ret
     exact⟨ret_b (by simp),bL (bR _ _) _⟩
   ·rw[show decide (1≤a∧a≤1099511627776∧0≤b∧b≤a∧0≤c∧c≤2147483647)=false from dF (by omega)];go_enter Tryz.func80,Tryz.ntmps80;go_wp2
    go_ret
    exact⟨ret_b (by simp),bL (bR _ _) _⟩
  ·rw[show decide (1≤a∧a≤1099511627776∧0≤b∧b≤a∧0≤c∧c≤2147483647)=false from dF (by omega)];go_enter Tryz.func80,Tryz.ntmps80;go_wp2
   go_ret
   exact⟨ret_b (by simp),bL (bR _ _) _⟩
 ·rw[show decide (1≤a∧a≤1099511627776∧0≤b∧b≤a∧0≤c∧c≤2147483647)=false from dF (by omega)];go_enter Tryz.func80,Tryz.ntmps80;go_wp2
  go_ret
  exact⟨ret_b (by simp),bL (bR _ _) _⟩
abbrev ceV (a b c:Int):Value:=.agg #[.int .i64 a,.int .i64 b,.int .i64 c]
abbrev ceE (x:Ce) (e:Int):Value:=.tuple #[.agg #[.int .i64 x.a,.int .i64 x.b,.int .i64 x.c],.int .i64 e]
theorem right_t {a b c:Int} (h:(Ce.mk a b c).Right) (w:World):Calls Tryz.prog 60 #[.agg #[.int .i64 a,.int .i64 b,.int .i64 c]] w fun e w'=>e=.returned (.bool true)∧Below w.heap.size w w':=by
 have:=right_any ⟨a,b,c⟩ w
 rwa [show rightB ⟨a,b,c⟩=true from dT h]at this
theorem right_f {a b c:Int} (h:¬(Ce.mk a b c).Right) (w:World):Calls Tryz.prog 60 #[.agg #[.int .i64 a,.int .i64 b,.int .i64 c]] w fun e w'=>e=.returned (.bool false)∧Below w.heap.size w w':=by
 have:=right_any ⟨a,b,c⟩ w
 rwa [show rightB ⟨a,b,c⟩=false from dF h]at this
theorem rright_t {a b c:Int} (h:(Ce.mk a b c).Right) (w:World):Calls Tryz.prog 80 #[.agg #[.int .i64 a,.int .i64 b,.int .i64 c]] w fun e w'=>e=.returned (.bool true)∧Below w.heap.size w w':=by
 have:=rright_any ⟨a,b,c⟩ w
 rwa [show rightB ⟨a,b,c⟩=true from dT h]at this
theorem rright_f {a b c:Int} (h:¬(Ce.mk a b c).Right) (w:World):Calls Tryz.prog 80 #[.agg #[.int .i64 a,.int .i64 b,.int .i64 c]] w fun e w'=>e=.returned (.bool false)∧Below w.heap.size w w':=by
 have:=rright_any ⟨a,b,c⟩ w
 rwa [show rightB ⟨a,b,c⟩=false from dF h]at this
theorem change_any (x:Ce) (n:Int) (hx:x.Fit) (hn:fits n) (w:World):Calls Tryz.prog 78 #[x.v,.int .i64 n] w fun e w'=>e=.returned (ceE (chV x n) (chE x n))∧Below w.heap.size w w':=by
 obtain⟨a,b,c⟩:=x;by_cases hr:(Ce.mk a b c).Right
 ·have HK:=aH (fun w=>right_t hr w);have HR:=aH hr;obtain⟨r1,r2,r3,r4,r5,r6⟩:=hr;dsimp only at r1 r2 r3 r4 r5 r6;have HA:=aH (fun w=>add_any b n hx.b hn w);have HN:=aH hn;clear hx hn;by_cases h1:n=0
  ·subst h1;have T:chE ⟨a,b,c⟩ 0=1:=(by unfold chE;rw[if_neg (by simpa using HR.out),if_pos rfl]);have U:chV ⟨a,b,c⟩ 0=nought:=(by unfold chV;rw[T];rfl);rw[T,U];go_enter Tryz.func78,Tryz.ntmps78;go_wp2_with fail;refine(HK.out _).mono ?_;rintro e w1 ⟨rfl,hb1⟩;obtain⟨hc1,hf1⟩:=bcell hb1;have HB1:=aH hb1;have hz1_0:w.heap.size<w1.heap.size:=(by(have:=hb1.size;(try simp at this)<;>omega));have hz1_1:w.heap.size+1<w1.heap.size:=(by(have:=hb1.size;(try simp at this)<;>omega));clear hb1;go_wp2;refine bP (v:=.tuple #[.agg #[.int .i64 0,.int .i64 0,.int .i64 0],.int .i64 1]) (by simp[results,Tryz.results78,go_sem,hc1]) rfl ⟨rfl,?_⟩;(repeat (first|exact bR _ _|(with_reducible refine bS ?_ (by simp<;>omega))|(with_reducible refine bL ?_ _)|(with_reducible refine bC ?_ HB1.out)))
  ·by_cases h2:c=2147483647
   ·have T:chE ⟨a,b,c⟩ n=101:=(by unfold chE;rw[if_neg (by simpa using HR.out),if_neg h1,if_pos h2]);have U:chV ⟨a,b,c⟩ n=nought:=(by unfold chV;rw[T];rfl);rw[T,U];have q2:(c==2147483647)=true:=(by rw[beq_iff_eq];exact h2);clear T U h2;go_enter Tryz.func78,Tryz.ntmps78;go_wp2_with fail;refine(HK.out _).mono ?_;rintro e w1 ⟨rfl,hb1⟩;obtain⟨hc1,hf1⟩:=bcell hb1;have HB1:=aH hb1;have hz1_0:w.heap.size<w1.heap.size:=(by(have:=hb1.size;(try simp at this)<;>omega));have hz1_1:w.heap.size+1<w1.heap.size:=(by(have:=hb1.size;(try simp at this)<;>omega));clear hb1;go_wp2;refine bP (v:=.tuple #[.agg #[.int .i64 0,.int .i64 0,.int .i64 0],.int .i64 101]) (by simp[results,Tryz.results78,go_sem,hc1]) rfl ⟨rfl,?_⟩;(repeat (first|exact bR _ _|(with_reducible refine bS ?_ (by simp<;>omega))|(with_reducible refine bL ?_ _)|(with_reducible refine bC ?_ HB1.out)))
   ·by_cases h3:fits (b+n)
    ·have e1:fitV (b+n)=b+n:=if_pos h3;have e2:fitE (b+n)=0:=if_pos h3;rw[e1,e2]at HA;clear e1 e2;have H3:=aH h3;clear h3;by_cases h4:b+n<0
     ·have T:chE ⟨a,b,c⟩ n=102:=(by unfold chE;rw[if_neg (by simpa using HR.out),if_neg h1,if_neg h2,if_pos h4]);have U:chV ⟨a,b,c⟩ n=nought:=(by unfold chV;rw[T];rfl);rw[T,U];go_enter Tryz.func78,Tryz.ntmps78;go_wp2_with fail;refine(HK.out _).mono ?_;rintro e w1 ⟨rfl,hb1⟩;obtain⟨hc1,hf1⟩:=bcell hb1;have HB1:=aH hb1;have hz1_0:w.heap.size<w1.heap.size:=(by(have:=hb1.size;(try simp at this)<;>omega));have hz1_1:w.heap.size+1<w1.heap.size:=(by(have:=hb1.size;(try simp at this)<;>omega));clear hb1;go_wp2_with fail;refine(HA.out _).mono ?_;rintro e w2 ⟨rfl,rfl⟩;go_wp2;refine bP (v:=.tuple #[.agg #[.int .i64 0,.int .i64 0,.int .i64 0],.int .i64 102]) (by simp[results,Tryz.results78,go_sem,hc1]) rfl ⟨rfl,?_⟩;(repeat (first|exact bR _ _|(with_reducible refine bS ?_ (by simp<;>omega))|(with_reducible refine bL ?_ _)|(with_reducible refine bC ?_ HB1.out)))
     ·by_cases h5:a<b+n
      ·have T:chE ⟨a,b,c⟩ n=103:=(by unfold chE;rw[if_neg (by simpa using HR.out),if_neg h1,if_neg h2,if_neg h4,if_pos h5]);have U:chV ⟨a,b,c⟩ n=nought:=(by unfold chV;rw[T];rfl);rw[T,U];go_enter Tryz.func78,Tryz.ntmps78;go_wp2_with fail;refine(HK.out _).mono ?_;rintro e w1 ⟨rfl,hb1⟩;obtain⟨hc1,hf1⟩:=bcell hb1;have HB1:=aH hb1;have hz1_0:w.heap.size<w1.heap.size:=(by(have:=hb1.size;(try simp at this)<;>omega));have hz1_1:w.heap.size+1<w1.heap.size:=(by(have:=hb1.size;(try simp at this)<;>omega));clear hb1;go_wp2_with fail;refine(HA.out _).mono ?_;rintro e w2 ⟨rfl,rfl⟩;go_wp2;refine bP (v:=.tuple #[.agg #[.int .i64 0,.int .i64 0,.int .i64 0],.int .i64 103]) (by simp[results,Tryz.results78,go_sem,hc1]) rfl ⟨rfl,?_⟩;(repeat (first|exact bR _ _|(with_reducible refine bS ?_ (by simp<;>omega))|(with_reducible refine bL ?_ _)|(with_reducible refine bC ?_ HB1.out)))
      ·have T:chE ⟨a,b,c⟩ n=0:=(by unfold chE;rw[if_neg (by simpa using HR.out),if_neg h1,if_neg h2,if_neg h4,if_neg h5]);have U:chV ⟨a,b,c⟩ n=⟨a,b+n,c+1⟩:=(by unfold chV;rw[if_pos T]);rw[T,U];go_enter Tryz.func78,Tryz.ntmps78;go_wp2_with fail;refine(HK.out _).mono ?_;rintro e w1 ⟨rfl,hb1⟩;obtain⟨hc1,hf1⟩:=bcell hb1;have HB1:=aH hb1;have hz1_0:w.heap.size<w1.heap.size:=(by(have:=hb1.size;(try simp at this)<;>omega));have hz1_1:w.heap.size+1<w1.heap.size:=(by(have:=hb1.size;(try simp at this)<;>omega));clear hb1;go_wp2_with fail;refine(HA.out _).mono ?_;rintro e w2 ⟨rfl,rfl⟩;go_wp2;refine bP (v:=.tuple #[.agg #[.int .i64 a,.int .i64 (b+n),.int .i64 (c+1)],.int .i64 0]) (by simp[results,Tryz.results78,go_sem,hc1]) rfl ⟨rfl,?_⟩;(repeat (first|exact bR _ _|(with_reducible refine bS ?_ (by simp<;>omega))|(with_reducible refine bL ?_ _)|(with_reducible refine bC ?_ HB1.out)))
    ·have hp:0<b+n:=fits_add (a:=b) r3 HN.out (by omega) h3;have e1:fitV (b+n)=0:=if_neg h3;have e2:fitE (b+n)=4:=if_neg h3;rw[e1,e2]at HA;have T:chE ⟨a,b,c⟩ n=103:=by
      unfold fits at h3;unfold chE;rw[if_neg (by simpa using HR.out),if_neg h1,if_neg h2,if_neg (show ¬b+n<0 by omega),if_pos (show a<b+n by omega)]
     have U:chV ⟨a,b,c⟩ n=nought:=(by unfold chV;rw[T];rfl);rw[T,U];clear e1 e2 h3 hp;go_enter Tryz.func78,Tryz.ntmps78;go_wp2_with fail;refine(HK.out _).mono ?_;rintro e w1 ⟨rfl,hb1⟩;obtain⟨hc1,hf1⟩:=bcell hb1;have HB1:=aH hb1;have hz1_0:w.heap.size<w1.heap.size:=(by(have:=hb1.size;(try simp at this)<;>omega));have hz1_1:w.heap.size+1<w1.heap.size:=(by(have:=hb1.size;(try simp at this)<;>omega));clear hb1;go_wp2_with fail;refine(HA.out _).mono ?_;rintro e w2 ⟨rfl,rfl⟩;go_wp2;refine bP (v:=.tuple #[.agg #[.int .i64 0,.int .i64 0,.int .i64 0],.int .i64 103]) (by simp[results,Tryz.results78,go_sem,hc1]) rfl ⟨rfl,?_⟩;(repeat (first|exact bR _ _|(with_reducible refine bS ?_ (by simp<;>omega))|(with_reducible refine bL ?_ _)|(with_reducible refine bC ?_ HB1.out)))
 ·have HK:=aH (fun w=>right_f hr w);have T:chE ⟨a,b,c⟩ n=100:=by unfold chE;rw[if_pos hr]
  have U:chV ⟨a,b,c⟩ n=nought:=by unfold chV;rw[T];rfl
  rw[T,U];clear hx hn hr;go_enter Tryz.func78,Tryz.ntmps78;go_wp2_with fail;refine(HK.out _).mono ?_;rintro e w1 ⟨rfl,hb1⟩;obtain⟨hc1,hf1⟩:=bcell hb1;have HB1:=aH hb1;have hz1_0:w.heap.size<w1.heap.size:=by(have:=hb1.size;(try simp at this)<;>omega)
  have hz1_1:w.heap.size+1<w1.heap.size:=by(have:=hb1.size;(try simp at this)<;>omega)
  clear hb1;go_wp2;refine bP (v:=.tuple #[.agg #[.int .i64 0,.int .i64 0,.int .i64 0],.int .i64 100]) (by simp[results,Tryz.results78,go_sem,hc1]) rfl ⟨rfl,?_⟩;(repeat (first|exact bR _ _|(with_reducible refine bS ?_ (by simp<;>omega))|(with_reducible refine bL ?_ _)|(with_reducible refine bC ?_ HB1.out)))
theorem chE_no {x:Ce} (n:Int) (h:¬x.Right):chE x n=100:=by unfold chE;rw[if_pos h]
theorem chE_0 {x:Ce} (h:x.Right):chE x 0=1:=by unfold chE;rw[if_neg (by simpa using h),if_pos rfl]
theorem chV_no {x:Ce} {n:Int} {e:Int} (h:chE x n=e) (he:e≠0):chV x n=nought:=by unfold chV;rw[if_neg (by rw[h];exact he)]
theorem max_lo {n:Int} (h:n<1):max n 0=0:=by omega
theorem max_hi {n:Int} (h:¬n<1):max n 0=n:=by omega
def newE (a b:Int):Int:=if (Ce.mk a b 0).Right then 0 else 100
def newV (a b:Int):Ce:=if (Ce.mk a b 0).Right then⟨a,b,0⟩else nought
theorem new_any (a b:Int) (w:World):Calls Tryz.prog 68 #[.int .i64 a,.int .i64 b] w fun e w'=>e=.returned (ceE (newV a b) (newE a b))∧Below w.heap.size w w':=by
 by_cases hr:(Ce.mk a b 0).Right
 ·have HK:=aH (fun w=>right_t hr w);have T:newE a b=0:=by unfold newE;rw[if_pos hr]
  have U:newV a b=⟨a,b,0⟩:=by unfold newV;rw[if_pos hr]
  rw[T,U];clear T U hr;have hq:w.heap.size<w.heap.size+1+1:=by omega
  go_enter Tryz.func68,Tryz.ntmps68;go_wp2_with fail;refine(HK.out _).mono ?_;rintro e w1 ⟨rfl,hb1⟩;obtain⟨hc1,hf1⟩:=bcell hb1;have HB1:=aH hb1;have hz1_0:w.heap.size<w1.heap.size:=by(have:=hb1.size;(try simp at this)<;>omega)
  have hz1_1:w.heap.size+1<w1.heap.size:=by(have:=hb1.size;(try simp at this)<;>omega)
  clear hb1;go_wp2;refine bP (v:=.tuple #[.agg #[.int .i64 a,.int .i64 b,.int .i64 0],.int .i64 0]) (by simp[results,Tryz.results68,go_sem,hc1,hq]) rfl ⟨rfl,?_⟩;(repeat (first|exact bR _ _|(with_reducible refine bS ?_ (by simp<;>omega))|(with_reducible refine bL ?_ _)|(with_reducible refine bC ?_ HB1.out)))
 ·have HK:=aH (fun w=>right_f hr w);have T:newE a b=100:=by unfold newE;rw[if_neg hr]
  have U:newV a b=nought:=by unfold newV;rw[if_neg hr]
  rw[T,U];clear T U hr;have hq:w.heap.size<w.heap.size+1+1:=by omega
  go_enter Tryz.func68,Tryz.ntmps68;go_wp2_with fail;refine(HK.out _).mono ?_;rintro e w1 ⟨rfl,hb1⟩;obtain⟨hc1,hf1⟩:=bcell hb1;have HB1:=aH hb1;have hz1_0:w.heap.size<w1.heap.size:=by(have:=hb1.size;(try simp at this)<;>omega)
  have hz1_1:w.heap.size+1<w1.heap.size:=by(have:=hb1.size;(try simp at this)<;>omega)
  clear hb1;go_wp2;refine bP (v:=.tuple #[.agg #[.int .i64 0,.int .i64 0,.int .i64 0],.int .i64 100]) (by simp[results,Tryz.results68,go_sem,hc1,hq]) rfl ⟨rfl,?_⟩;(repeat (first|exact bR _ _|(with_reducible refine bS ?_ (by simp<;>omega))|(with_reducible refine bL ?_ _)|(with_reducible refine bC ?_ HB1.out)))
theorem pour_any (x:Ce) (n:Int) (hx:x.Fit) (hn:fits n) (w:World):Calls Tryz.prog 46 #[x.v,.int .i64 n] w fun e w'=>e=.returned (ceE (chV x (max n 0)) (chE x (max n 0)))∧Below w.heap.size w w':=by
 obtain⟨a,b,c⟩:=x;by_cases hl:n<0
 ·rw[show max n 0=0 by omega];have HK:=aH (fun w=>change_any ⟨a,b,c⟩ (0) hx (by unfold fits at *;omega) w);generalize chV ⟨a,b,c⟩ (0)=y at *;generalize chE ⟨a,b,c⟩ (0)=z at *;obtain⟨p,q,r⟩:=y;unfold fits at hn;clear hx;go_enter Tryz.func46,Tryz.ntmps46;go_wp2_with fail;refine(HK.out _).mono ?_;rintro e w1 ⟨rfl,hb1⟩;obtain⟨hc1,hf1⟩:=bcell hb1;have HB1:=aH hb1;have hz1_0:w.heap.size<w1.heap.size:=by(have:=hb1.size;(try simp at this)<;>omega)
  have hz1_1:w.heap.size+1<w1.heap.size:=by(have:=hb1.size;(try simp at this)<;>omega)
  clear hb1;go_wp2;refine bP (v:=.tuple #[.agg #[.int .i64 p,.int .i64 q,.int .i64 r],.int .i64 z]) (by simp[results,Tryz.results46,go_sem,hc1]) rfl ⟨rfl,?_⟩;(repeat (first|exact bR _ _|(with_reducible refine bS ?_ (by simp<;>omega))|(with_reducible refine bL ?_ _)|(with_reducible refine bC ?_ HB1.out)))
 ·by_cases h0:n=0
  ·subst h0;rw[show max (0:Int) 0=0 by omega];have HK:=aH (fun w=>change_any ⟨a,b,c⟩ (0) hx (by unfold fits at *;omega) w);generalize chV ⟨a,b,c⟩ (0)=y at *;generalize chE ⟨a,b,c⟩ (0)=z at *;obtain⟨p,q,r⟩:=y;unfold fits at hn;clear hx;go_enter Tryz.func46,Tryz.ntmps46;go_wp2_with fail;refine(HK.out _).mono ?_;rintro e w1 ⟨rfl,hb1⟩;obtain⟨hc1,hf1⟩:=bcell hb1;have HB1:=aH hb1;have hz1_0:w.heap.size<w1.heap.size:=(by(have:=hb1.size;(try simp at this)<;>omega));have hz1_1:w.heap.size+1<w1.heap.size:=(by(have:=hb1.size;(try simp at this)<;>omega));clear hb1;go_wp2;refine bP (v:=.tuple #[.agg #[.int .i64 p,.int .i64 q,.int .i64 r],.int .i64 z]) (by simp[results,Tryz.results46,go_sem,hc1]) rfl ⟨rfl,?_⟩;(repeat (first|exact bR _ _|(with_reducible refine bS ?_ (by simp<;>omega))|(with_reducible refine bL ?_ _)|(with_reducible refine bC ?_ HB1.out)))
  ·rw[show max n 0=n by omega];have HK:=aH (fun w=>change_any ⟨a,b,c⟩ (n) hx (by unfold fits at *;omega) w);generalize chV ⟨a,b,c⟩ (n)=y at *;generalize chE ⟨a,b,c⟩ (n)=z at *;obtain⟨p,q,r⟩:=y;unfold fits at hn;clear hx;go_enter Tryz.func46,Tryz.ntmps46;go_wp2_with fail;refine(HK.out _).mono ?_;rintro e w1 ⟨rfl,hb1⟩;obtain⟨hc1,hf1⟩:=bcell hb1;have HB1:=aH hb1;have hz1_0:w.heap.size<w1.heap.size:=(by(have:=hb1.size;(try simp at this)<;>omega));have hz1_1:w.heap.size+1<w1.heap.size:=(by(have:=hb1.size;(try simp at this)<;>omega));clear hb1;go_wp2;refine bP (v:=.tuple #[.agg #[.int .i64 p,.int .i64 q,.int .i64 r],.int .i64 z]) (by simp[results,Tryz.results46,go_sem,hc1]) rfl ⟨rfl,?_⟩;(repeat (first|exact bR _ _|(with_reducible refine bS ?_ (by simp<;>omega))|(with_reducible refine bL ?_ _)|(with_reducible refine bC ?_ HB1.out)))
theorem draw_any (x:Ce) (n:Int) (hx:x.Fit) (hn:fits n) (w:World):Calls Tryz.prog 48 #[x.v,.int .i64 n] w fun e w'=>e=.returned (ceE (chV x (-(max n 0))) (chE x (-(max n 0))))∧Below w.heap.size w w':=by
 obtain⟨a,b,c⟩:=x;by_cases hl:n<0
 ·rw[show max n 0=0 by omega];rw[Int.neg_zero];have HK:=aH (fun w=>change_any ⟨a,b,c⟩ (0) hx (by unfold fits at *;omega) w);generalize chV ⟨a,b,c⟩ (0)=y at *;generalize chE ⟨a,b,c⟩ (0)=z at *;obtain⟨p,q,r⟩:=y;unfold fits at hn;clear hx;go_enter Tryz.func48,Tryz.ntmps48;go_wp2_with fail;refine(HK.out _).mono ?_;rintro e w1 ⟨rfl,hb1⟩;obtain⟨hc1,hf1⟩:=bcell hb1;have HB1:=aH hb1;have hz1_0:w.heap.size<w1.heap.size:=by(have:=hb1.size;(try simp at this)<;>omega)
  have hz1_1:w.heap.size+1<w1.heap.size:=by(have:=hb1.size;(try simp at this)<;>omega)
  clear hb1;go_wp2;refine bP (v:=.tuple #[.agg #[.int .i64 p,.int .i64 q,.int .i64 r],.int .i64 z]) (by simp[results,Tryz.results48,go_sem,hc1]) rfl ⟨rfl,?_⟩;(repeat (first|exact bR _ _|(with_reducible refine bS ?_ (by simp<;>omega))|(with_reducible refine bL ?_ _)|(with_reducible refine bC ?_ HB1.out)))
 ·by_cases h0:n=0
  ·subst h0;rw[show max (0:Int) 0=0 by omega];rw[Int.neg_zero];have HK:=aH (fun w=>change_any ⟨a,b,c⟩ (0) hx (by unfold fits at *;omega) w);generalize chV ⟨a,b,c⟩ (0)=y at *;generalize chE ⟨a,b,c⟩ (0)=z at *;obtain⟨p,q,r⟩:=y;unfold fits at hn;clear hx;go_enter Tryz.func48,Tryz.ntmps48;go_wp2_with fail;refine(HK.out _).mono ?_;rintro e w1 ⟨rfl,hb1⟩;obtain⟨hc1,hf1⟩:=bcell hb1;have HB1:=aH hb1;have hz1_0:w.heap.size<w1.heap.size:=(by(have:=hb1.size;(try simp at this)<;>omega));have hz1_1:w.heap.size+1<w1.heap.size:=(by(have:=hb1.size;(try simp at this)<;>omega));clear hb1;go_wp2;refine bP (v:=.tuple #[.agg #[.int .i64 p,.int .i64 q,.int .i64 r],.int .i64 z]) (by simp[results,Tryz.results48,go_sem,hc1]) rfl ⟨rfl,?_⟩;(repeat (first|exact bR _ _|(with_reducible refine bS ?_ (by simp<;>omega))|(with_reducible refine bL ?_ _)|(with_reducible refine bC ?_ HB1.out)))
  ·rw[show max n 0=n by omega];have HK:=aH (fun w=>change_any ⟨a,b,c⟩ (-n) hx (by unfold fits at *;omega) w);generalize chV ⟨a,b,c⟩ (-n)=y at *;generalize chE ⟨a,b,c⟩ (-n)=z at *;obtain⟨p,q,r⟩:=y;unfold fits at hn;clear hx;go_enter Tryz.func48,Tryz.ntmps48;go_wp2_with fail;refine(HK.out _).mono ?_;rintro e w1 ⟨rfl,hb1⟩;obtain⟨hc1,hf1⟩:=bcell hb1;have HB1:=aH hb1;have hz1_0:w.heap.size<w1.heap.size:=(by(have:=hb1.size;(try simp at this)<;>omega));have hz1_1:w.heap.size+1<w1.heap.size:=(by(have:=hb1.size;(try simp at this)<;>omega));clear hb1;go_wp2;refine bP (v:=.tuple #[.agg #[.int .i64 p,.int .i64 q,.int .i64 r],.int .i64 z]) (by simp[results,Tryz.results48,go_sem,hc1]) rfl ⟨rfl,?_⟩;(repeat (first|exact bR _ _|(with_reducible refine bS ?_ (by simp<;>omega))|(with_reducible refine bL ?_ _)|(with_reducible refine bC ?_ HB1.out)))
end Go.Proofs.YtacjonncakhhmaaGreat.Cel
