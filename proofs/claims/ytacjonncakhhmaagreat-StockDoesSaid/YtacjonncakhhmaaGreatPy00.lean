/- Sum, difference and product of two whole numbers: what the program and the reference answer. -/
import Derived.Laws.BitsAllLaws
import Derived.Laws.Bits64
import Derived.IntWalk
import Derived.RowKit
import Derived.Test.YtacjonncakhhmaaGreatChecked
import Derived.WalkKit
import Derived.WalkLawsBesides
import Derived.WalkSpells
import Derived.Outline
import Derived.KernelRfl
import Derived.Lib.Hide
import Derived.Maps.AppendAt
import Derived.Laws.OwnMore
import Derived.Laws.Cover2
import Derived.Laws.FloatArith
import Derived.Deep.AppendLies
import Derived.Deep.Onto
import Derived.OwnWalk
import Derived.LoopTactic
import Derived.Deep.QuietTactic
import Derived.BigQuiet
import Derived.Deep.RegionHeld3
import Derived.Deep.LoopGhost
import Derived.Deep.Cut
set_option maxRecDepth 100000
set_option maxHeartbeats 8000000
namespace Go.Proofs.YtacjonncakhhmaaGreat
theorem ret_i {a b:Int} (h:a=b):Ending.returned (.int .i64 a)=.returned (.int .i64 b):=by rw[h]
theorem ret_b {a b:Bool} (h:a=b):Ending.returned (.bool a)=.returned (.bool b):=by rw[h]
theorem ret_ii {a b c d:Int} (h:a=c) (k:b=d):Ending.returned (.tuple #[.int .i64 a,.int .i64 b])=.returned (.tuple #[.int .i64 c,.int .i64 d]):=by rw[h,k]
theorem num_i {a b:Int} (h:a=b):Value.int .i64 a=.int .i64 b:=by rw[h]
def fits (x:Int):Prop:=-9223372036854775808≤x∧x≤9223372036854775807
instance (x:Int):Decidable (fits x):=inferInstanceAs (Decidable (_∧_))
def fitV (x:Int):Int:=if fits x then x else 0
def fitE (x:Int):Int:=if fits x then 0 else 4
theorem wrap_toNat (v:BitVec 64):IntKind.i64.wrap (v.toNat:Int)=v.toInt:=by
 rw[IntKind.wrap_i64,BitVec.toInt_eq_toNat_cond];have:=v.isLt
 split <;> omega
theorem ofInt_neg (x:Int) (h:fits x):(BitVec.ofInt 64 x).msb=decide (x<0):=by
 obtain⟨h0,h1⟩:=h;have e:(BitVec.ofInt 64 x).toInt=x:=by
  rw[BitVec.toInt_ofInt];exact Int.bmod_eq_of_le (by omega) (by omega)
 rw[BitVec.msb_eq_toInt,e]
theorem and_neg (x y:Int) (hx:fits x) (hy:fits y):(bits .and .i64 x y<0)↔(x<0∧y<0):=by
 show IntKind.i64.wrap ((BitVec.ofInt 64 x&&& BitVec.ofInt 64 y).toNat:Int)<0↔_;rw[wrap_toNat];have e:=BitVec.msb_eq_toInt (x:=BitVec.ofInt 64 x&&& BitVec.ofInt 64 y);rw[BitVec.msb_and,ofInt_neg x hx,ofInt_neg y hy]at e;by_cases h:(BitVec.ofInt 64 x&&& BitVec.ofInt 64 y).toInt<0
 ·rw[decide_eq_true h,Bool.and_eq_true,decide_eq_true_eq,decide_eq_true_eq]at e;exact⟨fun _=>e,fun _=>h⟩
 ·rw[decide_eq_false h]at e;refine⟨fun k=>absurd k h,fun k=>?_⟩;rw[decide_eq_true k.1,decide_eq_true k.2]at e
  cases e
theorem xor_neg (x y:Int) (hx:fits x) (hy:fits y):(bits .xor .i64 x y<0)↔¬(x<0↔y<0):=by
 show IntKind.i64.wrap ((BitVec.ofInt 64 x ^^^ BitVec.ofInt 64 y).toNat:Int)<0↔_;rw[wrap_toNat];have e:=BitVec.msb_eq_toInt (x:=BitVec.ofInt 64 x ^^^ BitVec.ofInt 64 y);rw[BitVec.msb_xor,ofInt_neg x hx,ofInt_neg y hy]at e;generalize (BitVec.ofInt 64 x ^^^ BitVec.ofInt 64 y).toInt=t at *;by_cases hx0:x<0 <;> by_cases hy0:y<0 <;> by_cases h:t<0 <;> simp[hx0,hy0,h]at e⊢ <;> omega
theorem xor_fits (x y:Int):fits (bits .xor .i64 x y):=by
 show fits (IntKind.i64.wrap ((BitVec.ofInt 64 x ^^^ BitVec.ofInt 64 y).toNat:Int));rw[IntKind.wrap_i64];constructor <;> omega
theorem add_signs (a b:Int) (ha:fits a) (hb:fits b):(bits .and .i64 (bits .xor .i64 a (IntKind.i64.wrap (a+b))) (bits .xor .i64 b (IntKind.i64.wrap (a+b)))<0)↔¬fits (a+b):=by
 have hs:fits (IntKind.i64.wrap (a+b)):=by rw[IntKind.wrap_i64];constructor <;> omega
 rw[and_neg _ _ (xor_fits _ _) (xor_fits _ _),xor_neg a _ ha hs,xor_neg b _ hb hs,IntKind.wrap_i64];unfold fits at *;omega
theorem wrap_fits (x:Int) (h:fits x):IntKind.i64.wrap x=x:=by
 obtain⟨h0,h1⟩:=h;rw[IntKind.wrap_i64];omega
theorem w64 (x:Int):IntKind.i64.wrap x=Go.RowKit.wrap64 x:=by rw[IntKind.wrap_i64,Go.RowKit.wrap64]
theorem wrap64_fits (x:Int) (h:fits x):Go.RowKit.wrap64 x=x:=by rw[←w64,wrap_fits x h]
open Go.RowKit
theorem below_drewN {B:Nat} {a w:World} (h:Below B a w) (d:Nat):Below B a (w.drewN d):=⟨h.os,h.tape,h.output,h.size,h.block⟩
theorem bcell {W w1:World} (hb:Below W.heap.size W w1):(∀b o,b<W.heap.size→w1.cell? ⟨b,o,none⟩=W.cell? ⟨b,o,none⟩)∧(∀b o,b<W.heap.size→w1.frozen? ⟨b,o,none⟩=W.frozen? ⟨b,o,none⟩):=
 ⟨fun b o h=>hb.cell (p:=⟨b,o,none⟩) h,fun b o h=>hb.frozen (p:=⟨b,o,none⟩) h⟩
theorem bL {w w':World} (h:Below w.heap.size w w') (o:Obj):Below w.heap.size w (w'.alloc o):=h.alloc h.size o
theorem bC {w w' w'':World} (h:Below w.heap.size w w') (k:Below w'.heap.size w' w''):Below w.heap.size w w'':=h.trans (k.mono h.size)
theorem bS {w w':World} {p:Addr} {v:Value} (h:Below w.heap.size w w') (hp:w.heap.size≤p.block):Below w.heap.size w (w'.setCell p v):=h.setCell hp v
theorem kK {w w1:World} {a:Addr} {v:Value} (hb:Below w.heap.size w w1) (h:w.cell? a=some v):w1.cell? a=some v:=(hb.cell (World.block_lt_of_cell? w a h)).trans h
theorem take_snoc {α:Type} (l:List α) (k:Nat) (d:α) (h:k<l.length):l.take (k+1)=l.take k++[l.getD k d]:=by
 rw[List.take_succ_eq_append_getElem h,List.getD_eq_getElem?_getD,List.getElem?_eq_getElem h];rfl
theorem getD_mem' {α:Type} (l:List α) (k:Nat) (d:α) (h:k<l.length):l.getD k d∈l:=by
 rw[List.getD_eq_getElem?_getD,List.getElem?_eq_getElem h];exact List.getElem_mem h
theorem drop_snoc {α:Type} (l:List α) (k:Nat) (d:α) (h:k<l.length):l.drop k=l.getD k d::l.drop (k+1):=by
 rw[List.drop_eq_getElem_cons h,List.getD_eq_getElem?_getD,List.getElem?_eq_getElem h];rfl
theorem st_same {w:World} {a:Addr} {u v:Value} (h:w.cell? a=some u):(w.setCell a v).cell? a=some v:=by apply World.cell?_setCell_same;exact h
theorem sO {w:World} {a b:Addr} {u v:Value} (h:w.cell? b=some u) (hne:a≠b):(w.setCell a v).cell? b=some u:=by rw[World.cell?_setCell_other (h:=hne)];exact h
theorem sF {w:World} {a b:Addr} {v:Value} (h:w.frozen? b=false):(w.setCell a v).frozen? b=false:=by rw[World.frozen?_setCell];exact h
inductive Tq where
 | k (i d:Nat)
 | u (i d:Nat)
inductive Wk (P:Program) (md:Region.Mode) (ops:Array Oper) (Q:Exit→Act→World→Prop) (S:World→Prop) (w:World):List Tq→Nat→Array Bool→Act→Prop where
 | nil {fuel listed a} (h:wpAnyH P md ops Q S fuel listed a w):Wk P md ops Q S w [] fuel listed a
 | k {i d x1 x2 x3 x4 x5 v l fuel listed a} (hi:ops[i]? =some ⟨some d,x1,x2,x3,x4,x5⟩)
  (hc:(Region.free md ops listed i&&((Region.ready md ops listed).contains i&&Region.wanted ⟨some d,x1,x2,x3,x4,x5⟩ (yielded ops a.tmps)))=true)
  (hy:∀w,S w→(execOp a.eval ⟨some d,x1,x2,x3,x4,x5⟩).run P w=.ok (.value v) w)
  (h:Wk P md ops Q S w l fuel (listed.setIfInBounds i true) (a.put (some d) v)):Wk P md ops Q S w (.k i d::l) (fuel+1) listed a
 | u {i d x1 x2 x3 x4 x5 l fuel listed a} (hi:ops[i]? =some ⟨some d,x1,x2,x3,x4,x5⟩)
  (hc:(Region.free md ops listed i&&((Region.ready md ops listed).contains i&& !Region.wanted ⟨some d,x1,x2,x3,x4,x5⟩ (yielded ops a.tmps)))=true)
  (h:Wk P md ops Q S w l fuel (listed.setIfInBounds i true) (a.put (some d) undef)):Wk P md ops Q S w (.u i d::l) (fuel+1) listed a
theorem wk {P:Program} {md:Region.Mode} {ops:Array Oper} {Q:Exit→Act→World→Prop} {S:World→Prop} {w:World} (l:List Tq) {fuel:Nat} {listed:Array Bool} {a:Act}
 (hQ:∀c a d v w,Q (.panic c) (a.put (some d) v) w→Q (.panic c) a w) (hS:S w) (h:Wk P md ops Q S w l fuel listed a) (hs:Region.noSelect ops=true):wpAnyH P md ops Q S fuel listed a w:=by
 induction h with
 | nil h=>exact h
 | k hi hc hy _ ih=>
  rw[Bool.and_eq_true,Bool.and_eq_true]at hc;exact wpAnyH_take hi hs hc.1 hc.2.1 (fun c a w h=>hQ c a _ _ w h) (Or.inl ⟨hc.2.2,hy⟩) hS ih
 | u hi hc _ ih=>
  rw[Bool.and_eq_true,Bool.and_eq_true]at hc;exact wpAnyH_take hi hs hc.1 hc.2.1 (fun c a w h=>hQ c a _ _ w h) (Or.inr ⟨by simpa using hc.2.2,rfl⟩) hS ih
theorem sp:(∀(a:Act) (d:Nat) (v:Value),a.put (some d) v={a with tmps:=a.tmps.setIfInBounds d v})∧(∀(a:Act) (v:Value),a.put none v=a)∧
 (∀(l:List Value) (i:Nat) (x:Value),l.toArray.setIfInBounds i x=(l.set i x).toArray)∧(∀(l:List Bool) (i:Nat) (x:Bool),l.toArray.setIfInBounds i x=(l.set i x).toArray)∧
 (∀(a x:Value) (l:List Value),(a::l).set 0 x=x::l)∧(∀(a x:Bool) (l:List Bool),(a::l).set 0 x=x::l)∧
 (∀(a x:Value) (l:List Value) (i:Nat),(a::l).set (i+1) x=a::l.set i x)∧(∀(a x:Bool) (l:List Bool) (i:Nat),(a::l).set (i+1) x=a::l.set i x):=
 ⟨fun _ _ _=>rfl,fun _ _=>rfl,fun _ _ _=>by simp,fun _ _ _=>by simp,fun _ _ _=>rfl,fun _ _ _=>rfl,fun _ _ _ _=>rfl,fun _ _ _ _=>rfl⟩
theorem aH {p:Prop} (h:p):Hid p:=h
theorem bR (B:Nat) (w:World):Below B w w:=Below.refl B w
theorem bP {P:Program} {fn:Func} {R:Ending→World→Prop} {a:Act} {w:World} {v:Value} (hr:(results fn a.tmps).run P w=.ok v w) (hd:a.defers=[]) (hR:R (.returned v) w):bodyPost P fn R .ret a w:=bodyPost_ret hr hd hR
theorem wB (w:World) (a:Addr) {u:Value} (h:w.cell? a=some u):a.block<w.heap.size:=World.block_lt_of_cell? w a h
theorem dF {p:Prop} [Decidable p] (h:¬p):decide p=false:=decide_eq_false h
theorem dT {p:Prop} [Decidable p] (h:p):decide p=true:=decide_eq_true h
theorem nR (n:Nat):n≤n:=Nat.le_refl n
theorem aI {a b:Prop} (h:a) (k:b):a∧b:=⟨h,k⟩
theorem nL {a b c:Nat} (h:a<b) (k:b≤c):a<c:=Nat.lt_of_lt_of_le h k
section
variable {P:Program} {md:Region.Mode} {ops:Array Oper} {Q:Exit→Act→World→Prop} {S:World→Prop} {fuel:Nat} {listed:Array Bool} {a:Act} {w:World}
theorem rN:AllReadyH P md ops Q S fuel listed a w []:=AllReadyH.nil
theorem rK {i:Nat} {rs:List Nat} (d:Option Nat) {x1 x2 x3 x4 x5} (ho:ops[i]? =some ⟨d,x1,x2,x3,x4,x5⟩)
 (h:∀K':Act→World→Prop,Shut (∀a w,S w→(S w→wpAnyH P md ops Q S fuel (listed.setIfInBounds i true) a w)→K' a w)→if Region.wanted ⟨d,x1,x2,x3,x4,x5⟩ (yielded ops a.tmps)=true then Oper.wp P ⟨d,x1,x2,x3,x4,x5⟩ a w K' Q else K' (a.put d undef) w)
 (hs:AllReadyH P md ops Q S fuel listed a w rs):AllReadyH P md ops Q S fuel listed a w (i::rs):=AllReadyH.cons ho h hs
theorem wR (i:Nat) (rs:List Nat) (hr:Region.ready md ops listed=i::rs) (h:AllReadyH P md ops Q S fuel listed a w (i::rs)):wpAnyH P md ops Q S (fuel+1) listed a w:=wpAnyH_ready hr (by simp) h
theorem wQ (i:Nat) (d:Option Nat) {x1 x2 x3 x4 x5} (ho:ops[i]? =some ⟨d,x1,x2,x3,x4,x5⟩)
 (h:∀K':Act→World→Prop,Shut (∀a w,S w→(S w→wpAnyH P md ops Q S fuel (listed.setIfInBounds i true) a w)→K' a w)→if Region.wanted ⟨d,x1,x2,x3,x4,x5⟩ (yielded ops a.tmps)=true then Oper.wp P ⟨d,x1,x2,x3,x4,x5⟩ a w K' Q else K' (a.put d undef) w)
 (hr:Region.ready md ops listed=[i]):wpAnyH P md ops Q S (fuel+1) listed a w:=wR i [] hr (rK d ho h rN)
theorem wD (hr:Region.ready md ops listed=[]) (h:Q .normal a w):wpAnyH P md ops Q S fuel listed a w:=wpAnyH_done hr h _
end
theorem add_any (a b:Int) (ha:fits a) (hb:fits b) (w:World):Calls Tryz.prog 102 #[.int .i64 a,.int .i64 b] w fun e w'=>e=.returned (.tuple #[.int .i64 (fitV (a+b)),.int .i64 (fitE (a+b))])∧w=w':=by
 have hs:=add_signs a b ha hb;rw[w64]at hs;have HS:=aH hs;have HA:=aH ha;have HB:=aH hb;clear hs ha hb;go_enter Tryz.func102,Tryz.ntmps102;go_wp2
 ·go_ret2
  have hn:=HS.out.1 ‹_›;exact⟨ret_ii (if_neg hn).symm (if_neg hn).symm,rfl⟩
 ·go_ret2
  have hn:fits (a+b):=Decidable.not_not.1 fun k=>absurd (HS.out.2 k) (by omega);refine⟨ret_ii ?_ (if_pos hn).symm,rfl⟩;rw[fitV,if_pos hn,wrap64_fits _ hn]
theorem radd_any (a b:Int) (ha:fits a) (hb:fits b) (w:World):Calls Tryz.prog 115 #[.int .i64 a,.int .i64 b] w fun e w'=>e=.returned (.tuple #[.int .i64 (fitV (a+b)),.int .i64 (fitE (a+b))])∧w=w':=by
 unfold fits at ha hb;go_enter Tryz.func115,Tryz.ntmps115;go_wp2
 all_goals
  go_ret2
  refine⟨ret_ii ?_ ?_,rfl⟩
  all_goals
   simp only[fitV,fitE,fits]at *
   (try simp only[wrap64]at *)
   first | omega | (split <;> omega)
end Go.Proofs.YtacjonncakhhmaaGreat
