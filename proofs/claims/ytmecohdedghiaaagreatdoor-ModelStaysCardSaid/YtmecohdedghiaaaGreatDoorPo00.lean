/- Owners: the functions that are handed on, and whether owners are right. -/
import Derived.Laws.BitsAllLaws
import Derived.Laws.Bits64
import Derived.IntWalk
import Derived.RowKit
import Derived.Test.YtmecohdedghiaaaGreatDoorChecked
import Derived.WalkKit
import Derived.WalkLawsBesides
import Derived.WalkSpells
import Derived.Outline
import Derived.KernelRfl
import Derived.Lib.Hide
import Derived.Maps.AppendAt
import Derived.Laws.OwnMore
import Derived.Laws.Cover2
import Derived.Laws.FloatArith
import Derived.Deep.AppendLies
import Derived.Deep.Onto
import Derived.OwnWalk
import Derived.LoopTactic
import Derived.Deep.QuietTactic
import Derived.BigQuiet
import Derived.Deep.RegionHeld3
import Derived.Deep.LoopGhost
import Derived.Deep.Cut
import Derived.Laws.EntriesVeiled
import Derived.Shelf.Abstract
set_option maxRecDepth 100000
set_option maxHeartbeats 8000000
open Go.Proofs.Tryz
namespace Go.Proofs.YtmecohdedghiaaaGreatDoor
theorem aS {a b:Int} (h:a=b):Ending.returned (.int .i64 a)=.returned (.int .i64 b):=by rw[h]
theorem aj {a b:Bool} (h:a=b):Ending.returned (.bool a)=.returned (.bool b):=by rw[h]
theorem bd {a b c d:Int} (h:a=c) (k:b=d):Ending.returned (.tuple #[.int .i64 a,.int .i64 b])=.returned (.tuple #[.int .i64 c,.int .i64 d]):=by rw[h,k]
theorem ai {a b:Int} (h:a=b):Value.int .i64 a=.int .i64 b:=by rw[h]
def ae (x:Int):Prop:=-9223372036854775808≤x∧x≤9223372036854775807
instance (x:Int):Decidable (ae x):=inferInstanceAs (Decidable (_∧_))
def bW (x:Int):Int:=if ae x then x else 0
def cj (x:Int):Int:=if ae x then 0 else 4
theorem jc (v:BitVec 64):IntKind.i64.wrap (v.toNat:Int)=v.toInt:=by
 rw[IntKind.wrap_i64,BitVec.toInt_eq_toNat_cond];have:=v.isLt
 split<;>omega
theorem em (x:Int) (h:ae x):(BitVec.ofInt 64 x).msb=decide (x<0):=by
 obtain⟨h0,h1⟩:=h;have e:(BitVec.ofInt 64 x).toInt=x:=by
  rw[BitVec.toInt_ofInt];exact Int.bmod_eq_of_le (by omega) (by omega)
 rw[BitVec.msb_eq_toInt,e]
theorem xm (x y:Int) (hx:ae x) (hy:ae y):(bits .and .i64 x y<0)↔(x<0∧y<0):=by
 show IntKind.i64.wrap ((BitVec.ofInt 64 x&&& BitVec.ofInt 64 y).toNat:Int)<0↔_;rw[jc];have e:=BitVec.msb_eq_toInt (x:=BitVec.ofInt 64 x&&& BitVec.ofInt 64 y);rw[BitVec.msb_and,em x hx,em y hy]at e;by_cases h:(BitVec.ofInt 64 x&&& BitVec.ofInt 64 y).toInt<0
 ·rw[decide_eq_true h,Bool.and_eq_true,decide_eq_true_eq,decide_eq_true_eq]at e;exact⟨fun _=>e,fun _=>h⟩
 ·rw[decide_eq_false h]at e;refine⟨fun k=>absurd k h,fun k=>?_⟩;rw[decide_eq_true k.1,decide_eq_true k.2]at e
  cases e
theorem pX (x y:Int) (hx:ae x) (hy:ae y):(bits .xor .i64 x y<0)↔¬(x<0↔y<0):=by
 show IntKind.i64.wrap ((BitVec.ofInt 64 x ^^^ BitVec.ofInt 64 y).toNat:Int)<0↔_;rw[jc];have e:=BitVec.msb_eq_toInt (x:=BitVec.ofInt 64 x ^^^ BitVec.ofInt 64 y);rw[BitVec.msb_xor,em x hx,em y hy]at e;generalize (BitVec.ofInt 64 x ^^^ BitVec.ofInt 64 y).toInt=t at *;by_cases hx0:x<0<;>by_cases hy0:y<0<;>by_cases h:t<0<;>simp[hx0,hy0,h]at e⊢ <;>omega
theorem lV (x y:Int):ae (bits .xor .i64 x y):=by
 show ae (IntKind.i64.wrap ((BitVec.ofInt 64 x ^^^ BitVec.ofInt 64 y).toNat:Int));rw[IntKind.wrap_i64];constructor<;>omega
theorem qQ (a b:Int) (ha:ae a) (hb:ae b):(bits .and .i64 (bits .xor .i64 a (IntKind.i64.wrap (a+b))) (bits .xor .i64 b (IntKind.i64.wrap (a+b)))<0)↔¬ae (a+b):=by
 have hs:ae (IntKind.i64.wrap (a+b)):=by rw[IntKind.wrap_i64];constructor<;>omega
 rw[xm _ _ (lV _ _) (lV _ _),pX a _ ha hs,pX b _ hb hs,IntKind.wrap_i64];unfold ae at *;omega
theorem bE (x:Int) (h:ae x):IntKind.i64.wrap x=x:=by
 obtain⟨h0,h1⟩:=h;rw[IntKind.wrap_i64];omega
theorem uM (x:Int):IntKind.i64.wrap x=Go.RowKit.wrap64 x:=by rw[IntKind.wrap_i64,Go.RowKit.wrap64]
theorem ef (x:Int) (h:ae x):Go.RowKit.wrap64 x=x:=by rw[←uM,bE x h]
open Go.RowKit
theorem aa {B:Nat} {a w:World} (h:Below B a w) (d:Nat):Below B a (w.drewN d):=⟨h.os,h.tape,h.output,h.size,h.block⟩
theorem aL {W w1:World} (hb:Below W.heap.size W w1):(∀b o,b<W.heap.size→w1.cell? ⟨b,o,none⟩=W.cell? ⟨b,o,none⟩)∧(∀b o,b<W.heap.size→w1.frozen? ⟨b,o,none⟩=W.frozen? ⟨b,o,none⟩):=
 ⟨fun b o h=>hb.cell (p:=⟨b,o,none⟩) h,fun b o h=>hb.frozen (p:=⟨b,o,none⟩) h⟩
theorem bL {w w':World} (h:Below w.heap.size w w') (o:Obj):Below w.heap.size w (w'.alloc o):=h.alloc h.size o
theorem bC {w w' w'':World} (h:Below w.heap.size w w') (k:Below w'.heap.size w' w''):Below w.heap.size w w'':=h.trans (k.mono h.size)
theorem bS {w w':World} {p:Addr} {v:Value} (h:Below w.heap.size w w') (hp:w.heap.size≤p.block):Below w.heap.size w (w'.setCell p v):=h.setCell hp v
theorem kK {w w1:World} {a:Addr} {v:Value} (hb:Below w.heap.size w w1) (h:w.cell? a=some v):w1.cell? a=some v:=(hb.cell (World.block_lt_of_cell? w a h)).trans h
theorem aX {α:Type} (l:List α) (k:Nat) (d:α) (h:k<l.length):l.take (k+1)=l.take k++[l.getD k d]:=by
 rw[List.take_succ_eq_append_getElem h,List.getD_eq_getElem?_getD,List.getElem?_eq_getElem h];rfl
theorem af {α:Type} (l:List α) (k:Nat) (d:α) (h:k<l.length):l.getD k d∈l:=by
 rw[List.getD_eq_getElem?_getD,List.getElem?_eq_getElem h];exact List.getElem_mem h
theorem fG {α:Type} (l:List α) (k:Nat) (d:α) (h:k<l.length):l.drop k=l.getD k d::l.drop (k+1):=by
 rw[List.drop_eq_getElem_cons h,List.getD_eq_getElem?_getD,List.getElem?_eq_getElem h];rfl
theorem ag {w:World} {a:Addr} {u v:Value} (h:w.cell? a=some u):(w.setCell a v).cell? a=some v:=by apply World.cell?_setCell_same;exact h
theorem sO {w:World} {a b:Addr} {u v:Value} (h:w.cell? b=some u) (CJ:a≠b):(w.setCell a v).cell? b=some u:=by rw[World.cell?_setCell_other (h:=CJ)];exact h
theorem sF {w:World} {a b:Addr} {v:Value} (h:w.frozen? b=false):(w.setCell a v).frozen? b=false:=by rw[World.frozen?_setCell];exact h
theorem cI {w w0:World} {a0:Obj} (h:w0=w.alloc a0):Below w.heap.size w w0:=by rw[h];exact bL (Below.refl _ _) _
theorem gj {w w0:World} {a0 a1:Obj} (h:w0=(w.alloc a0).alloc a1):Below w.heap.size w w0:=by rw[h];exact bL (bL (Below.refl _ _) _) _
theorem BC {w w0:World} {a0 a1 a2:Obj} (h:w0=((w.alloc a0).alloc a1).alloc a2):Below w.heap.size w w0:=by rw[h];exact bL (bL (bL (Below.refl _ _) _) _) _
theorem BZ {w w0:World} {a0 a1 a2 a3:Obj} (h:w0=(((w.alloc a0).alloc a1).alloc a2).alloc a3):Below w.heap.size w w0:=by rw[h];exact bL (bL (bL (bL (Below.refl _ _) _) _) _) _
theorem BB {w w0:World} {a0 a1 a2 a3 a4:Obj} (h:w0=((((w.alloc a0).alloc a1).alloc a2).alloc a3).alloc a4):Below w.heap.size w w0:=by rw[h];exact bL (bL (bL (bL (bL (Below.refl _ _) _) _) _) _) _
theorem CB {w w0:World} {a0 a1 a2 a3 a4 a5:Obj} (h:w0=(((((w.alloc a0).alloc a1).alloc a2).alloc a3).alloc a4).alloc a5):Below w.heap.size w w0:=by rw[h];exact bL (bL (bL (bL (bL (bL (Below.refl _ _) _) _) _) _) _) _
@[reducible] def Bw (w w2:World):Prop:=Below w.heap.size w w2
inductive Tq where
 |k (i d:Nat)
 |u (i d:Nat)
inductive Wk (P:Program) (md:Region.Mode) (ops:Array Oper) (Q:Exit→Act→World→Prop) (S:World→Prop) (w:World):List Tq→Nat→Array Bool→Act→Prop where
 |nil {fuel listed a} (h:wpAnyH P md ops Q S fuel listed a w):Wk P md ops Q S w [] fuel listed a
 |k {i d x1 x2 x3 x4 x5 v l fuel listed a} (hi:ops[i]? =some ⟨some d,x1,x2,x3,x4,x5⟩)
  (hc:(Region.free md ops listed i&&((Region.ready md ops listed).contains i&&Region.wanted ⟨some d,x1,x2,x3,x4,x5⟩ (yielded ops a.tmps)))=true)
  (hy:∀w,S w→(execOp a.eval ⟨some d,x1,x2,x3,x4,x5⟩).run P w=.ok (.value v) w)
  (h:Wk P md ops Q S w l fuel (listed.setIfInBounds i true) (a.put (some d) v)):Wk P md ops Q S w (.k i d::l) (fuel+1) listed a
 |u {i d x1 x2 x3 x4 x5 l fuel listed a} (hi:ops[i]? =some ⟨some d,x1,x2,x3,x4,x5⟩)
  (hc:(Region.free md ops listed i&&((Region.ready md ops listed).contains i&& !Region.wanted ⟨some d,x1,x2,x3,x4,x5⟩ (yielded ops a.tmps)))=true)
  (h:Wk P md ops Q S w l fuel (listed.setIfInBounds i true) (a.put (some d) undef)):Wk P md ops Q S w (.u i d::l) (fuel+1) listed a
theorem wk {P:Program} {md:Region.Mode} {ops:Array Oper} {Q:Exit→Act→World→Prop} {S:World→Prop} {w:World} (l:List Tq) {fuel:Nat} {listed:Array Bool} {a:Act}
 (hQ:∀c a d v w,Q (.panic c) (a.put (some d) v) w→Q (.panic c) a w) (hS:S w) (h:Wk P md ops Q S w l fuel listed a) (hs:Region.noSelect ops=true):wpAnyH P md ops Q S fuel listed a w:=by
 induction h with
 |nil h=>exact h
 |k hi hc hy _ ih=>
  rw[Bool.and_eq_true,Bool.and_eq_true]at hc;exact wpAnyH_take hi hs hc.1 hc.2.1 (fun c a w h=>hQ c a _ _ w h) (Or.inl ⟨hc.2.2,hy⟩) hS ih
 |u hi hc _ ih=>
  rw[Bool.and_eq_true,Bool.and_eq_true]at hc;exact wpAnyH_take hi hs hc.1 hc.2.1 (fun c a w h=>hQ c a _ _ w h) (Or.inr ⟨by simpa using hc.2.2,rfl⟩) hS ih
theorem sp:(∀(a:Act) (d:Nat) (v:Value),a.put (some d) v={a with tmps:=a.tmps.setIfInBounds d v})∧(∀(a:Act) (v:Value),a.put none v=a)∧
 (∀(l:List Value) (i:Nat) (x:Value),l.toArray.setIfInBounds i x=(l.set i x).toArray)∧(∀(l:List Bool) (i:Nat) (x:Bool),l.toArray.setIfInBounds i x=(l.set i x).toArray)∧
 (∀(a x:Value) (l:List Value),(a::l).set 0 x=x::l)∧(∀(a x:Bool) (l:List Bool),(a::l).set 0 x=x::l)∧
 (∀(a x:Value) (l:List Value) (i:Nat),(a::l).set (i+1) x=a::l.set i x)∧(∀(a x:Bool) (l:List Bool) (i:Nat),(a::l).set (i+1) x=a::l.set i x):=
 ⟨fun _ _ _=>rfl,fun _ _=>rfl,fun _ _ _=>by simp,fun _ _ _=>by simp,fun _ _ _=>rfl,fun _ _ _=>rfl,fun _ _ _ _=>rfl,fun _ _ _ _=>rfl⟩
theorem aH {p:Prop} (h:p):Hid p:=h
theorem bR (B:Nat) (w:World):Below B w w:=Below.refl B w
theorem bP {P:Program} {fn:Func} {R:Ending→World→Prop} {a:Act} {w:World} {v:Value} (hr:(results fn a.tmps).run P w=.ok v w) (hd:a.defers=[]) (hR:R (.returned v) w):bodyPost P fn R .ret a w:=bodyPost_ret hr hd hR
theorem wB (w:World) (a:Addr) {u:Value} (h:w.cell? a=some u):a.block<w.heap.size:=World.block_lt_of_cell? w a h
theorem dF {p:Prop} [Decidable p] (h:¬p):decide p=false:=decide_eq_false h
theorem dT {p:Prop} [Decidable p] (h:p):decide p=true:=decide_eq_true h
theorem nR (n:Nat):n≤n:=Nat.le_refl n
theorem aI {a b:Prop} (h:a) (k:b):a∧b:=⟨h,k⟩
theorem nL {a b c:Nat} (h:a<b) (k:b≤c):a<c:=Nat.lt_of_lt_of_le h k
abbrev zo:Obj:=.cells #[.slice none 0 0,.slice none 0 0,.slice none 0 0,.int .i64 0,.int .i64 0,.int .i64 0] 41
abbrev zc:Obj:=.cells #[.int .i64 0,.int .i64 0,.int .i64 0] 70
theorem rG {P:Program} {ops:Array Oper} {Q:Exit→Act→World→Prop} {S:World→Prop} {id:Nat} {a:Act} {w:World} (HS:∀W,Below w.heap.size w W→S W) (hm:P.follows .mixedOrders=true)
 (h:S w.drew→wpAnyH P .any ops Q S ops.size (Array.replicate ops.size false) a w.drew):(Code.region id ops true).wp P Q a w:=wp_region_held_drew hm (HS _ (Below.refl _ _).drew) h
theorem Cv {P:Program} {ops:Array Oper} {Q:Exit→Act→World→Prop} {id:Nat} {a:Act} {w:World} {a0:Addr} {v0:Value} (h:w.cell? a0=some v0) (hm:P.follows .mixedOrders=true) (k:w.drew.cell? a0=some v0→wpAnyH P .any ops Q (fun w'=>w'.cell? a0=some v0) ops.size (Array.replicate ops.size false) a w.drew):(Code.region id ops true).wp P Q a w:=wp_region_held_drew (S:=fun w'=>w'.cell? a0=some v0) hm h k
theorem pE {P:Program} {ops:Array Oper} {Q:Exit→Act→World→Prop} {id:Nat} {a:Act} {w:World} {a0 a1:Addr} {v0 v1:Value} (h:w.cell? a0=some v0∧w.cell? a1=some v1) (hm:P.follows .mixedOrders=true) (k:w.drew.cell? a0=some v0∧w.drew.cell? a1=some v1→wpAnyH P .any ops Q (fun w'=>w'.cell? a0=some v0∧w'.cell? a1=some v1) ops.size (Array.replicate ops.size false) a w.drew):(Code.region id ops true).wp P Q a w:=wp_region_held_drew (S:=fun w'=>w'.cell? a0=some v0∧w'.cell? a1=some v1) hm h k
theorem Cp {P:Program} {ops:Array Oper} {Q:Exit→Act→World→Prop} {id:Nat} {a:Act} {w:World} {a0 a1 a2:Addr} {v0 v1 v2:Value} (h:w.cell? a0=some v0∧w.cell? a1=some v1∧w.cell? a2=some v2) (hm:P.follows .mixedOrders=true) (k:w.drew.cell? a0=some v0∧w.drew.cell? a1=some v1∧w.drew.cell? a2=some v2→wpAnyH P .any ops Q (fun w'=>w'.cell? a0=some v0∧w'.cell? a1=some v1∧w'.cell? a2=some v2) ops.size (Array.replicate ops.size false) a w.drew):(Code.region id ops true).wp P Q a w:=wp_region_held_drew (S:=fun w'=>w'.cell? a0=some v0∧w'.cell? a1=some v1∧w'.cell? a2=some v2) hm h k
theorem Cz {P:Program} {ops:Array Oper} {Q:Exit→Act→World→Prop} {id:Nat} {a:Act} {w:World} {a0 a1 a2 a3:Addr} {v0 v1 v2 v3:Value} (h:w.cell? a0=some v0∧w.cell? a1=some v1∧w.cell? a2=some v2∧w.cell? a3=some v3) (hm:P.follows .mixedOrders=true) (k:w.drew.cell? a0=some v0∧w.drew.cell? a1=some v1∧w.drew.cell? a2=some v2∧w.drew.cell? a3=some v3→wpAnyH P .any ops Q (fun w'=>w'.cell? a0=some v0∧w'.cell? a1=some v1∧w'.cell? a2=some v2∧w'.cell? a3=some v3) ops.size (Array.replicate ops.size false) a w.drew):(Code.region id ops true).wp P Q a w:=wp_region_held_drew (S:=fun w'=>w'.cell? a0=some v0∧w'.cell? a1=some v1∧w'.cell? a2=some v2∧w'.cell? a3=some v3) hm h k
theorem Ba {P:Program} {ops:Array Oper} {Q:Exit→Act→World→Prop} {id:Nat} {a:Act} {w:World} {a0 a1 a2 a3 a4:Addr} {v0 v1 v2 v3 v4:Value} (h:w.cell? a0=some v0∧w.cell? a1=some v1∧w.cell? a2=some v2∧w.cell? a3=some v3∧w.cell? a4=some v4) (hm:P.follows .mixedOrders=true) (k:w.drew.cell? a0=some v0∧w.drew.cell? a1=some v1∧w.drew.cell? a2=some v2∧w.drew.cell? a3=some v3∧w.drew.cell? a4=some v4→wpAnyH P .any ops Q (fun w'=>w'.cell? a0=some v0∧w'.cell? a1=some v1∧w'.cell? a2=some v2∧w'.cell? a3=some v3∧w'.cell? a4=some v4) ops.size (Array.replicate ops.size false) a w.drew):(Code.region id ops true).wp P Q a w:=wp_region_held_drew (S:=fun w'=>w'.cell? a0=some v0∧w'.cell? a1=some v1∧w'.cell? a2=some v2∧w'.cell? a3=some v3∧w'.cell? a4=some v4) hm h k
theorem Bb {P:Program} {ops:Array Oper} {Q:Exit→Act→World→Prop} {id:Nat} {a:Act} {w:World} {a0 a1 a2 a3 a4 a5:Addr} {v0 v1 v2 v3 v4 v5:Value} (h:w.cell? a0=some v0∧w.cell? a1=some v1∧w.cell? a2=some v2∧w.cell? a3=some v3∧w.cell? a4=some v4∧w.cell? a5=some v5) (hm:P.follows .mixedOrders=true) (k:w.drew.cell? a0=some v0∧w.drew.cell? a1=some v1∧w.drew.cell? a2=some v2∧w.drew.cell? a3=some v3∧w.drew.cell? a4=some v4∧w.drew.cell? a5=some v5→wpAnyH P .any ops Q (fun w'=>w'.cell? a0=some v0∧w'.cell? a1=some v1∧w'.cell? a2=some v2∧w'.cell? a3=some v3∧w'.cell? a4=some v4∧w'.cell? a5=some v5) ops.size (Array.replicate ops.size false) a w.drew):(Code.region id ops true).wp P Q a w:=wp_region_held_drew (S:=fun w'=>w'.cell? a0=some v0∧w'.cell? a1=some v1∧w'.cell? a2=some v2∧w'.cell? a3=some v3∧w'.cell? a4=some v4∧w'.cell? a5=some v5) hm h k
theorem Cr {P:Program} {ops:Array Oper} {Q:Exit→Act→World→Prop} {id:Nat} {a:Act} {w:World} {a0 a1 a2 a3 a4 a5 a6:Addr} {v0 v1 v2 v3 v4 v5 v6:Value} (h:w.cell? a0=some v0∧w.cell? a1=some v1∧w.cell? a2=some v2∧w.cell? a3=some v3∧w.cell? a4=some v4∧w.cell? a5=some v5∧w.cell? a6=some v6) (hm:P.follows .mixedOrders=true) (k:w.drew.cell? a0=some v0∧w.drew.cell? a1=some v1∧w.drew.cell? a2=some v2∧w.drew.cell? a3=some v3∧w.drew.cell? a4=some v4∧w.drew.cell? a5=some v5∧w.drew.cell? a6=some v6→wpAnyH P .any ops Q (fun w'=>w'.cell? a0=some v0∧w'.cell? a1=some v1∧w'.cell? a2=some v2∧w'.cell? a3=some v3∧w'.cell? a4=some v4∧w'.cell? a5=some v5∧w'.cell? a6=some v6) ops.size (Array.replicate ops.size false) a w.drew):(Code.region id ops true).wp P Q a w:=wp_region_held_drew (S:=fun w'=>w'.cell? a0=some v0∧w'.cell? a1=some v1∧w'.cell? a2=some v2∧w'.cell? a3=some v3∧w'.cell? a4=some v4∧w'.cell? a5=some v5∧w'.cell? a6=some v6) hm h k
theorem Bn {P:Program} {ops:Array Oper} {Q:Exit→Act→World→Prop} {id:Nat} {a:Act} {w:World} {a0 a1 a2 a3 a4 a5 a6 a7:Addr} {v0 v1 v2 v3 v4 v5 v6 v7:Value} (h:w.cell? a0=some v0∧w.cell? a1=some v1∧w.cell? a2=some v2∧w.cell? a3=some v3∧w.cell? a4=some v4∧w.cell? a5=some v5∧w.cell? a6=some v6∧w.cell? a7=some v7) (hm:P.follows .mixedOrders=true) (k:w.drew.cell? a0=some v0∧w.drew.cell? a1=some v1∧w.drew.cell? a2=some v2∧w.drew.cell? a3=some v3∧w.drew.cell? a4=some v4∧w.drew.cell? a5=some v5∧w.drew.cell? a6=some v6∧w.drew.cell? a7=some v7→wpAnyH P .any ops Q (fun w'=>w'.cell? a0=some v0∧w'.cell? a1=some v1∧w'.cell? a2=some v2∧w'.cell? a3=some v3∧w'.cell? a4=some v4∧w'.cell? a5=some v5∧w'.cell? a6=some v6∧w'.cell? a7=some v7) ops.size (Array.replicate ops.size false) a w.drew):(Code.region id ops true).wp P Q a w:=wp_region_held_drew (S:=fun w'=>w'.cell? a0=some v0∧w'.cell? a1=some v1∧w'.cell? a2=some v2∧w'.cell? a3=some v3∧w'.cell? a4=some v4∧w'.cell? a5=some v5∧w'.cell? a6=some v6∧w'.cell? a7=some v7) hm h k
theorem BJ {P:Program} {ops:Array Oper} {Q:Exit→Act→World→Prop} {id:Nat} {a:Act} {w:World} {a0 a1 a2 a3 a4 a5 a6 a7 a8 a9:Addr} {v0 v1 v2 v3 v4 v5 v6 v7 v8 v9:Value} (h:w.cell? a0=some v0∧w.cell? a1=some v1∧w.cell? a2=some v2∧w.cell? a3=some v3∧w.cell? a4=some v4∧w.cell? a5=some v5∧w.cell? a6=some v6∧w.cell? a7=some v7∧w.cell? a8=some v8∧w.cell? a9=some v9) (hm:P.follows .mixedOrders=true) (k:w.drew.cell? a0=some v0∧w.drew.cell? a1=some v1∧w.drew.cell? a2=some v2∧w.drew.cell? a3=some v3∧w.drew.cell? a4=some v4∧w.drew.cell? a5=some v5∧w.drew.cell? a6=some v6∧w.drew.cell? a7=some v7∧w.drew.cell? a8=some v8∧w.drew.cell? a9=some v9→wpAnyH P .any ops Q (fun w'=>w'.cell? a0=some v0∧w'.cell? a1=some v1∧w'.cell? a2=some v2∧w'.cell? a3=some v3∧w'.cell? a4=some v4∧w'.cell? a5=some v5∧w'.cell? a6=some v6∧w'.cell? a7=some v7∧w'.cell? a8=some v8∧w'.cell? a9=some v9) ops.size (Array.replicate ops.size false) a w.drew):(Code.region id ops true).wp P Q a w:=wp_region_held_drew (S:=fun w'=>w'.cell? a0=some v0∧w'.cell? a1=some v1∧w'.cell? a2=some v2∧w'.cell? a3=some v3∧w'.cell? a4=some v4∧w'.cell? a5=some v5∧w'.cell? a6=some v6∧w'.cell? a7=some v7∧w'.cell? a8=some v8∧w'.cell? a9=some v9) hm h k
theorem ju {P:Program} {ops:Array Oper} {Q:Exit→Act→World→Prop} {id:Nat} {a:Act} {w:World} {a0 a1 a2 a3 a4 a5 a6 a7 a8 a9 a10:Addr} {v0 v1 v2 v3 v4 v5 v6 v7 v8 v9 v10:Value} (h:w.cell? a0=some v0∧w.cell? a1=some v1∧w.cell? a2=some v2∧w.cell? a3=some v3∧w.cell? a4=some v4∧w.cell? a5=some v5∧w.cell? a6=some v6∧w.cell? a7=some v7∧w.cell? a8=some v8∧w.cell? a9=some v9∧w.cell? a10=some v10) (hm:P.follows .mixedOrders=true) (k:w.drew.cell? a0=some v0∧w.drew.cell? a1=some v1∧w.drew.cell? a2=some v2∧w.drew.cell? a3=some v3∧w.drew.cell? a4=some v4∧w.drew.cell? a5=some v5∧w.drew.cell? a6=some v6∧w.drew.cell? a7=some v7∧w.drew.cell? a8=some v8∧w.drew.cell? a9=some v9∧w.drew.cell? a10=some v10→wpAnyH P .any ops Q (fun w'=>w'.cell? a0=some v0∧w'.cell? a1=some v1∧w'.cell? a2=some v2∧w'.cell? a3=some v3∧w'.cell? a4=some v4∧w'.cell? a5=some v5∧w'.cell? a6=some v6∧w'.cell? a7=some v7∧w'.cell? a8=some v8∧w'.cell? a9=some v9∧w'.cell? a10=some v10) ops.size (Array.replicate ops.size false) a w.drew):(Code.region id ops true).wp P Q a w:=wp_region_held_drew (S:=fun w'=>w'.cell? a0=some v0∧w'.cell? a1=some v1∧w'.cell? a2=some v2∧w'.cell? a3=some v3∧w'.cell? a4=some v4∧w'.cell? a5=some v5∧w'.cell? a6=some v6∧w'.cell? a7=some v7∧w'.cell? a8=some v8∧w'.cell? a9=some v9∧w'.cell? a10=some v10) hm h k
theorem AX {P:Program} {ops:Array Oper} {Q:Exit→Act→World→Prop} {id:Nat} {a:Act} {w:World} {a0 a1 a2 a3 a4 a5 a6 a7 a8 a9 a10 a11:Addr} {v0 v1 v2 v3 v4 v5 v6 v7 v8 v9 v10 v11:Value} (h:w.cell? a0=some v0∧w.cell? a1=some v1∧w.cell? a2=some v2∧w.cell? a3=some v3∧w.cell? a4=some v4∧w.cell? a5=some v5∧w.cell? a6=some v6∧w.cell? a7=some v7∧w.cell? a8=some v8∧w.cell? a9=some v9∧w.cell? a10=some v10∧w.cell? a11=some v11) (hm:P.follows .mixedOrders=true) (k:w.drew.cell? a0=some v0∧w.drew.cell? a1=some v1∧w.drew.cell? a2=some v2∧w.drew.cell? a3=some v3∧w.drew.cell? a4=some v4∧w.drew.cell? a5=some v5∧w.drew.cell? a6=some v6∧w.drew.cell? a7=some v7∧w.drew.cell? a8=some v8∧w.drew.cell? a9=some v9∧w.drew.cell? a10=some v10∧w.drew.cell? a11=some v11→wpAnyH P .any ops Q (fun w'=>w'.cell? a0=some v0∧w'.cell? a1=some v1∧w'.cell? a2=some v2∧w'.cell? a3=some v3∧w'.cell? a4=some v4∧w'.cell? a5=some v5∧w'.cell? a6=some v6∧w'.cell? a7=some v7∧w'.cell? a8=some v8∧w'.cell? a9=some v9∧w'.cell? a10=some v10∧w'.cell? a11=some v11) ops.size (Array.replicate ops.size false) a w.drew):(Code.region id ops true).wp P Q a w:=wp_region_held_drew (S:=fun w'=>w'.cell? a0=some v0∧w'.cell? a1=some v1∧w'.cell? a2=some v2∧w'.cell? a3=some v3∧w'.cell? a4=some v4∧w'.cell? a5=some v5∧w'.cell? a6=some v6∧w'.cell? a7=some v7∧w'.cell? a8=some v8∧w'.cell? a9=some v9∧w'.cell? a10=some v10∧w'.cell? a11=some v11) hm h k
theorem AL {P:Program} {ops:Array Oper} {Q:Exit→Act→World→Prop} {id:Nat} {a:Act} {w:World} {a0 a1 a2 a3 a4 a5 a6 a7 a8 a9 a10 a11 a12:Addr} {v0 v1 v2 v3 v4 v5 v6 v7 v8 v9 v10 v11 v12:Value} (h:w.cell? a0=some v0∧w.cell? a1=some v1∧w.cell? a2=some v2∧w.cell? a3=some v3∧w.cell? a4=some v4∧w.cell? a5=some v5∧w.cell? a6=some v6∧w.cell? a7=some v7∧w.cell? a8=some v8∧w.cell? a9=some v9∧w.cell? a10=some v10∧w.cell? a11=some v11∧w.cell? a12=some v12) (hm:P.follows .mixedOrders=true) (k:w.drew.cell? a0=some v0∧w.drew.cell? a1=some v1∧w.drew.cell? a2=some v2∧w.drew.cell? a3=some v3∧w.drew.cell? a4=some v4∧w.drew.cell? a5=some v5∧w.drew.cell? a6=some v6∧w.drew.cell? a7=some v7∧w.drew.cell? a8=some v8∧w.drew.cell? a9=some v9∧w.drew.cell? a10=some v10∧w.drew.cell? a11=some v11∧w.drew.cell? a12=some v12→wpAnyH P .any ops Q (fun w'=>w'.cell? a0=some v0∧w'.cell? a1=some v1∧w'.cell? a2=some v2∧w'.cell? a3=some v3∧w'.cell? a4=some v4∧w'.cell? a5=some v5∧w'.cell? a6=some v6∧w'.cell? a7=some v7∧w'.cell? a8=some v8∧w'.cell? a9=some v9∧w'.cell? a10=some v10∧w'.cell? a11=some v11∧w'.cell? a12=some v12) ops.size (Array.replicate ops.size false) a w.drew):(Code.region id ops true).wp P Q a w:=wp_region_held_drew (S:=fun w'=>w'.cell? a0=some v0∧w'.cell? a1=some v1∧w'.cell? a2=some v2∧w'.cell? a3=some v3∧w'.cell? a4=some v4∧w'.cell? a5=some v5∧w'.cell? a6=some v6∧w'.cell? a7=some v7∧w'.cell? a8=some v8∧w'.cell? a9=some v9∧w'.cell? a10=some v10∧w'.cell? a11=some v11∧w'.cell? a12=some v12) hm h k
theorem Cf {P:Program} {ops:Array Oper} {Q:Exit→Act→World→Prop} {id:Nat} {a:Act} {w:World} {a0 a1 a2 a3 a4 a5 a6 a7 a8 a9 a10 a11 a12 a13 a14 a15:Addr} {v0 v1 v2 v3 v4 v5 v6 v7 v8 v9 v10 v11 v12 v13 v14 v15:Value} (h:w.cell? a0=some v0∧w.cell? a1=some v1∧w.cell? a2=some v2∧w.cell? a3=some v3∧w.cell? a4=some v4∧w.cell? a5=some v5∧w.cell? a6=some v6∧w.cell? a7=some v7∧w.cell? a8=some v8∧w.cell? a9=some v9∧w.cell? a10=some v10∧w.cell? a11=some v11∧w.cell? a12=some v12∧w.cell? a13=some v13∧w.cell? a14=some v14∧w.cell? a15=some v15) (hm:P.follows .mixedOrders=true) (k:w.drew.cell? a0=some v0∧w.drew.cell? a1=some v1∧w.drew.cell? a2=some v2∧w.drew.cell? a3=some v3∧w.drew.cell? a4=some v4∧w.drew.cell? a5=some v5∧w.drew.cell? a6=some v6∧w.drew.cell? a7=some v7∧w.drew.cell? a8=some v8∧w.drew.cell? a9=some v9∧w.drew.cell? a10=some v10∧w.drew.cell? a11=some v11∧w.drew.cell? a12=some v12∧w.drew.cell? a13=some v13∧w.drew.cell? a14=some v14∧w.drew.cell? a15=some v15→wpAnyH P .any ops Q (fun w'=>w'.cell? a0=some v0∧w'.cell? a1=some v1∧w'.cell? a2=some v2∧w'.cell? a3=some v3∧w'.cell? a4=some v4∧w'.cell? a5=some v5∧w'.cell? a6=some v6∧w'.cell? a7=some v7∧w'.cell? a8=some v8∧w'.cell? a9=some v9∧w'.cell? a10=some v10∧w'.cell? a11=some v11∧w'.cell? a12=some v12∧w'.cell? a13=some v13∧w'.cell? a14=some v14∧w'.cell? a15=some v15) ops.size (Array.replicate ops.size false) a w.drew):(Code.region id ops true).wp P Q a w:=wp_region_held_drew (S:=fun w'=>w'.cell? a0=some v0∧w'.cell? a1=some v1∧w'.cell? a2=some v2∧w'.cell? a3=some v3∧w'.cell? a4=some v4∧w'.cell? a5=some v5∧w'.cell? a6=some v6∧w'.cell? a7=some v7∧w'.cell? a8=some v8∧w'.cell? a9=some v9∧w'.cell? a10=some v10∧w'.cell? a11=some v11∧w'.cell? a12=some v12∧w'.cell? a13=some v13∧w'.cell? a14=some v14∧w'.cell? a15=some v15) hm h k
section
variable {P:Program} {md:Region.Mode} {ops:Array Oper} {Q:Exit→Act→World→Prop} {S:World→Prop} {fuel:Nat} {listed:Array Bool} {a:Act} {w:World}
theorem rN:AllReadyH P md ops Q S fuel listed a w []:=AllReadyH.nil
theorem rK {i:Nat} {rs:List Nat} (d:Option Nat) {x1 x2 x3 x4 x5} (ho:ops[i]? =some ⟨d,x1,x2,x3,x4,x5⟩)
 (h:∀K':Act→World→Prop,Shut (∀a w,S w→(S w→wpAnyH P md ops Q S fuel (listed.setIfInBounds i true) a w)→K' a w)→if Region.wanted ⟨d,x1,x2,x3,x4,x5⟩ (yielded ops a.tmps)=true then Oper.wp P ⟨d,x1,x2,x3,x4,x5⟩ a w K' Q else K' (a.put d undef) w)
 (hs:AllReadyH P md ops Q S fuel listed a w rs):AllReadyH P md ops Q S fuel listed a w (i::rs):=AllReadyH.cons ho h hs
theorem wR (i:Nat) (rs:List Nat) (hr:Region.ready md ops listed=i::rs) (h:AllReadyH P md ops Q S fuel listed a w (i::rs)):wpAnyH P md ops Q S (fuel+1) listed a w:=wpAnyH_ready hr (by simp) h
theorem wQ (i:Nat) (d:Option Nat) {x1 x2 x3 x4 x5} (ho:ops[i]? =some ⟨d,x1,x2,x3,x4,x5⟩)
 (h:∀K':Act→World→Prop,Shut (∀a w,S w→(S w→wpAnyH P md ops Q S fuel (listed.setIfInBounds i true) a w)→K' a w)→if Region.wanted ⟨d,x1,x2,x3,x4,x5⟩ (yielded ops a.tmps)=true then Oper.wp P ⟨d,x1,x2,x3,x4,x5⟩ a w K' Q else K' (a.put d undef) w)
 (hr:Region.ready md ops listed=[i]):wpAnyH P md ops Q S (fuel+1) listed a w:=wR i [] hr (rK d ho h rN)
theorem wD (hr:Region.ready md ops listed=[]) (h:Q .normal a w):wpAnyH P md ops Q S fuel listed a w:=wpAnyH_done hr h _
end
structure Lk (P:Program) (α:Type) where
 S:TypeId
 E:TypeId
 n:Nat
 zero:Value
 bytes:Nat
 cells:α→List Value
 dflt:α
 ok:α→Prop
 und:P.underlying S=some (.slice E)
 info:(P.info? E).map (fun i=>(i.zero,i.size,i.bytes))=some (some zero,n,bytes)
 zs:zero.cells.size=n
 pos:0<n
 small:bytes≤100000
 len:∀x,(cells x).length=n
 one:∀x,∀u∈cells x,u.oneCell'=true
namespace Lk
variable {P:Program} {α:Type} (K:Lk P α)
def flat (xs:List α):List Value:=xs.flatMap K.cells
theorem flat_len (xs:List α):(K.flat xs).length=xs.length*K.n:=by
 induction xs with
 |nil=>simp[flat]
 |cons x r ih=>
  show(K.cells x++K.flat r).length=_;rw[List.length_append,ih,K.len,List.length_cons,Nat.succ_mul,Nat.add_comm]
theorem flat_append (xs ys:List α):K.flat (xs++ys)=K.flat xs++K.flat ys:=List.flatMap_append
theorem flat_at (xs:List α) (i j:Nat) (h:i<xs.length) (hj:j<K.n):(K.flat xs)[i*K.n+j]? =(K.cells (xs.getD i K.dflt))[j]?:=by
 induction xs generalizing i with
 |nil=>simp at h
 |cons x r ih=>
  show(K.cells x++K.flat r)[i*K.n+j]? =_
  cases i with
  |zero=>rw[Nat.zero_mul,Nat.zero_add,List.getElem?_append_left (by rw[K.len];exact hj)];rfl
  |succ k=>
   rw[List.getElem?_append_right (by rw[K.len,Nat.succ_mul];omega),K.len];rw[show(k+1)*K.n+j-K.n=k*K.n+j by rw[Nat.succ_mul];omega];exact ih k (by simpa using h)
theorem flat_one (xs:List α):∀u∈K.flat xs,u.oneCell'=true:=by
 intro u hu;obtain⟨x,_,hx⟩:=List.mem_flatMap.1 hu;exact K.one x u hx
def IsL (w:World) (B:Nat) (v:Value) (xs:List α):Prop:=
 (∃A cap,v=.slice A xs.length cap∧xs.length≤cap∧(0<xs.length→∃b off,A=some ⟨b,off,none⟩∧b<B∧
   ∀i,i<xs.length→∀j u,(K.cells (xs.getD i K.dflt))[j]? =some u→w.cell? ⟨b,off+(i*K.n+j),none⟩=some u))∧
  (∀x∈xs,K.ok x)∧xs.length≤9223372036854775807
variable {K}
theorem IsL.below {w w':World} {B:Nat} {v:Value} {xs:List α} (h:K.IsL w B v xs) (hb:Below B w w'):K.IsL w' B v xs:=by
 obtain⟨⟨A,cap,rfl,hc,hA⟩,hf,hl⟩:=h;refine⟨⟨A,cap,rfl,hc,fun h0=>?_⟩,hf,hl⟩;obtain⟨b,off,rfl,hbB,CD⟩:=hA h0;exact⟨b,off,rfl,hbB,fun i hi j u hu=>(hb.cell (p:=⟨b,off+(i*K.n+j),none⟩) hbB).trans (CD i hi j u hu)⟩
theorem IsL.more {w:World} {B B':Nat} {v:Value} {xs:List α} (h:K.IsL w B v xs) (hB:B≤B'):K.IsL w B' v xs:=by
 obtain⟨⟨A,cap,rfl,hc,hA⟩,hf,hl⟩:=h;refine⟨⟨A,cap,rfl,hc,fun h0=>?_⟩,hf,hl⟩;obtain⟨b,off,rfl,hbB,CD⟩:=hA h0;exact⟨b,off,rfl,by omega,CD⟩
theorem IsL.drewN {w:World} {B:Nat} {v:Value} {xs:List α} (h:K.IsL w B v xs) (d:Nat):K.IsL (w.drewN d) B v xs:=h
theorem IsL.nil (w:World) (B:Nat) (A:Option Addr) (cap:Nat):K.IsL w B (.slice A 0 cap) []:=
 ⟨⟨A,cap,rfl,Nat.zero_le _,fun h=>absurd h (by simp)⟩,fun x hx=>by simp at hx,by simp⟩
theorem IsL.then {w w':World} {v:Value} {xs:List α} (h:K.IsL w w.heap.size v xs) (hb:Below w.heap.size w w'):K.IsL w' w'.heap.size v xs:=(h.below hb).more hb.size
variable (K)
def Own (w:World) (base:Nat) (v:Value) (xs:List α):Prop:=w.ownsRow base K.E K.n v xs.length (K.flat xs)∧∀x∈xs,K.ok x
variable {K}
theorem Own.isL {w:World} {base:Nat} {v:Value} {xs:List α} (h:K.Own w base v xs) (hl:xs.length≤9223372036854775807):K.IsL w w.heap.size v xs:=by
 obtain⟨h,hf⟩:=h;rcases h.2 with ⟨rfl,h0⟩|⟨g,cap,cur,rfl,hb,hg,hnc,_⟩
 ·obtain rfl:xs=[]:=List.eq_nil_of_length_eq_zero h0;exact IsL.nil _ _ _ _
 ·refine⟨⟨_,cap,rfl,hnc,fun h0=>⟨g,0,rfl,(Array.getElem?_eq_some_iff.1 hg).1,fun i hi j u hu=>?_⟩⟩,hf,hl⟩;have hj:j<K.n:=by
   have:=(List.getElem?_eq_some_iff.1 hu).1;rw[K.len]at this;exact this
  have Im:i*K.n+j<xs.length*K.n:=by
   have:(i+1)*K.n≤xs.length*K.n:=Nat.mul_le_mul_right _ hi;rw[Nat.succ_mul]at this;omega
  rw[Nat.zero_add,h.cellAt (i*K.n+j) Im,K.flat_at xs i j hi hj,hu]
theorem Own.nil (w:World) (base:Nat):K.Own w base (.slice none 0 0) []:=⟨World.ownsRow_nil _ _ _ _,fun x hx=>by simp at hx⟩
theorem Own.alloc {w:World} {base:Nat} {v:Value} {xs:List α} (h:K.Own w base v xs) (o:Obj):K.Own (w.alloc o) base v xs:=⟨h.1.alloc o,h.2⟩
theorem Own.drewN {w:World} {base:Nat} {v:Value} {xs:List α} (h:K.Own w base v xs) (d:Nat):K.Own (w.drewN d) base v xs:=h
theorem Own.drew {w:World} {base:Nat} {v:Value} {xs:List α} (h:K.Own w base v xs):K.Own w.drew base v xs:=h
theorem Own.mono {w:World} {base base':Nat} {v:Value} {xs:List α} (h:K.Own w base v xs) (hb:base'≤base):K.Own w base' v xs:=⟨h.1.mono hb,h.2⟩
theorem Own.kept {w w':World} {row:Option Nat} {base:Nat} {v:Value} {xs:List α} (h:K.Own w base v xs) (hg:w.grownBy w' row) (CJ:v.ownBlock=none∨v.ownBlock≠row):K.Own w' base v xs:=⟨h.1.kept hg CJ,h.2⟩
theorem Own.lt {w:World} {base:Nat} {v:Value} {xs:List α} (h:K.Own w base v xs):∀k,v.ownBlock=some k→base≤k∧k<w.heap.size:=h.1.lt
theorem Own.below {w w':World} {base:Nat} {v:Value} {xs:List α} (h:K.Own w base v xs) (hb:Below w.heap.size w w'):K.Own w' base v xs:=by
 obtain⟨⟨h1,h2⟩,hf⟩:=h;refine⟨⟨h1,?_⟩,hf⟩;rcases h2 with hn|⟨g,cap,cur,rfl,CM,hg,rest⟩
 ·exact .inl hn
 ·exact .inr ⟨g,cap,cur,rfl,CM,(hb.block g (Array.getElem?_eq_some_iff.1 hg).1).trans hg,rest⟩
theorem Own.made (w:World) (base cap:Nat) (cur:Array Value) (hb:base≤w.heap.size) (hm:cap≤maxLen) (hs:cur.size=cap*K.n):K.Own (w.alloc (.cells cur K.E)) base (.slice (some ⟨w.heap.size,0,none⟩) 0 cap) []:=
 ⟨World.ownsRow_made w cur cap hb hm hs,fun x hx=>by simp at hx⟩
theorem Own.lit (w:World) (base:Nat) (x:α) (cs:Array Value) (hx:K.ok x) (JU:cs=(K.cells x).toArray) (hb:base≤w.heap.size):K.Own (w.alloc (.cells cs K.E)) base (.slice (some ⟨w.heap.size,0,none⟩) 1 1) [x]:=by
 subst JU;refine⟨?_,fun z hz=>?_⟩
 ·have q:=World.ownsRow_lit (base:=base) (e:=K.E) (size:=K.n) w (K.cells x).toArray 1 hb (by unfold maxLen;omega) (by simp[K.len]);simpa [flat]using q
 ·rw[List.mem_singleton]at hz;subst hz;exact hx
theorem IsL.lit (w:World) (x:α) (cs:Array Value) (hx:K.ok x) (JU:cs=(K.cells x).toArray) (H:Nat) (e:w.heap.size=H):K.IsL (w.alloc (.cells cs K.E)) (H+1) (.slice (some ⟨H,0,none⟩) 1 1) [x]:=by
 subst e;have h:=(Own.lit w w.heap.size x cs hx JU (nR _)).isL (by simp);simpa using h
theorem cg (w:World) (base:Nat) (ty:TypeId) (v:Value) (xs:List α) (h:K.Own w base v xs) (c:Nat):(Builtin.append_ #[K.S,K.S] ty #[v,.slice none 0 c]).run P w=.ok v w:=by
 obtain⟨i0,hi,D9,DZ,hz2⟩:=info_parts K.info;rcases h.1.2 with ⟨rfl,_⟩|⟨g,cap,cur,rfl,_,_,hnc,_⟩
 ·simp[Builtin.append_,run_underlying K.und,sizeOf,typeInfo,hi,Builtin.lenOf,Builtin.firstCells]
 ·simp[Builtin.append_,run_underlying K.und,sizeOf,typeInfo,hi,Builtin.lenOf,Builtin.firstCells,hnc,storeCells]
theorem gY (w:World) (base B:Nat) (ty:TypeId) (v src:Value) (xs ys:List α) (h:K.Own w base v xs) (hs:K.IsL w B src ys) (hl:xs.length+ys.length≤1000000) (hb:base≤w.heap.size):
  ∃v' w',(Builtin.append_ #[K.S,K.S] ty #[v,src]).run P w=.ok v' w'∧K.Own w' base v' (xs++ys)∧w.grownBy w' v.ownBlock∧(v'.ownBlock=v.ownBlock∨v'.ownBlock=some w.heap.size):=by
 obtain⟨i0,hi,D9,DZ,hz2⟩:=info_parts K.info;obtain⟨⟨A,cap,rfl,hc,hA⟩,hf,Jy⟩:=hs;have Iq:∀x∈xs++ys,K.ok x:=fun x hx=>by
  rcases List.mem_append.1 hx with hx|hx
  ·exact h.2 x hx
  ·exact hf x hx
 have Jv:(xs.length+ys.length)*K.bytes≤140737488355328:=by
  have:=Nat.mul_le_mul hl K.small;omega
 by_cases h0:ys=[]
 ·subst h0
  match A with
  |none=>exact⟨v,w,cg w base ty v xs h cap,by simpa using h,World.grownBy.refl w _,.inl rfl⟩
  |some ad=>
   obtain⟨v',w',hrun,h2,h3,_,h5⟩:=run_append_own_at (P:=P) w base K.S ty K.E i0 K.zero K.n K.bytes K.und hi D9 DZ hz2 K.zs K.pos v xs.length (K.flat xs) h.1 ad 0 cap [] (by simp)
    (fun j u hu=>by simp at hu) (fun u hu=>by simp at hu) (by unfold maxLen;simp at hl;omega) (by simpa using Jv) hb
   exact⟨v',w',hrun,⟨by simpa using h2,Iq⟩,h3,h5⟩
 ·have Hs:0<ys.length:=by
   rcases Nat.eq_zero_or_pos ys.length with h|h
   ·exact absurd (List.eq_nil_of_length_eq_zero h) h0
   ·exact h
  obtain⟨b,off,rfl,hbB,CD⟩:=hA Hs;obtain⟨v',w',hrun,h2,h3,_,h5⟩:=run_append_own_at (P:=P) w base K.S ty K.E i0 K.zero K.n K.bytes K.und hi D9 DZ hz2 K.zs K.pos v xs.length (K.flat xs) h.1 ⟨b,off,none⟩ ys.length cap (K.flat ys) (K.flat_len ys)
   (fun j u hu=>by
    have hj:j<ys.length*K.n:=by
     have:=(List.getElem?_eq_some_iff.1 hu).1;rw[K.flat_len]at this;exact this
    have hn:=K.pos;have e:=Nat.div_add_mod j K.n;have hm:=Nat.mod_lt j hn;have JA:j/K.n<ys.length:=(Nat.div_lt_iff_lt_mul hn).2 hj;rw[Nat.mul_comm]at e;rw[←e,K.flat_at ys _ _ JA hm]at hu;have q:=CD (j/K.n) JA (j%K.n) u hu;rw[e]at q;rw[Go.WideShapes.add_plain];exact q) (K.flat_one ys) (by unfold maxLen;omega) Jv hb
  exact⟨v',w',hrun,⟨by rw[List.length_append,K.flat_append];exact h2,Iq⟩,h3,h5⟩
theorem wp_app {o:Oper} {a:Act} {R:Act→World→Prop} {Q:Exit→Act→World→Prop} (w:World) (s x:Operand) {T:TypeId} (hT:T=K.S)
  (ho:o.op=.call {callee:=.builtin .append,args:=#[s,x],argTypes:=#[T,T]}) (base B:Nat) (v src:Value) (xs ys:List α) (hs:a.eval s=v) (hx:a.eval x=src)
  (h:K.Own w base v xs) (hy:K.IsL w B src ys) (hl:xs.length+ys.length≤1000000) (hb:base≤w.heap.size)
  (hk:∀v' w',K.Own w' base v' (xs++ys)→w.grownBy w' v.ownBlock→(v'.ownBlock=v.ownBlock∨v'.ownBlock=some w.heap.size)→R (a.put o.dst v') w'):o.wp P a w R Q:=by
 subst hT;obtain⟨v',w',hrun,h2,h3,h4⟩:=gY w base B o.type v src xs ys h hy hl hb;unfold Oper.wp execOp;simp only[ho,resolve,invoke,builtin,Sem.run_bind,Sem.run_pure,Result.andThen_ok,List.map_toArray,List.map_cons,List.map_nil,hs,hx,hrun];exact hk v' w' h2 h3 h4
theorem wpList_app {ops:Array Oper} {rest:List Oper} {o:Oper} {a:Act} {Q:Exit→Act→World→Prop} (w:World) (hgd:o.guard=none) (s x:Operand) {T:TypeId} (hT:T=K.S)
  (ho:o.op=.call {callee:=.builtin .append,args:=#[s,x],argTypes:=#[T,T]}) (base B:Nat) (v src:Value) (xs ys:List α) (hs:a.eval s=v) (hx:a.eval x=src)
  (h:K.Own w base v xs) (hy:K.IsL w B src ys) (hl:xs.length+ys.length≤1000000) (hb:base≤w.heap.size)
  (hk:∀v' w',K.Own w' base v' (xs++ys)→w.grownBy w' v.ownBlock→(v'.ownBlock=v.ownBlock∨v'.ownBlock=some w.heap.size)→wpList P ops Q rest (a.put o.dst v') w'):wpList P ops Q (o::rest) a w:=
 wpList_plain hgd fun _ hK=>wp_app w s x hT ho base B v src xs ys hs hx h hy hl hb fun v' w' h2 h3 h4=>hK _ _ (hk v' w' h2 h3 h4)
theorem Own.grow' {S:Nat} {X W W':World} {v:Value} {xs:List α} (h:K.Own W S v xs) (hb:Below S X W) (hs:S≤W.heap.size) (hg:W.grownBy W' v.ownBlock):Below S X W':=hb.grown hg hs fun k hk=>(h.lt k hk).1
end Lk
open Go.RowKit
noncomputable def KI:Lk prog Int where
 S:=27
 E:=3
 n:=1
 zero:=.int .i64 0
 bytes:=8
 cells x:=[.int .i64 x]
 dflt:=0
 ok x:=ae x
 und:=underlying27
 info:=by kernel_rfl
 zs:=rfl
 pos:=by decide
 small:=by decide
 len _:=rfl
 one x u hu:=by rw[List.mem_singleton]at hu;subst hu;rfl
theorem KI.cells {w:World} {B:Nat} {v:Value} {xs:List Int} (h:KI.IsL w B v xs) (h0:0<xs.length):∃b off cap,v=.slice (some ⟨b,off,none⟩) xs.length cap∧xs.length≤cap∧b<B∧xs.length≤9223372036854775807∧
  (∀i,i<xs.length→w.cell? ⟨b,off+i,none⟩=some (.int .i64 (xs.getD i 0)))∧(∀i,i<xs.length→ae (xs.getD i 0)):=by
 obtain⟨⟨A,cap,rfl,hc,hA⟩,hf,hl⟩:=h;obtain⟨b,off,rfl,hb,CD⟩:=hA h0;refine⟨b,off,cap,rfl,hc,hb,hl,fun i hi=>?_,fun i hi=>hf _ (af xs i 0 hi)⟩;have:=CD i hi 0 (.int .i64 (xs.getD i 0)) rfl;simpa [KI]using this
theorem ah (w:World) (cs:Array Value) (t:TypeId) (o:Nat):(w.alloc (.cells cs t)).cell? ⟨w.heap.size,o,none⟩=cs[o]?:=by
 unfold World.cell?;rw[heap_alloc_new];rfl
theorem Lk.IsL.lits {P:Program} {α:Type} {K:Lk P α} (w:World) (xs:List α) (cs:Array Value) (hx:∀x∈xs,K.ok x) (JU:cs=(K.flat xs).toArray) (hl:xs.length≤9223372036854775807) (H:Nat) (e:w.heap.size=H):
  K.IsL (w.alloc (.cells cs K.E)) (H+1) (.slice (some ⟨H,0,none⟩) xs.length xs.length) xs:=by
 subst e;subst JU;refine⟨⟨_,_,rfl,nR _,fun _=>⟨_,_,rfl,Nat.lt_succ_self _,fun i hi j u hu=>?_⟩⟩,hx,hl⟩;have hj:j<K.n:=by
  have:=(List.getElem?_eq_some_iff.1 hu).1;rw[K.len]at this;exact this
 rw[Nat.zero_add,ah,List.getElem?_toArray,K.flat_at xs i j hi hj,hu]
def bX (p:Int→Bool):List Int→Int×Bool
 |[]=>(0,false)
 |x::r=>if p x then(x,true)else bX p r
theorem uz (p:Int→Bool) (xs:List Int) (k:Nat) (hk:k<xs.length) (hp:p (xs.getD k 0)=true) (h:∀j,j<k→p (xs.getD j 0)=false):bX p xs=(xs.getD k 0,true):=by
 induction xs generalizing k with
 |nil=>simp at hk
 |cons x r ih=>
  cases k with
  |zero=>simp only[List.getD_cons_zero]at hp⊢;simp[bX,hp]
  |succ k=>
   have h0:=h 0 (by omega);simp only[List.getD_cons_zero]at h0;simp only[List.getD_cons_succ]at hp⊢;have:=ih k (by simpa using hk) hp (fun j hj=>by have:=h (j+1) (by omega);simpa using this);simp[bX,h0,this]
theorem qj (p:Int→Bool) (xs:List Int) (h:∀j,j<xs.length→p (xs.getD j 0)=false):bX p xs=(0,false):=by
 induction xs with
 |nil=>rfl
 |cons x r ih=>
  have h0:=h 0 (by simp);simp only[List.getD_cons_zero]at h0;have:=ih (fun j hj=>by have:=h (j+1) (by simpa using hj);simpa using this);simp[bX,h0,this]
theorem cV (p:Int→Bool) (xs:List Int):(bX p xs).2=xs.any p:=by
 induction xs with
 |nil=>rfl
 |cons x r ih=>by_cases h:p x=true<;>simp[bX,h,ih]
abbrev Ck (x:Int×Bool):Value:=.tuple #[.int .i64 x.1,.bool x.2]
def tk (P:Program) (w:World) (k:Nat) (cap:Array Value) (xs:List Int) (p:Int→Bool):Prop:=
 ∀w',Below w.heap.size w w'→∀x∈xs,Calls P k (#[.int .i64 x]++cap) w' fun e w''=>e=.returned (.bool (p x))∧Below w'.heap.size w' w''
theorem eE (v:Value) (xs:List Int) (k:Nat) (cap:Array Value) (p:Int→Bool) (w:World) (hv:KI.IsL w w.heap.size v xs) (E9:∀args w,(callFunc k args).run prog w=.ok (.enter k args) w) (hp:tk prog w k cap xs p):Calls prog 177 #[v,.func (.func k) #[] cap] w fun e w'=>e=.returned (Ck (bX p xs))∧Below w.heap.size w w':=by
 have HV:=aH hv;have HP:=aH hp;obtain⟨⟨A,c,rfl,hc,_⟩,_,hl⟩:=hv;clear hp;go_enter func177,ntmps177;go_wp2
 go_loopw [10] (fun i wr=>∃k:Nat,i=.int .i64 k∧k≤xs.length∧(∀j,j<k→p (xs.getD j 0)=false)∧Below w.heap.size w wr) (fun i _=>xs.length-(intOf i).toNat)
 case atStart=>exact⟨0,rfl,Nat.zero_le _,fun j hj=>absurd hj (Nat.not_lt_zero _),bR _ _⟩
 case round=>
  obtain⟨i,rfl,hk,hkp,CP⟩:=hrel;have HB:=aH CP;have HK:=aH hkp;clear hkp CP;by_cases CI:i<xs.length
  ·obtain⟨b,off,cap',hs,_,hb,_,CD,_⟩:=KI.cells (HV.out.below HB.out) (by omega);simp only[Value.slice.injEq]at hs;obtain⟨rfl,_,rfl⟩:=hs;have e1:=CD i CI;clear CD;have HA:=aH (HP.out wr HB.out _ (af xs i 0 CI));obtain⟨x,hx⟩:∃x,xs.getD i 0=x:=⟨_,rfl⟩;rw[hx]at HA e1;have HX:=aH hx;clear hx;obtain⟨q,hq⟩:∃q,p x=q:=⟨_,rfl⟩;rw[hq]at HA;have HQ:=aH hq;clear hq;have Jm:b<wr.heap.size:=nL hb HB.out.size;go_wp2_with fail;refine HA.out.mono ?_;rintro e w2 ⟨rfl,CM⟩;have CL:=aH (bC HB.out CM);clear CM e1
   cases q
   ·go_wp2
    go_roundw
    case rel=>exact⟨i+1,ai (by omega),by omega,fun j hj=>by
     by_cases h:j=i
     ·subst h;rw[HX.out];exact HQ.out
     ·exact HK.out j (by omega),CL.out⟩
    case measure=>simp[intOf];omega
   ·go_wp2
    go_ret2
    refine⟨?_,CL.out⟩;rw[uz p xs i CI (by rw[HX.out];exact HQ.out) HK.out,HX.out];(try rfl)
  ·go_wp2
   go_ret2
   refine⟨?_,HB.out⟩;rw[qj p xs fun j hj=>HK.out j (by omega)];rfl
def gI (x:Int):Bool:=decide (1≤x)&&decide (x≤8)
theorem mQ (x:Int) (w:World):Calls prog 229 #[.int .i64 x] w fun e w'=>e=.returned (.bool (gI x))∧w=w':=by
 have e:gI x=(decide (1≤x)&&decide (x≤8)):=rfl;by_cases h:1≤x<;>by_cases h2:x≤8<;>simp[h,h2]at e<;>rw[e]<;>go_enter func229,ntmps229<;>go_wp2<;>go_ret<;>exact⟨rfl,rfl⟩
def ow (x:Int):Bool:=decide (x≠0)&& !gI x
theorem nc (x:Int) (w:World):Calls prog 252 #[.int .i64 x] w fun e w'=>e=.returned (.bool (ow x))∧w=w':=by
 have HA:=aH (fun w=>mQ x w);have e:ow x=(decide (x≠0)&& !gI x):=rfl;generalize gI x=q at *;generalize ow x=z at *;by_cases h:x=0
 ·rw[show decide (x≠0)=false from dF (by omega),Bool.false_and]at e;subst h;subst e;go_enter func252,ntmps252;go_wp2
  go_ret
  exact⟨rfl,rfl⟩
 ·rw[show decide (x≠0)=true from dT (by omega),Bool.true_and]at e;subst e;go_enter func252,ntmps252;go_wp2_with fail;refine(HA.out _).mono ?_;rintro e w2 ⟨rfl,rfl⟩;go_wp2
  go_ret
  exact⟨aj (by simp[h]),rfl⟩
def wG (o:List Int):Bool:=!o.any ow
theorem xL (v:Value) (o:List Int) (w:World) (hv:KI.IsL w w.heap.size v o):Calls prog 228 #[v] w fun e w'=>e=.returned (.bool (wG o))∧Below w.heap.size w w':=by
 have e:wG o= !(bX ow o).2:=by rw[cV];rfl
 have HF:=aH (eE v o 252 #[] ow w hv (enters_of func252 (by kernel_rfl) rfl) (fun w' _ x _=>(nc x w').mono fun _ _ q=>⟨q.1,by rw[←q.2];exact bR _ _⟩));clear hv;rw[e];generalize bX ow o=z at *;obtain⟨z1,z2⟩:=z;go_enter func228,ntmps228;go_wp2_with fail;refine HF.out.mono ?_;rintro e w2 ⟨rfl,hb⟩;go_wp2
 go_ret
 exact⟨rfl,hb⟩
def cW (n:Nat) (x:Int):Bool:=decide (0≤x)&&decide (x<n)
theorem xZ (A:Option Addr) (n c:Nat) (x:Int) (w:World):Calls prog 179 #[.slice A n c,.int .i64 x] w fun e w'=>e=.returned (.bool (cW n x))∧w=w':=by
 have e:cW n x=(decide (0≤x)&&decide (x<n)):=rfl;by_cases h:0≤x<;>by_cases h2:x<n<;>simp[h,h2]at e<;>rw[e]<;>go_enter func179,ntmps179<;>go_wp2<;>go_ret<;>exact⟨rfl,rfl⟩
theorem ny (x who:Int) (b:Nat) (w:World) (h:w.cell? ⟨b,0,none⟩=some (.int .i64 who)):Calls prog 227 #[.int .i64 x,.pointer (some ⟨b,0,none⟩)] w fun e w'=>e=.returned (.bool (decide (x=0)||decide (x=who)))∧w=w':=by
 by_cases h1:x=0<;>by_cases h2:x=who;all_goals
  simp only[h1,h2,decide_true,decide_false,Bool.or_false,Bool.or_true];go_enter func227,ntmps227;go_wp2
  go_ret
  exact⟨by simp_all,rfl⟩
theorem ry (x who:Int) (b:Nat) (w:World) (h:w.cell? ⟨b,0,none⟩=some (.int .i64 who)):Calls prog 182 #[.int .i64 x,.pointer (some ⟨b,0,none⟩)] w fun e w'=>e=.returned (.bool (decide (x=who)))∧w=w':=by
 go_enter func182,ntmps182;go_wp2
 go_ret
 exact⟨aj (by rw[Bool.eq_iff_iff];simp),rfl⟩
theorem qs (x:Int) (b:Nat) (A:Option Addr) (n c:Nat) (w:World) (h:w.cell? ⟨b,0,none⟩=some (.slice A n c)):Calls prog 230 #[.int .i64 x,.pointer (some ⟨b,0,none⟩)] w fun e w'=>e=.returned (.bool (!cW n x))∧w=w':=by
 have HA:=aH (fun w=>xZ A n c x w);generalize cW n x=q at *;go_enter func230,ntmps230;go_wp2_with fail;refine(HA.out _).mono ?_;rintro e w2 ⟨rfl,rfl⟩;go_wp2
 go_ret
 exact⟨rfl,rfl⟩
end Go.Proofs.YtmecohdedghiaaaGreatDoor
