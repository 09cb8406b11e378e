/- Sets looked at; a number put into a set. -/
import Derived.Test.YtmecohdedghiaaaGreatDoorPn00
import Derived.Maps.AppendAt
import Derived.Laws.OwnMore
import Derived.Deep.AppendLies
import Derived.Deep.Onto
import Derived.OwnWalk
import Derived.Deep.QuietTactic
import Derived.BigQuiet
import Derived.Deep.RegionHeld3
set_option maxRecDepth 100000
set_option maxHeartbeats 8000000
namespace Go.Proofs.YtmecohdedghiaaaGreatDoor.Two
open Go.RowKit
theorem snoc_ind {α:Type} {p:List α→Prop} (h0:p []) (h1:∀l c,p l→p (l++[c])) (l:List α):p l:=by
 suffices h:∀r:List α,p r.reverse by
  have:=h l.reverse
  rwa [List.reverse_reverse]at this
 intro r
 induction r with
 |nil=>exact h0
 |cons c r ih=>rw[List.reverse_cons];exact h1 _ _ ih
def IsL (w:World) (B:Nat) (v:Value) (xs:List Int):Prop:=
 (∃A cap,v=.slice A xs.length cap∧xs.length≤cap∧(0<xs.length→∃b off,A=some ⟨b,off,none⟩∧b<B∧∀i,i<xs.length→w.cell? ⟨b,off+i,none⟩=some (.int .i64 (xs.getD i 0))))∧
  (∀x∈xs,fits x)∧xs.length≤9223372036854775807
theorem IsL.below {w w':World} {B:Nat} {v:Value} {xs:List Int} (h:IsL w B v xs) (hb:Below B w w'):IsL w' B v xs:=by
 obtain⟨⟨A,cap,rfl,hc,hA⟩,hf,hl⟩:=h;refine⟨⟨A,cap,rfl,hc,fun h0=>?_⟩,hf,hl⟩;obtain⟨b,off,rfl,hbB,hcell⟩:=hA h0;exact⟨b,off,rfl,hbB,fun i hi=>(hb.cell (p:=⟨b,off+i,none⟩) hbB).trans (hcell i hi)⟩
theorem IsL.more {w:World} {B B':Nat} {v:Value} {xs:List Int} (h:IsL w B v xs) (hB:B≤B'):IsL w B' v xs:=by
 obtain⟨⟨A,cap,rfl,hc,hA⟩,hf,hl⟩:=h;refine⟨⟨A,cap,rfl,hc,fun h0=>?_⟩,hf,hl⟩;obtain⟨b,off,rfl,hbB,hcell⟩:=hA h0;exact⟨b,off,rfl,by omega,hcell⟩
theorem IsL.drewN {w:World} {B:Nat} {v:Value} {xs:List Int} (h:IsL w B v xs) (d:Nat):IsL (w.drewN d) B v xs:=h
theorem IsL.nil (w:World) (B:Nat) (A:Option Addr) (cap:Nat):IsL w B (.slice A 0 cap) []:=
 ⟨⟨A,cap,rfl,Nat.zero_le _,fun h=>absurd h (by simp)⟩,fun x hx=>by simp at hx,by simp⟩
theorem below_drewN {B:Nat} {a w:World} (h:Below B a w) (d:Nat):Below B a (w.drewN d):=⟨h.os,h.tape,h.output,h.size,h.block⟩
theorem getD_fits {xs:List Int} (h:∀x∈xs,fits x) (i:Nat):fits (xs.getD i 0):=by
 rw[List.getD_eq_getElem?_getD];by_cases hi:i<xs.length
 ·rw[List.getElem?_eq_getElem hi];exact h _ (List.getElem_mem hi)
 ·rw[List.getElem?_eq_none (by omega)];decide
def iv (x:Int):Value:=.int .i64 x
def Own (w:World) (base:Nat) (v:Value) (xs:List Int):Prop:=w.ownsRow base 3 1 v xs.length (xs.map iv)∧∀x∈xs,fits x
theorem int_info:(Tryz.prog.info? 3).map (fun i=>(i.zero,i.size,i.bytes))=some (some (.int .i64 0),1,8):=by kernel_rfl
theorem getD_map (xs:List Int) (i:Nat) (h:i<xs.length):(xs.map iv)[i]? =some (.int .i64 (xs.getD i 0)):=by
 rw[List.getElem?_map,List.getD_eq_getElem?_getD,List.getElem?_eq_getElem h];rfl
theorem Own.isL {w:World} {base:Nat} {v:Value} {xs:List Int} (h:Own w base v xs) (hl:xs.length≤9223372036854775807):IsL w w.heap.size v xs:=by
 obtain⟨h,hf⟩:=h;rcases h.2 with ⟨rfl,h0⟩|⟨g,cap,cur,rfl,hb,hg,hnc,_⟩
 ·obtain rfl:xs=[]:=List.eq_nil_of_length_eq_zero h0;exact IsL.nil _ _ _ _
 ·refine⟨⟨_,cap,rfl,hnc,fun h0=>⟨g,0,rfl,(Array.getElem?_eq_some_iff.1 hg).1,fun i hi=>?_⟩⟩,hf,hl⟩;rw[Nat.zero_add,h.cellAt i (by omega),getD_map xs i hi]
theorem Own.nil (w:World) (base:Nat):Own w base (.slice none 0 0) []:=⟨World.ownsRow_nil _ _ _ _,fun x hx=>by simp at hx⟩
theorem Own.alloc {w:World} {base:Nat} {v:Value} {xs:List Int} (h:Own w base v xs) (o:Obj):Own (w.alloc o) base v xs:=⟨h.1.alloc o,h.2⟩
theorem Own.drewN {w:World} {base:Nat} {v:Value} {xs:List Int} (h:Own w base v xs) (d:Nat):Own (w.drewN d) base v xs:=h
theorem Own.mono {w:World} {base base':Nat} {v:Value} {xs:List Int} (h:Own w base v xs) (hb:base'≤base):Own w base' v xs:=⟨h.1.mono hb,h.2⟩
theorem Own.kept {w w':World} {row:Option Nat} {base:Nat} {v:Value} {xs:List Int} (h:Own w base v xs) (hg:w.grownBy w' row) (hne:v.ownBlock=none∨v.ownBlock≠row):Own w' base v xs:=⟨h.1.kept hg hne,h.2⟩
theorem Own.lt {w:World} {base:Nat} {v:Value} {xs:List Int} (h:Own w base v xs):∀k,v.ownBlock=some k→base≤k∧k<w.heap.size:=h.1.lt
theorem Own.below {w w':World} {base:Nat} {v:Value} {xs:List Int} (h:Own w base v xs) (hb:Below w.heap.size w w'):Own w' base v xs:=by
 obtain⟨⟨h1,h2⟩,hf⟩:=h;refine⟨⟨h1,?_⟩,hf⟩;rcases h2 with hn|⟨g,cap,cur,rfl,hb2,hg,rest⟩
 ·exact .inl hn
 ·exact .inr ⟨g,cap,cur,rfl,hb2,(hb.block g (Array.getElem?_eq_some_iff.1 hg).1).trans hg,rest⟩
theorem Own.made (w:World) (base cap:Nat) (cur:Array Value) (hb:base≤w.heap.size) (hm:cap≤maxLen) (hs:cur.size=cap):Own (w.alloc (.cells cur 3)) base (.slice (some ⟨w.heap.size,0,none⟩) 0 cap) []:=
 ⟨World.ownsRow_made w cur cap hb hm (by omega),fun x hx=>by simp at hx⟩
theorem IsL.lit (w:World) (x:Int) (hx:fits x):IsL (w.alloc (.cells #[.int .i64 x] 3)) (w.heap.size+1) (.slice (some ⟨w.heap.size,0,none⟩) 1 1) [x]:=by
 refine⟨⟨_,1,rfl,by simp,fun _=>⟨w.heap.size,0,rfl,by omega,fun i hi=>?_⟩⟩,fun y hy=>by simp at hy;rw[hy];exact hx,by simp⟩;have:i=0:=by simpa using hi
 subst this;rw[cell_of_row _ w.heap.size _ _ _ (0,0) (heap_alloc_new w _)];rfl
theorem oneCell_iv (xs:List Int):∀u∈xs.map iv,u.oneCell'=true:=by
 intro u hu;obtain⟨x,_,rfl⟩:=List.mem_map.1 hu;rfl
theorem run_append_nothing (w:World) (base:Nat) (ty:TypeId) (v:Value) (xs:List Int) (h:Own w base v xs) (c:Nat):(Builtin.append_ #[27,27] ty #[v,.slice none 0 c]).run Tryz.prog w=.ok v w:=by
 obtain⟨i0,hi,hz0,hz1,hz2⟩:=info_parts int_info;rcases h.1.2 with ⟨rfl,_⟩|⟨g,cap,cur,rfl,_,_,hnc,_⟩
 ·simp[Builtin.append_,run_underlying Tryz.underlying27,sizeOf,typeInfo,hi,Builtin.lenOf,Builtin.firstCells]
 ·simp[Builtin.append_,run_underlying Tryz.underlying27,sizeOf,typeInfo,hi,Builtin.lenOf,Builtin.firstCells,hnc,storeCells]
theorem run_app (w:World) (base B:Nat) (ty:TypeId) (v src:Value) (xs ys:List Int) (h:Own w base v xs) (hs:IsL w B src ys) (hl:xs.length+ys.length≤1000000) (hb:base≤w.heap.size):
  ∃v' w',(Builtin.append_ #[27,27] ty #[v,src]).run Tryz.prog w=.ok v' w'∧Own w' base v' (xs++ys)∧w.grownBy w' v.ownBlock∧(v'.ownBlock=v.ownBlock∨v'.ownBlock=some w.heap.size):=by
 obtain⟨i0,hi,hz0,hz1,hz2⟩:=info_parts int_info;obtain⟨⟨A,cap,rfl,hc,hA⟩,hf,hll⟩:=hs;have hfa:∀x∈xs++ys,fits x:=fun x hx=>by
  rcases List.mem_append.1 hx with hx|hx
  ·exact h.2 x hx
  ·exact hf x hx
 by_cases h0:ys=[]
 ·subst h0
  match A with
  |none=>exact⟨v,w,run_append_nothing w base ty v xs h cap,by simpa using h,World.grownBy.refl w _,.inl rfl⟩
  |some ad=>
   obtain⟨v',w',hrun,h2,h3,_,h5⟩:=run_append_own_at (P:=Tryz.prog) w base 27 ty 3 i0 (.int .i64 0) 1 8 Tryz.underlying27 hi hz0 hz1 hz2 rfl (by decide) v xs.length (xs.map iv) h.1 ad 0 cap [] rfl
    (fun j u hu=>by simp at hu) (fun u hu=>by simp at hu) (by unfold maxLen;simp at hl;omega) (by simp at hl;omega) hb
   exact⟨v',w',hrun,⟨by simpa using h2,hfa⟩,h3,h5⟩
 ·have hpos:0<ys.length:=by
   rcases Nat.eq_zero_or_pos ys.length with h|h
   ·exact absurd (List.eq_nil_of_length_eq_zero h) h0
   ·exact h
  obtain⟨b,off,rfl,hbB,hcell⟩:=hA hpos;obtain⟨v',w',hrun,h2,h3,_,h5⟩:=run_append_own_at (P:=Tryz.prog) w base 27 ty 3 i0 (.int .i64 0) 1 8 Tryz.underlying27 hi hz0 hz1 hz2 rfl (by decide) v xs.length (xs.map iv) h.1 ⟨b,off,none⟩ ys.length cap (ys.map iv) (by simp)
   (fun j u hu=>by
    have hj:j<ys.length:=by
     have:=(List.getElem?_eq_some_iff.1 hu).1;simpa using this
    rw[getD_map ys j hj]at hu;rw[Go.WideShapes.add_plain,hcell j hj];exact hu) (oneCell_iv ys) (by unfold maxLen;omega) (by omega) hb
  exact⟨v',w',hrun,⟨by rw[List.length_append,List.map_append];exact h2,hfa⟩,h3,h5⟩
theorem wp_app {o:Oper} {a:Act} {K:Act→World→Prop} {Q:Exit→Act→World→Prop} (w:World) (s x:Operand)
  (ho:o.op=.call {callee:=.builtin .append,args:=#[s,x],argTypes:=#[27,27]}) (base B:Nat) (v src:Value) (xs ys:List Int) (hs:a.eval s=v) (hx:a.eval x=src)
  (h:Own w base v xs) (hy:IsL w B src ys) (hl:xs.length+ys.length≤1000000) (hb:base≤w.heap.size)
  (hk:∀v' w',Own w' base v' (xs++ys)→w.grownBy w' v.ownBlock→(v'.ownBlock=v.ownBlock∨v'.ownBlock=some w.heap.size)→K (a.put o.dst v') w'):o.wp Tryz.prog a w K Q:=by
 obtain⟨v',w',hrun,h2,h3,h4⟩:=run_app w base B o.type v src xs ys h hy hl hb;unfold Oper.wp execOp;simp only[ho,resolve,invoke,builtin,Sem.run_bind,Sem.run_pure,Result.andThen_ok,List.map_toArray,List.map_cons,List.map_nil,hs,hx,hrun];exact hk v' w' h2 h3 h4
theorem wpList_app {ops:Array Oper} {rest:List Oper} {o:Oper} {a:Act} {Q:Exit→Act→World→Prop} (w:World) (hgd:o.guard=none) (s x:Operand)
  (ho:o.op=.call {callee:=.builtin .append,args:=#[s,x],argTypes:=#[27,27]}) (base B:Nat) (v src:Value) (xs ys:List Int) (hs:a.eval s=v) (hx:a.eval x=src)
  (h:Own w base v xs) (hy:IsL w B src ys) (hl:xs.length+ys.length≤1000000) (hb:base≤w.heap.size)
  (hk:∀v' w',Own w' base v' (xs++ys)→w.grownBy w' v.ownBlock→(v'.ownBlock=v.ownBlock∨v'.ownBlock=some w.heap.size)→wpList Tryz.prog ops Q rest (a.put o.dst v') w'):wpList Tryz.prog ops Q (o::rest) a w:=
 wpList_plain hgd fun _ hK=>wp_app w s x ho base B v src xs ys hs hx h hy hl hb fun v' w' h2 h3 h4=>hK _ _ (hk v' w' h2 h3 h4)
def Inc (l:List Int):Prop:=l.Pairwise (· < ·)
instance (l:List Int):Decidable (Inc l):=inferInstanceAs (Decidable (List.Pairwise _ l))
def put:List Int→Int→List Int
 |[],n=>[n]
 |x::r,n=>if x<n then x::put r n else if x=n then x::r else n::x::r
def mk (l:List Int):List Int:=l.foldl put []
theorem inc_cons {x:Int} {r:List Int}:Inc (x::r)↔(∀y∈r,x<y)∧Inc r:=List.pairwise_cons
theorem inc_nil:Inc []:=List.Pairwise.nil
theorem inc_append {a b:List Int}:Inc (a++b)↔Inc a∧Inc b∧∀x∈a,∀y∈b,x<y:=List.pairwise_append
theorem inc_drop {a:List Int} (k:Nat) (h:Inc a):Inc (a.drop k):=List.Pairwise.sublist (List.drop_sublist k a) h
theorem inc_snoc {a:List Int} {x:Int} (h:Inc a) (hx:∀y∈a,y<x):Inc (a++[x]):=inc_append.2 ⟨h,List.pairwise_singleton _ _,fun y hy z hz=>by simp at hz;rw[hz];exact hx y hy⟩
theorem inc_ext:∀ {a b:List Int},Inc a→Inc b→(∀x,x∈a↔x∈b)→a=b
 |[],[],_,_,_=>rfl
 |[],y::s,_,_,h=>absurd ((h y).2 (by simp)) (by simp)
 |x::r,[],_,_,h=>absurd ((h x).1 (by simp)) (by simp)
 |x::r,y::s,ha,hb,h=>by
  obtain⟨h1,h2⟩:=inc_cons.1 ha;obtain⟨h3,h4⟩:=inc_cons.1 hb;have hxy:x=y:=by
   have e1:=(h x).1 (by simp);have e2:=(h y).2 (by simp);rcases List.mem_cons.1 e1 with e1|e1
   ·exact e1
   ·rcases List.mem_cons.1 e2 with e2|e2
    ·exact e2.symm
    ·have:=h1 y e2;have:=h3 x e1;omega
  subst hxy;rw[inc_ext h2 h4 (fun z=>?_)];constructor
  ·intro hz;rcases List.mem_cons.1 ((h z).1 (by simp[hz]))with e|e
   ·have:=h1 z hz;omega
   ·exact e
  ·intro hz;rcases List.mem_cons.1 ((h z).2 (by simp[hz]))with e|e
   ·have:=h3 z hz;omega
   ·exact e
theorem mem_put (s:List Int) (n x:Int):x∈put s n↔x∈s∨x=n:=by
 induction s with
 |nil=>simp[put]
 |cons y r ih=>
  rw[put]
  split
  ·rw[List.mem_cons,List.mem_cons,ih,or_assoc]
  ·split
   ·rename_i h;subst h;simp;intro h;exact Or.inl h
   ·rw[List.mem_cons,or_comm]
theorem inc_put {s:List Int} (n:Int) (h:Inc s):Inc (put s n):=by
 induction s with
 |nil=>exact List.pairwise_singleton _ _
 |cons y r ih=>
  obtain⟨h1,h2⟩:=inc_cons.1 h;rw[put]
  split
  ·rename_i hy
   refine inc_cons.2 ⟨fun z hz=>?_,ih h2⟩;rcases(mem_put r n z).1 hz with hz|hz
   ·exact h1 z hz
   ·omega
  ·split
   ·exact h
   ·refine inc_cons.2 ⟨fun z hz=>?_,h⟩;rcases List.mem_cons.1 hz with hz|hz
    ·omega
    ·have:=h1 z hz;omega
theorem foldl_put (l:List Int):∀s:List Int,Inc s→Inc (l.foldl put s)∧∀x,x∈l.foldl put s↔x∈s∨x∈l:=by
 induction l with
 |nil=>intro s h;exact⟨h,fun x=>by simp⟩
 |cons y r ih=>
  intro s h;obtain⟨h1,h2⟩:=ih (put s y) (inc_put y h);refine⟨h1,fun x=>?_⟩;rw[List.foldl_cons,h2,mem_put,List.mem_cons,or_assoc]
theorem inc_mk (l:List Int):Inc (mk l):=(foldl_put l [] inc_nil).1
theorem mem_mk (l:List Int) (x:Int):x∈mk l↔x∈l:=by rw[mk,(foldl_put l [] inc_nil).2];simp
theorem mk_inc {l:List Int} (h:Inc l):mk l=l:=inc_ext (inc_mk l) h (mem_mk l)
theorem mk_of {s l:List Int} (h:Inc s) (hm:∀x,x∈s↔x∈l):s=mk l:=inc_ext h (inc_mk l) fun x=>by rw[hm,mem_mk]
theorem mk_snoc (l:List Int) (x:Int):mk (l++[x])=put (mk l) x:=by rw[mk,List.foldl_append];rfl
theorem put_len_new (s:List Int) (n:Int) (h:n ∉ s):(put s n).length=s.length+1:=by
 induction s with
 |nil=>rfl
 |cons y r ih=>
  rw[put]
  split
  ·rw[List.length_cons,ih (fun hh=>h (by simp[hh])),List.length_cons]
  ·split
   ·rename_i hy;exact absurd hy.symm (fun e=>h (by simp[e]))
   ·rfl
theorem put_old {s:List Int} (hs:Inc s) (n:Int) (h:n∈s):put s n=s:=inc_ext (inc_put n hs) hs fun x=>by
 rw[mem_put];exact⟨fun k=>k.elim id (fun e=>e▸h),Or.inl⟩
theorem mk_len_snoc (l:List Int) (x:Int):(mk (l++[x])).length=(mk l).length+(if x∈l then 0 else 1):=by
 rw[mk_snoc];by_cases h:x∈l
 ·rw[put_old (inc_mk l) x ((mem_mk l x).2 h),if_pos h,Nat.add_zero]
 ·rw[put_len_new _ _ (fun k=>h ((mem_mk l x).1 k)),if_neg h]
theorem mk_len_le (l:List Int):(mk l).length≤l.length:=by
 refine snoc_ind (p:=fun l=>(mk l).length≤l.length) (nR _) ?_ l;intro l c ih;rw[mk_len_snoc,List.length_append,List.length_cons,List.length_nil]
 split<;>omega
def Tw (l:List Int) (t:Int):Prop:=
 (t= -1∧∀i,i<l.length→l.getD i 0 ∉ l.take i)∨(∃i:Nat,i<l.length∧t=i∧l.getD i 0∈l.take i∧∀j,j<i→l.getD j 0 ∉ l.take j)
theorem Tw.uniq {l:List Int} {t u:Int} (h:Tw l t) (k:Tw l u):t=u:=by
 rcases h with ⟨rfl,h⟩|⟨i,hi,rfl,h1,h2⟩<;>rcases k with ⟨rfl,k⟩|⟨j,hj,rfl,k1,k2⟩
 ·rfl
 ·exact absurd k1 (h j hj)
 ·exact absurd h1 (k i hi)
 ·rcases Nat.lt_trichotomy i j with hh|hh|hh
  ·exact absurd h1 (k2 i hh)
  ·rw[hh]
  ·exact absurd k1 (h2 j hh)
theorem mk_len_all (l:List Int):(mk l).length=l.length↔∀i,i<l.length→l.getD i 0 ∉ l.take i:=by
 refine snoc_ind (p:=fun l=>(mk l).length=l.length↔∀i,i<l.length→l.getD i 0 ∉ l.take i) ?_ ?_ l
 ·simp[mk]
 ·intro l c ih;have hle:=mk_len_le l;have hlast:(l++[c]).getD l.length 0=c:=by simp
  have htake:(l++[c]).take l.length=l:=by simp
  rw[mk_len_snoc,List.length_append,List.length_cons,List.length_nil];constructor
  ·intro h i hi;by_cases hc:c∈l
   ·rw[if_pos hc]at h;omega
   ·rw[if_neg hc]at h;by_cases hil:i<l.length
    ·have:=ih.1 (by omega) i hil;rw[List.take_append_of_le_length (by omega)];rw[List.getD_eq_getElem?_getD,List.getElem?_append_left hil,←List.getD_eq_getElem?_getD];exact this
    ·obtain rfl:i=l.length:=(by omega);rw[hlast,htake];exact hc
  ·intro h;have hc:c ∉ l:=by
    have:=h l.length (by omega)
    rwa [hlast,htake]at this
   have:=ih.2 (fun i hi=>by
    have:=h i (by omega);rw[List.take_append_of_le_length (by omega),List.getD_eq_getElem?_getD,List.getElem?_append_left hi,←List.getD_eq_getElem?_getD]at this;exact this)
   rw[if_neg hc];omega
theorem Tw.len {l:List Int} {t:Int} (h:Tw l t):decide ((mk l).length=l.length)=decide (t= -1):=by
 rw[decide_eq_decide,mk_len_all];rcases h with ⟨rfl,h⟩|⟨i,hi,rfl,h1,h2⟩
 ·exact⟨fun _=>rfl,fun _=>h⟩
 ·exact⟨fun k=>absurd h1 (k i hi),fun k=>by omega⟩
theorem takeS (l:List Int) (k:Nat) (h:k<l.length):l.take (k+1)=l.take k++[l.getD k 0]:=by
 rw[List.take_succ_eq_append_getElem h,List.getD_eq_getElem?_getD,List.getElem?_eq_getElem h];rfl
theorem dropS (l:List Int) (k:Nat) (h:k<l.length):l.drop k=l.getD k 0::l.drop (k+1):=by
 rw[List.drop_eq_getElem_cons h,List.getD_eq_getElem?_getD,List.getElem?_eq_getElem h];rfl
theorem inc_after {l:List Int} (k:Nat) (h:k<l.length) (hi:Inc l):∀y∈l.drop (k+1),l.getD k 0<y:=by
 have h2:=inc_drop k hi;rw[dropS l k h]at h2;exact(inc_cons.1 h2).1
structure OInv (a b:List Int) (k t:Nat) (all:List Int):Prop where
 inc:Inc all
 mem:∀x,x∈all↔x∈a.take k∨x∈b.take t
 crossA:∀x∈all,∀y∈a.drop k,x<y
 crossB:∀x∈all,∀y∈b.drop t,x<y
 len:all.length≤k+t
structure IInv (a b:List Int) (k:Nat) (n:Int) (t:Nat) (all:List Int):Prop where
 inc:Inc all
 low:∀x∈all,x<n
 mem:∀x,(x∈all∨x=n)↔(x∈a.take k∨x∈b.take t)∨x=n
 crossB:∀x∈all,∀y∈b.drop t,x<y
 len:all.length≤k+t
theorem OInv.start (a b:List Int):OInv a b 0 0 []:=⟨inc_nil,fun x=>by simp,fun x hx=>by simp at hx,fun x hx=>by simp at hx,by simp⟩
theorem OInv.enter {a b:List Int} {k t:Nat} {all:List Int} (h:OInv a b k t all) (hk:k<a.length):IInv a b k (a.getD k 0) t all:=
 ⟨h.inc,fun x hx=>h.crossA x hx _ (by rw[dropS a k hk];simp),fun x=>by rw[h.mem],h.crossB,h.len⟩
theorem IInv.less {a b:List Int} {k t:Nat} {n:Int} {all:List Int} (h:IInv a b k n t all) (hb:Inc b) (ht:t<b.length) (hx:b.getD t 0<n):IInv a b k n (t+1) (all++[b.getD t 0]):=by
 have hd:=dropS b t ht;refine⟨inc_snoc h.inc fun y hy=>h.crossB y hy _ (by rw[hd];simp),fun x hx2=>?_,fun x=>?_,fun x hx2 y hy=>?_,by have:=h.len;simp;omega⟩
 ·rcases List.mem_append.1 hx2 with hx2|hx2
  ·exact h.low x hx2
  ·have:x=b.getD t 0:=(by simpa using hx2);omega
 ·have hm:=h.mem x;rw[takeS b t ht,List.mem_append,List.mem_append,List.mem_singleton];constructor
  ·rintro((h1|h1)|h1)
   ·rcases hm.1 (Or.inl h1)with (h2|h2)|h2
    ·exact Or.inl (Or.inl h2)
    ·exact Or.inl (Or.inr (Or.inl h2))
    ·exact Or.inr h2
   ·exact Or.inl (Or.inr (Or.inr h1))
   ·exact Or.inr h1
  ·rintro((h1|h1|h1)|h1)
   ·rcases hm.2 (Or.inl (Or.inl h1))with h2|h2
    ·exact Or.inl (Or.inl h2)
    ·exact Or.inr h2
   ·rcases hm.2 (Or.inl (Or.inr h1))with h2|h2
    ·exact Or.inl (Or.inl h2)
    ·exact Or.inr h2
   ·exact Or.inl (Or.inr h1)
   ·exact Or.inr h1
 ·rcases List.mem_append.1 hx2 with hx2|hx2
  ·exact h.crossB x hx2 y (by rw[hd];simp[hy])
  ·have:x=b.getD t 0:=(by simpa using hx2);rw[this];exact inc_after t ht hb y hy
theorem IInv.same {a b:List Int} {k t:Nat} {n:Int} {all:List Int} (h:IInv a b k n t all) (ht:t<b.length) (hx:b.getD t 0=n):IInv a b k n (t+1) all:=by
 have hd:=dropS b t ht;refine⟨h.inc,h.low,fun x=>?_,fun x hx2 y hy=>h.crossB x hx2 y (by rw[hd];simp[hy]),by have:=h.len;omega⟩;rw[takeS b t ht,List.mem_append,List.mem_singleton,hx,h.mem];constructor
 ·rintro((h1|h1)|h1)
  ·exact Or.inl (Or.inl h1)
  ·exact Or.inl (Or.inr (Or.inl h1))
  ·exact Or.inr h1
 ·rintro((h1|h1|h1)|h1)
  ·exact Or.inl (Or.inl h1)
  ·exact Or.inl (Or.inr h1)
  ·exact Or.inr h1
  ·exact Or.inr h1
theorem IInv.leave {a b:List Int} {k t:Nat} {all:List Int} (h:IInv a b k (a.getD k 0) t all) (ha:Inc a) (hb:Inc b) (hk:k<a.length) (hx:t<b.length→a.getD k 0<b.getD t 0):OInv a b (k+1) t (all++[a.getD k 0]):=by
 refine⟨inc_snoc h.inc h.low,fun x=>?_,fun x hx2 y hy=>?_,fun x hx2 y hy=>?_,by have:=h.len;simp;omega⟩
 ·rw[takeS a k hk,List.mem_append,List.mem_append,List.mem_singleton,h.mem];constructor
  ·rintro((h1|h1)|h1)
   ·exact Or.inl (Or.inl h1)
   ·exact Or.inr h1
   ·exact Or.inl (Or.inr h1)
  ·rintro((h1|h1)|h1)
   ·exact Or.inl (Or.inl h1)
   ·exact Or.inr h1
   ·exact Or.inl (Or.inr h1)
 ·have h3:=inc_after k hk ha y hy;rcases List.mem_append.1 hx2 with hx2|hx2
  ·have:=h.low x hx2;omega
  ·have:x=a.getD k 0:=(by simpa using hx2);omega
 ·rcases List.mem_append.1 hx2 with hx2|hx2
  ·exact h.crossB x hx2 y hy
  ·have e:x=a.getD k 0:=(by simpa using hx2);rw[e];have ht:t<b.length:=by
    rcases Nat.lt_or_ge t b.length with h|h
    ·exact h
    ·rw[List.drop_eq_nil_of_le h]at hy;simp at hy
   have:=hx ht;rw[dropS b t ht]at hy;rcases List.mem_cons.1 hy with hy|hy
   ·omega
   ·have:=inc_after t ht hb y hy;omega
theorem OInv.done {a b:List Int} {t:Nat} {all:List Int} (h:OInv a b a.length t all) (hb:Inc b):all++b.drop t=Go.Proofs.YtmecohdedghiaaaGreatDoor.Two.mk (a++b):=by
 refine mk_of (inc_append.2 ⟨h.inc,inc_drop t hb,h.crossB⟩) fun x=>?_;rw[List.mem_append,List.mem_append,h.mem,List.take_length,or_assoc,←List.mem_append,List.take_append_drop]
structure PInv (a b:List Int) (k t:Nat):Prop where
 low:∀y∈b.take t,∀x∈a.drop k,y<x
theorem PInv.start (a b:List Int):PInv a b 0 0:=⟨fun y hy=>by simp at hy⟩
def Pass (b:List Int) (t:Nat) (n:Int):Prop:=∀y∈b.take t,y<n
theorem PInv.enter {a b:List Int} {k t:Nat} (h:PInv a b k t) (hk:k<a.length):Pass b t (a.getD k 0):=fun y hy=>h.low y hy _ (by rw[dropS a k hk];simp)
theorem Pass.step {b:List Int} {t:Nat} {n:Int} (h:Pass b t n) (ht:t<b.length) (hx:b.getD t 0<n):Pass b (t+1) n:=fun y hy=>by
 rw[takeS b t ht]at hy;rcases List.mem_append.1 hy with hy|hy
 ·exact h y hy
 ·have:y=b.getD t 0:=by simpa using hy
  omega
theorem Pass.leave {a b:List Int} {k t:Nat} (h:Pass b t (a.getD k 0)) (ha:Inc a) (hk:k<a.length):PInv a b (k+1) t:=⟨fun y hy x hx=>by
 have:=h y hy;have:=inc_after k hk ha x hx;omega⟩
theorem take_getD (l:List Int) (k:Nat) (h:k<l.length):l.take (k+1)=l.take k++[l.getD k 0]:=by
 rw[List.take_succ_eq_append_getElem h,List.getD_eq_getElem?_getD,List.getElem?_eq_getElem h];rfl
theorem inc_getD {l:List Int} (h:Inc l) (i j:Nat) (hij:i<j) (hj:j<l.length):l.getD i 0<l.getD j 0:=by
 rw[List.getD_eq_getElem?_getD,List.getD_eq_getElem?_getD,List.getElem?_eq_getElem hj,List.getElem?_eq_getElem (by omega)];exact List.pairwise_iff_getElem.1 h i j (by omega) hj hij
theorem inc_next {l:List Int} (k:Nat) (hk:k+1<l.length) (h:Inc (l.take (k+1))) (hx:l.getD k 0<l.getD (k+1) 0):Inc (l.take (k+2)):=by
 rw[take_getD l (k+1) hk];refine inc_snoc h fun y hy=>?_;rw[take_getD l k (by omega)]at h hy;rcases List.mem_append.1 hy with hy|hy
 ·have:=(inc_append.1 h).2.2 y hy (l.getD k 0) (by simp);omega
 ·have:y=l.getD k 0:=by simpa using hy
  omega
theorem IsL.takeLit {w:World} {B b off cap:Nat} {xs:List Int} (hb:b<B) (hc:∀i,i<xs.length→w.cell? ⟨b,off+i,none⟩=some (.int .i64 (xs.getD i 0))) (hf:∀x∈xs,fits x) (k:Nat) (hk:k≤xs.length) (hcap:k≤cap) (hl:xs.length≤9223372036854775807):
  IsL w B (.slice (some ⟨b,off,none⟩) k cap) (xs.take k):=by
 have e:(xs.take k).length=k:=by rw[List.length_take];omega
 refine⟨⟨_,cap,by rw[e],by omega,fun _=>⟨b,off,rfl,hb,fun i hi=>?_⟩⟩,fun x hx=>hf x (List.mem_of_mem_take hx),by omega⟩;rw[e]at hi;rw[hc i (by omega),List.getD_eq_getElem?_getD,List.getD_eq_getElem?_getD,List.getElem?_take,if_pos hi]
theorem IsL.dropLit {w:World} {B b off cap:Nat} {xs:List Int} (hb:b<B) (hc:∀i,i<xs.length→w.cell? ⟨b,off+i,none⟩=some (.int .i64 (xs.getD i 0))) (hf:∀x∈xs,fits x) (k:Nat) (hk:k≤xs.length) (hcap:xs.length≤cap) (hl:xs.length≤9223372036854775807):
  (cap=k→IsL w B (.slice (some ⟨b,off,none⟩) (xs.length-k) (cap-k)) (xs.drop k))∧IsL w B (.slice (some ⟨b,off+k,none⟩) (xs.length-k) (cap-k)) (xs.drop k):=by
 have e:(xs.drop k).length=xs.length-k:=List.length_drop;refine⟨fun h=>⟨⟨_,cap-k,by rw[e],by omega,fun h0=>by omega⟩,fun x hx=>hf x (List.mem_of_mem_drop hx),by omega⟩,⟨⟨_,cap-k,by rw[e],by omega,fun _=>⟨b,off+k,rfl,hb,fun i hi=>?_⟩⟩,fun x hx=>hf x (List.mem_of_mem_drop hx),by omega⟩⟩;rw[show off+k+i=off+(k+i)by omega,hc (k+i) (by omega),List.getD_eq_getElem?_getD,List.getD_eq_getElem?_getD,List.getElem?_drop]
theorem right_any (v:Value) (xs:List Int) (w:World) (h:IsL w w.heap.size v xs):Calls Tryz.prog 92 #[v] w fun e w'=>e=.returned (.bool (decide (Inc xs)))∧∃d,w'=w.drewN d:=by
 obtain⟨⟨A,cap,rfl,hcap,hA⟩,hfit,hlen⟩:=h;have HA:=aH hA;clear hA hfit;go_enter Tryz.func92,Tryz.ntmps92;go_wp2
 go_loopw [3] (fun i wr=>∃j d:Nat,(j+1≤xs.length∨j=0)∧Inc (xs.take (j+1))∧i=.int .i64 ((j:Int)+1)∧wr=w.drewN d) (fun i _=>xs.length-(intOf i).toNat)
 case atStart=>
  refine⟨0,0,Or.inr rfl,?_,rfl,rfl⟩
  match xs with
  |[]=>exact inc_nil
  |x::r=>exact List.pairwise_singleton _ _
 case round=>
  obtain⟨j,d,hj,hinc,rfl,hw⟩:=hrel;have HI:=aH hinc;have HW:=aH hw;clear hinc;by_cases hlt:j+1<xs.length
  ·obtain⟨b,off,rfl,hb,hcell⟩:=HA.out (by omega);have hx:wr.cell? ⟨b,off+j,none⟩=some (.int .i64 (xs.getD j 0)):=(by rw[hw];exact hcell j (by omega));have hy:wr.cell? ⟨b,off+(j+1),none⟩=some (.int .i64 (xs.getD (j+1) 0)):=(by rw[hw];exact hcell (j+1) (by omega));have HNX:=aH (inc_next (l:=xs) j hlt);have HNG:=aH (fun hi:Inc xs=>inc_getD hi j (j+1) (by omega) hlt);clear hcell hw;generalize xs.getD j 0=x at *;generalize xs.getD (j+1) 0=y at *;by_cases hxy:y≤x
   ·have HX:=aH hxy;go_wp2;go_quiet (fail);go_wp2
    go_ret
    refine⟨ret_b ?_,by rw[HW.out];exact⟨_,World.drewN_drewN _ _ _⟩⟩;rw[dF];intro hi;have:=HNG.out hi;have:=HX.out;omega
   ·have HX:=aH hxy;go_wp2;go_quiet (fail);go_wp2
    go_roundw
    case rel=>exact⟨j+1,_,Or.inl (by omega),HNX.out HI.out (by have:=HX.out;omega),num_i (by omega),by rw[HW.out];exact World.drewN_drewN _ _ _⟩
    case measure=>simp[intOf];omega
  ·have e:=HI.out;rw[List.take_of_length_le (by omega)]at e;have HE:=aH (dT e);clear e hw;go_wp2
   go_ret
   exact⟨ret_b HE.out.symm,d,HW.out⟩
theorem rright_any (v:Value) (xs:List Int) (w:World) (h:IsL w w.heap.size v xs):Calls Tryz.prog 194 #[v] w fun e w'=>e=.returned (.bool (decide (Inc xs)))∧∃d,w'=w.drewN d:=by
 obtain⟨⟨A,cap,rfl,hcap,hA⟩,hfit,hlen⟩:=h;have HA:=aH hA;clear hA hfit;go_enter Tryz.func194,Tryz.ntmps194;go_wp2
 go_loopw [3] (fun i wr=>∃j d:Nat,(j+1≤xs.length∨j=0)∧Inc (xs.take (j+1))∧i=.int .i64 ((j:Int)+1)∧wr=w.drewN d) (fun i _=>xs.length-(intOf i).toNat)
 case atStart=>
  refine⟨0,0,Or.inr rfl,?_,rfl,rfl⟩
  match xs with
  |[]=>exact inc_nil
  |x::r=>exact List.pairwise_singleton _ _
 case round=>
  obtain⟨j,d,hj,hinc,rfl,hw⟩:=hrel;have HI:=aH hinc;have HW:=aH hw;clear hinc;by_cases hlt:j+1<xs.length
  ·obtain⟨b,off,rfl,hb,hcell⟩:=HA.out (by omega);have hx:wr.cell? ⟨b,off+j,none⟩=some (.int .i64 (xs.getD j 0)):=(by rw[hw];exact hcell j (by omega));have hy:wr.cell? ⟨b,off+(j+1),none⟩=some (.int .i64 (xs.getD (j+1) 0)):=(by rw[hw];exact hcell (j+1) (by omega));have HNX:=aH (inc_next (l:=xs) j hlt);have HNG:=aH (fun hi:Inc xs=>inc_getD hi j (j+1) (by omega) hlt);clear hcell hw;generalize xs.getD j 0=x at *;generalize xs.getD (j+1) 0=y at *;by_cases hxy:y≤x
   ·have HX:=aH hxy;go_wp2;go_quiet (fail);go_wp2
    go_ret
    refine⟨ret_b ?_,by rw[HW.out];exact⟨_,World.drewN_drewN _ _ _⟩⟩;rw[dF];intro hi;have:=HNG.out hi;have:=HX.out;omega
   ·have HX:=aH hxy;go_wp2;go_quiet (fail);go_wp2
    go_roundw
    case rel=>exact⟨j+1,_,Or.inl (by omega),HNX.out HI.out (by have:=HX.out;omega),num_i (by omega),by rw[HW.out];exact World.drewN_drewN _ _ _⟩
    case measure=>simp[intOf];omega
  ·have e:=HI.out;rw[List.take_of_length_le (by omega)]at e;have HE:=aH (dT e);clear e hw;go_wp2
   go_ret
   exact⟨ret_b HE.out.symm,d,HW.out⟩
theorem same_any (v u:Value) (xs ys:List Int) (w:World) (h:IsL w w.heap.size v xs) (hy:IsL w w.heap.size u ys):Calls Tryz.prog 11 #[v,u] w fun e w'=>e=.returned (.bool (decide (xs=ys)))∧∃d,w'=w.drewN d:=by
 obtain⟨⟨A,cap,rfl,hcap,hA⟩,hfit,hlen⟩:=h;obtain⟨⟨A2,cap2,rfl,hcap2,hA2⟩,hfit2,hlen2⟩:=hy;have HA:=aH hA;have HA2:=aH hA2;clear hA hfit hA2 hfit2;by_cases hl:xs.length=ys.length
 ·rw[←hl]at HA2⊢;have HL:=aH hl;clear hl;go_enter Tryz.func11,Tryz.ntmps11;go_wp2
  go_loopw [5] (fun i wr=>∃k d:Nat,k≤xs.length∧xs.take k=ys.take k∧i=.int .i64 (k:Int)∧wr=w.drewN d) (fun i _=>xs.length-(intOf i).toNat)
  case atStart=>exact⟨0,0,Nat.zero_le _,rfl,rfl,rfl⟩
  case round=>
   obtain⟨k,d,hk,hsame,rfl,hw⟩:=hrel;have HS:=aH hsame;have HW:=aH hw;clear hsame;by_cases hlt:k<xs.length
   ·obtain⟨b,off,rfl,hb,hcell⟩:=HA.out (by omega);obtain⟨b2,off2,rfl,hb2,hcell2⟩:=HA2.out (by omega);have hx:wr.cell? ⟨b,off+k,none⟩=some (.int .i64 (xs.getD k 0)):=(by rw[hw];exact hcell k hlt);have hy:wr.cell? ⟨b2,off2+k,none⟩=some (.int .i64 (ys.getD k 0)):=(by rw[hw];exact hcell2 k hlt);have HT:=aH (take_getD xs k hlt);have HT2:=aH (take_getD ys k (by have:=HL.out;omega));have HXY:=aH (fun e:xs=ys=>show xs.getD k 0=ys.getD k 0 by rw[e]);clear hcell hcell2 hw;generalize xs.getD k 0=x at *;generalize ys.getD k 0=y at *;by_cases hxy:x=y
    ·subst hxy;go_wp2;go_quiet (fail);go_wp2
     go_roundw
     case rel=>exact⟨k+1,_,by omega,by rw[HT.out,HT2.out,HS.out],num_i (by omega),by rw[HW.out];exact World.drewN_drewN _ _ _⟩
     case measure=>simp[intOf];omega
    ·have hbq:(x != y)=true:=(by rw[bne_iff_ne];exact hxy);have HX:=aH hxy;clear hxy;go_wp2;go_quiet (fail);go_wp2
     go_ret
     refine⟨ret_b ?_,by rw[HW.out];exact⟨_,World.drewN_drewN _ _ _⟩⟩;rw[dF];exact fun e=>HX.out (HXY.out e)
   ·obtain rfl:k=xs.length:=(by omega);have e:=HS.out;rw[List.take_length,List.take_of_length_le (by have:=HL.out;omega)]at e;have HE:=aH (dT e);clear e hw;go_wp2
    go_ret
    exact⟨ret_b HE.out.symm,d,HW.out⟩
 ·have hbq:((xs.length:Int) != (ys.length:Int))=true:=by rw[bne_iff_ne];omega
  have HL:=aH hl;clear hl;go_enter Tryz.func11,Tryz.ntmps11;go_wp2
  go_ret
  refine⟨ret_b ?_,0,by trivial⟩;rw[dF];intro e;exact HL.out (by rw[e])
theorem IsL.dropIf {w:World} {B b off cap:Nat} {xs:List Int} (hb:b<B) (hc:∀i,i<xs.length→w.cell? ⟨b,off+i,none⟩=some (.int .i64 (xs.getD i 0))) (hf:∀x∈xs,fits x) (k:Nat) (hk:k≤xs.length) (hcap:xs.length≤cap) (hl:xs.length≤9223372036854775807):
  IsL w B (.slice (if cap=k then some ⟨b,off,none⟩else some ⟨b,off+k,none⟩) (xs.length-k) (cap-k)) (xs.drop k):=by
 have h:=IsL.dropLit hb hc hf k hk hcap hl;by_cases e:cap=k
 ·rw[if_pos e];exact h.1 e
 ·rw[if_neg e];exact h.2
structure Made (X W:World) (H:Nat):Prop where
 own:Own W X.heap.size (.slice (some ⟨H,0,none⟩) 0 0) []
 below:Below X.heap.size X W
 size:X.heap.size≤W.heap.size
theorem IsL.one {W:World} {H:Nat} {x:Int} (hx:fits x) (h:W.heap[H]? =some (Obj.cells #[.int .i64 x] 3)):IsL W (H+1) (.slice (some ⟨H,0,none⟩) 1 1) [x]:=by
 refine⟨⟨_,1,rfl,by simp,fun _=>⟨H,0,rfl,by omega,fun i hi=>?_⟩⟩,fun y hy=>by simp at hy;rw[hy];exact hx,by simp⟩;have:i=0:=by simpa using hi
 subst this;rw[cell_of_row _ H _ _ _ (0,0) h];rfl
theorem Own.grow' {S:Nat} {X W W':World} {v:Value} {xs:List Int} (h:Own W S v xs) (hb:Below S X W) (hs:S≤W.heap.size) (hg:W.grownBy W' v.ownBlock):Below S X W':=hb.grown hg hs fun k hk=>(h.lt k hk).1
end Go.Proofs.YtmecohdedghiaaaGreatDoor.Two
