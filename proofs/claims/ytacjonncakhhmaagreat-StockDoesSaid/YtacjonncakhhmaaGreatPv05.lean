/- Elements of own lists of cells, of logs and of tips. -/
import Derived.Test.YtacjonncakhhmaaGreatPv00
import Derived.Test.YtacjonncakhhmaaGreatPv04
import Derived.Maps.AppendAt
import Derived.Laws.OwnMore
import Derived.Deep.AppendLies
import Derived.Deep.Onto
import Derived.OwnWalk
import Derived.Deep.QuietTactic
import Derived.BigQuiet
import Derived.Deep.RegionHeld3
import Derived.Test.YtacjonncakhhmaaGreatPv01
import Derived.Test.YtacjonncakhhmaaGreatPv03
set_option maxRecDepth 100000
set_option maxHeartbeats 8000000
namespace Go.Proofs.YtacjonncakhhmaaGreat.Two
open Go.RowKit
theorem snoc_ind {α:Type} {p:List α→Prop} (h0:p []) (h1:∀l c,p l→p (l++[c])) (l:List α):p l:=by
 suffices h:∀r:List α,p r.reverse by
  have:=h l.reverse
  rwa [List.reverse_reverse]at this
 intro r
 induction r with
 |nil=>exact h0
 |cons c r ih=>rw[List.reverse_cons];exact h1 _ _ ih
def IsL (w:World) (B:Nat) (v:Value) (xs:List Int):Prop:=
 (∃A cap,v=.slice A xs.length cap∧xs.length≤cap∧(0<xs.length→∃b off,A=some ⟨b,off,none⟩∧b<B∧∀i,i<xs.length→w.cell? ⟨b,off+i,none⟩=some (.int .i64 (xs.getD i 0))))∧
  (∀x∈xs,fits x)∧xs.length≤9223372036854775807
theorem IsL.below {w w':World} {B:Nat} {v:Value} {xs:List Int} (h:IsL w B v xs) (hb:Below B w w'):IsL w' B v xs:=by
 obtain⟨⟨A,cap,rfl,hc,hA⟩,hf,hl⟩:=h;refine⟨⟨A,cap,rfl,hc,fun h0=>?_⟩,hf,hl⟩;obtain⟨b,off,rfl,hbB,hcell⟩:=hA h0;exact⟨b,off,rfl,hbB,fun i hi=>(hb.cell (p:=⟨b,off+i,none⟩) hbB).trans (hcell i hi)⟩
theorem IsL.more {w:World} {B B':Nat} {v:Value} {xs:List Int} (h:IsL w B v xs) (hB:B≤B'):IsL w B' v xs:=by
 obtain⟨⟨A,cap,rfl,hc,hA⟩,hf,hl⟩:=h;refine⟨⟨A,cap,rfl,hc,fun h0=>?_⟩,hf,hl⟩;obtain⟨b,off,rfl,hbB,hcell⟩:=hA h0;exact⟨b,off,rfl,by omega,hcell⟩
theorem IsL.drewN {w:World} {B:Nat} {v:Value} {xs:List Int} (h:IsL w B v xs) (d:Nat):IsL (w.drewN d) B v xs:=h
theorem IsL.nil (w:World) (B:Nat) (A:Option Addr) (cap:Nat):IsL w B (.slice A 0 cap) []:=
 ⟨⟨A,cap,rfl,Nat.zero_le _,fun h=>absurd h (by simp)⟩,fun x hx=>by simp at hx,by simp⟩
theorem below_drewN {B:Nat} {a w:World} (h:Below B a w) (d:Nat):Below B a (w.drewN d):=⟨h.os,h.tape,h.output,h.size,h.block⟩
theorem getD_fits {xs:List Int} (h:∀x∈xs,fits x) (i:Nat):fits (xs.getD i 0):=by
 rw[List.getD_eq_getElem?_getD];by_cases hi:i<xs.length
 ·rw[List.getElem?_eq_getElem hi];exact h _ (List.getElem_mem hi)
 ·rw[List.getElem?_eq_none (by omega)];decide
def iv (x:Int):Value:=.int .i64 x
def Own (w:World) (base:Nat) (v:Value) (xs:List Int):Prop:=w.ownsRow base 3 1 v xs.length (xs.map iv)∧∀x∈xs,fits x
theorem int_info:(Tryz.prog.info? 3).map (fun i=>(i.zero,i.size,i.bytes))=some (some (.int .i64 0),1,8):=by kernel_rfl
theorem getD_map (xs:List Int) (i:Nat) (h:i<xs.length):(xs.map iv)[i]? =some (.int .i64 (xs.getD i 0)):=by
 rw[List.getElem?_map,List.getD_eq_getElem?_getD,List.getElem?_eq_getElem h];rfl
theorem Own.isL {w:World} {base:Nat} {v:Value} {xs:List Int} (h:Own w base v xs) (hl:xs.length≤9223372036854775807):IsL w w.heap.size v xs:=by
 obtain⟨h,hf⟩:=h;rcases h.2 with ⟨rfl,h0⟩|⟨g,cap,cur,rfl,hb,hg,hnc,_⟩
 ·obtain rfl:xs=[]:=List.eq_nil_of_length_eq_zero h0;exact IsL.nil _ _ _ _
 ·refine⟨⟨_,cap,rfl,hnc,fun h0=>⟨g,0,rfl,(Array.getElem?_eq_some_iff.1 hg).1,fun i hi=>?_⟩⟩,hf,hl⟩;rw[Nat.zero_add,h.cellAt i (by omega),getD_map xs i hi]
theorem Own.nil (w:World) (base:Nat):Own w base (.slice none 0 0) []:=⟨World.ownsRow_nil _ _ _ _,fun x hx=>by simp at hx⟩
theorem Own.alloc {w:World} {base:Nat} {v:Value} {xs:List Int} (h:Own w base v xs) (o:Obj):Own (w.alloc o) base v xs:=⟨h.1.alloc o,h.2⟩
theorem Own.drewN {w:World} {base:Nat} {v:Value} {xs:List Int} (h:Own w base v xs) (d:Nat):Own (w.drewN d) base v xs:=h
theorem Own.mono {w:World} {base base':Nat} {v:Value} {xs:List Int} (h:Own w base v xs) (hb:base'≤base):Own w base' v xs:=⟨h.1.mono hb,h.2⟩
theorem Own.kept {w w':World} {row:Option Nat} {base:Nat} {v:Value} {xs:List Int} (h:Own w base v xs) (hg:w.grownBy w' row) (hne:v.ownBlock=none∨v.ownBlock≠row):Own w' base v xs:=⟨h.1.kept hg hne,h.2⟩
theorem Own.lt {w:World} {base:Nat} {v:Value} {xs:List Int} (h:Own w base v xs):∀k,v.ownBlock=some k→base≤k∧k<w.heap.size:=h.1.lt
theorem Own.below {w w':World} {base:Nat} {v:Value} {xs:List Int} (h:Own w base v xs) (hb:Below w.heap.size w w'):Own w' base v xs:=by
 obtain⟨⟨h1,h2⟩,hf⟩:=h;refine⟨⟨h1,?_⟩,hf⟩;rcases h2 with hn|⟨g,cap,cur,rfl,hb2,hg,rest⟩
 ·exact .inl hn
 ·exact .inr ⟨g,cap,cur,rfl,hb2,(hb.block g (Array.getElem?_eq_some_iff.1 hg).1).trans hg,rest⟩
theorem Own.made (w:World) (base cap:Nat) (cur:Array Value) (hb:base≤w.heap.size) (hm:cap≤maxLen) (hs:cur.size=cap):Own (w.alloc (.cells cur 3)) base (.slice (some ⟨w.heap.size,0,none⟩) 0 cap) []:=
 ⟨World.ownsRow_made w cur cap hb hm (by omega),fun x hx=>by simp at hx⟩
theorem IsL.lit (w:World) (x:Int) (hx:fits x):IsL (w.alloc (.cells #[.int .i64 x] 3)) (w.heap.size+1) (.slice (some ⟨w.heap.size,0,none⟩) 1 1) [x]:=by
 refine⟨⟨_,1,rfl,by simp,fun _=>⟨w.heap.size,0,rfl,by omega,fun i hi=>?_⟩⟩,fun y hy=>by simp at hy;rw[hy];exact hx,by simp⟩;have:i=0:=by simpa using hi
 subst this;rw[cell_of_row _ w.heap.size _ _ _ (0,0) (heap_alloc_new w _)];rfl
theorem oneCell_iv (xs:List Int):∀u∈xs.map iv,u.oneCell'=true:=by
 intro u hu;obtain⟨x,_,rfl⟩:=List.mem_map.1 hu;rfl
theorem run_append_nothing (w:World) (base:Nat) (ty:TypeId) (v:Value) (xs:List Int) (h:Own w base v xs) (c:Nat):(Builtin.append_ #[45,45] ty #[v,.slice none 0 c]).run Tryz.prog w=.ok v w:=by
 obtain⟨i0,hi,hz0,hz1,hz2⟩:=info_parts int_info;rcases h.1.2 with ⟨rfl,_⟩|⟨g,cap,cur,rfl,_,_,hnc,_⟩
 ·simp[Builtin.append_,run_underlying Tryz.underlying45,sizeOf,typeInfo,hi,Builtin.lenOf,Builtin.firstCells]
 ·simp[Builtin.append_,run_underlying Tryz.underlying45,sizeOf,typeInfo,hi,Builtin.lenOf,Builtin.firstCells,hnc,storeCells]
theorem run_app (w:World) (base B:Nat) (ty:TypeId) (v src:Value) (xs ys:List Int) (h:Own w base v xs) (hs:IsL w B src ys) (hl:xs.length+ys.length≤1000000) (hb:base≤w.heap.size):
  ∃v' w',(Builtin.append_ #[45,45] ty #[v,src]).run Tryz.prog w=.ok v' w'∧Own w' base v' (xs++ys)∧w.grownBy w' v.ownBlock∧(v'.ownBlock=v.ownBlock∨v'.ownBlock=some w.heap.size):=by
 obtain⟨i0,hi,hz0,hz1,hz2⟩:=info_parts int_info;obtain⟨⟨A,cap,rfl,hc,hA⟩,hf,hll⟩:=hs;have hfa:∀x∈xs++ys,fits x:=fun x hx=>by
  rcases List.mem_append.1 hx with hx|hx
  ·exact h.2 x hx
  ·exact hf x hx
 by_cases h0:ys=[]
 ·subst h0
  match A with
  |none=>exact⟨v,w,run_append_nothing w base ty v xs h cap,by simpa using h,World.grownBy.refl w _,.inl rfl⟩
  |some ad=>
   obtain⟨v',w',hrun,h2,h3,_,h5⟩:=run_append_own_at (P:=Tryz.prog) w base 45 ty 3 i0 (.int .i64 0) 1 8 Tryz.underlying45 hi hz0 hz1 hz2 rfl (by decide) v xs.length (xs.map iv) h.1 ad 0 cap [] rfl
    (fun j u hu=>by simp at hu) (fun u hu=>by simp at hu) (by unfold maxLen;simp at hl;omega) (by simp at hl;omega) hb
   exact⟨v',w',hrun,⟨by simpa using h2,hfa⟩,h3,h5⟩
 ·have hpos:0<ys.length:=by
   rcases Nat.eq_zero_or_pos ys.length with h|h
   ·exact absurd (List.eq_nil_of_length_eq_zero h) h0
   ·exact h
  obtain⟨b,off,rfl,hbB,hcell⟩:=hA hpos;obtain⟨v',w',hrun,h2,h3,_,h5⟩:=run_append_own_at (P:=Tryz.prog) w base 45 ty 3 i0 (.int .i64 0) 1 8 Tryz.underlying45 hi hz0 hz1 hz2 rfl (by decide) v xs.length (xs.map iv) h.1 ⟨b,off,none⟩ ys.length cap (ys.map iv) (by simp)
   (fun j u hu=>by
    have hj:j<ys.length:=by
     have:=(List.getElem?_eq_some_iff.1 hu).1;simpa using this
    rw[getD_map ys j hj]at hu;rw[Go.WideShapes.add_plain,hcell j hj];exact hu) (oneCell_iv ys) (by unfold maxLen;omega) (by omega) hb
  exact⟨v',w',hrun,⟨by rw[List.length_append,List.map_append];exact h2,hfa⟩,h3,h5⟩
theorem wp_app {o:Oper} {a:Act} {K:Act→World→Prop} {Q:Exit→Act→World→Prop} (w:World) (s x:Operand)
  (ho:o.op=.call {callee:=.builtin .append,args:=#[s,x],argTypes:=#[45,45]}) (base B:Nat) (v src:Value) (xs ys:List Int) (hs:a.eval s=v) (hx:a.eval x=src)
  (h:Own w base v xs) (hy:IsL w B src ys) (hl:xs.length+ys.length≤1000000) (hb:base≤w.heap.size)
  (hk:∀v' w',Own w' base v' (xs++ys)→w.grownBy w' v.ownBlock→(v'.ownBlock=v.ownBlock∨v'.ownBlock=some w.heap.size)→K (a.put o.dst v') w'):o.wp Tryz.prog a w K Q:=by
 obtain⟨v',w',hrun,h2,h3,h4⟩:=run_app w base B o.type v src xs ys h hy hl hb;unfold Oper.wp execOp;simp only[ho,resolve,invoke,builtin,Sem.run_bind,Sem.run_pure,Result.andThen_ok,List.map_toArray,List.map_cons,List.map_nil,hs,hx,hrun];exact hk v' w' h2 h3 h4
theorem wpList_app {ops:Array Oper} {rest:List Oper} {o:Oper} {a:Act} {Q:Exit→Act→World→Prop} (w:World) (hgd:o.guard=none) (s x:Operand)
  (ho:o.op=.call {callee:=.builtin .append,args:=#[s,x],argTypes:=#[45,45]}) (base B:Nat) (v src:Value) (xs ys:List Int) (hs:a.eval s=v) (hx:a.eval x=src)
  (h:Own w base v xs) (hy:IsL w B src ys) (hl:xs.length+ys.length≤1000000) (hb:base≤w.heap.size)
  (hk:∀v' w',Own w' base v' (xs++ys)→w.grownBy w' v.ownBlock→(v'.ownBlock=v.ownBlock∨v'.ownBlock=some w.heap.size)→wpList Tryz.prog ops Q rest (a.put o.dst v') w'):wpList Tryz.prog ops Q (o::rest) a w:=
 wpList_plain hgd fun _ hK=>wp_app w s x ho base B v src xs ys hs hx h hy hl hb fun v' w' h2 h3 h4=>hK _ _ (hk v' w' h2 h3 h4)
def Inc (l:List Int):Prop:=l.Pairwise (· < ·)
instance (l:List Int):Decidable (Inc l):=inferInstanceAs (Decidable (List.Pairwise _ l))
def put:List Int→Int→List Int
 |[],n=>[n]
 |x::r,n=>if x<n then x::put r n else if x=n then x::r else n::x::r
def mk (l:List Int):List Int:=l.foldl put []
theorem inc_cons {x:Int} {r:List Int}:Inc (x::r)↔(∀y∈r,x<y)∧Inc r:=List.pairwise_cons
theorem inc_nil:Inc []:=List.Pairwise.nil
theorem inc_ext:∀ {a b:List Int},Inc a→Inc b→(∀x,x∈a↔x∈b)→a=b
 |[],[],_,_,_=>rfl
 |[],y::s,_,_,h=>absurd ((h y).2 (by simp)) (by simp)
 |x::r,[],_,_,h=>absurd ((h x).1 (by simp)) (by simp)
 |x::r,y::s,ha,hb,h=>by
  obtain⟨h1,h2⟩:=inc_cons.1 ha;obtain⟨h3,h4⟩:=inc_cons.1 hb;have hxy:x=y:=by
   have e1:=(h x).1 (by simp);have e2:=(h y).2 (by simp);rcases List.mem_cons.1 e1 with e1|e1
   ·exact e1
   ·rcases List.mem_cons.1 e2 with e2|e2
    ·exact e2.symm
    ·have:=h1 y e2;have:=h3 x e1;omega
  subst hxy;rw[inc_ext h2 h4 (fun z=>?_)];constructor
  ·intro hz;rcases List.mem_cons.1 ((h z).1 (by simp[hz]))with e|e
   ·have:=h1 z hz;omega
   ·exact e
  ·intro hz;rcases List.mem_cons.1 ((h z).2 (by simp[hz]))with e|e
   ·have:=h3 z hz;omega
   ·exact e
theorem mem_put (s:List Int) (n x:Int):x∈put s n↔x∈s∨x=n:=by
 induction s with
 |nil=>simp[put]
 |cons y r ih=>
  rw[put]
  split
  ·rw[List.mem_cons,List.mem_cons,ih,or_assoc]
  ·split
   ·rename_i h;subst h;simp;intro h;exact Or.inl h
   ·rw[List.mem_cons,or_comm]
theorem inc_put {s:List Int} (n:Int) (h:Inc s):Inc (put s n):=by
 induction s with
 |nil=>exact List.pairwise_singleton _ _
 |cons y r ih=>
  obtain⟨h1,h2⟩:=inc_cons.1 h;rw[put]
  split
  ·rename_i hy
   refine inc_cons.2 ⟨fun z hz=>?_,ih h2⟩;rcases(mem_put r n z).1 hz with hz|hz
   ·exact h1 z hz
   ·omega
  ·split
   ·exact h
   ·refine inc_cons.2 ⟨fun z hz=>?_,h⟩;rcases List.mem_cons.1 hz with hz|hz
    ·omega
    ·have:=h1 z hz;omega
theorem foldl_put (l:List Int):∀s:List Int,Inc s→Inc (l.foldl put s)∧∀x,x∈l.foldl put s↔x∈s∨x∈l:=by
 induction l with
 |nil=>intro s h;exact⟨h,fun x=>by simp⟩
 |cons y r ih=>
  intro s h;obtain⟨h1,h2⟩:=ih (put s y) (inc_put y h);refine⟨h1,fun x=>?_⟩;rw[List.foldl_cons,h2,mem_put,List.mem_cons,or_assoc]
theorem inc_mk (l:List Int):Inc (mk l):=(foldl_put l [] inc_nil).1
theorem mem_mk (l:List Int) (x:Int):x∈mk l↔x∈l:=by rw[mk,(foldl_put l [] inc_nil).2];simp
theorem mk_snoc (l:List Int) (x:Int):mk (l++[x])=put (mk l) x:=by rw[mk,List.foldl_append];rfl
theorem put_len_new (s:List Int) (n:Int) (h:n ∉ s):(put s n).length=s.length+1:=by
 induction s with
 |nil=>rfl
 |cons y r ih=>
  rw[put]
  split
  ·rw[List.length_cons,ih (fun hh=>h (by simp[hh])),List.length_cons]
  ·split
   ·rename_i hy;exact absurd hy.symm (fun e=>h (by simp[e]))
   ·rfl
theorem put_old {s:List Int} (hs:Inc s) (n:Int) (h:n∈s):put s n=s:=inc_ext (inc_put n hs) hs fun x=>by
 rw[mem_put];exact⟨fun k=>k.elim id (fun e=>e▸h),Or.inl⟩
theorem mk_len_snoc (l:List Int) (x:Int):(mk (l++[x])).length=(mk l).length+(if x∈l then 0 else 1):=by
 rw[mk_snoc];by_cases h:x∈l
 ·rw[put_old (inc_mk l) x ((mem_mk l x).2 h),if_pos h,Nat.add_zero]
 ·rw[put_len_new _ _ (fun k=>h ((mem_mk l x).1 k)),if_neg h]
theorem mk_len_le (l:List Int):(mk l).length≤l.length:=by
 refine snoc_ind (p:=fun l=>(mk l).length≤l.length) (nR _) ?_ l;intro l c ih;rw[mk_len_snoc,List.length_append,List.length_cons,List.length_nil]
 split<;>omega
def Tw (l:List Int) (t:Int):Prop:=
 (t= -1∧∀i,i<l.length→l.getD i 0 ∉ l.take i)∨(∃i:Nat,i<l.length∧t=i∧l.getD i 0∈l.take i∧∀j,j<i→l.getD j 0 ∉ l.take j)
theorem mk_len_all (l:List Int):(mk l).length=l.length↔∀i,i<l.length→l.getD i 0 ∉ l.take i:=by
 refine snoc_ind (p:=fun l=>(mk l).length=l.length↔∀i,i<l.length→l.getD i 0 ∉ l.take i) ?_ ?_ l
 ·simp[mk]
 ·intro l c ih;have hle:=mk_len_le l;have hlast:(l++[c]).getD l.length 0=c:=by simp
  have htake:(l++[c]).take l.length=l:=by simp
  rw[mk_len_snoc,List.length_append,List.length_cons,List.length_nil];constructor
  ·intro h i hi;by_cases hc:c∈l
   ·rw[if_pos hc]at h;omega
   ·rw[if_neg hc]at h;by_cases hil:i<l.length
    ·have:=ih.1 (by omega) i hil;rw[List.take_append_of_le_length (by omega)];rw[List.getD_eq_getElem?_getD,List.getElem?_append_left hil,←List.getD_eq_getElem?_getD];exact this
    ·obtain rfl:i=l.length:=(by omega);rw[hlast,htake];exact hc
  ·intro h;have hc:c ∉ l:=by
    have:=h l.length (by omega)
    rwa [hlast,htake]at this
   have:=ih.2 (fun i hi=>by
    have:=h i (by omega);rw[List.take_append_of_le_length (by omega),List.getD_eq_getElem?_getD,List.getElem?_append_left hi,←List.getD_eq_getElem?_getD]at this;exact this)
   rw[if_neg hc];omega
theorem Tw.len {l:List Int} {t:Int} (h:Tw l t):decide ((mk l).length=l.length)=decide (t= -1):=by
 rw[decide_eq_decide,mk_len_all];rcases h with ⟨rfl,h⟩|⟨i,hi,rfl,h1,h2⟩
 ·exact⟨fun _=>rfl,fun _=>h⟩
 ·exact⟨fun k=>absurd h1 (k i hi),fun k=>by omega⟩
structure Made (X W:World) (H:Nat):Prop where
 own:Own W X.heap.size (.slice (some ⟨H,0,none⟩) 0 0) []
 below:Below X.heap.size X W
 size:X.heap.size≤W.heap.size
theorem IsL.one {W:World} {H:Nat} {x:Int} (hx:fits x) (h:W.heap[H]? =some (Obj.cells #[.int .i64 x] 3)):IsL W (H+1) (.slice (some ⟨H,0,none⟩) 1 1) [x]:=by
 refine⟨⟨_,1,rfl,by simp,fun _=>⟨H,0,rfl,by omega,fun i hi=>?_⟩⟩,fun y hy=>by simp at hy;rw[hy];exact hx,by simp⟩;have:i=0:=by simpa using hi
 subst this;rw[cell_of_row _ H _ _ _ (0,0) h];rfl
theorem Own.grow' {S:Nat} {X W W':World} {v:Value} {xs:List Int} (h:Own W S v xs) (hb:Below S X W) (hs:S≤W.heap.size) (hg:W.grownBy W' v.ownBlock):Below S X W':=hb.grown hg hs fun k hk=>(h.lt k hk).1
end Go.Proofs.YtacjonncakhhmaaGreat.Two
namespace Go.Proofs.YtacjonncakhhmaaGreat
open Go.RowKit
theorem two_of {w:World} {B:Nat} {v:Value} {xs:List Int} (h:KI.IsL w B v xs):Two.IsL w B v xs:=by
 obtain⟨⟨A,cap,hv,hc,hA⟩,hf,hl⟩:=h;refine⟨⟨A,cap,hv,hc,fun h0=>?_⟩,hf,hl⟩;obtain⟨b,off,e,hb,hcell⟩:=hA h0;refine⟨b,off,e,hb,fun i hi=>?_⟩;have:=hcell i hi 0 (.int .i64 (xs.getD i 0)) rfl;simpa [KI]using this
theorem Lk.Own.shape {P:Program} {α:Type} {K:Lk P α} {w:World} {base:Nat} {v:Value} {xs:List α} (h:K.Own w base v xs) (h0:0<xs.length):∃g cap,v=.slice (some ⟨g,0,none⟩) xs.length cap∧base≤g∧g<w.heap.size∧xs.length≤cap:=by
 obtain⟨⟨h1,h2⟩,hf⟩:=h;rcases h2 with ⟨_,hn⟩|⟨g,cap,cur,rfl,hb2,hg,hn,_⟩
 ·omega
 ·exact⟨g,cap,rfl,hb2,(Array.getElem?_eq_some_iff.1 hg).1,hn⟩
theorem KI.flat_at (xs:List Int):KI.flat xs=xs.map fun x=>Value.int .i64 x:=by
 induction xs with
 |nil=>rfl
 |cons x r ih=>show Value.int .i64 x::KI.flat r=_;rw[ih];rfl
theorem KI.Own.put {w:World} {B g n c:Nat} {ys:List Int} (h:KI.Own w B (.slice (some ⟨g,0,none⟩) n c) ys) (hn:ys.length=n) (k:Nat) (x:Int) (hx:fits x):
  KI.Own (w.setCell ⟨g,k,none⟩ (.int .i64 x)) B (.slice (some ⟨g,0,none⟩) n c) (ys.set k x)∧w.grownBy (w.setCell ⟨g,k,none⟩ (.int .i64 x)) (some g):=by
 obtain⟨h1,h2⟩:=h;have q:=World.ownsRow.stored (n:=n) (by rw[hn]at h1;exact h1) k (.int .i64 x);refine⟨⟨?_,fun q hq=>?_⟩,q.2⟩
 ·rw[KI.flat_at]at q⊢;rw[List.length_set,hn,List.map_set];exact q.1
 ·rcases List.mem_or_eq_of_mem_set hq with hq|rfl
  ·exact h2 q hq
  ·exact hx
theorem KI.Own.at {w:World} {B g n c:Nat} {ys:List Int} (h:KI.Own w B (.slice (some ⟨g,0,none⟩) n c) ys) (hn:ys.length=n) (k:Nat) (hk:k<n):w.cell? ⟨g,k,none⟩=some (.int .i64 (ys.getD k 0))∧w.frozen? ⟨g,k,none⟩=false:=by
 obtain⟨h1,h2⟩:=h;rw[hn]at h1;refine⟨?_,h1.frozenAt k⟩;have:=h1.cellAt k (by show k<n*1;omega);rw[this,KI.flat_at,List.getElem?_map,List.getD_eq_getElem?_getD,List.getElem?_eq_getElem (by omega)];rfl
theorem Lk.flat_made {P:Program} {α:Type} (K:Lk P α) (z0:α) (hz:K.zero.cells.toList=K.cells z0) (n:Nat):(madeCells K.zero.cells (n*K.n)).toList=K.flat (List.replicate n z0):=by
 apply List.ext_getElem?;intro j;have hs:K.zero.cells.size=K.n:=K.zs;have hp:=K.pos;by_cases hj:j<n*K.n
 ·have hq:j/K.n<n:=(Nat.div_lt_iff_lt_mul hp).2 hj;have hr:=Nat.mod_lt j hp;have e:j=j/K.n*K.n+j%K.n:=by rw[Nat.mul_comm];exact(Nat.div_add_mod j K.n).symm
  have hf:=K.flat_at (List.replicate n z0) (j/K.n) (j%K.n) (by rw[List.length_replicate];exact hq) hr;rw[←e]at hf;rw[hf,List.getD_eq_getElem?_getD,List.getElem?_replicate,if_pos hq,Option.getD_some,←hz];simp[madeCells,hj,hs];have hr':j%K.n<K.zero.cells.size:=by rw[hs];exact hr
  rw[Array.getElem?_eq_getElem hr',getElem!_pos K.zero.cells (j%K.n) hr']
 ·rw[List.getElem?_eq_none (by rw[Array.length_toList,size_madeCells];omega),List.getElem?_eq_none (by rw[K.flat_len,List.length_replicate];omega)]
theorem Lk.flat_set3 {P:Program} {α:Type} {K:Lk P α} (hn:K.n=3) (ys:List α) (k:Nat) (y:α) (p0 p1 p2:Value) (hy:K.cells y=[p0,p1,p2]) (hk:k<ys.length):(((K.flat ys).set (k*3) p0).set (k*3+1) p1).set (k*3+2) p2=K.flat (ys.set k y):=by
 induction ys generalizing k with
 |nil=>simp at hk
 |cons z r ih=>
  have hz:=K.len z;rw[hn]at hz;obtain⟨z0,z1,z2,ez⟩:∃z0 z1 z2,K.cells z=[z0,z1,z2]:=by
   match h:K.cells z,hz with
   |[a,b,c],_=>exact⟨a,b,c,rfl⟩
  have e:K.flat (z::r)=z0::z1::z2::K.flat r:=by show K.cells z++K.flat r=_;rw[ez];rfl
  rw[e]
  cases k with
  |zero=>
   show p0::p1::p2::K.flat r=K.cells y++K.flat r;rw[hy];rfl
  |succ k=>
   have e2:K.flat ((z::r).set (k+1) y)=z0::z1::z2::K.flat (r.set k y):=(by show K.cells z++K.flat (r.set k y)=_;rw[ez];rfl);rw[e2,←ih k (by simpa using hk),show(k+1)*3=k*3+1+1+1 by omega,show k*3+1+1+1+1=(k*3+1)+1+1+1 by omega,show k*3+1+1+1+2=(k*3+2)+1+1+1 by omega];rfl
theorem Lk.flat_set2 {P:Program} {α:Type} {K:Lk P α} (hn:K.n=2) (ys:List α) (k:Nat) (y:α) (p0 p1:Value) (hy:K.cells y=[p0,p1]) (hk:k<ys.length):((K.flat ys).set (k*2) p0).set (k*2+1) p1=K.flat (ys.set k y):=by
 induction ys generalizing k with
 |nil=>simp at hk
 |cons z r ih=>
  have hz:=K.len z;rw[hn]at hz;obtain⟨z0,z1,ez⟩:∃z0 z1,K.cells z=[z0,z1]:=by
   match h:K.cells z,hz with
   |[a,b],_=>exact⟨a,b,rfl⟩
  have e:K.flat (z::r)=z0::z1::K.flat r:=by show K.cells z++K.flat r=_;rw[ez];rfl
  rw[e]
  cases k with
  |zero=>
   show p0::p1::K.flat r=K.cells y++K.flat r;rw[hy];rfl
  |succ k=>
   have e2:K.flat ((z::r).set (k+1) y)=z0::z1::K.flat (r.set k y):=(by show K.cells z++K.flat (r.set k y)=_;rw[ez];rfl);rw[e2,←ih k (by simpa using hk),show(k+1)*2=k*2+1+1 by omega,show k*2+1+1+1=(k*2+1)+1+1 by omega];rfl
theorem setOk {α:Type} {ys:List α} {Q:α→Prop} (h:∀x∈ys,Q x) (k:Nat) (y:α) (hy:Q y):∀x∈ys.set k y,Q x:=fun q hq=>by
 rcases List.mem_or_eq_of_mem_set hq with hq|rfl
 ·exact h q hq
 ·exact hy
theorem Lk.Own.put3 {P:Program} {α:Type} {K:Lk P α} (hK:K.n=3) {w:World} {B g n c:Nat} {ys:List α} (h:K.Own w B (.slice (some ⟨g,0,none⟩) n c) ys) (hn:ys.length=n) (k:Nat) (hk:k<n) (y:α) (p0 p1 p2:Value) (hy:K.cells y=[p0,p1,p2]) (hok:K.ok y):
  K.Own (((w.setCell ⟨g,k*3,none⟩ p0).setCell ⟨g,k*3+1,none⟩ p1).setCell ⟨g,k*3+2,none⟩ p2) B (.slice (some ⟨g,0,none⟩) n c) (ys.set k y):=by
 obtain⟨h1,h2⟩:=h;rw[hn]at h1;have q0:=(World.ownsRow.stored (n:=n) h1 (k*3) p0).1;have q1:=(World.ownsRow.stored (n:=n) q0 (k*3+1) p1).1;have q2:=(World.ownsRow.stored (n:=n) q1 (k*3+2) p2).1;rw[Lk.flat_set3 hK ys k y p0 p1 p2 hy (by omega)]at q2;exact⟨by rw[List.length_set,hn];exact q2,setOk h2 k y hok⟩
theorem Lk.Own.put2 {P:Program} {α:Type} {K:Lk P α} (hK:K.n=2) {w:World} {B g n c:Nat} {ys:List α} (h:K.Own w B (.slice (some ⟨g,0,none⟩) n c) ys) (hn:ys.length=n) (k:Nat) (hk:k<n) (y:α) (p0 p1:Value) (hy:K.cells y=[p0,p1]) (hok:K.ok y):
  K.Own ((w.setCell ⟨g,k*2,none⟩ p0).setCell ⟨g,k*2+1,none⟩ p1) B (.slice (some ⟨g,0,none⟩) n c) (ys.set k y):=by
 obtain⟨h1,h2⟩:=h;rw[hn]at h1;have q0:=(World.ownsRow.stored (n:=n) h1 (k*2) p0).1;have q1:=(World.ownsRow.stored (n:=n) q0 (k*2+1) p1).1;rw[Lk.flat_set2 hK ys k y p0 p1 hy (by omega)]at q1;exact⟨by rw[List.length_set,hn];exact q1,setOk h2 k y hok⟩
theorem set_self' {α:Type} {l:List α} {i:Nat} {x:α} (h:l[i]? =some x):l.set (i) x=l:=by
 obtain⟨hi,e⟩:=List.getElem?_eq_some_iff.1 h;rw[←e,List.set_getElem_self]
theorem Lk.Own.put3c {P:Program} {α:Type} {K:Lk P α} (hK:K.n=3) {w:World} {B g n c:Nat} {ys:List α} (h:K.Own w B (.slice (some ⟨g,0,none⟩) n c) ys) (hn:ys.length=n) (k:Nat) (hk:k<n) (y:α) (p0 p1 p2 p:Value) (ho:K.cells (ys.getD k K.dflt)=[p0,p1,p]) (hy:K.cells y=[p0,p1,p2]) (hok:K.ok y):
  K.Own (w.setCell ⟨g,k*3+2,none⟩ p2) B (.slice (some ⟨g,0,none⟩) n c) (ys.set k y):=by
 obtain⟨h1,h2⟩:=h;rw[hn]at h1;have q2:=(World.ownsRow.stored (n:=n) h1 (k*3+2) p2).1;have f0:=K.flat_at ys k 0 (by omega) (by omega);have f1:=K.flat_at ys k 1 (by omega) (by omega);rw[ho,hK]at f0 f1;have e:=Lk.flat_set3 hK ys k y p0 p1 p2 hy (by omega);rw[set_self' (i:=k*3) f0,set_self' f1]at e;rw[e]at q2;exact⟨by rw[List.length_set,hn];exact q2,setOk h2 k y hok⟩
theorem Lk.Own.cellAt {P:Program} {α:Type} {K:Lk P α} {w:World} {B g n c:Nat} {ys:List α} (h:K.Own w B (.slice (some ⟨g,0,none⟩) n c) ys) (hn:ys.length=n) (k j:Nat) (hk:k<n) (u:Value) (hu:(K.cells (ys.getD k K.dflt))[j]? =some u):w.cell? ⟨g,k*K.n+j,none⟩=some u∧w.frozen? ⟨g,k*K.n+j,none⟩=false:=by
 obtain⟨h1,h2⟩:=h;rw[hn]at h1;have hj:j<K.n:=by
  have:=(List.getElem?_eq_some_iff.1 hu).1;rw[K.len]at this;exact this
 refine⟨?_,h1.frozenAt _⟩;have hm:k*K.n+j<n*K.n:=by
  have:(k+1)*K.n≤n*K.n:=Nat.mul_le_mul_right _ hk;rw[Nat.succ_mul]at this;omega
 rw[h1.cellAt _ hm,K.flat_at ys k j (by omega) hj,hu]
theorem KE.Own.at3 {w:World} {B g n c:Nat} {ys:List _} (h:KE.Own w B (.slice (some ⟨g,0,none⟩) n c) ys) (hn:ys.length=n) (k:Nat) (hk:k<n):
  w.cell? ⟨g,k*3,none⟩=some (.int .i64 (ys.getD k ce0).a)∧w.cell? ⟨g,k*3+1,none⟩=some (.int .i64 (ys.getD k ce0).b)∧w.cell? ⟨g,k*3+2,none⟩=some (.int .i64 (ys.getD k ce0).c)∧w.frozen? ⟨g,k*3,none⟩=false∧w.frozen? ⟨g,k*3+1,none⟩=false∧w.frozen? ⟨g,k*3+2,none⟩=false:=by
 obtain⟨q0,z0⟩:=h.cellAt hn k 0 hk _ rfl;obtain⟨q1,z1⟩:=h.cellAt hn k 1 hk _ rfl;obtain⟨q2,z2⟩:=h.cellAt hn k 2 hk _ rfl;exact⟨q0,q1,q2,z0,z1,z2⟩
theorem KL.Own.at3 {w:World} {B g n c:Nat} {ys:List _} (h:KL.Own w B (.slice (some ⟨g,0,none⟩) n c) ys) (hn:ys.length=n) (k:Nat) (hk:k<n):
  w.cell? ⟨g,k*3,none⟩=some (.int .i64 (ys.getD k lo0).r)∧w.cell? ⟨g,k*3+1,none⟩=some (.int .i64 (ys.getD k lo0).l)∧w.cell? ⟨g,k*3+2,none⟩=some (.slice (ys.getD k lo0).A (ys.getD k lo0).xs.length (ys.getD k lo0).c)∧w.frozen? ⟨g,k*3,none⟩=false∧w.frozen? ⟨g,k*3+1,none⟩=false∧w.frozen? ⟨g,k*3+2,none⟩=false:=by
 obtain⟨q0,z0⟩:=h.cellAt hn k 0 hk _ rfl;obtain⟨q1,z1⟩:=h.cellAt hn k 1 hk _ rfl;obtain⟨q2,z2⟩:=h.cellAt hn k 2 hk _ rfl;exact⟨q0,q1,q2,z0,z1,z2⟩
theorem KT.Own.at2 {w:World} {B g n c:Nat} {ys:List (Int×Int)} (h:KT.Own w B (.slice (some ⟨g,0,none⟩) n c) ys) (hn:ys.length=n) (k:Nat) (hk:k<n):
  w.cell? ⟨g,k*2,none⟩=some (.int .i64 (ys.getD k (0,0)).1)∧w.cell? ⟨g,k*2+1,none⟩=some (.int .i64 (ys.getD k (0,0)).2)∧w.frozen? ⟨g,k*2,none⟩=false∧w.frozen? ⟨g,k*2+1,none⟩=false:=by
 obtain⟨q0,z0⟩:=h.cellAt hn k 0 hk _ rfl;obtain⟨q1,z1⟩:=h.cellAt hn k 1 hk _ rfl;exact⟨q0,q1,z0,z1⟩
end Go.Proofs.YtacjonncakhhmaaGreat
