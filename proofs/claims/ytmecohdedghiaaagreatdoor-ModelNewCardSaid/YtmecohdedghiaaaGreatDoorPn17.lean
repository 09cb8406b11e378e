/- Stocks: what all cells hold. -/
import Derived.Test.YtmecohdedghiaaaGreatDoorPn00
import Derived.Test.YtmecohdedghiaaaGreatDoorPn12
import Derived.Test.YtmecohdedghiaaaGreatDoorPn13
import Derived.Laws.StructEq
import Derived.Deep.RegionHeld3
import Derived.RegionTactic
import Derived.Test.YtmecohdedghiaaaGreatDoorPn14
set_option maxRecDepth 100000
set_option maxHeartbeats 8000000
namespace Go.Proofs.YtmecohdedghiaaaGreatDoor.Two
open Go.RowKit
theorem run_eq2 (w:World) (a b c d:Int):(Op.equalIn 10000 246 (.agg #[.int .u64 a,.int .u64 b]) (.agg #[.int .u64 c,.int .u64 d])).run Tryz.prog w=.ok (a==c&&b==d) w:=by
  have hs:(sizeOf 28).run Tryz.prog w=.ok 1 w:=by kernel_rfl
  show(Op.equalIn (9999+1) 246 (.agg #[.int .u64 a,.int .u64 b]) (.agg #[.int .u64 c,.int .u64 d])).run Tryz.prog w=_;have p0:∀x y:Value,(part 28 #[x,y] 0).run Tryz.prog w=.ok x w:=fun x y=>by kernel_rfl
  have p1:∀x y:Value,(part 28 #[x,y] 1).run Tryz.prog w=.ok y w:=fun x y=>by kernel_rfl
  have q:∀x y:Int,(Op.equalIn 9999 28 (.int .u64 x) (.int .u64 y)).run Tryz.prog w=.ok (x==y) w:=fun x y=>run_equalIn_int w 9998 28 .u64 .u64 x y Tryz.underlying28;rw[Op.equalIn];simp only[Sem.run_bind,run_underlying Tryz.underlying246,Result.andThen_ok,hs];rw[Std.Legacy.Range.forIn_eq_forIn_range'];simp only[Std.Legacy.Range.size,List.range',Nat.sub_zero,Nat.add_sub_cancel,Nat.div_one,List.forIn_cons,List.forIn_nil,Sem.run_bind,p0,q,Nat.zero_mul,Result.andThen_ok];by_cases h1:a=c
  · by_cases h2:b=d
    · subst h1;subst h2;simp[Sem.run_bind,Sem.run_pure,p1,q,Result.andThen]
    · subst h1;simp[h2,Sem.run_bind,Sem.run_pure,p1,q,Result.andThen]
  · simp[h1,Sem.run_pure,Result.andThen]
def sumL (l:List Int):Int:=l.foldl (· + ·) 0
theorem sumL_snoc (l:List Int) (x:Int):sumL (l++[x])=sumL l+x:=by unfold sumL;rw[List.foldl_append];rfl
theorem sumL_take (l:List Int) (k:Nat) (h:k<l.length):sumL (l.take (k+1))=sumL (l.take k)+l.getD k 0:=by
  rw[List.take_succ_eq_append_getElem h,sumL_snoc,List.getD_eq_getElem?_getD,List.getElem?_eq_getElem h];rfl
theorem wrap64_in' (x:Int):fits (wrap64 x):=by unfold wrap64;constructor<;>omega
theorem sumL_bound (l:List Int) (h:∀x∈l,fits x): -(9223372036854775808*(l.length:Int))≤sumL l∧sumL l≤9223372036854775808*(l.length:Int):=by
  suffices hh:∀(l:List Int) (a:Int),(∀x∈l,fits x)→a-9223372036854775808*(l.length:Int)≤l.foldl (· + ·) a∧l.foldl (· + ·) a≤a+9223372036854775808*(l.length:Int)by
    have:=hh l 0 h;unfold sumL;omega
  intro l
  induction l with
  |nil=>intro a _;simp
  |cons x r ih=>
    intro a h;have h1:=h x (by simp);have h2:=ih (a+x) (fun y hy=>h y (by simp[hy]));unfold fits at h1;rw[List.foldl_cons,List.length_cons];omega
theorem words_fit (s:Int) (h:fits s):((wrap64 (s%18446744073709551616)%18446744073709551616==s%18446744073709551616)&&(wrap64 (s%18446744073709551616)/18446744073709551616%18446744073709551616==s/18446744073709551616%18446744073709551616))=true∧wrap64 (s%18446744073709551616)=s:=by
  have e:wrap64 (s%18446744073709551616)=s:=by unfold fits at h;unfold wrap64;omega
  rw[e];simp
theorem words_not (s:Int) (h:¬fits s) (h1: -85070591730234615865843651857942052864≤s) (h2:s≤85070591730234615865843651857942052864):((wrap64 (s%18446744073709551616)%18446744073709551616==s%18446744073709551616)&&(wrap64 (s%18446744073709551616)/18446744073709551616%18446744073709551616==s/18446744073709551616%18446744073709551616))=false:=by
  rw[Bool.and_eq_false_iff];right;rw[beq_eq_false_iff_ne];unfold fits at h;unfold wrap64;omega
def w2c (x:Int):Array Value:=#[.int .u64 (x%18446744073709551616),.int .u64 (x/18446744073709551616%18446744073709551616)]
theorem sum_any (v:Value) (xs:List Int) (w:World) (h:IsL w w.heap.size v xs):
    Calls Tryz.prog 160 #[v] w fun e w'=>e=.returned (.tuple #[.int .i64 (fitV (sumL xs)),.int .i64 (fitE (sumL xs))])∧Below w.heap.size w w':=by
  obtain⟨⟨A,cap,rfl,hcap,hA⟩,hfit,hlen⟩:=h;obtain⟨B,hB⟩:∃B,B=w.heap.size:=⟨_,rfl⟩;rw[←hB]at hA⊢;have HA:=aH hA;have HF:=aH hfit;have HB:=aH hB;clear hA hfit;go_enter Tryz.func160,Tryz.ntmps160;go_wp2;rw[←hB];clear hB
  go_loopw [10] (fun i wr=>∃k:Nat,k≤xs.length∧i=.int .i64 (k:Int)∧wr.heap[B]? =some (Obj.cells (w2c (sumL (xs.take k))) 246)∧Below B w wr) (fun i _=>xs.length-(intOf i).toNat)
  case atStart=>exact⟨0,Nat.zero_le _,rfl,by rw[HB.out,heap_alloc_new];rfl,by rw[HB.out];exact(bR _ _).alloc (nR _) _⟩
  case round=>
    obtain⟨k,hk,rfl,hrow,hbel⟩:=hrel;have HR:=aH hrow;have HL:=aH hbel;by_cases hlt:k<xs.length
    · obtain⟨b,off,rfl,hbB,hcell⟩:=HA.out (by omega)
      have hx:=hcell k hlt;rw[←hbel.cell (p:=⟨b,off+k,none⟩) hbB]at hx;have hfx:=getD_fits HF.out k;have HST:=aH (sumL_take xs k hlt);generalize xs.getD k 0=x at *;generalize sumL (xs.take k)=s at *;have HFX:=aH hfx;have hBw:B<wr.heap.size:=(Array.getElem?_eq_some_iff.1 hrow).1;have c0:wr.cell? ⟨B,0,none⟩=some (.int .u64 (s%18446744073709551616)):=cell_of_row wr B 0 _ _ _ hrow;have c1:wr.cell? ⟨B,1,none⟩=some (.int .u64 (s/18446744073709551616%18446744073709551616)):=cell_of_row wr B 1 _ _ _ hrow;have f0:wr.frozen? ⟨B,0,none⟩=false:=frozen_of_row wr B 0 _ _ hrow;have f1:wr.frozen? ⟨B,1,none⟩=false:=frozen_of_row wr B 1 _ _ hrow;clear hrow hbel hfx hcell;go_wp2
      go_region_with (first
        |(
          go_at_call 222;refine(widen_any x HFX.out _).mono ?_;rintro e w1 ⟨rfl,hb1⟩
          have c0':w1.cell? ⟨B,0,none⟩=_:=(hb1.cell (p:=⟨B,0,none⟩) hBw).trans c0;have c1':w1.cell? ⟨B,1,none⟩=_:=(hb1.cell (p:=⟨B,1,none⟩) hBw).trans c1;have f0':w1.frozen? ⟨B,0,none⟩=_:=(hb1.frozen (p:=⟨B,0,none⟩) hBw).trans f0;have f1':w1.frozen? ⟨B,1,none⟩=_:=(hb1.frozen (p:=⟨B,1,none⟩) hBw).trans f1;have HB1:=aH hb1;clear hb1)
        |(
          go_at_call 221;refine(plus_any s x _).mono ?_;rintro e w2 ⟨rfl,hb2⟩
          have c0'':w2.cell? ⟨B,0,none⟩=_:=(hb2.cell (p:=⟨B,0,none⟩) (nL hBw HB1.out.size)).trans c0';have c1'':w2.cell? ⟨B,1,none⟩=_:=(hb2.cell (p:=⟨B,1,none⟩) (nL hBw HB1.out.size)).trans c1';have f0'':w2.frozen? ⟨B,0,none⟩=_:=(hb2.frozen (p:=⟨B,0,none⟩) (nL hBw HB1.out.size)).trans f0';have f1'':w2.frozen? ⟨B,1,none⟩=_:=(hb2.frozen (p:=⟨B,1,none⟩) (nL hBw HB1.out.size)).trans f1';have HB2:=aH hb2;clear hb2;unfold W2))
      all_goals
        go_wp2
        go_roundw
        case rel=>
          have r1:=(HB1.out.block B hBw).trans HR.out;have r2:=(HB2.out.block B (nL hBw HB1.out.size)).trans r1;refine⟨k+1,by omega,num_i (by omega),by rw[HST.out];exact two_cells _ _ _ _ _ _ r2,?_⟩;exact Below.setCell (Below.setCell ((HL.out.drew.trans (HB1.out.mono (Nat.le_of_lt hBw))).trans (HB2.out.mono (Nat.le_of_lt (nL hBw HB1.out.size)))) (nR _) _) (nR _) _
        case measure=>simp[intOf];omega
    · obtain rfl:k=xs.length:=by omega
      rw[List.take_length]at *;have hBw:B<wr.heap.size:=(Array.getElem?_eq_some_iff.1 hrow).1;have HSB:=aH (sumL_bound xs HF.out);generalize hS:sumL xs=s at *;have HSS:=aH hS;have c0:wr.cell? ⟨B,0,none⟩=some (.int .u64 (s%18446744073709551616)):=cell_of_row wr B 0 _ _ _ hrow;have c1:wr.cell? ⟨B,1,none⟩=some (.int .u64 (s/18446744073709551616%18446744073709551616)):=cell_of_row wr B 1 _ _ _ hrow;have HFW:=aH (wrap64_in' (s%18446744073709551616));have hbd: -85070591730234615865843651857942052864≤s∧s≤85070591730234615865843651857942052864:=by
        have:=HSB.out;omega
      have HBD:=aH hbd;have heq:=fun w=>run_eq2 w (wrap64 (s%18446744073709551616)%18446744073709551616) (wrap64 (s%18446744073709551616)/18446744073709551616%18446744073709551616) (s%18446744073709551616) (s/18446744073709551616%18446744073709551616);clear hrow hbel hS hbd;by_cases hfs:fits s
      · obtain⟨e1,e2⟩:=words_fit s hfs
        rw[e1]at heq;have HV:=aH (show fitV s=s from if_pos hfs);have HE:=aH (show fitE s=0 from if_pos hfs);have H2:=aH e2;clear e1 e2 hfs;go_wp2
        go_region_with (first
          |(
            go_at_call 222;refine(widen_any _ HFW.out _).mono ?_;rintro e w1 ⟨rfl,hb1⟩
            have c0':w1.cell? ⟨B,0,none⟩=_:=(hb1.cell (p:=⟨B,0,none⟩) hBw).trans c0;have c1':w1.cell? ⟨B,1,none⟩=_:=(hb1.cell (p:=⟨B,1,none⟩) hBw).trans c1;have HB1:=aH hb1;clear hb1;unfold W2))
        all_goals
          go_wp2
          go_ret2
          exact⟨ret_ii (by rw[HSS.out,H2.out,HV.out]) (by rw[HSS.out,HE.out]),HL.out.drew.trans (HB1.out.mono (Nat.le_of_lt hBw))⟩
      · have e1:=words_not s hfs HBD.out.1 HBD.out.2
        rw[e1]at heq;have HV:=aH (show fitV s=0 from if_neg hfs);have HE:=aH (show fitE s=4 from if_neg hfs);clear e1 hfs;go_wp2
        go_region_with (first
          |(
            go_at_call 222;refine(widen_any _ HFW.out _).mono ?_;rintro e w1 ⟨rfl,hb1⟩
            have c0':w1.cell? ⟨B,0,none⟩=_:=(hb1.cell (p:=⟨B,0,none⟩) hBw).trans c0;have c1':w1.cell? ⟨B,1,none⟩=_:=(hb1.cell (p:=⟨B,1,none⟩) hBw).trans c1;have HB1:=aH hb1;clear hb1;unfold W2))
        all_goals
          go_wp2
          go_ret2
          exact⟨ret_ii (by rw[HSS.out,HV.out]) (by rw[HSS.out,HE.out]),HL.out.drew.trans (HB1.out.mono (Nat.le_of_lt hBw))⟩
theorem sumL_cons (x:Int) (l:List Int):sumL (x::l)=x+sumL l:=by
  suffices h:∀(l:List Int) (a b:Int),l.foldl (· + ·) (a+b)=a+l.foldl (· + ·) b by
    have:=h l x 0;unfold sumL;rw[List.foldl_cons,Int.zero_add]
    rwa [Int.add_zero]at this
  intro l
  induction l with
  |nil=>intro a b;rfl
  |cons y r ih=>intro a b;rw[List.foldl_cons,List.foldl_cons,Int.add_assoc,ih]
theorem sumL_ge (l:List Int) (h:∀x∈l,0≤x):0≤sumL l:=by
  induction l with
  |nil=>decide
  |cons x r ih=>rw[sumL_cons];have:=h x (by simp);have:=ih (fun y hy=>h y (by simp[hy]));omega
theorem sumL_le (l:List Int) (h:∀x∈l,x<0):sumL l≤0:=by
  induction l with
  |nil=>decide
  |cons x r ih=>rw[sumL_cons];have:=h x (by simp);have:=ih (fun y hy=>h y (by simp[hy]));omega
theorem IsL.tail {w:World} {B b off cap:Nat} {x:Int} {r:List Int} (hb:b<B) (hc:∀i,i<(x::r).length→w.cell? ⟨b,off+i,none⟩=some (.int .i64 ((x::r).getD i 0)))
    (hcap:(x::r).length≤cap) (hf:∀y∈x::r,fits y) (hl:(x::r).length≤9223372036854775807):
    (cap=1→IsL w B (.slice (some ⟨b,off,none⟩) r.length 0) r)∧IsL w B (.slice (some ⟨b,off+1,none⟩) r.length (cap-1)) r:=by
  rw[List.length_cons]at hcap hl;refine⟨fun h1=>⟨⟨_,0,rfl,by omega,fun h0=>by omega⟩,fun y hy=>hf y (by simp[hy]),by omega⟩,⟨⟨_,cap-1,rfl,by omega,fun _=>⟨b,off+1,rfl,hb,fun i hi=>?_⟩⟩,fun y hy=>hf y (by simp[hy]),by omega⟩⟩;rw[show off+1+i=off+(i+1)by omega,hc (i+1) (by simp;omega)];rfl
def lenV:Value→Nat|.slice _ n _=>n|_=>0
theorem IsL.lenV {w:World} {B:Nat} {v:Value} {xs:List Int} (h:IsL w B v xs):lenV v=xs.length:=by
  obtain⟨⟨A,cap,rfl,_⟩,_⟩:=h;rfl
def Off2 (u v:Value):Prop:=∀k,u.ownBlock=some k→v.ownBlock≠some k
theorem Off2.symm {u v:Value} (h:Off2 u v):Off2 v u:=fun k h1 h2=>h k h2 h1
theorem Off2.grown {u v u':Value} {w:World} {base:Nat} {ys:List Int} (h:Off2 u v) (hv:Own w base v ys) (hu:u'.ownBlock=u.ownBlock∨u'.ownBlock=some w.heap.size):Off2 u' v:=by
  intro k hk hk2;rcases hu with hu|hu
  · exact h k (hu▸hk) hk2
  · rw[hu]at hk
    injection hk with hk
    have:=(hv.lt k hk2).2;omega
theorem Own.apart {w w':World} {base:Nat} {u v:Value} {ys:List Int} (h:Own w base v ys) (hu:Off2 u v) (hg:w.grownBy w' u.ownBlock):Own w' base v ys:=by
  refine h.kept hg ?_
  cases hv:v.ownBlock with
  |none=>exact .inl rfl
  |some k=>
    refine .inr fun e=>?_;exact hu k e.symm hv
theorem Own.grow {S:Nat} {X W W':World} {v:Value} {xs:List Int} (h:Own W S v xs) (hb:Below S X W) (hs:S≤W.heap.size) (hg:W.grownBy W' v.ownBlock):Below S X W':=hb.grown hg hs fun k hk=>(h.lt k hk).1
structure Parts (l ups downs:List Int):Prop where
  sum:sumL ups+sumL downs=sumL l
  len:ups.length+downs.length=l.length
  up:∀x∈ups,0≤x
  down:∀x∈downs,x<0
theorem Parts.nil:Parts [] [] []:=⟨rfl,rfl,fun x hx=>by simp at hx,fun x hx=>by simp at hx⟩
theorem Parts.addUp {l ups downs:List Int} (h:Parts l ups downs) (x:Int) (hx:0≤x):Parts (l++[x]) (ups++[x]) downs:=
  ⟨by rw[sumL_snoc,sumL_snoc,←h.sum];omega,by simp;have:=h.len;omega,fun y hy=>by
    rcases List.mem_append.1 hy with hy|hy
    · exact h.up y hy
    · simp at hy;omega,h.down⟩
theorem Parts.addDown {l ups downs:List Int} (h:Parts l ups downs) (x:Int) (hx:x<0):Parts (l++[x]) ups (downs++[x]):=
  ⟨by rw[sumL_snoc,sumL_snoc,←h.sum];omega,by simp;have:=h.len;omega,h.up,fun y hy=>by
    rcases List.mem_append.1 hy with hy|hy
    · exact h.down y hy
    · simp at hy;omega⟩
structure Rest (S s:Int) (ups downs:List Int):Prop where
  sum:s+(sumL ups+sumL downs)=S
  fit:fits s
  up:∀x∈ups,0≤x
  down:∀x∈downs,x<0
  fup:∀x∈ups,fits x
  fdown:∀x∈downs,fits x
theorem Rest.takeUp {S s a:Int} {ra downs:List Int} (h:Rest S s (a::ra) downs) (hf:fits (s+a)):Rest S (s+a) ra downs:=
  ⟨by have:=h.sum;rw[sumL_cons]at this;omega,hf,fun x hx=>h.up x (by simp[hx]),h.down,fun x hx=>h.fup x (by simp[hx]),h.fdown⟩
theorem Rest.takeDown {S s a:Int} {ups ra:List Int} (h:Rest S s ups (a::ra)) (hf:fits (s+a)):Rest S (s+a) ups ra:=
  ⟨by have:=h.sum;rw[sumL_cons]at this;omega,hf,h.up,fun x hx=>h.down x (by simp[hx]),h.fup,fun x hx=>h.fdown x (by simp[hx])⟩
theorem Rest.overUp {S s a:Int} {ra downs:List Int} (h:Rest S s (a::ra) downs) (hc:downs=[]∨s<0) (hf:¬fits (s+a)):¬fits S:=by
  have h1:=h.fup a (by simp);have h2:=h.up a (by simp);have h3:=h.fit;have h4:=h.sum;have h5:=sumL_ge ra (fun x hx=>h.up x (by simp[hx]));rw[sumL_cons]at h4;rcases hc with hc|hc
  · rw[hc,show sumL []=0 from rfl]at h4
    unfold fits at *;omega
  · unfold fits at *
    omega
theorem Rest.overDown {S s a:Int} {ups ra:List Int} (h:Rest S s ups (a::ra)) (hc:ups=[]∨0≤s) (hf:¬fits (s+a)):¬fits S:=by
  have h1:=h.fdown a (by simp);have h2:=h.down a (by simp);have h3:=h.fit;have h4:=h.sum;have h5:=sumL_le ra (fun x hx=>h.down x (by simp[hx]));rw[sumL_cons]at h4;rcases hc with hc|hc
  · rw[hc,show sumL []=0 from rfl]at h4
    unfold fits at *;omega
  · unfold fits at *
    omega
theorem Rest.done {S s:Int} (h:Rest S s [] []):S=s∧fits s:=by
  have:=h.sum;rw[show sumL []=0 from rfl]at this;exact⟨by omega,h.fit⟩
theorem rsum_any (v:Value) (xs:List Int) (w:World) (h:IsL w w.heap.size v xs) (hl:xs.length≤1000000):
    Calls Tryz.prog 170 #[v] w fun e w'=>e=.returned (.tuple #[.int .i64 (fitV (sumL xs)),.int .i64 (fitE (sumL xs))])∧Below w.heap.size w w':=by
  obtain⟨⟨A,cap,rfl,hcap,hA⟩,hfit,hlen⟩:=h;obtain⟨B,hB⟩:∃B,B=w.heap.size:=⟨_,rfl⟩;rw[←hB]at hA⊢;have HA:=aH hA;have HF:=aH hfit;have HB:=aH hB;have HBw:=aH (Nat.le_of_eq hB);clear hA hfit hB;go_enter Tryz.func170,Tryz.ntmps170;go_wp2
  go_loopw [4,5,6] (fun u d i wr=>∃(k:Nat) (ups downs:List Int),k≤xs.length∧i=.int .i64 (k:Int)∧Parts (xs.take k) ups downs∧Own wr B u ups∧Own wr B d downs∧Off2 u d∧Below B w wr) (fun _ _ i _=>xs.length-(intOf i).toNat)
  case atStart=>exact⟨0,[],[],Nat.zero_le _,rfl,Parts.nil,Own.nil _ _,Own.nil _ _,fun k hk=>by simp[Value.ownBlock]at hk,bR _ _⟩
  case round=>
    obtain⟨k,ups,downs,hk,rfl,hparts,hou,hod,hoff,hbel⟩:=hrel;have HP:=aH hparts;have HU:=aH hou;have HD:=aH hod;have HO:=aH hoff;have HL:=aH hbel;have hszw:B≤wr.heap.size:=Nat.le_trans HBw.out hbel.size;have hpl:=hparts.len;rw[List.length_take]at hpl;by_cases hlt:k<xs.length
    · obtain⟨b,off,rfl,hbB,hcell⟩:=HA.out (by omega)
      have hx:=hcell k hlt;rw[←hbel.cell (p:=⟨b,off+k,none⟩) hbB]at hx;have hfx:=getD_fits HF.out k;have htk:xs.take (k+1)=xs.take k++[xs.getD k 0]:=by
        rw[List.take_succ_eq_append_getElem hlt,List.getD_eq_getElem?_getD,List.getElem?_eq_getElem hlt];rfl
      have HTK:=aH htk;generalize xs.getD k 0=x at *;have HFX:=aH hfx;have HPL:=aH hpl;have HSZ:=aH hszw;clear hparts hou hod hoff hbel hfx hcell htk hpl hszw;by_cases hx0:x<0
      · go_wp2_with (at_builtin;refine wpList_app _ rfl _ _ rfl B (wr.heap.size+1) _ _ downs [x] rfl rfl (HD.out.alloc _) (IsL.lit wr x HFX.out) ?c1 ?c2 ?_)
        case c1=>have:=HPL.out;simp;omega
        case c2=>have:=HSZ.out;simp;omega
        intro d' w1 hown' hgrow hat;have hou1:=(HU.out.alloc (.cells #[.int .i64 x] 3)).apart HO.out.symm hgrow;have hoff1:=(HO.out.symm.grown (HU.out.alloc (.cells #[.int .i64 x] 3)) (by rw[size_alloc];exact hat)).symm;have hb1:=Own.grow (HD.out.alloc (.cells #[.int .i64 x] 3)) (HL.out.alloc HSZ.out _) (by have:=HSZ.out;simp;omega) hgrow;have H1:=aH hown';have H2:=aH hou1;have H3:=aH hoff1;have H4:=aH hb1;clear hown' hou1 hoff1 hb1 hgrow hat;go_wp2
        go_roundw
        case rel=>exact⟨k+1,ups,downs++[x],by omega,num_i (by omega),by rw[HTK.out];exact HP.out.addDown x hx0,H2.out,H1.out,H3.out,H4.out⟩
        case measure=>simp[intOf];omega
      · go_wp2_with (at_builtin;refine wpList_app _ rfl _ _ rfl B (wr.heap.size+1) _ _ ups [x] rfl rfl (HU.out.alloc _) (IsL.lit wr x HFX.out) ?c1 ?c2 ?_)
        case c1=>have:=HPL.out;simp;omega
        case c2=>have:=HSZ.out;simp;omega
        intro d' w1 hown' hgrow hat;have hou1:=(HD.out.alloc (.cells #[.int .i64 x] 3)).apart HO.out hgrow;have hoff1:=(HO.out.grown (HD.out.alloc (.cells #[.int .i64 x] 3)) (by rw[size_alloc];exact hat));have hb1:=Own.grow (HU.out.alloc (.cells #[.int .i64 x] 3)) (HL.out.alloc HSZ.out _) (by have:=HSZ.out;simp;omega) hgrow;have H1:=aH hown';have H2:=aH hou1;have H3:=aH hoff1;have H4:=aH hb1;clear hown' hou1 hoff1 hb1 hgrow hat;go_wp2
        go_roundw
        case rel=>exact⟨k+1,ups++[x],downs,by omega,num_i (by omega),by rw[HTK.out];exact HP.out.addUp x (by omega),H1.out,H2.out,H3.out,H4.out⟩
        case measure=>simp[intOf];omega
    · obtain rfl:k=xs.length:=by omega
      rw[List.take_length]at *;have hiu:=HU.out.isL (by omega);have hid:=HD.out.isL (by omega);have HIU:=aH hiu;have HID:=aH hid;have hrest:Rest (sumL xs) 0 ups downs:=⟨by have:=hparts.sum;omega,by decide,hparts.up,hparts.down,HU.out.2,HD.out.2⟩;have HRE:=aH hrest;clear hparts hou hod hoff hbel hpl hiu hid hrest;obtain⟨w1,hw1⟩:∃w1,w1=wr:=⟨_,rfl⟩;subst hw1;go_wp2
      go_loopw [4,5,7] (fun u d i wr=>∃(ups downs:List Int) (s:Int) (n:Nat),IsL w1 w1.heap.size u ups∧IsL w1 w1.heap.size d downs∧i=.int .i64 s∧Rest (sumL xs) s ups downs∧wr=w1.drewN n) (fun u d _ _=>lenV u+lenV d)
      case atStart=>exact⟨ups,downs,0,0,HIU.out,HID.out,rfl,HRE.out,rfl⟩
      case round=>
        clear HIU HID HRE HU HD HP HO;obtain⟨ups,downs,s,n,hu,hd,rfl,hre,hw⟩:=hrel;have HU:=aH hu;have HD:=aH hd;have HR:=aH hre;have HW:=aH hw;obtain⟨⟨Au,cu,rfl,hcu,hAu⟩,_,hlu⟩:=hu;obtain⟨⟨Ad,cd,rfl,hcd,hAd⟩,_,hld⟩:=hd;have HAU:=aH hAu;have HAD:=aH hAd;clear hre hw hAu hAd
        match hup:ups,hdn:downs with
        |[],[]=>
          have hd:=HR.out.done;obtain⟨hS,hf⟩:=hd;have HS:=aH hS;have HFF:=aH hf;clear hS hf;go_wp2
          go_ret2
          exact⟨ret_ii (by rw[fitV,HS.out,if_pos HFF.out]) (by rw[fitE,HS.out,if_pos HFF.out]),by rw[HW.out];exact below_drewN HL.out _⟩
        |a::ra,[]=>
          obtain⟨b,off,rfl,hbB,hcell⟩:=HAU.out (by simp);have hx:wr.cell? ⟨b,off,none⟩=some (.int .i64 a):=by
            have e:=hcell 0 (by simp);rw[HW.out];exact e
          have HT:=aH (IsL.tail hbB hcell hcu HU.out.2.1 hlu);have HFS:=aH HR.out.fit;have HFA:=aH (HR.out.fup a (by simp));clear hcell;go_wp2;go_quiet (fail);go_wp2_with fail;all_goals
            refine(radd_any s a HFS.out HFA.out _).mono ?_;rintro e w' ⟨rfl,rfl⟩;by_cases hf:fits (s+a)
            · have hv:fitV (s+a)=s+a:=if_pos hf
              have he:fitE (s+a)=0:=if_pos hf;have HFF:=aH hf;clear hf;go_wp2
              go_roundw
              case rel=>
                have hf:=HFF.out;have e:=HW.out
                first
                  |exact⟨ra,[],s+a,_,HT.out.1 ‹_›,HD.out,rfl,HR.out.takeUp hf,by rw[e];exact World.drewN_drewN _ _ _⟩
                  |exact⟨ra,[],s+a,_,HT.out.2,HD.out,rfl,HR.out.takeUp hf,by rw[e];exact World.drewN_drewN _ _ _⟩
              case measure=>simp[lenV]
            · have hv:fitV (s+a)=0:=if_neg hf
              have he:fitE (s+a)=4:=if_neg hf;have hnS:=HR.out.overUp (Or.inl rfl) hf;have HNS:=aH hnS;clear hf hnS;go_wp2
              go_ret2
              exact⟨ret_ii (by rw[fitV,if_neg HNS.out]) (by rw[fitE,if_neg HNS.out]),by rw[HW.out];exact below_drewN (below_drewN HL.out _) _⟩
        |[],c::rc=>
          by_cases hs0:s<0
          · have HS0:=aH hs0
            obtain⟨b,off,rfl,hbB,hcell⟩:=HAD.out (by simp);have hx:wr.cell? ⟨b,off,none⟩=some (.int .i64 c):=by
              have e:=hcell 0 (by simp);rw[HW.out];exact e
            have HT:=aH (IsL.tail hbB hcell hcd HD.out.2.1 hld);have HFS:=aH HR.out.fit;have HFA:=aH (HR.out.fdown c (by simp));clear hcell;go_wp2;go_quiet (fail);go_wp2_with fail;all_goals
              refine(radd_any s c HFS.out HFA.out _).mono ?_;rintro e w' ⟨rfl,rfl⟩;by_cases hf:fits (s+c)
              · have hv:fitV (s+c)=s+c:=if_pos hf
                have he:fitE (s+c)=0:=if_pos hf;have HFF:=aH hf;clear hf;go_wp2
                go_roundw
                case rel=>
                  have hf:=HFF.out;have e:=HW.out
                  first
                    |exact⟨[],rc,s+c,_,HU.out,HT.out.1 ‹_›,rfl,HR.out.takeDown hf,by rw[e];exact World.drewN_drewN _ _ _⟩
                    |exact⟨[],rc,s+c,_,HU.out,HT.out.2,rfl,HR.out.takeDown hf,by rw[e];exact World.drewN_drewN _ _ _⟩
                case measure=>simp[lenV]
              · have hv:fitV (s+c)=0:=if_neg hf
                have he:fitE (s+c)=4:=if_neg hf;have hnS:=HR.out.overDown (Or.inl rfl) hf;have HNS:=aH hnS;clear hf hnS;go_wp2
                go_ret2
                exact⟨ret_ii (by rw[fitV,if_neg HNS.out]) (by rw[fitE,if_neg HNS.out]),by rw[HW.out];exact below_drewN (below_drewN HL.out _) _⟩
          · have HS0:=aH hs0
            obtain⟨b,off,rfl,hbB,hcell⟩:=HAD.out (by simp);have hx:wr.cell? ⟨b,off,none⟩=some (.int .i64 c):=by
              have e:=hcell 0 (by simp);rw[HW.out];exact e
            have HT:=aH (IsL.tail hbB hcell hcd HD.out.2.1 hld);have HFS:=aH HR.out.fit;have HFA:=aH (HR.out.fdown c (by simp));clear hcell;go_wp2;go_quiet (fail);go_wp2_with fail;all_goals
              refine(radd_any s c HFS.out HFA.out _).mono ?_;rintro e w' ⟨rfl,rfl⟩;by_cases hf:fits (s+c)
              · have hv:fitV (s+c)=s+c:=if_pos hf
                have he:fitE (s+c)=0:=if_pos hf;have HFF:=aH hf;clear hf;go_wp2
                go_roundw
                case rel=>
                  have hf:=HFF.out;have e:=HW.out
                  first
                    |exact⟨[],rc,s+c,_,HU.out,HT.out.1 ‹_›,rfl,HR.out.takeDown hf,by rw[e];exact World.drewN_drewN _ _ _⟩
                    |exact⟨[],rc,s+c,_,HU.out,HT.out.2,rfl,HR.out.takeDown hf,by rw[e];exact World.drewN_drewN _ _ _⟩
                case measure=>simp[lenV]
              · have hv:fitV (s+c)=0:=if_neg hf
                have he:fitE (s+c)=4:=if_neg hf;have hnS:=HR.out.overDown (Or.inl rfl) hf;have HNS:=aH hnS;clear hf hnS;go_wp2
                go_ret2
                exact⟨ret_ii (by rw[fitV,if_neg HNS.out]) (by rw[fitE,if_neg HNS.out]),by rw[HW.out];exact below_drewN (below_drewN HL.out _) _⟩
        |a::ra,c::rc=>
          have hne:((ra.length:Int)+1==0)=false:=(by rw[beq_eq_false_iff_ne];omega);by_cases hs0:s<0
          · have HS0:=aH hs0
            obtain⟨b,off,rfl,hbB,hcell⟩:=HAU.out (by simp);have hx:wr.cell? ⟨b,off,none⟩=some (.int .i64 a):=by
              have e:=hcell 0 (by simp);rw[HW.out];exact e
            have HT:=aH (IsL.tail hbB hcell hcu HU.out.2.1 hlu);have HFS:=aH HR.out.fit;have HFA:=aH (HR.out.fup a (by simp));clear hcell;go_wp2;go_quiet (fail);go_wp2_with fail;all_goals
              refine(radd_any s a HFS.out HFA.out _).mono ?_;rintro e w' ⟨rfl,rfl⟩;by_cases hf:fits (s+a)
              · have hv:fitV (s+a)=s+a:=if_pos hf
                have he:fitE (s+a)=0:=if_pos hf;have HFF:=aH hf;clear hf;go_wp2
                go_roundw
                case rel=>
                  have hf:=HFF.out;have e:=HW.out
                  first
                    |exact⟨ra,c::rc,s+a,_,HT.out.1 ‹_›,HD.out,rfl,HR.out.takeUp hf,by rw[e];exact World.drewN_drewN _ _ _⟩
                    |exact⟨ra,c::rc,s+a,_,HT.out.2,HD.out,rfl,HR.out.takeUp hf,by rw[e];exact World.drewN_drewN _ _ _⟩
                case measure=>simp[lenV]
              · have hv:fitV (s+a)=0:=if_neg hf
                have he:fitE (s+a)=4:=if_neg hf;have hnS:=HR.out.overUp (Or.inr HS0.out) hf;have HNS:=aH hnS;clear hf hnS;go_wp2
                go_ret2
                exact⟨ret_ii (by rw[fitV,if_neg HNS.out]) (by rw[fitE,if_neg HNS.out]),by rw[HW.out];exact below_drewN (below_drewN HL.out _) _⟩
          · have HS0:=aH hs0
            obtain⟨b,off,rfl,hbB,hcell⟩:=HAD.out (by simp);have hx:wr.cell? ⟨b,off,none⟩=some (.int .i64 c):=by
              have e:=hcell 0 (by simp);rw[HW.out];exact e
            have HT:=aH (IsL.tail hbB hcell hcd HD.out.2.1 hld);have HFS:=aH HR.out.fit;have HFA:=aH (HR.out.fdown c (by simp));clear hcell;go_wp2;go_quiet (fail);go_wp2_with fail;all_goals
              refine(radd_any s c HFS.out HFA.out _).mono ?_;rintro e w' ⟨rfl,rfl⟩;by_cases hf:fits (s+c)
              · have hv:fitV (s+c)=s+c:=if_pos hf
                have he:fitE (s+c)=0:=if_pos hf;have HFF:=aH hf;clear hf;go_wp2
                go_roundw
                case rel=>
                  have hf:=HFF.out;have e:=HW.out
                  first
                    |exact⟨a::ra,rc,s+c,_,HU.out,HT.out.1 ‹_›,rfl,HR.out.takeDown hf,by rw[e];exact World.drewN_drewN _ _ _⟩
                    |exact⟨a::ra,rc,s+c,_,HU.out,HT.out.2,rfl,HR.out.takeDown hf,by rw[e];exact World.drewN_drewN _ _ _⟩
                case measure=>simp[lenV]
              · have hv:fitV (s+c)=0:=if_neg hf
                have he:fitE (s+c)=4:=if_neg hf;have hnS:=HR.out.overDown (Or.inr (by have:=HS0.out;omega)) hf;have HNS:=aH hnS;clear hf hnS;go_wp2
                go_ret2
                exact⟨ret_ii (by rw[fitV,if_neg HNS.out]) (by rw[fitE,if_neg HNS.out]),by rw[HW.out];exact below_drewN (below_drewN HL.out _) _⟩
end Go.Proofs.YtmecohdedghiaaaGreatDoor.Two
namespace Go.Proofs.YtmecohdedghiaaaGreatDoor
open Go.RowKit
def volS (l:List Cel.Ce):List Int:=l.map fun q=>q.b
theorem volS_take (l:List Cel.Ce) (k:Nat) (h:k<l.length):volS (l.take (k+1))=volS (l.take k)++[(l.getD k ce0).b]:=by
 rw[take_snoc l k ce0 h];simp[volS]
def volF (l:List Cel.Ce) (k:Nat):List Int:=volS (l.take k)++List.replicate (l.length-k) 0
theorem volF_set (l:List Cel.Ce) (k:Nat) (h:k<l.length):(volF l k).set k (l.getD k ce0).b=volF l (k+1):=by
 unfold volF;rw[volS_take l k h];have hk:(volS (l.take k)).length=k:=by unfold volS;rw[List.length_map,List.length_take];omega
 rw[List.set_append,if_neg (by omega),hk,Nat.sub_self,show l.length-k=(l.length-(k+1))+1 by omega,List.replicate_succ,List.set_cons_zero,List.append_assoc];rfl
theorem volF_len (l:List Cel.Ce) (k:Nat) (h:k≤l.length):(volF l k).length=l.length:=by
 unfold volF volS;rw[List.length_append,List.length_map,List.length_take,List.length_replicate];omega
abbrev totV (l:List Cel.Ce):Value:=.tuple #[.int .i64 (fitV (Two.sumL (volS l))),.int .i64 (fitE (Two.sumL (volS l)))]
theorem total_any (s:Stk) (w:World) (hs:s.In w w.heap.size) (hl:s.cl.length≤100000):Calls Tryz.prog 97 #[s.v] w fun e w'=>e=.returned (totV s.cl)∧Below w.heap.size w w':=by
 obtain⟨w0,hw0⟩:∃w0,w0=w.alloc s.ob:=⟨_,rfl⟩;have HB0:=aH (show Below w.heap.size w w0 by rw[hw0];exact bL (bR _ _) _);have HC:=aH hs.c;have HS0:=aH (show SkAt w0 w.heap.size s by rw[hw0];exact Cells6.new w _ _ _ _ _ _ _);have hfit:=hs.c.2.1;have HSU:=aH (fun v w h=>Two.sum_any v (volS s.cl) w h);clear hs;obtain⟨cA,cc,cl,lA,lc,ll,tA,tc,tl,st,inn,out⟩:=s;dsimp only at *;have HFT:=aH hfit;obtain⟨i0,hi,hz0,hz1,_⟩:=info_parts KI.info;have hlI:(cl.length:Int)≤100000:=by omega
 clear hfit;obtain⟨g0,g1,g2,g3,g4,g5,_⟩:=HS0.out;rw[hw0]at g0 g1 g2 g3 g4 g5;go_enter Tryz.func97,Tryz.ntmps97;go_wp2_with (at_make;refine wpList_make_full _ rfl _ _ 27 rfl (w.heap.size+1) 3 i0 (.int .i64 0) 1 Tryz.underlying27 hi hz0 hz1 _ _ _ _ cl.length rfl rfl rfl rfl ?bytes ?maxLen (by simp) ?_)
 case bytes=>rw[show KI.bytes=8 from rfl];omega
 case maxLen=>unfold maxLen;omega
 clear g0 g1 g2 g3 g4 g5;intro w1 hown hgrow;rw[←hw0]at hgrow;have hsz:w0.heap.size=w.heap.size+1:=by rw[hw0];simp
 have HSZ:=aH hsz;clear hw0 hsz;have ho:KI.Own w1 (w.heap.size+1) (.slice (some ⟨w.heap.size+1,0,none⟩) cl.length cl.length) (volF cl 0):=by
  refine⟨?_,fun x hx=>?_⟩
  ·have e:=Lk.flat_made KI 0 rfl cl.length;have e2:volF cl 0=List.replicate cl.length 0:=(by simp[volF,volS]);rw[e2,←e,List.length_replicate,show cl.length*KI.n=cl.length from Nat.mul_one _];exact hown
  ·have hx':x∈List.replicate cl.length 0:=(by simpa [volF,volS]using hx);rw[List.mem_replicate]at hx';rw[hx'.2];show fits 0;decide
 have HB1':=aH ((bR w0.heap.size w0).grown hgrow (nR _) (fun _ h=>nomatch h));have HB1:=aH (bC HB0.out HB1'.out);have HO1:=aH ho;have HS1:=aH (HS0.out.below HB1'.out);have HW1:=aH (show w.heap.size≤w.heap.size+1 by omega);clear hown hgrow ho hi hz0 hz1;obtain⟨g0,g1,g2,g3,g4,g5,_⟩:=HS1.out;go_wp2
 go_loopw [14] (fun i wr=>∃k:Nat,k≤cl.length∧i=.int .i64 k∧KI.Own wr (w.heap.size+1) (.slice (some ⟨w.heap.size+1,0,none⟩) cl.length cl.length) (volF cl k)∧Below w.heap.size w wr) (fun i _=>cl.length-(intOf i).toNat)
 case atStart=>exact⟨0,Nat.zero_le _,rfl,HO1.out,HB1.out⟩
 case round=>
  clear g0 g1 g2 g3 g4 g5;obtain⟨k,hk,rfl,hown,hbl⟩:=hrel;have HO:=aH hown;have HB:=aH hbl;clear hown hbl;by_cases hlt:k<cl.length
  ·obtain⟨b,off,rfl,hb,hcc,hcell⟩:=ce_cells (HC.out.then HB.out) (by omega);obtain⟨c0,c1,c2⟩:=hcell k hlt;have HVS:=aH (volF_set cl k hlt);have hvl:=volF_len cl k (by omega);have hfk:=aH ((HFT.out _ (getD_mem' cl k ce0 hlt)).b);clear hcell;generalize cl.getD k ce0=q at *;obtain⟨qa,qb,qc⟩:=q;dsimp only at *;obtain⟨f1,f2⟩:=KI.Own.at HO.out hvl k hlt;generalize (volF cl k).getD k 0=old at *;have hlw:w.heap.size+1<wr.heap.size:=wB _ _ f1;have hbw:b<wr.heap.size:=hb;go_wp2
   go_roundw
   case rel=>
    have hp:=KI.Own.put HO.out hvl k qb hfk.out;exact⟨k+1,by omega,num_i (by omega),by rw[←HVS.out];exact hp.1.alloc _,bL (HB.out.setCell HW1.out _) _⟩
   case measure=>simp[intOf];omega
  ·obtain rfl:k=cl.length:=(by omega);have HI:=aH (show KI.IsL wr wr.heap.size (.slice (some ⟨w.heap.size+1,0,none⟩) cl.length cl.length) (volS cl)from by
    have h:=HO.out.isL (by rw[volF_len cl _ (nR _)];omega);unfold volF at h;rw[List.take_length,Nat.sub_self,List.replicate_zero,List.append_nil]at h;exact h)
   go_wp2_with fail;refine(HSU.out _ _ (two_of HI.out)).mono ?_;rintro e w4 ⟨rfl,hb4⟩;go_wp2
   go_ret2
   exact⟨rfl,bC HB.out hb4⟩
theorem rtotal_any (s:Stk) (w:World) (hs:s.In w w.heap.size) (hl:s.cl.length≤100000):Calls Tryz.prog 115 #[s.v] w fun e w'=>e=.returned (totV s.cl)∧Below w.heap.size w w':=by
 obtain⟨w0,hw0⟩:∃w0,w0=w.alloc s.ob:=⟨_,rfl⟩;have HB0:=aH (show Below w.heap.size w w0 by rw[hw0];exact bL (bR _ _) _);have HC:=aH hs.c;have HS0:=aH (show SkAt w0 w.heap.size s by rw[hw0];exact Cells6.new w _ _ _ _ _ _ _);have hfit:=hs.c.2.1;have HSU:=aH (fun v w h=>Two.rsum_any v (volS s.cl) w h (by unfold volS;rw[List.length_map];omega));clear hs;obtain⟨cA,cc,cl,lA,lc,ll,tA,tc,tl,st,inn,out⟩:=s;dsimp only at *;have HFT:=aH hfit;have hlI:(cl.length:Int)≤100000:=by omega
 clear hfit;go_enter Tryz.func115,Tryz.ntmps115;go_wp2_with fail;rw[←hw0];clear hw0
 go_loopw [4,5] (fun u i wr=>∃k:Nat,k≤cl.length∧i=.int .i64 k∧KI.Own wr w0.heap.size u (volS (cl.take k))∧Below w0.heap.size w0 wr) (fun _ i _=>cl.length-(intOf i).toNat)
 case atStart=>exact⟨0,Nat.zero_le _,rfl,(show KI.Own w0 w0.heap.size (.slice none 0 0) []from Lk.Own.nil _ _),bR _ _⟩
 case round=>
  obtain⟨k,hk,rfl,hown,hbl⟩:=hrel;have HO:=aH hown;have HB:=aH hbl;obtain⟨g0,g1,g2,g3,g4,g5,z0,z1,z2,z3,z4,z5,hgs⟩:=HS0.out.below hbl;clear hown hbl g1 g2 g3 g4 g5 z0 z1 z2 z3 z4 z5;by_cases hlt:k<cl.length
  ·obtain⟨b,off,rfl,hb,hcc,hcell⟩:=ce_cells ((HC.out.then HB0.out).then HB.out) (by omega);obtain⟨c0,c1,c2⟩:=hcell k hlt;have HVS:=aH (volS_take cl k hlt);have hvl:(volS (cl.take k)).length=k:=(by unfold volS;rw[List.length_map,List.length_take];omega);have HVL:=aH hvl;have hfk:=aH ((HFT.out _ (getD_mem' cl k ce0 hlt)).b);clear hcell hvl;generalize cl.getD k ce0=q at *;obtain⟨qa,qb,qc⟩:=q;dsimp only at *;go_wp2_with (at_builtin;refine Lk.wpList_app (K:=KI) _ rfl _ _ rfl rfl w0.heap.size (wr.heap.size+1) _ _ (volS (cl.take k)) [qb] rfl rfl (HO.out.alloc _) (Lk.IsL.lit (K:=KI) _ qb _ hfk.out rfl wr.heap.size rfl) ?c1 ?c2 ?_)
   case c1=>have:=HVL.out;simp;omega
   case c2=>have:=HB.out.size;simp;omega
   intro v1 w4 hown hgrow _;have HB4:=aH (Lk.Own.grow' (HO.out.alloc _) (bL HB.out _) (by have:=HB.out.size;simp;omega) hgrow);have HO4:=aH hown;clear hown hgrow g0;go_wp2
   go_roundw
   case rel=>exact⟨k+1,by omega,num_i (by omega),by rw[HVS.out];exact HO4.out,HB4.out⟩
   case measure=>simp[intOf];omega
  ·obtain rfl:k=cl.length:=(by omega);rw[List.take_length]at HO;have HI:=aH (HO.out.isL (by unfold volS;rw[List.length_map];omega));go_wp2_with fail;refine(HSU.out _ _ (two_of HI.out)).mono ?_;rintro e w4 ⟨rfl,hb4⟩;go_wp2
   go_ret2
   exact⟨rfl,bC HB0.out (bC HB.out hb4)⟩
end Go.Proofs.YtmecohdedghiaaaGreatDoor
