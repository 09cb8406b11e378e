/- Plain mathematics of floats: their place in the order as a whole number, and that the model's order is that order. -/
import Derived.Test.YtmecohdedghiaaaGreatDoorPo00
import Derived.Test.YtmecohdedghiaaaGreatDoorPo01
import Derived.Deep.QuietTactic
import Derived.BigQuiet
import Derived.Deep.RegionHeld3
import Ieee.Arith
import GoSem.Core.Float
import Derived.Laws.FloatArith
set_option maxRecDepth 100000
set_option maxHeartbeats 8000000
open Go.Proofs.Tryz
namespace Go.Proofs.YtmecohdedghiaaaGreatDoor.Two
open Go.RowKit
theorem dw (l:List Int) (k:Nat) (h:k<l.length):l.take (k+1)=l.take k++[l.getD k 0]:=by
 rw[List.take_succ_eq_append_getElem h,List.getD_eq_getElem?_getD,List.getElem?_eq_getElem h];rfl
theorem lL {l:List Int} (h:Inc l) (i j:Nat) (Im:i<j) (hj:j<l.length):l.getD i 0<l.getD j 0:=by
 rw[List.getD_eq_getElem?_getD,List.getD_eq_getElem?_getD,List.getElem?_eq_getElem hj,List.getElem?_eq_getElem (by omega)];exact List.pairwise_iff_getElem.1 h i j (by omega) hj Im
theorem mm {l:List Int} (k:Nat) (hk:k+1<l.length) (h:Inc (l.take (k+1))) (hx:l.getD k 0<l.getD (k+1) 0):Inc (l.take (k+2)):=by
 rw[dw l (k+1) hk];refine i8 h fun y hy=>?_;rw[dw l k (by omega)]at h hy;rcases List.mem_append.1 hy with hy|hy
 ·have:=(eR.1 h).2.2 y hy (l.getD k 0) (by simp);omega
 ·have:y=l.getD k 0:=by simpa using hy
  omega
theorem IsL.takeLit {w:World} {B b off cap:Nat} {xs:List Int} (hb:b<B) (hc:∀i,i<xs.length→w.cell? ⟨b,off+i,none⟩=some (.int .i64 (xs.getD i 0))) (hf:∀x∈xs,ae x) (k:Nat) (hk:k≤xs.length) (hcap:k≤cap) (hl:xs.length≤9223372036854775807):
  IsL w B (.slice (some ⟨b,off,none⟩) k cap) (xs.take k):=by
 have e:(xs.take k).length=k:=by rw[List.length_take];omega
 refine⟨⟨_,cap,by rw[e],by omega,fun _=>⟨b,off,rfl,hb,fun i hi=>?_⟩⟩,fun x hx=>hf x (List.mem_of_mem_take hx),by omega⟩;rw[e]at hi;rw[hc i (by omega),List.getD_eq_getElem?_getD,List.getD_eq_getElem?_getD,List.getElem?_take,if_pos hi]
theorem IsL.dropLit {w:World} {B b off cap:Nat} {xs:List Int} (hb:b<B) (hc:∀i,i<xs.length→w.cell? ⟨b,off+i,none⟩=some (.int .i64 (xs.getD i 0))) (hf:∀x∈xs,ae x) (k:Nat) (hk:k≤xs.length) (hcap:xs.length≤cap) (hl:xs.length≤9223372036854775807):
  (cap=k→IsL w B (.slice (some ⟨b,off,none⟩) (xs.length-k) (cap-k)) (xs.drop k))∧IsL w B (.slice (some ⟨b,off+k,none⟩) (xs.length-k) (cap-k)) (xs.drop k):=by
 have e:(xs.drop k).length=xs.length-k:=List.length_drop;refine⟨fun h=>⟨⟨_,cap-k,by rw[e],by omega,fun h0=>by omega⟩,fun x hx=>hf x (List.mem_of_mem_drop hx),by omega⟩,⟨⟨_,cap-k,by rw[e],by omega,fun _=>⟨b,off+k,rfl,hb,fun i hi=>?_⟩⟩,fun x hx=>hf x (List.mem_of_mem_drop hx),by omega⟩⟩;rw[show off+k+i=off+(k+i)by omega,hc (k+i) (by omega),List.getD_eq_getElem?_getD,List.getD_eq_getElem?_getD,List.getElem?_drop]
theorem right_any (v:Value) (xs:List Int) (w:World) (h:IsL w w.heap.size v xs):Calls prog 92 #[v] w fun e w'=>e=.returned (.bool (decide (Inc xs)))∧∃d,w'=w.drewN d:=by
 obtain⟨⟨A,cap,rfl,hcap,hA⟩,De,Db⟩:=h;have HA:=aH hA;clear hA De;go_enter func92,ntmps92;go_wp2
 go_loopw [3] (fun i wr=>∃j d:Nat,(j+1≤xs.length∨j=0)∧Inc (xs.take (j+1))∧i=.int .i64 ((j:Int)+1)∧wr=w.drewN d) (fun i _=>xs.length-(intOf i).toNat)
 case atStart=>
  refine⟨0,0,Or.inr rfl,?_,rfl,rfl⟩
  match xs with
  |[]=>exact inc_nil
  |x::r=>exact List.pairwise_singleton _ _
 case round=>
  obtain⟨j,d,hj,hinc,rfl,hw⟩:=hrel;have HI:=aH hinc;have HW:=aH hw;clear hinc;by_cases CI:j+1<xs.length
  ·obtain⟨b,off,rfl,hb,CD⟩:=HA.out (by omega);have hx:wr.cell? ⟨b,off+j,none⟩=some (.int .i64 (xs.getD j 0)):=(by rw[hw];exact CD j (by omega));have hy:wr.cell? ⟨b,off+(j+1),none⟩=some (.int .i64 (xs.getD (j+1) 0)):=(by rw[hw];exact CD (j+1) (by omega));have Jk:=aH (mm (l:=xs) j CI);have Ii:=aH (fun hi:Inc xs=>lL hi j (j+1) (by omega) CI);clear CD hw;generalize xs.getD j 0=x at *;generalize xs.getD (j+1) 0=y at *;by_cases Gv:y≤x
   ·have HX:=aH Gv;go_wp2;go_quiet (fail);go_wp2
    go_ret
    refine⟨aj ?_,by rw[HW.out];exact⟨_,World.drewN_drewN _ _ _⟩⟩;rw[dF];intro hi;have:=Ii.out hi;have:=HX.out;omega
   ·have HX:=aH Gv;go_wp2;go_quiet (fail);go_wp2
    go_roundw
    case rel=>exact⟨j+1,_,Or.inl (by omega),Jk.out HI.out (by have:=HX.out;omega),ai (by omega),by rw[HW.out];exact World.drewN_drewN _ _ _⟩
    case measure=>simp[intOf];omega
  ·have e:=HI.out;rw[List.take_of_length_le (by omega)]at e;have HE:=aH (dT e);clear e hw;go_wp2
   go_ret
   exact⟨aj HE.out.symm,d,HW.out⟩
theorem rright_any (v:Value) (xs:List Int) (w:World) (h:IsL w w.heap.size v xs):Calls prog 194 #[v] w fun e w'=>e=.returned (.bool (decide (Inc xs)))∧∃d,w'=w.drewN d:=by
 obtain⟨⟨A,cap,rfl,hcap,hA⟩,De,Db⟩:=h;have HA:=aH hA;clear hA De;go_enter func194,ntmps194;go_wp2
 go_loopw [3] (fun i wr=>∃j d:Nat,(j+1≤xs.length∨j=0)∧Inc (xs.take (j+1))∧i=.int .i64 ((j:Int)+1)∧wr=w.drewN d) (fun i _=>xs.length-(intOf i).toNat)
 case atStart=>
  refine⟨0,0,Or.inr rfl,?_,rfl,rfl⟩
  match xs with
  |[]=>exact inc_nil
  |x::r=>exact List.pairwise_singleton _ _
 case round=>
  obtain⟨j,d,hj,hinc,rfl,hw⟩:=hrel;have HI:=aH hinc;have HW:=aH hw;clear hinc;by_cases CI:j+1<xs.length
  ·obtain⟨b,off,rfl,hb,CD⟩:=HA.out (by omega);have hx:wr.cell? ⟨b,off+j,none⟩=some (.int .i64 (xs.getD j 0)):=(by rw[hw];exact CD j (by omega));have hy:wr.cell? ⟨b,off+(j+1),none⟩=some (.int .i64 (xs.getD (j+1) 0)):=(by rw[hw];exact CD (j+1) (by omega));have Jk:=aH (mm (l:=xs) j CI);have Ii:=aH (fun hi:Inc xs=>lL hi j (j+1) (by omega) CI);clear CD hw;generalize xs.getD j 0=x at *;generalize xs.getD (j+1) 0=y at *;by_cases Gv:y≤x
   ·have HX:=aH Gv;go_wp2;go_quiet (fail);go_wp2
    go_ret
    refine⟨aj ?_,by rw[HW.out];exact⟨_,World.drewN_drewN _ _ _⟩⟩;rw[dF];intro hi;have:=Ii.out hi;have:=HX.out;omega
   ·have HX:=aH Gv;go_wp2;go_quiet (fail);go_wp2
    go_roundw
    case rel=>exact⟨j+1,_,Or.inl (by omega),Jk.out HI.out (by have:=HX.out;omega),ai (by omega),by rw[HW.out];exact World.drewN_drewN _ _ _⟩
    case measure=>simp[intOf];omega
  ·have e:=HI.out;rw[List.take_of_length_le (by omega)]at e;have HE:=aH (dT e);clear e hw;go_wp2
   go_ret
   exact⟨aj HE.out.symm,d,HW.out⟩
theorem same_any (v u:Value) (xs ys:List Int) (w:World) (h:IsL w w.heap.size v xs) (hy:IsL w w.heap.size u ys):Calls prog 11 #[v,u] w fun e w'=>e=.returned (.bool (decide (xs=ys)))∧∃d,w'=w.drewN d:=by
 obtain⟨⟨A,cap,rfl,hcap,hA⟩,De,Db⟩:=h;obtain⟨⟨A2,cap2,rfl,hcap2,EX⟩,hfit2,hlen2⟩:=hy;have HA:=aH hA;have DC:=aH EX;clear hA De EX hfit2;by_cases hl:xs.length=ys.length
 ·rw[←hl]at DC⊢;have HL:=aH hl;clear hl;go_enter func11,ntmps11;go_wp2
  go_loopw [5] (fun i wr=>∃k d:Nat,k≤xs.length∧xs.take k=ys.take k∧i=.int .i64 (k:Int)∧wr=w.drewN d) (fun i _=>xs.length-(intOf i).toNat)
  case atStart=>exact⟨0,0,Nat.zero_le _,rfl,rfl,rfl⟩
  case round=>
   obtain⟨k,d,hk,hsame,rfl,hw⟩:=hrel;have HS:=aH hsame;have HW:=aH hw;clear hsame;by_cases CI:k<xs.length
   ·obtain⟨b,off,rfl,hb,CD⟩:=HA.out (by omega);obtain⟨b2,off2,rfl,CM,hcell2⟩:=DC.out (by omega);have hx:wr.cell? ⟨b,off+k,none⟩=some (.int .i64 (xs.getD k 0)):=(by rw[hw];exact CD k CI);have hy:wr.cell? ⟨b2,off2+k,none⟩=some (.int .i64 (ys.getD k 0)):=(by rw[hw];exact hcell2 k CI);have HT:=aH (dw xs k CI);have Er:=aH (dw ys k (by have:=HL.out;omega));have NL:=aH (fun e:xs=ys=>show xs.getD k 0=ys.getD k 0 by rw[e]);clear CD hcell2 hw;generalize xs.getD k 0=x at *;generalize ys.getD k 0=y at *;by_cases Gv:x=y
    ·subst Gv;go_wp2;go_quiet (fail);go_wp2
     go_roundw
     case rel=>exact⟨k+1,_,by omega,by rw[HT.out,Er.out,HS.out],ai (by omega),by rw[HW.out];exact World.drewN_drewN _ _ _⟩
     case measure=>simp[intOf];omega
    ·have OW:(x != y)=true:=(by rw[bne_iff_ne];exact Gv);have HX:=aH Gv;clear Gv;go_wp2;go_quiet (fail);go_wp2
     go_ret
     refine⟨aj ?_,by rw[HW.out];exact⟨_,World.drewN_drewN _ _ _⟩⟩;rw[dF];exact fun e=>HX.out (NL.out e)
   ·obtain rfl:k=xs.length:=(by omega);have e:=HS.out;rw[List.take_length,List.take_of_length_le (by have:=HL.out;omega)]at e;have HE:=aH (dT e);clear e hw;go_wp2
    go_ret
    exact⟨aj HE.out.symm,d,HW.out⟩
 ·have OW:((xs.length:Int) != (ys.length:Int))=true:=by rw[bne_iff_ne];omega
  have HL:=aH hl;clear hl;go_enter func11,ntmps11;go_wp2
  go_ret
  refine⟨aj ?_,0,by trivial⟩;rw[dF];intro e;exact HL.out (by rw[e])
theorem IsL.dropIf {w:World} {B b off cap:Nat} {xs:List Int} (hb:b<B) (hc:∀i,i<xs.length→w.cell? ⟨b,off+i,none⟩=some (.int .i64 (xs.getD i 0))) (hf:∀x∈xs,ae x) (k:Nat) (hk:k≤xs.length) (hcap:xs.length≤cap) (hl:xs.length≤9223372036854775807):
  IsL w B (.slice (if cap=k then some ⟨b,off,none⟩else some ⟨b,off+k,none⟩) (xs.length-k) (cap-k)) (xs.drop k):=by
 have h:=IsL.dropLit hb hc hf k hk hcap hl;by_cases e:cap=k
 ·rw[if_pos e];exact h.1 e
 ·rw[if_neg e];exact h.2
theorem ao {w:World} {ops:Array Oper} {o:Oper} {a:Act} {K:Act→World→Prop} {Q:Exit→Act→World→Prop} {E:Prop} (hgd:o.guard=none) (s x:Operand)
  (ho:o.op=.call {callee:=.builtin .append,args:=#[s,x],argTypes:=#[27,27]}) (base B:Nat) (v src:Value) (xs ys:List Int) (hs:a.eval s=v) (hx:a.eval x=src)
  (h:Own w base v xs) (hy:IsL w B src ys) (hl:xs.length+ys.length≤1000000) (hb:base≤w.heap.size)
  (hk:∀v' w',Own w' base v' (xs++ys)→w.grownBy w' v.ownBlock→K (a.put o.dst v') w'):if Region.wanted o (yielded ops a.tmps)=true then Oper.wp prog o a w K Q else E:=by
 have hw:Region.wanted o (yielded ops a.tmps)=true:=by simp[Region.wanted,hgd]
 rw[if_pos hw];exact wp_app w s x ho base B v src xs ys hs hx h hy hl hb fun v' w' k1 k2 _=>hk v' w' k1 k2
theorem fI {W:World} {S:Nat} (hS:S≤W.heap.size):Own (W.alloc (.cells #[] 3)) S (.slice (some ⟨W.heap.size,0,none⟩) 0 0) []:=Own.made W S 0 #[] hS (by unfold maxLen;omega) rfl
structure Made (X W:World) (H:Nat):Prop where
 own:Own W X.heap.size (.slice (some ⟨H,0,none⟩) 0 0) []
 below:Bw X W
 size:X.heap.size≤W.heap.size
theorem iE (X:World):Made X (X.alloc (.cells #[] 3)).drew X.heap.size:=
 ⟨fI (W:=X) (nR _),((bR _ X).alloc (nR _) _).drew,by simp⟩
theorem iH (X:World) (x:Int):Made X ((X.alloc (.cells #[] 3)).alloc (.cells #[.int .i64 x] 3)).drew X.heap.size:=
 ⟨(fI (W:=X) (nR _)).alloc _,(((bR _ X).alloc (nR _) _).alloc (by simp) _).drew,by simp;omega⟩
theorem iR (X:World) (x:Int):Made X ((X.alloc (.cells #[.int .i64 x] 3)).alloc (.cells #[] 3)).drew (X.heap.size+1):=by
 have h:=fI (W:=X.alloc (.cells #[.int .i64 x] 3)) (S:=X.heap.size) (by simp);rw[show(X.alloc (.cells #[.int .i64 x] 3)).heap.size=X.heap.size+1 by simp]at h;exact⟨h,(((bR _ X).alloc (nR _) _).alloc (by simp) _).drew,by simp;omega⟩
theorem IsL.one {W:World} {H:Nat} {x:Int} (hx:ae x) (h:W.heap[H]? =some (Obj.cells #[.int .i64 x] 3)):IsL W (H+1) (.slice (some ⟨H,0,none⟩) 1 1) [x]:=by
 refine⟨⟨_,1,rfl,by simp,fun _=>⟨H,0,rfl,by omega,fun i hi=>?_⟩⟩,fun y hy=>by simp at hy;rw[hy];exact hx,by simp⟩;have:i=0:=by simpa using hi
 subst this;rw[cell_of_row _ H _ _ _ (0,0) h];rfl
theorem mE {W2:World} {x:Int}:(W2.alloc (.cells #[.int .i64 x] 3)).heap[W2.heap.size]? =some (Obj.cells #[.int .i64 x] 3):=heap_alloc_new W2 _
theorem lZ {X W2:World} {x:Int} (hg:((X.alloc (.cells #[] 3)).alloc (.cells #[.int .i64 x] 3)).drew.grownBy W2 (some X.heap.size)):W2.heap[X.heap.size+1]? =some (Obj.cells #[.int .i64 x] 3):=by
 rw[hg.block (X.heap.size+1) (by simp) (by simp)];have h:=heap_alloc_new (X.alloc (.cells #[] 3)) (.cells #[.int .i64 x] 3);rw[show(X.alloc (.cells #[] 3)).heap.size=X.heap.size+1 by simp]at h;exact h
theorem mv {X W2:World} {x:Int} (hg:((X.alloc (.cells #[.int .i64 x] 3)).alloc (.cells #[] 3)).drew.grownBy W2 (some (X.heap.size+1))):W2.heap[X.heap.size]? =some (Obj.cells #[.int .i64 x] 3):=by
 rw[hg.block X.heap.size (by simp;omega) (by simp)];show((X.alloc (.cells #[.int .i64 x] 3)).alloc (.cells #[] 3)).heap[X.heap.size]? =_;rw[Below.heap_alloc _ _ _ (by simp)];exact heap_alloc_new X _
theorem Own.grow' {S:Nat} {X W W':World} {v:Value} {xs:List Int} (h:Own W S v xs) (hb:Below S X W) (hs:S≤W.heap.size) (hg:W.grownBy W' v.ownBlock):Below S X W':=hb.grown hg hs fun k hk=>(h.lt k hk).1
theorem tQ (b off cap:Nat) (s:List Int) (n:Int) (hn:ae n) (w:World) (h0:0<s.length) (hl:s.length≤1000) (hcap:s.length≤cap) (hb:b<w.heap.size) (hf:∀x∈s,ae x)
  (hc:∀i,i<s.length→w.cell? ⟨b,off+i,none⟩=some (.int .i64 (s.getD i 0))):
  Calls prog 45 #[.slice (some ⟨b,off,none⟩) s.length cap,.int .i64 n] w fun e w'=>∃v,e=.returned v∧IsL w' w'.heap.size v (put s n)∧Bw w w':=by
 have HN:=aH hn;have HF:=aH hf;have HC:=aH hc;have HB:=aH hb;clear hn hf hc hb;go_enter func45,ntmps45;go_wp2
 go_loop [5] (fun i=>∃k:Nat,k≤s.length∧(∀j,j<k→s.getD j 0<n)∧i=.int .i64 (k:Int)) (fun i=>s.length-(intOf i).toNat)
 case atStart=>exact⟨0,Nat.zero_le _,fun j hj=>absurd hj (by omega),rfl⟩
 case round=>
  obtain⟨k,hk,hlow,rfl⟩:=hrel;have HL:=aH hlow;have i1:(0:Int)≤(k:Int):=by omega
  have i2:(k:Int)≤(s.length:Int):=by omega
  have i3:(k:Int)≤(cap:Int):=by omega
  have HT:=aH (IsL.takeLit (cap:=cap) HB.out HC.out HF.out k hk (by omega) (by omega));have HD:=aH (IsL.dropIf (cap:=cap) HB.out HC.out HF.out k hk hcap (by omega));have Ds:(s.take k).length=k∧(s.drop k).length=s.length-k:=⟨by rw[List.length_take];omega,List.length_drop⟩;have CV:=aH Ds;clear hlow Ds;by_cases CI:k<s.length
  ·have hx:=HC.out k CI;have RN:=jC s n k CI HL.out;have Mz:=fun(h:n<s.getD k 0)=>mY s n k hk HL.out (fun _=>h);have Kt:s.getD k 0<n→∀j,j<k+1→s.getD j 0<n:=fun h j hj=>by
    rcases Nat.lt_or_ge j k with h2|h2
    ·exact HL.out j h2
    ·obtain rfl:j=k:=(by omega);exact h
   have Ge:=aH RN;have EZ:=aH Mz;have SM:=aH Kt;clear RN Mz Kt;generalize s.getD k 0=x at *;by_cases hx1:x<n
   ·go_wp2
    go_round
    case rel=>exact⟨k+1,by omega,SM.out hx1,ai (by omega)⟩
    case measure=>simp[intOf];omega
   ·by_cases DY:x=n
    ·have OW:(x==n)=true:=(by rw[beq_iff_eq];exact DY);have Et:=aH DY;clear DY;go_wp2
     go_ret
     exact⟨_,rfl,by rw[Ge.out Et.out];exact⟨⟨_,cap,rfl,hcap,fun _=>⟨b,off,rfl,HB.out,HC.out⟩⟩,HF.out,by omega⟩,bR _ _⟩
    ·have OW:(x==n)=false:=(by rw[beq_eq_false_iff_ne];exact DY);have PZ:=aH (EZ.out (by omega));clear DY;go_wp2;have mA:=aH (iE w);have mB:=aH (iH w n);have mC:=aH (iR w n)
     go_region_held3 (fun _=>True) (trivial)
      (first
       |(refine ao (by rfl) (.tmp 33) (.tmp 36) (by rfl) w.heap.size _ _ _ [] (s.take k) (by rfl) (by rfl) mA.out.own (HT.out.below mA.out.below) (by have:=CV.out;simp<;>omega) mA.out.size ?_;intro v1 W2 hown1 hg1;have CE:=Own.grow' mA.out.own mA.out.below mA.out.size hg1;have Dr:=Nat.le_trans mA.out.size hg1.size)
       |(refine ao (by rfl) (.tmp 33) (.tmp 36) (by rfl) w.heap.size _ _ _ [] (s.take k) (by rfl) (by rfl) mB.out.own (HT.out.below mB.out.below) (by have:=CV.out;simp<;>omega) mB.out.size ?_;intro v1 W2 hown1 hg1;have CE:=Own.grow' mB.out.own mB.out.below mB.out.size hg1;have Dr:=Nat.le_trans mB.out.size hg1.size)
       |(refine ao (by rfl) (.tmp 33) (.tmp 36) (by rfl) w.heap.size _ _ _ [] (s.take k) (by rfl) (by rfl) mC.out.own (HT.out.below mC.out.below) (by have:=CV.out;simp<;>omega) mC.out.size ?_;intro v1 W2 hown1 hg1;have CE:=Own.grow' mC.out.own mC.out.below mC.out.size hg1;have Dr:=Nat.le_trans mC.out.size hg1.size)
       |(refine ao (by rfl) (.tmp 37) (.tmp 39) (by rfl) w.heap.size _ v1 _ _ [n] (by rfl) (by rfl) (hown1.alloc (.cells #[.int .i64 n] 3)) (IsL.one HN.out mE) (by have:=CV.out;simp<;>omega) (show w.heap.size≤(W2.alloc (.cells #[.int .i64 n] 3)).heap.size from Nat.le_trans Dr (by simp)) ?_;intro v2 W4 C9 DT;have CM:=Own.grow' (hown1.alloc (.cells #[.int .i64 n] 3)) (CE.alloc Dr (.cells #[.int .i64 n] 3)) (show w.heap.size≤(W2.alloc (.cells #[.int .i64 n] 3)).heap.size from Nat.le_trans Dr (by simp)) DT;have Dz:=CM.size)
       |(refine ao (by rfl) (.tmp 37) (.tmp 39) (by rfl) w.heap.size _ v1 _ _ [n] (by rfl) (by rfl) hown1 (IsL.one HN.out (lZ hg1)) (by have:=CV.out;simp<;>omega) Dr ?_;intro v2 W4 C9 DT;have CM:=Own.grow' hown1 CE Dr DT;have Dz:=CM.size)
       |(refine ao (by rfl) (.tmp 37) (.tmp 39) (by rfl) w.heap.size _ v1 _ _ [n] (by rfl) (by rfl) hown1 (IsL.one HN.out (mv hg1)) (by have:=CV.out;simp<;>omega) Dr ?_;intro v2 W4 C9 DT;have CM:=Own.grow' hown1 CE Dr DT;have Dz:=CM.size)
       |(refine ao (by rfl) (.tmp 40) (.tmp 43) (by rfl) w.heap.size _ v2 _ _ (s.drop k) (by rfl) (by rfl) C9 (HD.out.below CM) (by have:=CV.out;simp<;>omega) Dz ?_;intro v3 W5 hown3 hg3;have CO:=Own.grow' C9 CM Dz hg3))
     all_goals
      go_wp2;all_goals
       go_ret
       refine⟨_,rfl,?_,CO⟩;have h:=hown3.isL (by have:=CV.out;simp<;>omega);rw[PZ.out];simpa using h
  ·have Ft:k=s.length:=(by omega);have PZ:=aH (mY s n k hk HL.out (fun h=>absurd h (by omega)));subst Ft;go_wp2;have mA:=aH (iE w);have mB:=aH (iH w n);have mC:=aH (iR w n)
   go_region_held3 (fun _=>True) (trivial)
    (first
     |(refine ao (by rfl) (.tmp 33) (.tmp 36) (by rfl) w.heap.size _ _ _ [] (s.take s.length) (by rfl) (by rfl) mA.out.own (HT.out.below mA.out.below) (by have:=CV.out;simp<;>omega) mA.out.size ?_;intro v1 W2 hown1 hg1;have CE:=Own.grow' mA.out.own mA.out.below mA.out.size hg1;have Dr:=Nat.le_trans mA.out.size hg1.size)
     |(refine ao (by rfl) (.tmp 33) (.tmp 36) (by rfl) w.heap.size _ _ _ [] (s.take s.length) (by rfl) (by rfl) mB.out.own (HT.out.below mB.out.below) (by have:=CV.out;simp<;>omega) mB.out.size ?_;intro v1 W2 hown1 hg1;have CE:=Own.grow' mB.out.own mB.out.below mB.out.size hg1;have Dr:=Nat.le_trans mB.out.size hg1.size)
     |(refine ao (by rfl) (.tmp 33) (.tmp 36) (by rfl) w.heap.size _ _ _ [] (s.take s.length) (by rfl) (by rfl) mC.out.own (HT.out.below mC.out.below) (by have:=CV.out;simp<;>omega) mC.out.size ?_;intro v1 W2 hown1 hg1;have CE:=Own.grow' mC.out.own mC.out.below mC.out.size hg1;have Dr:=Nat.le_trans mC.out.size hg1.size)
     |(refine ao (by rfl) (.tmp 37) (.tmp 39) (by rfl) w.heap.size _ v1 _ _ [n] (by rfl) (by rfl) (hown1.alloc (.cells #[.int .i64 n] 3)) (IsL.one HN.out mE) (by have:=CV.out;simp<;>omega) (show w.heap.size≤(W2.alloc (.cells #[.int .i64 n] 3)).heap.size from Nat.le_trans Dr (by simp)) ?_;intro v2 W4 C9 DT;have CM:=Own.grow' (hown1.alloc (.cells #[.int .i64 n] 3)) (CE.alloc Dr (.cells #[.int .i64 n] 3)) (show w.heap.size≤(W2.alloc (.cells #[.int .i64 n] 3)).heap.size from Nat.le_trans Dr (by simp)) DT;have Dz:=CM.size)
     |(refine ao (by rfl) (.tmp 37) (.tmp 39) (by rfl) w.heap.size _ v1 _ _ [n] (by rfl) (by rfl) hown1 (IsL.one HN.out (lZ hg1)) (by have:=CV.out;simp<;>omega) Dr ?_;intro v2 W4 C9 DT;have CM:=Own.grow' hown1 CE Dr DT;have Dz:=CM.size)
     |(refine ao (by rfl) (.tmp 37) (.tmp 39) (by rfl) w.heap.size _ v1 _ _ [n] (by rfl) (by rfl) hown1 (IsL.one HN.out (mv hg1)) (by have:=CV.out;simp<;>omega) Dr ?_;intro v2 W4 C9 DT;have CM:=Own.grow' hown1 CE Dr DT;have Dz:=CM.size)
     |(refine ao (by rfl) (.tmp 40) (.tmp 43) (by rfl) w.heap.size _ v2 _ _ ([]:List Int) (by rfl) (by rfl) C9 ((IsL.nil w w.heap.size _ _).below CM) (by have:=CV.out;simp<;>omega) Dz ?_;intro v3 W5 hown3 hg3;have CO:=Own.grow' C9 CM Dz hg3))
   all_goals
    go_wp2;all_goals
     go_ret
     refine⟨_,rfl,?_,CO⟩;have h:=hown3.isL (by have:=CV.out;simp<;>omega);rw[PZ.out];simpa using h
theorem rq (A:Option Addr) (cap:Nat) (n:Int) (hn:ae n) (w:World):
  Calls prog 45 #[.slice A 0 cap,.int .i64 n] w fun e w'=>∃v,e=.returned v∧IsL w' w'.heap.size v [n]∧Bw w w':=by
 have HN:=aH hn;clear hn;rcases A with _|ad
 ·go_enter func45,ntmps45;go_wp2
  go_loop [5] (fun i=>i=.int .i64 0) (fun _=>0)
  case atStart=>rfl
  case round=>
   obtain rfl:=hrel;go_wp2;have CV:=aH (rfl:([]:List Int).length=0);have mA:=aH (iE w);have mB:=aH (iH w n);have mC:=aH (iR w n)
   go_region_held3 (fun _=>True) (trivial)
    (first
     |(refine ao (by rfl) (.tmp 33) (.tmp 36) (by rfl) w.heap.size _ _ _ [] ([]:List Int) (by rfl) (by rfl) mA.out.own ((IsL.nil w w.heap.size _ _).below mA.out.below) (by have:=CV.out;simp<;>omega) mA.out.size ?_;intro v1 W2 hown1 hg1;have CE:=Own.grow' mA.out.own mA.out.below mA.out.size hg1;have Dr:=Nat.le_trans mA.out.size hg1.size)
     |(refine ao (by rfl) (.tmp 33) (.tmp 36) (by rfl) w.heap.size _ _ _ [] ([]:List Int) (by rfl) (by rfl) mB.out.own ((IsL.nil w w.heap.size _ _).below mB.out.below) (by have:=CV.out;simp<;>omega) mB.out.size ?_;intro v1 W2 hown1 hg1;have CE:=Own.grow' mB.out.own mB.out.below mB.out.size hg1;have Dr:=Nat.le_trans mB.out.size hg1.size)
     |(refine ao (by rfl) (.tmp 33) (.tmp 36) (by rfl) w.heap.size _ _ _ [] ([]:List Int) (by rfl) (by rfl) mC.out.own ((IsL.nil w w.heap.size _ _).below mC.out.below) (by have:=CV.out;simp<;>omega) mC.out.size ?_;intro v1 W2 hown1 hg1;have CE:=Own.grow' mC.out.own mC.out.below mC.out.size hg1;have Dr:=Nat.le_trans mC.out.size hg1.size)
     |(refine ao (by rfl) (.tmp 37) (.tmp 39) (by rfl) w.heap.size _ v1 _ _ [n] (by rfl) (by rfl) (hown1.alloc (.cells #[.int .i64 n] 3)) (IsL.one HN.out mE) (by have:=CV.out;simp<;>omega) (show w.heap.size≤(W2.alloc (.cells #[.int .i64 n] 3)).heap.size from Nat.le_trans Dr (by simp)) ?_;intro v2 W4 C9 DT;have CM:=Own.grow' (hown1.alloc (.cells #[.int .i64 n] 3)) (CE.alloc Dr (.cells #[.int .i64 n] 3)) (show w.heap.size≤(W2.alloc (.cells #[.int .i64 n] 3)).heap.size from Nat.le_trans Dr (by simp)) DT;have Dz:=CM.size)
     |(refine ao (by rfl) (.tmp 37) (.tmp 39) (by rfl) w.heap.size _ v1 _ _ [n] (by rfl) (by rfl) hown1 (IsL.one HN.out (lZ hg1)) (by have:=CV.out;simp<;>omega) Dr ?_;intro v2 W4 C9 DT;have CM:=Own.grow' hown1 CE Dr DT;have Dz:=CM.size)
     |(refine ao (by rfl) (.tmp 37) (.tmp 39) (by rfl) w.heap.size _ v1 _ _ [n] (by rfl) (by rfl) hown1 (IsL.one HN.out (mv hg1)) (by have:=CV.out;simp<;>omega) Dr ?_;intro v2 W4 C9 DT;have CM:=Own.grow' hown1 CE Dr DT;have Dz:=CM.size)
     |(refine ao (by rfl) (.tmp 40) (.tmp 43) (by rfl) w.heap.size _ v2 _ _ ([]:List Int) (by rfl) (by rfl) C9 ((IsL.nil w w.heap.size _ _).below CM) (by have:=CV.out;simp<;>omega) Dz ?_;intro v3 W5 hown3 hg3;have CO:=Own.grow' C9 CM Dz hg3))
   all_goals
    go_wp2;all_goals
     go_ret
     refine⟨_,rfl,?_,CO⟩;have h:=hown3.isL (by have:=CV.out;simp<;>omega);simpa using h
 ·by_cases hc:cap=0
  ·subst hc;go_enter func45,ntmps45;go_wp2
   go_loop [5] (fun i=>i=.int .i64 0) (fun _=>0)
   case atStart=>rfl
   case round=>
    obtain rfl:=hrel;go_wp2;have CV:=aH (rfl:([]:List Int).length=0);have mA:=aH (iE w);have mB:=aH (iH w n);have mC:=aH (iR w n)
    go_region_held3 (fun _=>True) (trivial)
     (first
      |(refine ao (by rfl) (.tmp 33) (.tmp 36) (by rfl) w.heap.size _ _ _ [] ([]:List Int) (by rfl) (by rfl) mA.out.own ((IsL.nil w w.heap.size _ _).below mA.out.below) (by have:=CV.out;simp<;>omega) mA.out.size ?_;intro v1 W2 hown1 hg1;have CE:=Own.grow' mA.out.own mA.out.below mA.out.size hg1;have Dr:=Nat.le_trans mA.out.size hg1.size)
      |(refine ao (by rfl) (.tmp 33) (.tmp 36) (by rfl) w.heap.size _ _ _ [] ([]:List Int) (by rfl) (by rfl) mB.out.own ((IsL.nil w w.heap.size _ _).below mB.out.below) (by have:=CV.out;simp<;>omega) mB.out.size ?_;intro v1 W2 hown1 hg1;have CE:=Own.grow' mB.out.own mB.out.below mB.out.size hg1;have Dr:=Nat.le_trans mB.out.size hg1.size)
      |(refine ao (by rfl) (.tmp 33) (.tmp 36) (by rfl) w.heap.size _ _ _ [] ([]:List Int) (by rfl) (by rfl) mC.out.own ((IsL.nil w w.heap.size _ _).below mC.out.below) (by have:=CV.out;simp<;>omega) mC.out.size ?_;intro v1 W2 hown1 hg1;have CE:=Own.grow' mC.out.own mC.out.below mC.out.size hg1;have Dr:=Nat.le_trans mC.out.size hg1.size)
      |(refine ao (by rfl) (.tmp 37) (.tmp 39) (by rfl) w.heap.size _ v1 _ _ [n] (by rfl) (by rfl) (hown1.alloc (.cells #[.int .i64 n] 3)) (IsL.one HN.out mE) (by have:=CV.out;simp<;>omega) (show w.heap.size≤(W2.alloc (.cells #[.int .i64 n] 3)).heap.size from Nat.le_trans Dr (by simp)) ?_;intro v2 W4 C9 DT;have CM:=Own.grow' (hown1.alloc (.cells #[.int .i64 n] 3)) (CE.alloc Dr (.cells #[.int .i64 n] 3)) (show w.heap.size≤(W2.alloc (.cells #[.int .i64 n] 3)).heap.size from Nat.le_trans Dr (by simp)) DT;have Dz:=CM.size)
      |(refine ao (by rfl) (.tmp 37) (.tmp 39) (by rfl) w.heap.size _ v1 _ _ [n] (by rfl) (by rfl) hown1 (IsL.one HN.out (lZ hg1)) (by have:=CV.out;simp<;>omega) Dr ?_;intro v2 W4 C9 DT;have CM:=Own.grow' hown1 CE Dr DT;have Dz:=CM.size)
      |(refine ao (by rfl) (.tmp 37) (.tmp 39) (by rfl) w.heap.size _ v1 _ _ [n] (by rfl) (by rfl) hown1 (IsL.one HN.out (mv hg1)) (by have:=CV.out;simp<;>omega) Dr ?_;intro v2 W4 C9 DT;have CM:=Own.grow' hown1 CE Dr DT;have Dz:=CM.size)
      |(refine ao (by rfl) (.tmp 40) (.tmp 43) (by rfl) w.heap.size _ v2 _ _ ([]:List Int) (by rfl) (by rfl) C9 ((IsL.nil w w.heap.size _ _).below CM) (by have:=CV.out;simp<;>omega) Dz ?_;intro v3 W5 hown3 hg3;have CO:=Own.grow' C9 CM Dz hg3))
    all_goals
     go_wp2;all_goals
      go_ret
      refine⟨_,rfl,?_,CO⟩;have h:=hown3.isL (by have:=CV.out;simp<;>omega);simpa using h
  ·go_enter func45,ntmps45;go_wp2
   go_loop [5] (fun i=>i=.int .i64 0) (fun _=>0)
   case atStart=>rfl
   case round=>
    obtain rfl:=hrel;go_wp2;have CV:=aH (rfl:([]:List Int).length=0);have mA:=aH (iE w);have mB:=aH (iH w n);have mC:=aH (iR w n)
    go_region_held3 (fun _=>True) (trivial)
     (first
      |(refine ao (by rfl) (.tmp 33) (.tmp 36) (by rfl) w.heap.size _ _ _ [] ([]:List Int) (by rfl) (by rfl) mA.out.own ((IsL.nil w w.heap.size _ _).below mA.out.below) (by have:=CV.out;simp<;>omega) mA.out.size ?_;intro v1 W2 hown1 hg1;have CE:=Own.grow' mA.out.own mA.out.below mA.out.size hg1;have Dr:=Nat.le_trans mA.out.size hg1.size)
      |(refine ao (by rfl) (.tmp 33) (.tmp 36) (by rfl) w.heap.size _ _ _ [] ([]:List Int) (by rfl) (by rfl) mB.out.own ((IsL.nil w w.heap.size _ _).below mB.out.below) (by have:=CV.out;simp<;>omega) mB.out.size ?_;intro v1 W2 hown1 hg1;have CE:=Own.grow' mB.out.own mB.out.below mB.out.size hg1;have Dr:=Nat.le_trans mB.out.size hg1.size)
      |(refine ao (by rfl) (.tmp 33) (.tmp 36) (by rfl) w.heap.size _ _ _ [] ([]:List Int) (by rfl) (by rfl) mC.out.own ((IsL.nil w w.heap.size _ _).below mC.out.below) (by have:=CV.out;simp<;>omega) mC.out.size ?_;intro v1 W2 hown1 hg1;have CE:=Own.grow' mC.out.own mC.out.below mC.out.size hg1;have Dr:=Nat.le_trans mC.out.size hg1.size)
      |(refine ao (by rfl) (.tmp 37) (.tmp 39) (by rfl) w.heap.size _ v1 _ _ [n] (by rfl) (by rfl) (hown1.alloc (.cells #[.int .i64 n] 3)) (IsL.one HN.out mE) (by have:=CV.out;simp<;>omega) (show w.heap.size≤(W2.alloc (.cells #[.int .i64 n] 3)).heap.size from Nat.le_trans Dr (by simp)) ?_;intro v2 W4 C9 DT;have CM:=Own.grow' (hown1.alloc (.cells #[.int .i64 n] 3)) (CE.alloc Dr (.cells #[.int .i64 n] 3)) (show w.heap.size≤(W2.alloc (.cells #[.int .i64 n] 3)).heap.size from Nat.le_trans Dr (by simp)) DT;have Dz:=CM.size)
      |(refine ao (by rfl) (.tmp 37) (.tmp 39) (by rfl) w.heap.size _ v1 _ _ [n] (by rfl) (by rfl) hown1 (IsL.one HN.out (lZ hg1)) (by have:=CV.out;simp<;>omega) Dr ?_;intro v2 W4 C9 DT;have CM:=Own.grow' hown1 CE Dr DT;have Dz:=CM.size)
      |(refine ao (by rfl) (.tmp 37) (.tmp 39) (by rfl) w.heap.size _ v1 _ _ [n] (by rfl) (by rfl) hown1 (IsL.one HN.out (mv hg1)) (by have:=CV.out;simp<;>omega) Dr ?_;intro v2 W4 C9 DT;have CM:=Own.grow' hown1 CE Dr DT;have Dz:=CM.size)
      |(refine ao (by rfl) (.tmp 40) (.tmp 43) (by rfl) w.heap.size _ v2 _ _ ([]:List Int) (by rfl) (by rfl) C9 ((IsL.nil w w.heap.size _ _).below CM) (by have:=CV.out;simp<;>omega) Dz ?_;intro v3 W5 hown3 hg3;have CO:=Own.grow' C9 CM Dz hg3))
    all_goals
     go_wp2;all_goals
      go_ret
      refine⟨_,rfl,?_,CO⟩;have h:=hown3.isL (by have:=CV.out;simp<;>omega);simpa using h
theorem kb (v:Value) (s:List Int) (n:Int) (hn:ae n) (w:World) (h:IsL w w.heap.size v s) (hl:s.length≤1000):
  Calls prog 45 #[v,.int .i64 n] w fun e w'=>∃v,e=.returned v∧IsL w' w'.heap.size v (put s n)∧Bw w w':=by
 obtain⟨⟨A,cap,rfl,hcap,hA⟩,hf,_⟩:=h;by_cases h0:0<s.length
 ·obtain⟨b,off,rfl,hb,hc⟩:=hA h0;exact tQ b off cap s n hn w h0 hl hcap hb hf hc
 ·obtain rfl:s=[]:=List.eq_nil_of_length_eq_zero (by omega);exact rq A cap n hn w
end Go.Proofs.YtmecohdedghiaaaGreatDoor.Two
namespace Go.Proofs.YtmecohdedghiaaaGreatDoor
open Ieee
theorem sw:double.signWeight=9223372036854775808:=by decide+kernel
theorem bn:double.binade=4503599627370496:=by decide+kernel
theorem ir:double.infRung=9218868437227405312:=by decide+kernel
theorem lp:double.leastPlace= -1074:=by decide+kernel
theorem fb:double.fractionBits=52:=rfl
theorem cw {a b:Nat} (h:a≤b):2^a≤2^b:=Nat.pow_le_pow_right (by decide) h
def nan (b:Nat):Prop:=9218868437227405312<b%9223372036854775808
instance (b:Nat):Decidable (nan b):=Nat.decLt _ _
def aR (b:Nat):Bool:=decide (nan b)
def sg (s:Bool) (n:Nat):Int:=if s=true then -(n:Int)else n
def sb (b:Nat):Bool:=b/9223372036854775808%2==1
def rg (b:Nat):Nat:=b%9223372036854775808
def vf (b:Nat):Int:=sg (sb b) (rg b)
def rv (r:Nat):Nat:=if r<4503599627370496 then r else(4503599627370496+r%4503599627370496)*2^(r/4503599627370496-1)
theorem pq (r:Nat):rv r<rv (r+1):=by
 unfold rv;by_cases h:r+1<4503599627370496
 ·rw[if_pos (by omega),if_pos h];omega
 ·by_cases h2:r+1=4503599627370496
  ·rw[if_pos (by omega),if_neg h,h2];simp only[Nat.reduceMod,Nat.reduceDiv,Nat.reduceSub,Nat.pow_zero];omega
  ·rw[if_neg (by omega),if_neg h];by_cases h3:r%4503599627370496+1<4503599627370496
   ·have e1:(r+1)%4503599627370496=r%4503599627370496+1:=(by omega);have e2:(r+1)/4503599627370496=r/4503599627370496:=(by omega);rw[e1,e2];exact Nat.mul_lt_mul_of_pos_right (by omega) (Nat.two_pow_pos _)
   ·have e1:(r+1)%4503599627370496=0:=(by omega);have e2:(r+1)/4503599627370496-1=(r/4503599627370496-1)+1:=(by omega);have e3:r%4503599627370496=4503599627370495:=(by omega);rw[e1,e2,e3,Nat.pow_succ];have:=Nat.two_pow_pos (r/4503599627370496-1);generalize 2^(r/4503599627370496-1)=p at *;omega
theorem jP {r s:Nat} (h:r<s):rv r<rv s:=by
 induction s with
 |zero=>omega
 |succ s ih=>
  by_cases e:r=s
  ·subst e;exact pq r
  ·exact Nat.lt_trans (ih (by omega)) (pq s)
theorem yE (r s:Nat):rv r<rv s↔r<s:=by
 constructor
 ·intro h;apply Nat.lt_of_not_le;intro hh;rcases Nat.lt_or_eq_of_le hh with h2|h2
  ·have:=jP h2;omega
  ·rw[h2]at h;omega
 ·exact jP
theorem A7 (r s:Nat):rv r=rv s↔r=s:=by
 constructor
 ·intro h;rcases Nat.lt_trichotomy r s with h1|h1|h1
  ·have:=jP h1;omega
  ·exact h1
  ·have:=jP h1;omega
 ·intro h;rw[h]
theorem AZ:rv 0=0:=by unfold rv;rw[if_pos (by omega)]
theorem dl (b:Nat) (h:rg b<9218868437227405312):∃(m:Nat) (p:Int),double.read b=.number (sb b) m p∧ -1074≤p∧m*2^(p+1074).toNat=rv (rg b):=by
 unfold Format.read;simp only[sw,bn,ir,lp];unfold rg at h⊢;by_cases h1:b%9223372036854775808<4503599627370496
 ·rw[if_pos h1];refine⟨_,_,rfl,by omega,?_⟩;unfold rv;rw[if_pos h1];simp
 ·rw[if_neg h1,if_pos h];refine⟨_,_,rfl,by omega,?_⟩;unfold rv;rw[if_neg h1]
  congr 2
  omega
theorem cB (b:Nat) (h:rg b=9218868437227405312):double.read b=.infinity (sb b):=by
 unfold Format.read;simp only[sw,bn,ir,lp];unfold rg at h;rw[h,if_neg (by omega),if_neg (by omega),if_pos rfl];rfl
theorem fz (b:Nat) (h:nan b):∃s t,double.read b=.nan s t:=by
 unfold Format.read;simp only[sw,bn,ir,lp];unfold nan at h;rw[if_neg (by omega),if_neg (by omega),if_neg (by omega)];exact⟨_,_,rfl⟩
theorem gm (s:Bool) (m k:Nat):signed s m k=sg s (m*2^k):=by
 unfold signed sg;rw[Nat.shiftLeft_eq]
theorem kR (s:Bool) (n k:Nat):sg s (n*k)=sg s n*(k:Int):=by
 unfold sg
 split
 ·rw[Int.natCast_mul,Int.neg_mul]
 ·rw[Int.natCast_mul]
theorem AG (f:Nat→Nat) (hf:∀x y,f x<f y↔x<y) (he:∀x y,f x=f y↔x=y) (h0:f 0=0) (s t:Bool) (x y:Nat):(sg s (f x)<sg t (f y)↔sg s x<sg t y)∧(sg s (f x)=sg t (f y)↔sg s x=sg t y):=by
 have a:=hf x y;have b:=hf y x;have c:=he x y;have d:=hf 0 x;have e:=hf 0 y;rw[h0]at d e;unfold sg
 cases s<;>cases t<;>simp only[Bool.false_eq_true,if_true,if_false]<;>constructor<;>omega
theorem jT {a b c d:Int} (h1:a<b↔c<d) (h2:a=b↔c=d):compare a b=compare c d:=by
 simp only[compare,compareOfLessAndEq,h1,h2]
theorem vs (a b:Int) (k:Nat) (hk:0<k):compare (a*(k:Int)) (b*(k:Int))=compare a b:=by
 have MT:(0:Int)<k:=by omega
 refine jT ⟨fun h=>Int.lt_of_mul_lt_mul_right h (Int.le_of_lt MT),fun h=>Int.mul_lt_mul_of_pos_right h MT⟩ ⟨fun h=>Int.eq_of_mul_eq_mul_right (by omega) h,fun h=>by rw[h]⟩
theorem dn (a b:Nat) (ha:¬nan a) (hb:¬nan b):double.order a b=some (compare (vf a) (vf b)):=by
 have e:=AG rv yE A7 AZ (sb a) (sb b) (rg a) (rg b);have Uo:rg a≤9218868437227405312:=by unfold nan at ha;unfold rg;omega
 have Gw:rg b≤9218868437227405312:=by unfold nan at hb;unfold rg;omega
 unfold Format.order vf;by_cases h1:rg a=9218868437227405312
 ·rw[cB a h1];by_cases h2:rg b=9218868437227405312
  ·rw[cB b h2,h1,h2];unfold Datum.order sg
   cases sb a<;>cases sb b<;>rfl
  ·obtain⟨m,p,hr,_,_⟩:=dl b (by omega);rw[hr,h1];unfold Datum.order sg
   congr 1
   cases sb a<;>cases sb b<;>simp only[Bool.false_eq_true,if_true,if_false,compare,compareOfLessAndEq]<;>(repeat' split)<;>first|rfl|omega
 ·obtain⟨m,p,hr,hp,hv⟩:=dl a (by omega);rw[hr];by_cases h2:rg b=9218868437227405312
  ·rw[cB b h2,h2];unfold Datum.order sg
   congr 1
   cases sb a<;>cases sb b<;>simp only[Bool.false_eq_true,if_true,if_false,compare,compareOfLessAndEq]<;>(repeat' split)<;>first|rfl|omega
  ·obtain⟨n,q,hr2,hq,hv2⟩:=dl b (by omega);rw[hr2];unfold Datum.order
   congr 1
   simp only[gm];rw[←vs _ _ (2^(min p q+1074).toNat) (Nat.two_pow_pos _),←kR,←kR,Nat.mul_assoc,Nat.mul_assoc,←Nat.pow_add,←Nat.pow_add];rw[show(p-min p q).toNat+(min p q+1074).toNat=(p+1074).toNat by omega,show(q-min p q).toNat+(min p q+1074).toNat=(q+1074).toNat by omega,hv,hv2];exact congrArg some (jT e.1 e.2)
theorem di (a b:Nat) (h:nan a∨nan b):double.order a b=none:=by
 unfold Format.order;rcases h with h|h
 ·obtain⟨s,t,e⟩:=fz a h;rw[e];rfl
 ·obtain⟨s,t,e⟩:=fz b h;rw[e]
  cases double.read a<;>rfl
def ey (a b:Nat):Bool:=FloatKind.f64.format.order a b==some .lt
def uK (a b:Nat):Bool:=FloatKind.f64.format.order a b==some .gt
def mT (a b:Nat):Bool:=FloatKind.f64.format.order a b==some .lt||FloatKind.f64.format.order a b==some .eq
def qo (a b:Nat):Bool:=FloatKind.f64.format.order a b==some .gt||FloatKind.f64.format.order a b==some .eq
theorem pL (a b:Nat):ey a b=true↔¬nan a∧¬nan b∧vf a<vf b:=by
 unfold ey;by_cases h:nan a∨nan b
 ·rw[show FloatKind.f64.format.order a b=none from di a b h];simp;intro h1 h2;exact absurd h (by simp[h1,h2])
 ·have h1:¬nan a:=fun x=>h (.inl x);have h2:¬nan b:=fun x=>h (.inr x);rw[show FloatKind.f64.format.order a b=_ from dn a b h1 h2];simp only[h1,h2,not_false_eq_true,true_and,compare,compareOfLessAndEq];(repeat' split)<;>simp<;>omega
theorem xF (a b:Nat):uK a b=true↔¬nan a∧¬nan b∧vf b<vf a:=by
 unfold uK;by_cases h:nan a∨nan b
 ·rw[show FloatKind.f64.format.order a b=none from di a b h];simp;intro h1 h2;exact absurd h (by simp[h1,h2])
 ·have h1:¬nan a:=fun x=>h (.inl x);have h2:¬nan b:=fun x=>h (.inr x);rw[show FloatKind.f64.format.order a b=_ from dn a b h1 h2];simp only[h1,h2,not_false_eq_true,true_and,compare,compareOfLessAndEq];(repeat' split)<;>simp<;>omega
theorem pJ (a b:Nat):mT a b=true↔¬nan a∧¬nan b∧vf a≤vf b:=by
 unfold mT;by_cases h:nan a∨nan b
 ·rw[show FloatKind.f64.format.order a b=none from di a b h];simp;intro h1 h2;exact absurd h (by simp[h1,h2])
 ·have h1:¬nan a:=fun x=>h (.inl x);have h2:¬nan b:=fun x=>h (.inr x);rw[show FloatKind.f64.format.order a b=_ from dn a b h1 h2];simp only[h1,h2,not_false_eq_true,true_and,compare,compareOfLessAndEq];(repeat' split)<;>simp<;>omega
theorem pK (a b:Nat):qo a b=true↔¬nan a∧¬nan b∧vf b≤vf a:=by
 unfold qo;by_cases h:nan a∨nan b
 ·rw[show FloatKind.f64.format.order a b=none from di a b h];simp;intro h1 h2;exact absurd h (by simp[h1,h2])
 ·have h1:¬nan a:=fun x=>h (.inl x);have h2:¬nan b:=fun x=>h (.inr x);rw[show FloatKind.f64.format.order a b=_ from dn a b h1 h2];simp only[h1,h2,not_false_eq_true,true_and,compare,compareOfLessAndEq];(repeat' split)<;>simp<;>omega
theorem kG (a:Nat):(FloatKind.f64.format.order a a != some .eq)=aR a:=by
 unfold aR;by_cases h:nan a
 ·rw[show FloatKind.f64.format.order a a=none from di a a (.inl h),dT h];rfl
 ·rw[show FloatKind.f64.format.order a a=_ from dn a a h h,dF h];simp[compare,compareOfLessAndEq]
end Go.Proofs.YtmecohdedghiaaaGreatDoor
