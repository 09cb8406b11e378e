/- What is locked, for any request. -/
import Derived.Test.YtmecohdedghiaaaGreatDoorPn00
import Derived.Test.YtmecohdedghiaaaGreatDoorPn32
import Derived.Test.YtmecohdedghiaaaGreatDoorPn34
import Derived.Test.YtmecohdedghiaaaGreatDoorPn28
import Derived.Test.YtmecohdedghiaaaGreatDoorPn23
import Derived.Test.YtmecohdedghiaaaGreatDoorPn33
import Derived.Test.YtmecohdedghiaaaGreatDoorPn08
import Derived.Test.YtmecohdedghiaaaGreatDoorPn31
set_option maxRecDepth 100000
set_option maxHeartbeats 8000000
namespace Go.Proofs.YtmecohdedghiaaaGreatDoor
open Go.RowKit
theorem owB_0 {o:List Int} {arms:Int} {k:Nat} (hk:k<o.length) (h:owW arms (o.getD k 0)=true):owB o arms=false:=by
 unfold owB;rw[Bool.not_eq_false',List.any_eq_true];exact⟨_,getD_mem' o k 0 hk,h⟩
theorem owB_1 {o:List Int} {arms:Int} (h:∀j,j<o.length→owW arms (o.getD j 0)=false):owB o arms=true:=by
 unfold owB;rw[Bool.not_eq_true',List.any_eq_false];intro x hx;obtain⟨j,hj,e⟩:=List.getElem_of_mem hx;have:=h j hj;rw[List.getD_eq_getElem?_getD,List.getElem?_eq_getElem hj,Option.getD_some,e]at this;rw[this];exact Bool.false_ne_true
theorem rright_m (m:Md) (w:World) (hm:m.In w w.heap.size):Calls Tryz.prog 23 #[m.v] w fun e w'=>e=.returned (.bool (rgM m))∧Below w.heap.size w w':=by
 obtain⟨w0,hw0⟩:∃w0,w0=w.alloc (.cells m.ob 43):=⟨_,rfl⟩;have HB0:=aH (show Below w.heap.size w w0 by rw[hw0];exact bL (bR _ _) _);have HM0:=aH (hm.then HB0.out);have HA0:=aH (show MdAt w0 w.heap.size m by rw[hw0];exact Cells11.new w _ _ _ _ _ _ _ _ _ _ _ _);have HRG:=aH (fun V (h:Below w0.heap.size w0 V)=>rright_s m.d m.s V (HM0.out.d.then h) (HM0.out.s.then h));have HPP:=aH (fun V (h:Below w0.heap.size w0 V)=>(rparts_any m.d V (HM0.out.d.then h)).mono (R':=fun e w'=>∃A c,e=.returned (.slice A (partsK m.d).length c)∧Below V.heap.size V w') fun e w' ⟨v,h1,h2,h3⟩=>by
  obtain⟨A,c,rfl,_⟩:=(h2.isL (by have:=parts_len m.d;omega)).shape;exact⟨A,c,h1,h3⟩)
 have HR:=aH (fun(k:Nat) (hk:k<m.o.length) h=>owB_0 (o:=m.o) (arms:=m.d.arms) hk h);have HT:=aH (fun h=>owB_1 (o:=m.o) (arms:=m.d.arms) h);have HOL:=aH HM0.out.o.2.2;have e:rgM m=(rgS m.d m.s.ab&&(decide ((m.o.length:Int)=((partsK m.d).length:Int))&&owB m.o m.d.arms)):=rfl;rw[e];clear e hm;generalize rgS m.d m.s.ab=b1 at *;generalize owB m.o m.d.arms=b3 at *;generalize (partsK m.d).length=n at *
 cases b1
 ·skip
  go_enter Tryz.func23,Tryz.ntmps23
  go_upto_region 1 with fail
  rw[←hw0];obtain⟨g0,g1,g2,g3,g4,g5,g6,g7,g8,g9,g10,-⟩:=HA0.out;clear hw0;refine wp_region_held_drew (S:=fun w'=>w'.cell? ⟨w.heap.size,0,none⟩=some (.slice m.d.bA m.d.bn m.d.bc)∧w'.cell? ⟨w.heap.size,1,none⟩=some (.slice m.d.pA m.d.pn m.d.pc)∧w'.cell? ⟨w.heap.size,2,none⟩=some (.slice m.d.rA m.d.rn m.d.rc)∧w'.cell? ⟨w.heap.size,3,none⟩=some (.int .i64 m.d.arms)∧w'.cell? ⟨w.heap.size,4,none⟩=some (.slice m.s.cA m.s.cl.length m.s.cc)∧w'.cell? ⟨w.heap.size,5,none⟩=some (.slice m.s.lA m.s.ll.length m.s.lc)∧w'.cell? ⟨w.heap.size,6,none⟩=some (.slice m.s.tA m.s.tl.length m.s.tc)∧w'.cell? ⟨w.heap.size,7,none⟩=some (.int .i64 m.s.st)∧w'.cell? ⟨w.heap.size,8,none⟩=some (.int .i64 m.s.inn)∧w'.cell? ⟨w.heap.size,9,none⟩=some (.int .i64 m.s.out)∧w'.cell? ⟨w.heap.size,10,none⟩=some (.slice m.oA m.o.length m.oc)) (by kernel_rfl) ?_ (fun hHeld=>?_)
  ·exact⟨g0,g1,g2,g3,g4,g5,g6,g7,g8,g9,g10⟩
  have HBr:=aH (show Below w0.heap.size w0 w0.drew from below_drewN (bR _ _) 1);clear g0 g1 g2 g3 g4 g5 g6 g7 g8 g9 g10;generalize w0.drew=wv at *;refine wk [.k 0 4,.k 1 5,.k 2 6,.k 3 7] (fun _ _ _ _ _ h=>h) hHeld ?_ (by kernel_rfl);repeat (refine .k (v:=?_) rfl (by kernel_rfl) ?_ ?_;rotate_left 1;(intro w h;go_simp<;>try rfl);try simp only[sp])
  refine .nil ?_;refine wQ 4 (some 8) rfl (fun K hK=>?_) (by kernel_rfl);go_simp;(with_reducible refine(HRG.out _ HBr.out).mono ?_);rintro e wv ⟨rfl,hb⟩;obtain⟨s0,s1,s2,s3,s4,s5,s6,s7,s8,s9,s10⟩:=hHeld;have HBr:=aH (bC HBr.out hb);replace s0:=kK hb s0;replace s1:=kK hb s1;replace s2:=kK hb s2;replace s3:=kK hb s3;replace s4:=kK hb s4;replace s5:=kK hb s5;replace s6:=kK hb s6;replace s7:=kK hb s7;replace s8:=kK hb s8;replace s9:=kK hb s9;replace s10:=kK hb s10;clear hb;go_wp2_with fail;refine hK.out _ _ ⟨s0,s1,s2,s3,s4,s5,s6,s7,s8,s9,s10⟩ (fun hHeld=>?_);clear hK K s0 s1 s2 s3 s4 s5 s6 s7 s8 s9 s10;try simp only[sp]
  refine wk [.k 5 9,.k 6 10,.u 7 11,.u 8 12,.u 9 13,.u 10 14,.u 11 15,.u 12 16,.u 13 17,.u 14 18,.k 15 19] (fun _ _ _ _ _ h=>h) hHeld ?_ (by kernel_rfl);repeat (first|(refine .k (v:=?_) rfl (by kernel_rfl) ?_ ?_;rotate_left 1;(intro w h;go_simp<;>try rfl);try simp only[sp])|(refine .u rfl (by kernel_rfl) ?_;try simp only[sp]))
  refine .nil ?_;refine wD (by kernel_rfl) ?_;go_wp2
  go_ret
  exact⟨ret_b (by simp),bC HB0.out HBr.out⟩
 by_cases hn:(m.o.length:Int)=(n:Int)
 case neg=>
  rw[dF hn];go_enter Tryz.func23,Tryz.ntmps23
  go_upto_region 1 with fail
  rw[←hw0];obtain⟨g0,g1,g2,g3,g4,g5,g6,g7,g8,g9,g10,-⟩:=HA0.out;clear hw0;refine wp_region_held_drew (S:=fun w'=>w'.cell? ⟨w.heap.size,0,none⟩=some (.slice m.d.bA m.d.bn m.d.bc)∧w'.cell? ⟨w.heap.size,1,none⟩=some (.slice m.d.pA m.d.pn m.d.pc)∧w'.cell? ⟨w.heap.size,2,none⟩=some (.slice m.d.rA m.d.rn m.d.rc)∧w'.cell? ⟨w.heap.size,3,none⟩=some (.int .i64 m.d.arms)∧w'.cell? ⟨w.heap.size,4,none⟩=some (.slice m.s.cA m.s.cl.length m.s.cc)∧w'.cell? ⟨w.heap.size,5,none⟩=some (.slice m.s.lA m.s.ll.length m.s.lc)∧w'.cell? ⟨w.heap.size,6,none⟩=some (.slice m.s.tA m.s.tl.length m.s.tc)∧w'.cell? ⟨w.heap.size,7,none⟩=some (.int .i64 m.s.st)∧w'.cell? ⟨w.heap.size,8,none⟩=some (.int .i64 m.s.inn)∧w'.cell? ⟨w.heap.size,9,none⟩=some (.int .i64 m.s.out)∧w'.cell? ⟨w.heap.size,10,none⟩=some (.slice m.oA m.o.length m.oc)) (by kernel_rfl) ?_ (fun hHeld=>?_)
  ·exact⟨g0,g1,g2,g3,g4,g5,g6,g7,g8,g9,g10⟩
  have HBr:=aH (show Below w0.heap.size w0 w0.drew from below_drewN (bR _ _) 1);clear g0 g1 g2 g3 g4 g5 g6 g7 g8 g9 g10;generalize w0.drew=wv at *;refine wk [.k 0 4,.k 1 5,.k 2 6,.k 3 7] (fun _ _ _ _ _ h=>h) hHeld ?_ (by kernel_rfl);repeat (refine .k (v:=?_) rfl (by kernel_rfl) ?_ ?_;rotate_left 1;(intro w h;go_simp<;>try rfl);try simp only[sp])
  refine .nil ?_;refine wQ 4 (some 8) rfl (fun K hK=>?_) (by kernel_rfl);go_simp;(with_reducible refine(HRG.out _ HBr.out).mono ?_);rintro e wv ⟨rfl,hb⟩;obtain⟨s0,s1,s2,s3,s4,s5,s6,s7,s8,s9,s10⟩:=hHeld;have HBr:=aH (bC HBr.out hb);replace s0:=kK hb s0;replace s1:=kK hb s1;replace s2:=kK hb s2;replace s3:=kK hb s3;replace s4:=kK hb s4;replace s5:=kK hb s5;replace s6:=kK hb s6;replace s7:=kK hb s7;replace s8:=kK hb s8;replace s9:=kK hb s9;replace s10:=kK hb s10;clear hb;go_wp2_with fail;refine hK.out _ _ ⟨s0,s1,s2,s3,s4,s5,s6,s7,s8,s9,s10⟩ (fun hHeld=>?_);clear hK K s0 s1 s2 s3 s4 s5 s6 s7 s8 s9 s10;try simp only[sp]
  refine wk [.k 5 9,.k 6 10,.k 7 11,.k 8 12,.k 9 13,.k 10 14,.k 11 15] (fun _ _ _ _ _ h=>h) hHeld ?_ (by kernel_rfl);repeat (refine .k (v:=?_) rfl (by kernel_rfl) ?_ ?_;rotate_left 1;(intro w h;go_simp<;>try rfl);try simp only[sp])
  refine .nil ?_;refine wQ 12 (some 16) rfl (fun K hK=>?_) (by kernel_rfl);go_simp;(with_reducible refine(HPP.out _ HBr.out).mono ?_);rintro e wv ⟨pA,pc,rfl,hb⟩;obtain⟨s0,s1,s2,s3,s4,s5,s6,s7,s8,s9,s10⟩:=hHeld;have HBr:=aH (bC HBr.out hb);replace s0:=kK hb s0;replace s1:=kK hb s1;replace s2:=kK hb s2;replace s3:=kK hb s3;replace s4:=kK hb s4;replace s5:=kK hb s5;replace s6:=kK hb s6;replace s7:=kK hb s7;replace s8:=kK hb s8;replace s9:=kK hb s9;replace s10:=kK hb s10;clear hb;go_wp2_with fail;refine hK.out _ _ ⟨s0,s1,s2,s3,s4,s5,s6,s7,s8,s9,s10⟩ (fun hHeld=>?_);clear hK K s0 s1 s2 s3 s4 s5 s6 s7 s8 s9 s10;try simp only[sp]
  refine wk [.k 13 17,.k 14 18,.k 15 19] (fun _ _ _ _ _ h=>h) hHeld ?_ (by kernel_rfl);repeat (refine .k (v:=?_) rfl (by kernel_rfl) ?_ ?_;rotate_left 1;(intro w h;go_simp<;>try rfl);try simp only[sp])
  refine .nil ?_;refine wD (by kernel_rfl) ?_;go_wp2
  go_ret
  exact⟨ret_b (by simp),bC HB0.out HBr.out⟩
 rw[dT hn];go_enter Tryz.func23,Tryz.ntmps23
 go_upto_region 1 with fail
 rw[←hw0];obtain⟨g0,g1,g2,g3,g4,g5,g6,g7,g8,g9,g10,-⟩:=HA0.out;clear hw0;refine wp_region_held_drew (S:=fun w'=>w'.cell? ⟨w.heap.size,0,none⟩=some (.slice m.d.bA m.d.bn m.d.bc)∧w'.cell? ⟨w.heap.size,1,none⟩=some (.slice m.d.pA m.d.pn m.d.pc)∧w'.cell? ⟨w.heap.size,2,none⟩=some (.slice m.d.rA m.d.rn m.d.rc)∧w'.cell? ⟨w.heap.size,3,none⟩=some (.int .i64 m.d.arms)∧w'.cell? ⟨w.heap.size,4,none⟩=some (.slice m.s.cA m.s.cl.length m.s.cc)∧w'.cell? ⟨w.heap.size,5,none⟩=some (.slice m.s.lA m.s.ll.length m.s.lc)∧w'.cell? ⟨w.heap.size,6,none⟩=some (.slice m.s.tA m.s.tl.length m.s.tc)∧w'.cell? ⟨w.heap.size,7,none⟩=some (.int .i64 m.s.st)∧w'.cell? ⟨w.heap.size,8,none⟩=some (.int .i64 m.s.inn)∧w'.cell? ⟨w.heap.size,9,none⟩=some (.int .i64 m.s.out)∧w'.cell? ⟨w.heap.size,10,none⟩=some (.slice m.oA m.o.length m.oc)) (by kernel_rfl) ?_ (fun hHeld=>?_)
 ·exact⟨g0,g1,g2,g3,g4,g5,g6,g7,g8,g9,g10⟩
 have HBr:=aH (show Below w0.heap.size w0 w0.drew from below_drewN (bR _ _) 1);clear g0 g1 g2 g3 g4 g5 g6 g7 g8 g9 g10;generalize w0.drew=wv at *;refine wk [.k 0 4,.k 1 5,.k 2 6,.k 3 7] (fun _ _ _ _ _ h=>h) hHeld ?_ (by kernel_rfl);repeat (refine .k (v:=?_) rfl (by kernel_rfl) ?_ ?_;rotate_left 1;(intro w h;go_simp<;>try rfl);try simp only[sp])
 refine .nil ?_;refine wQ 4 (some 8) rfl (fun K hK=>?_) (by kernel_rfl);go_simp;(with_reducible refine(HRG.out _ HBr.out).mono ?_);rintro e wv ⟨rfl,hb⟩;obtain⟨s0,s1,s2,s3,s4,s5,s6,s7,s8,s9,s10⟩:=hHeld;have HBr:=aH (bC HBr.out hb);replace s0:=kK hb s0;replace s1:=kK hb s1;replace s2:=kK hb s2;replace s3:=kK hb s3;replace s4:=kK hb s4;replace s5:=kK hb s5;replace s6:=kK hb s6;replace s7:=kK hb s7;replace s8:=kK hb s8;replace s9:=kK hb s9;replace s10:=kK hb s10;clear hb;go_wp2_with fail;refine hK.out _ _ ⟨s0,s1,s2,s3,s4,s5,s6,s7,s8,s9,s10⟩ (fun hHeld=>?_);clear hK K s0 s1 s2 s3 s4 s5 s6 s7 s8 s9 s10;try simp only[sp]
 refine wk [.k 5 9,.k 6 10,.k 7 11,.k 8 12,.k 9 13,.k 10 14,.k 11 15] (fun _ _ _ _ _ h=>h) hHeld ?_ (by kernel_rfl);repeat (refine .k (v:=?_) rfl (by kernel_rfl) ?_ ?_;rotate_left 1;(intro w h;go_simp<;>try rfl);try simp only[sp])
 refine .nil ?_;refine wQ 12 (some 16) rfl (fun K hK=>?_) (by kernel_rfl);go_simp;(with_reducible refine(HPP.out _ HBr.out).mono ?_);rintro e wv ⟨pA,pc,rfl,hb⟩;obtain⟨s0,s1,s2,s3,s4,s5,s6,s7,s8,s9,s10⟩:=hHeld;have HBr:=aH (bC HBr.out hb);replace s0:=kK hb s0;replace s1:=kK hb s1;replace s2:=kK hb s2;replace s3:=kK hb s3;replace s4:=kK hb s4;replace s5:=kK hb s5;replace s6:=kK hb s6;replace s7:=kK hb s7;replace s8:=kK hb s8;replace s9:=kK hb s9;replace s10:=kK hb s10;clear hb;go_wp2_with fail;refine hK.out _ _ ⟨s0,s1,s2,s3,s4,s5,s6,s7,s8,s9,s10⟩ (fun hHeld=>?_);clear hK K s0 s1 s2 s3 s4 s5 s6 s7 s8 s9 s10;try simp only[sp]
 refine wk [.k 13 17,.k 14 18,.k 15 19] (fun _ _ _ _ _ h=>h) hHeld ?_ (by kernel_rfl);repeat (refine .k (v:=?_) rfl (by kernel_rfl) ?_ ?_;rotate_left 1;(intro w h;go_simp<;>try rfl);try simp only[sp])
 refine .nil ?_;refine wD (by kernel_rfl) ?_;have HB1:=aH (bC HB0.out HBr.out);clear hHeld;go_wp2
 go_loopw [3] (fun i wr=>∃k:Nat,k≤m.o.length∧i=.int .i64 k∧(∀j,j<k→owW m.d.arms (m.o.getD j 0)=false)∧Below w0.heap.size w0 wr) (fun i _=>m.o.length-(intOf i).toNat)
 case atStart=>exact⟨0,Nat.zero_le _,rfl,fun j hj=>absurd hj (Nat.not_lt_zero _),HBr.out⟩
 case round=>
  clear HBr HB1;obtain⟨k,hk,rfl,hj,hb⟩:=hrel;have HJ:=aH hj;have HB:=aH hb;have hl9:=HOL.out;obtain⟨-,-,-,g3,-,-,-,-,-,-,g10,-⟩:=HA0.out.below hb;clear hj hb;by_cases hlt:k<m.o.length
  ·obtain⟨b,off,cap',hs,_,hbb,hl2,hcell,hf⟩:=KI.cells (HM0.out.o.then HB.out) (by omega);simp only[Value.slice.injEq]at hs;obtain⟨ho,_,hc⟩:=hs;rw[ho]at g10;have e1:=hcell k hlt;have HW:=aH (show owW m.d.arms (m.o.getD k 0)=(decide (m.o.getD k 0<0)||decide (m.d.arms<m.o.getD k 0))from rfl);have HRk:=aH (HR.out k hlt);obtain⟨x,hx⟩:∃x,m.o.getD k 0=x:=⟨_,rfl⟩;have HX:=aH hx;rw[hx]at e1 HW HRk;clear hcell hf hx;have hbw:b<wr.heap.size:=hbb;by_cases h0:x<0
   ·go_upto_region 6 with fail
    go_region
    go_wp2
    go_ret
    exact⟨ret_b (by have h:=HRk.out (by rw[HW.out];simp[h0]);simp[h]),bC HB0.out (below_drewN HB.out 1)⟩
   by_cases h8:m.d.arms<x
   ·go_upto_region 6 with fail
    go_region
    go_wp2
    go_ret
    exact⟨ret_b (by have h:=HRk.out (by rw[HW.out];simp[h8]);simp[h]),bC HB0.out (below_drewN HB.out 1)⟩
   ·go_upto_region 6 with fail
    go_region
    go_wp2
    go_roundw
    case rel=>exact⟨k+1,by omega,num_i (by omega),fun j hj=>by
     by_cases h:j=k
     ·subst h;rw[HX.out,HW.out];simp[h0,h8]
     ·exact HJ.out j (by omega),below_drewN HB.out 1⟩
    case measure=>simp[intOf];omega
  ·obtain rfl:k=m.o.length:=(by omega);go_wp2
   go_ret
   exact⟨ret_b (by rw[HT.out HJ.out];rfl),bC HB0.out HB.out⟩
def rhP (xs:List (Int×Int)) (b':Int) (i:Nat):Bool:=(xs.getD i (0,0)).1==2&&(xs.getD i (0,0)).2==b'
def rhV (xs:List (Int×Int)) (b':Int):Int:=if (Tp.fstV (rhP xs b') xs.length).2=true then(Tp.fstV (rhP xs b') xs.length).1 else -1
theorem rh_hit {xs:List (Int×Int)} {b':Int} {k:Nat} (hk:k<xs.length) (h:rhP xs b' k=true) (hn:∀j,j<k→rhP xs b' j=false):rhV xs b'=k:=by
 unfold rhV;rw[Tp.fst_hit _ _ _ hk h hn,if_pos rfl]
theorem rh_none {xs:List (Int×Int)} {b':Int} (hn:∀j,j<xs.length→rhP xs b' j=false):rhV xs b'= -1:=by
 unfold rhV;rw[Tp.fst_none _ _ hn,if_neg (by simp)]
theorem fst_same (p q:Nat→Bool) (n:Nat) (h:∀i,i<n→p i=q i):Tp.fstV p n=Tp.fstV q n:=by
 by_cases he:∃i,i<n∧p i=true
 ·obtain⟨i,hi,hp⟩:=he;obtain⟨m,hm,hmin⟩:∃m,(m<n∧p m=true)∧∀j,j<m→¬(j<n∧p j=true):=by
   induction i using Nat.strongRecOn with
   |ind i ih=>
    by_cases hj:∃j,j<i∧(j<n∧p j=true)
    ·obtain⟨j,h1,h2,h3⟩:=hj;exact ih j h1 h2 h3
    ·exact⟨i,⟨hi,hp⟩,fun j h1 h2=>hj ⟨j,h1,h2⟩⟩
  have hf:∀j,j<m→p j=false:=fun j hj=>by
   cases e:p j with
   |false=>rfl
   |true=>exact absurd ⟨by omega,e⟩ (hmin j hj)
  rw[Tp.fst_hit p n m hm.1 hm.2 hf,Tp.fst_hit q n m hm.1 (by rw[←h m hm.1];exact hm.2) (fun j hj=>by rw[←h j (by omega)];exact hf j hj)]
 ·have hf:∀j,j<n→p j=false:=fun j hj=>by
   cases e:p j with
   |false=>rfl
   |true=>exact absurd ⟨j,hj,e⟩ he
  rw[Tp.fst_none p n hf,Tp.fst_none q n (fun j hj=>by rw[←h j hj];exact hf j hj)]
theorem rh_hd {d:Dk} {a:Ab} (hr:rgS d a=true) (b':Int):Tp.fstV (rhP a.t b') a.t.length=hdF a b':=by
 have P:=rg_P d a hr;have hR:=(rt_iff _ _).1 P.r;unfold hdF;refine fst_same _ _ _ (fun i hi=>?_);unfold rhP Tp.hdP;have h1:=(hR i hi).1;have e:(Tp.ofV (a.t.getD i (0,0)).1 (a.t.getD i (0,0)).2==2)=((a.t.getD i (0,0)).1==2):=by
  rw[Bool.eq_iff_iff,ofV_2,beq_iff_eq];constructor
  ·exact fun h=>h.1
  ·intro h;rcases ofV_nz h1 with q|q
   ·omega
   ·exact q
 rw[e,dT (show(0:Int)≤(i:Int)by omega),Bool.true_and]
theorem rhand0_any (s:Stk) (b':Int) (w:World) (hs:s.In w w.heap.size):Calls Tryz.prog 117 #[s.v,.int .i64 b'] w fun e w'=>e=.returned (.int .i64 (rhV s.tl b'))∧Below w.heap.size w w':=by
 obtain⟨w0,hw0⟩:∃w0,w0=w.alloc s.ob:=⟨_,rfl⟩;have HB0:=aH (show Below w.heap.size w w0 by rw[hw0];exact bL (bR _ _) _);have HT:=aH (hs.t.then HB0.out);have HS0:=aH (show SkAt w0 w.heap.size s by rw[hw0];exact Cells6.new w _ _ _ _ _ _ _);have hl9:=hs.t.2.2;clear hs;obtain⟨cA,cc,cl,lA,lc,ll,tA,tc,tl,st,inn,out⟩:=s;dsimp only at *;obtain⟨-,-,g2,-⟩:=HS0.out;dsimp only at g2;have HHIT:=aH (fun k h1 h2 h3=>@rh_hit tl b' k h1 h2 h3);have HNON:=aH (fun h=>@rh_none tl b' h);have HP:=aH (fun k=>show rhP tl b' k=((tl.getD k (0,0)).1==2&&(tl.getD k (0,0)).2==b')from rfl);generalize rhV tl b'=R at *;generalize rhP tl b'=P at *;go_enter Tryz.func117,Tryz.ntmps117;go_wp2_with fail;rw[←hw0];clear hw0
 go_loopw [5] (fun i wr=>∃k:Nat,k≤tl.length∧i=.int .i64 k∧Hid (∀j,j<k→P j=false)∧wr=w0) (fun i _=>tl.length-(intOf i).toNat)
 case atStart=>exact⟨0,Nat.zero_le _,rfl,aH (fun j hj=>absurd hj (Nat.not_lt_zero _)),rfl⟩
 case round=>
  obtain⟨k,hk,rfl,hno,rfl⟩:=hrel;have HNO:=aH hno.out;clear hno;by_cases hlt:k<tl.length
  ·obtain⟨b,off,rfl,hb,hbc,hcell⟩:=tip_cells HT.out (by omega);obtain⟨e1,e2⟩:=hcell k hlt;have HPk:=aH (HP.out k);have HHk:=aH (HHIT.out k hlt);clear hcell;generalize tl.getD k (0,0)=t at *;obtain⟨t1,t2⟩:=t;dsimp only at e1 e2 HPk;by_cases h1:t1=2
   ·have h1b:(t1==2)=true:=(by simpa using h1);by_cases h2:t2=b'
    ·have h2b:(t2==b')=true:=(by simpa using h2);have HR:=aH (HHk.out (by rw[HPk.out,h1b,h2b];rfl) HNO.out);clear h1 h2;go_wp2
     go_ret
     exact⟨by rw[HR.out];rfl,HB0.out⟩
    ·have h2b:(t2==b')=false:=(by simpa using h2);have HF:=aH (show P k=false by rw[HPk.out,h1b,h2b];rfl);clear h1 h2;go_wp2
     go_roundw
     case rel=>exact⟨k+1,by omega,num_i (by omega),aH (fun j hj=>by
      by_cases e:j=k
      ·rw[e];exact HF.out
      ·exact HNO.out j (by omega)),by trivial⟩
     case measure=>simp[intOf];omega
   ·have h1b:(t1==2)=false:=(by simpa using h1);have HF:=aH (show P k=false by rw[HPk.out,h1b];rfl);clear h1;go_wp2
    go_roundw
    case rel=>exact⟨k+1,by omega,num_i (by omega),aH (fun j hj=>by
     by_cases e:j=k
     ·rw[e];exact HF.out
     ·exact HNO.out j (by omega)),by trivial⟩
    case measure=>simp[intOf];omega
  ·obtain rfl:k=tl.length:=(by omega);have HR:=aH (HNON.out HNO.out);go_wp2
   go_ret
   exact⟨by rw[HR.out];rfl,HB0.out⟩
theorem rhand_any (d:Dk) (s:Stk) (b':Int) (w:World) (hd:d.In w w.heap.size) (hs:s.In w w.heap.size):Calls Tryz.prog 62 #[d.v,s.v,.int .i64 b'] w fun e w'=>e=.returned (.tuple #[.int .i64 (haV d s.ab b').1,.bool (haV d s.ab b').2])∧Below w.heap.size w w':=by
 obtain⟨w0,hw0⟩:∃w0,w0=(w.alloc d.ob).alloc s.ob:=⟨_,rfl⟩;have HB0:=aH (show Below w.heap.size w w0 by rw[hw0];exact bL (bL (bR _ _) _) _);have HD0:=aH (hd.then HB0.out);have HS0:=aH (hs.then HB0.out);have HK0:=aH (show DkAt w0 w.heap.size d by rw[hw0];exact(Cells4.new w _ _ _ _ _).below (bL (bR _ _) _));have HT0:=aH (show SkAt w0 (w.heap.size+1) s by
  have e:(w.alloc d.ob).heap.size=w.heap.size+1:=by simp
  rw[hw0,←e];exact Cells6.new (w.alloc d.ob) 41 _ _ _ _ _ _)
 have HRG:=aH (fun w h1 h2=>rright_s d s w h1 h2);have HHD:=aH (fun w h=>rhand0_any s b' w h);have HRV:=aH (show rgS d s.ab=true→rhV s.tl b'=(if (hdF s.ab b').2=true then(hdF s.ab b').1 else -1)from fun h=>by
  have e:=rh_hd h b';show(if (Tp.fstV (rhP s.ab.t b') s.ab.t.length).2=true then(Tp.fstV (rhP s.ab.t b') s.ab.t.length).1 else -1)=_;rw[e])
 have HL:=aH (rg_lens d s);have HV:=aH (show haV d s.ab b'=(if rgS d s.ab=true then(if (hdF s.ab b').2=true then((s.cl.length:Int)+(hdF s.ab b').1,true)else(-1,false))else(-1,false))from rfl);have HAT:=aH (hdF_at s.ab b');obtain⟨⟨f1,f2⟩,hf⟩:∃x,hdF s.ab b'=x:=⟨_,rfl⟩;rw[hf]at HV HAT HRV;dsimp only at HV HAT HRV;obtain⟨⟨v1,v2⟩,hv⟩:∃x,haV d s.ab b'=x:=⟨_,rfl⟩;rw[hv];rw[hv]at HV;dsimp only;generalize rhV s.tl b'=rv at *;obtain⟨r,hr⟩:∃r,rgS d s.ab=r:=⟨_,rfl⟩;rw[hr]at HV HRG HL HRV;obtain⟨t0,t1,t2,t3,t4,t5,_⟩:=HT0.out;obtain⟨d0,d1,d2,d3,_⟩:=HK0.out;clear hd hs hf hv hr
 cases r
 case false=>
  have hVV:v1= -1∧v2=false:=by have h:=HV.out;exact⟨congrArg Prod.fst h,congrArg Prod.snd h⟩
  obtain⟨rfl,rfl⟩:=hVV;go_enter Tryz.func62,Tryz.ntmps62;go_wp2_with fail;rw[←hw0];clear hw0;refine(HRG.out _ HD0.out HS0.out).mono ?_;rintro e w1 ⟨rfl,hb1⟩;have HB1:=aH (bC HB0.out hb1);clear hb1 t0 t1 t2 t3 t4 t5 d0 d1 d2 d3;go_wp2;refine bP (v:=.tuple #[.int .i64 (-1),.bool false]) ?_ rfl ⟨rfl,HB1.out⟩;simp[results,Tryz.results62,go_sem]
 go_enter Tryz.func62,Tryz.ntmps62;go_wp2_with fail;rw[←hw0];clear hw0;refine(HRG.out _ HD0.out HS0.out).mono ?_;rintro e w1 ⟨rfl,hb1⟩;have HB1:=aH (bC HB0.out hb1);have HS1:=aH (HS0.out.then hb1);have HT1:=aH (HT0.out.below hb1);clear hb1 t0 t1 t2 t3 t4 t5 d0 d1 d2 d3;obtain⟨t0,t1,t2,t3,t4,t5,_⟩:=HT1.out;go_wp2_with fail;refine(HHD.out _ HS1.out).mono ?_;rintro e w2 ⟨rfl,hb2⟩;have HB2:=aH (bC HB1.out hb2);have HT2:=aH (HT1.out.below hb2);have HRV:=aH (HRV.out (by simp));clear hb2 t0 t1 t2 t3 t4 t5;obtain⟨t0,t1,t2,t3,t4,t5,_⟩:=HT2.out
 cases f2
 case false=>
  have hVV:v1= -1∧v2=false:=by have h:=HV.out;exact⟨congrArg Prod.fst h,congrArg Prod.snd h⟩
  obtain⟨rfl,rfl⟩:=hVV;have hrv:rv= -1:=by rw[HRV.out];rfl
  subst hrv;go_wp2;refine bP (v:=.tuple #[.int .i64 (-1),.bool false]) ?_ rfl ⟨rfl,HB2.out⟩;simp[results,Tryz.results62,go_sem]
 have hVV:v1=(s.cl.length:Int)+f1∧v2=true:=by have h:=HV.out;exact⟨congrArg Prod.fst h,congrArg Prod.snd h⟩
 obtain⟨rfl,rfl⟩:=hVV;obtain⟨k,rfl,hk⟩:=HAT.out rfl;have hrv:rv=(k:Int):=by rw[HRV.out];rfl
 subst hrv;have hwr:Go.RowKit.wrap64 ((s.cl.length:Int)+(k:Int))=(s.cl.length:Int)+k:=by
  have h1:=(HL.out (by simp)).1;have h2:=(HL.out (by simp)).2.2.1;have h3:k<s.tl.length:=hk;exact wrap64_fits _ (by unfold fits;omega)
 have hk0:¬(k:Int)<0:=by omega
 clear hk;go_wp2;refine bP (v:=.tuple #[.int .i64 ((s.cl.length:Int)+k),.bool true]) ?_ rfl ⟨rfl,HB2.out⟩;simp[results,Tryz.results62,go_sem];exact hwr
def laB (a:Ab):Bool:=decide (400<a.c.length)||decide (400<a.l.length)||decide (400<a.t.length)||a.l.any (fun q=>decide (100<q.2.2.length))
theorem large_s (s:Stk) (w:World) (hs:s.In w w.heap.size):Calls Tryz.prog 49 #[s.v] w fun e w'=>e=.returned (.bool (laB s.ab))∧Below w.heap.size w w':=by
 obtain⟨w0,hw0⟩:∃w0,w0=w.alloc s.ob:=⟨_,rfl⟩;have HB0:=aH (show Below w.heap.size w w0 by rw[hw0];exact bL (bR _ _) _);have HL:=aH (hs.l.then HB0.out);have HS0:=aH (show SkAt w0 w.heap.size s by rw[hw0];exact Cells6.new w _ _ _ _ _ _ _);have hl9:=hs.l.2.2;have hl8:=hs.c.2.2;have hl7:=hs.t.2.2;have HV:=aH (show laB s.ab=(decide (400<s.cl.length)||decide (400<s.ll.length)||decide (400<s.tl.length)||s.ll.any (fun q=>decide (100<q.xs.length)))from by
  unfold laB;show(decide (400<s.cl.length)||decide (400<(s.ll.map Lo.ab).length)||decide (400<s.tl.length)||(s.ll.map Lo.ab).any _)=_;rw[List.length_map,List.any_map];rfl)
 clear hs;generalize laB s.ab=R at *;obtain⟨cA,cc,cl,lA,lc,ll,tA,tc,tl,st,inn,out⟩:=s;dsimp only at *;obtain⟨g0,g1,g2,-⟩:=HS0.out;dsimp only at g0 g1 g2;have HYES:=aH (fun k h1 h2=>any_yes ll lo0 (fun q=>decide (100<q.xs.length)) k h1 h2);have HNON:=aH (show(∀j,j<ll.length→¬ 100<(ll.getD j lo0).xs.length)→ll.any (fun q=>decide (100<q.xs.length))=false from fun h=>by
  rw[List.any_eq_false];intro q hq;obtain⟨j,hj,rfl⟩:=List.getElem_of_mem hq;have:=h j hj;rw[List.getD_eq_getElem?_getD,List.getElem?_eq_getElem hj]at this;simpa using this)
 by_cases h1:400<cl.length
 ·have HR:=aH (show R=true by rw[HV.out,dT h1];rfl);go_enter Tryz.func49,Tryz.ntmps49;go_wp2
  go_ret
  exact⟨by rw[HR.out];rfl,by rw[←hw0];exact HB0.out⟩
 by_cases h2:400<ll.length
 ·have HR:=aH (show R=true by rw[HV.out,dT h2];simp);go_enter Tryz.func49,Tryz.ntmps49;go_wp2
  go_ret
  exact⟨by rw[HR.out];rfl,by rw[←hw0];exact HB0.out⟩
 by_cases h3:400<tl.length
 ·have HR:=aH (show R=true by rw[HV.out,dT h3];simp);go_enter Tryz.func49,Tryz.ntmps49;go_wp2
  go_ret
  exact⟨by rw[HR.out];rfl,by rw[←hw0];exact HB0.out⟩
 rw[dF h1,dF h2,dF h3]at HV;have hi1:¬(400:Int)<cl.length:=by omega
 have hi2:¬(400:Int)<ll.length:=by omega
 have hi3:¬(400:Int)<tl.length:=by omega
 clear h1 h2 h3;go_enter Tryz.func49,Tryz.ntmps49;go_wp2_with fail;rw[←hw0];clear hw0
 go_loopw [3] (fun i wr=>∃k:Nat,k≤ll.length∧i=.int .i64 k∧Hid (∀j,j<k→¬ 100<(ll.getD j lo0).xs.length)∧wr=w0) (fun i _=>ll.length-(intOf i).toNat)
 case atStart=>exact⟨0,Nat.zero_le _,rfl,aH (fun j hj=>absurd hj (Nat.not_lt_zero _)),rfl⟩
 case round=>
  obtain⟨k,hk,rfl,hno,rfl⟩:=hrel;have HNO:=aH hno.out;clear hno;by_cases hlt:k<ll.length
  ·obtain⟨b,off,rfl,hb,hbc,hcell⟩:=lo_cells HL.out (by omega);obtain⟨e1,e2,e3⟩:=hcell k hlt;have HYk:=aH (HYES.out k hlt);have HNk:=aH (show ¬ 100<(ll.getD k lo0).xs.length→∀j,j<k+1→¬ 100<(ll.getD j lo0).xs.length from fun h j hj=>by
    by_cases e:j=k
    ·rw[e];exact h
    ·exact HNO.out j (by omega))
   have hxl:(ll.getD k lo0).xs.length≤9223372036854775807∨True:=.inr trivial;clear hcell e1 e2 hxl;obtain⟨n,hn⟩:∃n,(ll.getD k lo0).xs.length=n:=⟨_,rfl⟩;rw[hn]at e3 HYk HNk;generalize (ll.getD k lo0).A=qA at *;generalize (ll.getD k lo0).c=qc at *;clear hn;by_cases h1:100<n
   ·have HR:=aH (show R=true by rw[HV.out,HYk.out (dT h1)];rfl);have h1i:(100:Int)<n:=(by omega);clear h1;go_wp2
    go_ret
    exact⟨by rw[HR.out];rfl,HB0.out⟩
   ·have HNX:=aH (HNk.out h1);have h1i:¬(100:Int)<n:=(by omega);clear h1;go_wp2
    go_roundw
    case rel=>exact⟨k+1,by omega,num_i (by omega),aH HNX.out,by trivial⟩
    case measure=>simp[intOf];omega
  ·obtain rfl:k=ll.length:=(by omega);have HR:=aH (show R=false by rw[HV.out,HNON.out HNO.out];rfl);go_wp2
   go_ret
   exact⟨by rw[HR.out];rfl,HB0.out⟩
noncomputable def haM (m:Md) (who:Int):Int:=if rgM m=true then(haV m.d m.s.ab who).1 else -1
theorem haV_no (d:Dk) (a:Ab) (b':Int) (h:(haV d a b').2=false):(haV d a b').1= -1:=by
 unfold haV at h⊢
 split at h
 ·rename_i h1
  rw[if_pos h1]at *
  split at h
  ·cases h
  ·rename_i h2;rw[if_neg h2]
 ·rename_i h1
  rw[if_neg h1]
theorem hand_m (m:Md) (who:Int) (w:World) (hm:m.In w w.heap.size):Calls Tryz.prog 24 #[m.v,.int .i64 who] w fun e w'=>e=.returned (.int .i64 (haM m who))∧Below w.heap.size w w':=by
 obtain⟨w0,hw0⟩:∃w0,w0=w.alloc (.cells m.ob 43):=⟨_,rfl⟩;have HB0:=aH (show Below w.heap.size w w0 by rw[hw0];exact bL (bR _ _) _);have HM0:=aH (hm.then HB0.out);have HA0:=aH (show MdAt w0 w.heap.size m by rw[hw0];exact Cells11.new w _ _ _ _ _ _ _ _ _ _ _ _);have HRG:=aH (fun V (h:Below w0.heap.size w0 V)=>right_m m V (HM0.out.then h));have HHA:=aH (fun V (h:Below w0.heap.size w0 V)=>hand_any m.d m.s who V (HM0.out.d.then h) (HM0.out.s.then h));have e:haM m who=if rgM m=true then(haV m.d m.s.ab who).1 else -1:=rfl
 rw[e];clear e hm;generalize rgM m=b1 at *;generalize haV m.d m.s.ab who=h1 at *;obtain⟨h1,h2⟩:=h1;obtain⟨g0,g1,g2,g3,g4,g5,g6,g7,g8,g9,g10,-⟩:=HA0.out;have HA1:=HA0;rw[hw0]at g0 g1 g2 g3 g4 g5 g6 g7 g8 g9 g10
 cases b1
 ·go_enter Tryz.func24,Tryz.ntmps24;go_wp2_with fail;try rw[←hw0]
  refine(HRG.out _ (bR _ _)).mono ?_;rintro e w1 ⟨rfl,hb⟩;go_wp2
  go_ret
  exact⟨rfl,bC HB0.out hb⟩
 ·go_enter Tryz.func24,Tryz.ntmps24;go_wp2_with fail;try rw[←hw0]
  refine(HRG.out _ (bR _ _)).mono ?_;rintro e w1 ⟨rfl,hb⟩;clear g0 g1 g2 g3 g4 g5 g6 g7 g8 g9 g10;obtain⟨g0,g1,g2,g3,g4,g5,g6,g7,g8,g9,g10,-⟩:=HA0.out.below hb;go_wp2_with fail;refine(HHA.out _ hb).mono ?_;rintro e w2 ⟨rfl,hb2⟩;go_wp2
  go_ret
  exact⟨rfl,bC HB0.out (bC hb hb2)⟩
theorem rhand_m (m:Md) (who:Int) (w:World) (hm:m.In w w.heap.size):Calls Tryz.prog 25 #[m.v,.int .i64 who] w fun e w'=>e=.returned (.int .i64 (haM m who))∧Below w.heap.size w w':=by
 obtain⟨w0,hw0⟩:∃w0,w0=w.alloc (.cells m.ob 43):=⟨_,rfl⟩;have HB0:=aH (show Below w.heap.size w w0 by rw[hw0];exact bL (bR _ _) _);have HM0:=aH (hm.then HB0.out);have HA0:=aH (show MdAt w0 w.heap.size m by rw[hw0];exact Cells11.new w _ _ _ _ _ _ _ _ _ _ _ _);have HRG:=aH (fun V (h:Below w0.heap.size w0 V)=>rright_m m V (HM0.out.then h));have HHA:=aH (fun V (h:Below w0.heap.size w0 V)=>rhand_any m.d m.s who V (HM0.out.d.then h) (HM0.out.s.then h));have HNO:=aH (fun h=>haV_no m.d m.s.ab who h);have e:haM m who=if rgM m=true then(haV m.d m.s.ab who).1 else -1:=rfl
 rw[e];clear e hm;generalize rgM m=b1 at *;generalize haV m.d m.s.ab who=h1 at *;obtain⟨h1,h2⟩:=h1;dsimp only at HNO;obtain⟨g0,g1,g2,g3,g4,g5,g6,g7,g8,g9,g10,-⟩:=HA0.out;rw[hw0]at g0 g1 g2 g3 g4 g5 g6 g7 g8 g9 g10
 cases h2
 ·have hr:(if b1=true then h1 else -1)= -1:=by rw[HNO.out rfl];split<;>rfl
  dsimp only;rw[hr];clear hr;go_enter Tryz.func25,Tryz.ntmps25;go_wp2_with fail;try rw[←hw0]
  refine(HHA.out _ (bR _ _)).mono ?_;rintro e w1 ⟨rfl,hb⟩;go_wp2
  go_ret
  exact⟨rfl,bC HB0.out hb⟩
 ·go_enter Tryz.func25,Tryz.ntmps25;go_wp2_with fail;try rw[←hw0]
  refine(HHA.out _ (bR _ _)).mono ?_;rintro e w1 ⟨rfl,hb⟩;clear g0 g1 g2 g3 g4 g5 g6 g7 g8 g9 g10;obtain⟨g0,g1,g2,g3,g4,g5,g6,g7,g8,g9,g10,-⟩:=HA0.out.below hb;go_wp2_with fail;refine(HRG.out _ hb).mono ?_;rintro e w2 ⟨rfl,hb2⟩
  cases b1
  ·go_wp2
   go_ret
   exact⟨rfl,bC HB0.out (bC hb hb2)⟩
  ·go_wp2
   go_ret
   exact⟨rfl,bC HB0.out (bC hb hb2)⟩
def laM (m:Md):Bool:=largeB m.d||(laB m.s.ab||decide (1000<m.o.length))
theorem large_m (m:Md) (w:World) (hm:m.In w w.heap.size):Calls Tryz.prog 17 #[m.v] w fun e w'=>e=.returned (.bool (laM m))∧Below w.heap.size w w':=by
 obtain⟨w0,hw0⟩:∃w0,w0=w.alloc (.cells m.ob 43):=⟨_,rfl⟩;have HB0:=aH (show Below w.heap.size w w0 by rw[hw0];exact bL (bR _ _) _);have HM0:=aH (hm.then HB0.out);have HA0:=aH (show MdAt w0 w.heap.size m by rw[hw0];exact Cells11.new w _ _ _ _ _ _ _ _ _ _ _ _);have HL1:=aH (fun V (h:Below w0.heap.size w0 V)=>large_any m.d V (HM0.out.d.then h));have HL2:=aH (fun V (h:Below w0.heap.size w0 V)=>large_s m.s V (HM0.out.s.then h));have e:laM m=(largeB m.d||(laB m.s.ab||decide (1000<m.o.length))):=rfl;rw[e];clear e hm;generalize largeB m.d=b1 at *;generalize laB m.s.ab=b2 at *;obtain⟨g0,g1,g2,g3,g4,g5,g6,g7,g8,g9,g10,-⟩:=HA0.out;rw[hw0]at g0 g1 g2 g3 g4 g5 g6 g7 g8 g9 g10;go_enter Tryz.func17,Tryz.ntmps17;go_wp2_with fail;try rw[←hw0]
 refine(HL1.out _ (bR _ _)).mono ?_;rintro e w1 ⟨rfl,hb⟩;clear g0 g1 g2 g3 g4 g5 g6 g7 g8 g9 g10;obtain⟨g0,g1,g2,g3,g4,g5,g6,g7,g8,g9,g10,-⟩:=HA0.out.below hb
 cases b1
 ·go_wp2_with fail;refine(HL2.out _ hb).mono ?_;rintro e w2 ⟨rfl,hb2⟩;clear g0 g1 g2 g3 g4 g5 g6 g7 g8 g9 g10;obtain⟨g0,g1,g2,g3,g4,g5,g6,g7,g8,g9,g10,-⟩:=HA0.out.below (bC hb hb2)
  cases b2
  all_goals
   by_cases hn:1000<m.o.length;all_goals
    go_wp2
    go_ret
    exact⟨ret_b (by simp[hn];try omega),bC HB0.out (bC hb hb2)⟩
 ·go_wp2
  go_ret
  exact⟨ret_b (by simp),bC HB0.out hb⟩
end Go.Proofs.YtmecohdedghiaaaGreatDoor
