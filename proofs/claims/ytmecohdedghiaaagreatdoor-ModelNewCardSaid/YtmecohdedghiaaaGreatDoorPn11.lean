/- Spans. -/
import Derived.Test.YtmecohdedghiaaaGreatDoorPn00
import Derived.Test.YtmecohdedghiaaaGreatDoorPn10
import Derived.Test.YtmecohdedghiaaaGreatDoorChecked
import Derived.WalkKit
import Derived.WalkLawsBesides
import Derived.WalkSpells
import Derived.Outline
import Derived.KernelRfl
import Derived.Lib.Hide
set_option maxRecDepth 100000
set_option maxHeartbeats 8000000
namespace Go.Proofs.YtmecohdedghiaaaGreatDoor
open Go.RowKit
theorem gb_set (w:World) (b i:Nat) (v:Value):w.grownBy (w.setCell ⟨b,i,none⟩ v) (some b):=
 ⟨rfl,rfl,rfl,by simp,fun k _ hk=>heap_setCell_other w _ k v (fun e=>hk (by rw[e]))⟩
def Cell2 (V:World) (D:Nat) (x y:Int):Prop:=
 V.cell? ⟨D,0,none⟩=some (.int .i64 x)∧V.cell? ⟨D,1,none⟩=some (.int .i64 y)∧V.frozen? ⟨D,0,none⟩=false∧V.frozen? ⟨D,1,none⟩=false∧D<V.heap.size
theorem Cell2.new (V:World) (x y:Int):Cell2 (V.alloc (.cells #[.int .i64 x,.int .i64 y] 134)) V.heap.size x y:=by
 refine⟨?_,?_,?_,?_,?_⟩<;>simp
theorem Cell2.below {V V':World} {D:Nat} {x y:Int} (h:Cell2 V D x y) (hb:Below V.heap.size V V'):Cell2 V' D x y:=by
 obtain⟨h0,h1,z0,z1,hs⟩:=h;refine⟨kK hb h0,kK hb h1,?_,?_,nL hs hb.size⟩
 ·rw[hb.frozen (p:=⟨D,0,none⟩) hs];exact z0
 ·rw[hb.frozen (p:=⟨D,1,none⟩) hs];exact z1
theorem Cell2.set {V:World} {D:Nat} {x y:Int} (h:Cell2 V D x y) (p q:Int):Cell2 ((V.setCell ⟨D,0,none⟩ (.int .i64 p)).setCell ⟨D,1,none⟩ (.int .i64 q)) D p q:=by
 obtain⟨h0,h1,z0,z1,hs⟩:=h;refine⟨sO (st_same h0) (ad_nf (by omega)),st_same (sO h1 (ad_nf (by omega))),sF (sF z0),sF (sF z1),?_⟩;simpa using hs
theorem fst_take (l:List T3) (k:Nat) (hk:k<l.length) (h0:fstE (l.take k)=0) (h:(l.getD k (0,0,0)).2.2=0):fstE (l.take (k+1))=0:=by
 rw[take_snoc l k (0,0,0) hk,fst_append,if_pos h0,fstE,if_pos h];rfl
theorem fst_stop (l:List T3) (k:Nat) (hk:k<l.length) (h0:fstE (l.take k)=0) (e:Int) (he:e≠0) (h:(l.getD k (0,0,0)).2.2=e):fstE l=e:=by
 have hl:l=l.take k++(l.getD k (0,0,0)::l.drop (k+1)):=by rw[←drop_snoc l k (0,0,0) hk,List.take_append_drop]
 generalize l.getD k (0,0,0)=t at *;rw[hl,fst_append,if_pos h0,fstE,if_neg (by rw[h];exact he),h]
theorem pairs_take (l:List T3) (k:Nat) (hk:k<l.length):pairs (l.take (k+1))=pairs (l.take k)++[(((l.getD k (0,0,0)).1:Int),((l.getD k (0,0,0)).2.1:Int))]:=by
 rw[take_snoc l k (0,0,0) hk,pairs_append];rfl
theorem tab_at (d:Dk) (h:dchk d=0) (k:Nat) (hk:k<(partsK d).length):(tabP d).getD k (0,0,0)=spnP d ((partsK d).getD k ⟨0,0,0,0⟩):=by
 have e:partsK d=partsL d:=if_pos h;rw[e]at hk⊢;rw[List.getD_eq_getElem?_getD,List.getD_eq_getElem?_getD];unfold tabP;rw[List.getElem?_map,List.getElem?_eq_getElem hk];rfl
theorem spn_good (d:Dk) {w:World} (hd:d.In w w.heap.size) (p:Q4) (hp:p∈partsK d) (h:(spnP d p).2.2=0):(spnP d p).1≤(spnP d p).2.1∧(spnP d p).2.1≤23:=by
 have hz:OkD d:=by
  unfold partsK at hp;by_cases e:dchk d=0
  ·exact dchk_ok d e
  ·rw[if_neg e]at hp;cases hp
 rcases part_lies d p hp with ⟨h3,h0⟩|hl
 ·have hb:=(parts_okP d p hp).2.2.1;unfold spnP;rw[if_pos h3];dsimp only;omega
 ·have h3:p.a≠3:=by rcases hl with h|h<;>omega
  have e:spnP d p=covV d.bl (rkOf d p).x (rkOf d p).p (rkOf d p).r (cf p.d):=by unfold spnP;rw[if_neg h3]
  rw[e]at h⊢;obtain⟨g1,g2,g3⟩:=cov_good d.bl _ _ _ _ (rkOf_ok hd p hl) h;exact⟨g1,by omega⟩
theorem rtable_any (d:Dk) (w:World) (hd:d.In w w.heap.size):Calls Tryz.prog 148 #[d.v] w fun e w'=>∃v,e=.returned (.tuple #[v,.int .i64 (zchk d)])∧KS.Own w' w.heap.size v (tabV d)∧Below w.heap.size w w':=by
 have HD:=aH hd;have HC:=aH (fun w h=>rdcheck_any d w h);have HRP:=aH (fun w h=>rparts_any d w h);obtain⟨w0,hw0⟩:∃w0,w0=w.alloc d.ob:=⟨_,rfl⟩;have HB0:=aH (show Below w.heap.size w w0 by rw[hw0];exact bL (bR _ _) _);have HD0:=aH (HD.out.then HB0.out);have HF:=aH (show ∀w1,Below w0.heap.size w0 w1→(w1.cell? ⟨w.heap.size,0,none⟩=some (.slice d.bA d.bn d.bc)∧w1.cell? ⟨w.heap.size,1,none⟩=some (.slice d.pA d.pn d.pc)∧w1.cell? ⟨w.heap.size,2,none⟩=some (.slice d.rA d.rn d.rc)∧w1.cell? ⟨w.heap.size,3,none⟩=some (.int .i64 d.arms))from by
   intro w1 hb;refine⟨kK hb ?_,kK hb ?_,kK hb ?_,kK hb ?_⟩;all_goals (rw[hw0];simp))
 by_cases hz:dchk d=0
 ·have HZ:=aH (show zchk d=fstE (tabP d)by rw[fst_tab d (dchk_ok d hz)];unfold zchk;rw[if_pos hz]);have HTV:=aH (show tabV d=if fstE (tabP d)=0 then pairs (tabP d)else []by rw[←HZ.out];rfl);have HTA:=aH (fun k hk=>tab_at d hz k hk);have HTL:=aH (show(tabP d).length=(partsK d).length by rw[tab_len0];unfold partsK;rw[if_pos hz]);have HPL:=aH (parts_len d);have HP0:=aH (fun p hp=>part_lies d p hp);have HSG:=aH (fun p hp h=>spn_good d HD.out p hp h);have HPS:=aH (fun(w:World) (h:d.In w w.heap.size) p hp=>rpartS_any d p w h hp);rw[HZ.out,HTV.out];obtain⟨E,hE⟩:∃E,E=fstE (tabP d):=⟨_,rfl⟩;obtain⟨TV,hTV⟩:∃TV,TV=if fstE (tabP d)=0 then pairs (tabP d)else []:=⟨_,rfl⟩
  rw[←hTV,←hE];have HEE:=aH (show E=fstE (tabP d)from hE);have HTT:=aH (show TV=if E=0 then pairs (tabP d)else []by rw[hTV,hE]);clear hE hTV;rw[hz]at HC;clear hz hd HZ HTV;have HFT:=aH (fst_take (tabP d));have HFS:=aH (fst_stop (tabP d));have HPT:=aH (pairs_take (tabP d));generalize partsK d=PS at *;generalize tabP d=TT at *;go_enter Tryz.func148,Tryz.ntmps148;go_wp2_with fail;rw[←hw0];clear hw0;refine(HC.out _ HD0.out).mono ?_;rintro e w1 ⟨rfl,hb1⟩;obtain⟨d0,d1,d2,d3⟩:=HF.out w1 hb1;have HB1:=aH hb1;clear hb1;go_wp2_with fail;refine(HRP.out w1 (HD0.out.then HB1.out)).mono ?_;rintro e w2 ⟨v,rfl,hown2,hb2⟩;have HB2:=aH (bC HB1.out hb2);have HIL:=aH (hown2.isL (by have:=HPL.out;omega));clear hb2 hown2 d0 d1 d2 d3;obtain⟨A,cap,rfl⟩:∃A cap,v=.slice A PS.length cap:=by
   obtain⟨⟨A,cap,h,_⟩,_⟩:=HIL.out;exact⟨A,cap,h⟩
  go_wp2_with fail;obtain⟨Q,hQ⟩:∃Q,Q=w2.heap.size:=⟨_,rfl⟩;have HQS:=aH (show w.heap.size≤Q by rw[hQ];exact Nat.le_trans HB0.out.size HB2.out.size)
  go_loopw [5,7] (fun u i wr=>∃k:Nat,k≤PS.length∧i=.int .i64 k∧fstE (TT.take k)=0∧KS.Own wr w2.heap.size u (pairs (TT.take k))∧Below w2.heap.size w2 wr) (fun _ i _=>PS.length-(intOf i).toNat)
  case atStart=>exact⟨0,Nat.zero_le _,rfl,rfl,Lk.Own.nil _ _,bR _ _⟩
  case round=>
   obtain⟨k,hk,rfl,hf,hown,hbl⟩:=hrel;have HO:=aH hown;have HB:=aH hbl;have HE0:=aH hf;have h8:=HPL.out;clear hown hbl hf;by_cases hlt:k<PS.length
   ·obtain⟨b,off,rfl,hb,hc,hcell⟩:=q4_cells (K:=KQ) rfl rfl rfl (HIL.out.below HB.out) (by omega);obtain⟨c0,c1,c2,c3⟩:=hcell k hlt;have hmem:=getD_mem' PS k ⟨0,0,0,0⟩ hlt;have HP0':=aH (HP0.out _ hmem);have HT3:=aH (HTA.out k hlt);have HSG':=aH (HSG.out _ hmem);have hltT:k<TT.length:=(by rw[HTL.out];exact hlt);have HFT':=aH (HFT.out k hltT HE0.out);have HFS':=aH (HFS.out k hltT HE0.out);have HPT':=aH (HPT.out k hltT);obtain⟨d0,d1,d2,d3⟩:=HF.out wr (bC HB2.out HB.out);obtain⟨p,hp⟩:∃p,p=PS.getD k ⟨0,0,0,0⟩:=⟨_,rfl⟩;rw[←hp]at c0 c1 c2 c3 HP0' HT3 HSG';have HKP:=aH (fun(V:World) (h:Below w2.heap.size w2 V)=>HPS.out V (HD0.out.then (bC HB2.out h)) p HP0'.out);rw[HT3.out]at HFT' HFS' HPT';have hlen:(pairs (TT.take k)).length=k:=(by rw[pairs_len,List.length_take];omega);have HLen:=aH hlen;clear hcell hp hmem hltT HT3 hlen;generalize spnP d p=t at *;obtain⟨t1,t2,t3⟩:=t;unfold rchVal at HKP;dsimp only at *;generalize pairs (TT.take k)=L at *;obtain⟨pa,pb,pc,pd⟩:=p;dsimp only at *;have CK:=aH (aI c0 (aI c1 (aI c2 c3)));have NB:=aH (show b<w2.heap.size from hb);by_cases ht:t3=0
    ·subst ht;have HG:=aH (HSG'.out rfl);have HN1:=aH (HFT'.out rfl);clear HFS' HFT' HSG';go_wp2_with fail;refine wp_region_held_drew (S:=fun w'=>w'.cell? ⟨w.heap.size,0,none⟩=some (.slice d.bA d.bn d.bc)∧w'.cell? ⟨w.heap.size,1,none⟩=some (.slice d.pA d.pn d.pc)∧w'.cell? ⟨w.heap.size,2,none⟩=some (.slice d.rA d.rn d.rc)∧w'.cell? ⟨w.heap.size,3,none⟩=some (.int .i64 d.arms)∧w'.cell? ⟨b,off+k*4,none⟩=some (.int .i64 pa)∧w'.cell? ⟨b,off+k*4+1,none⟩=some (.int .i64 pb)∧w'.cell? ⟨b,off+k*4+2,none⟩=some (.int .i64 pc)∧w'.cell? ⟨b,off+k*4+3,none⟩=some (.int .i64 pd)) (by kernel_rfl) ?_ (fun hHeld=>?_)
     ·exact⟨d0,d1,d2,d3,c0,c1,c2,c3⟩
     refine wk [.k 0 24,.k 1 25,.k 2 26,.k 3 27,.k 4 28] (fun _ _ _ _ _ h=>h) hHeld ?_ (by kernel_rfl);repeat (refine .k (v:=?_) rfl (by kernel_rfl) ?_ ?_;rotate_left 1;(intro w h;go_simp<;>try rfl);try simp only[sp])
     refine .nil ?_;clear d0 d1 d2 d3 c0 c1 c2 c3;have O0:=aH (show KS.Own wr.drew w2.heap.size u5 L from HO.out.drew);have F0:=aH (show Below w2.heap.size w2 wr.drew from HB.out.drew);have C0:=aH (show wr.drew.cell? ⟨b,off+k*4,none⟩=some (.int .i64 pa)∧wr.drew.cell? ⟨b,off+k*4+1,none⟩=some (.int .i64 pb)∧wr.drew.cell? ⟨b,off+k*4+2,none⟩=some (.int .i64 pc)∧wr.drew.cell? ⟨b,off+k*4+3,none⟩=some (.int .i64 pd)from CK.out);generalize wr.drew=v0 at *;refine wR 5 [9] (by kernel_rfl) ?_;refine rK (some 29) rfl (fun K hK=>?_) (rK (some 8) rfl (fun K hK=>?_) rN);go_simp;refine(HKP.out v0 F0.out).mono ?_;rintro e v1 ⟨rfl,hb⟩;have O1:=aH (O0.out.below hb);have F1:=aH (bC F0.out hb);have C1:=aH (aI (kK hb C0.out.1) (aI (kK hb C0.out.2.1) (aI (kK hb C0.out.2.2.1) (kK hb C0.out.2.2.2))));clear hb O0 F0 C0;go_wp2_with fail;refine hK.out _ _ ?_ (fun hHeld=>?_)
     ·have hx:=HF.out _ (bC HB2.out F1.out);exact⟨hx.1,hx.2.1,hx.2.2.1,hx.2.2.2,C1.out.1,C1.out.2.1,C1.out.2.2.1,C1.out.2.2.2⟩
     clear hK K;(try simp only[sp]);refine wk [.k 6 23,.k 7 30,.k 8 31] (fun _ _ _ _ _ h=>h) hHeld ?_ (by kernel_rfl);repeat (refine .k (v:=?_) rfl (by kernel_rfl) ?_ ?_;rotate_left 1;(intro w h;go_simp<;>try rfl);try simp only[sp])
     refine .nil ?_;refine wQ 9 (some 8) rfl (fun K hK=>?_) (by kernel_rfl);go_simp;have hb:=bL (bR _ v1) (.cells #[.int .i64 0,.int .i64 0] 134);have O2:=aH (O1.out.below hb);have F2:=aH (bC F1.out hb);have C2:=aH (aI (kK hb C1.out.1) (aI (kK hb C1.out.2.1) (aI (kK hb C1.out.2.2.1) (kK hb C1.out.2.2.2))));have D2:=aH (Cell2.new v1 0 0);have NE:=aH (show w2.heap.size≤v1.heap.size from F1.out.size);have NO:=aH (show u5.ownBlock=none∨u5.ownBlock≠some v1.heap.size from .inr (fun e=>Nat.lt_irrefl _ (O1.out.lt _ e).2));clear hb O1 F1 C1;generalize v1.alloc (.cells #[.int .i64 0,.int .i64 0] 134)=v2 at *;generalize v1.heap.size=D at *;refine hK.out _ _ ?_ (fun hHeld=>?_)
     ·have hx:=HF.out _ (bC HB2.out F2.out);exact⟨hx.1,hx.2.1,hx.2.2.1,hx.2.2.2,C2.out.1,C2.out.2.1,C2.out.2.2.1,C2.out.2.2.2⟩
     clear hK K;(try simp only[sp]);rotate_left 1
     go_simp;have hb:=bL (bR _ v0) (.cells #[.int .i64 0,.int .i64 0] 134);have O3:=aH (O0.out.below hb);have F3:=aH (bC F0.out hb);have C3:=aH (aI (kK hb C0.out.1) (aI (kK hb C0.out.2.1) (aI (kK hb C0.out.2.2.1) (kK hb C0.out.2.2.2))));have D3:=aH (Cell2.new v0 0 0);have NE:=aH (show w2.heap.size≤v0.heap.size from F0.out.size);have NO:=aH (show u5.ownBlock=none∨u5.ownBlock≠some v0.heap.size from .inr (fun e=>Nat.lt_irrefl _ (O0.out.lt _ e).2));clear hb O0 F0 C0;generalize v0.alloc (.cells #[.int .i64 0,.int .i64 0] 134)=v3 at *;generalize v0.heap.size=D at *;refine hK.out _ _ ?_ (fun hHeld=>?_)
     ·have hx:=HF.out _ (bC HB2.out F3.out);exact⟨hx.1,hx.2.1,hx.2.2.1,hx.2.2.2,C3.out.1,C3.out.2.1,C3.out.2.2.1,C3.out.2.2.2⟩
     clear hK K;(try simp only[sp]);refine wQ 5 (some 29) rfl (fun K hK=>?_) (by kernel_rfl);go_simp;refine(HKP.out v3 F3.out).mono ?_;rintro e v2 ⟨rfl,hb⟩;have O2:=aH (O3.out.below hb);have F2:=aH (bC F3.out hb);have C2:=aH (aI (kK hb C3.out.1) (aI (kK hb C3.out.2.1) (aI (kK hb C3.out.2.2.1) (kK hb C3.out.2.2.2))));have D2:=aH (D3.out.below hb);clear hb O3 F3 C3 D3;go_wp2_with fail;refine hK.out _ _ ?_ (fun hHeld=>?_)
     ·have hx:=HF.out _ (bC HB2.out F2.out);exact⟨hx.1,hx.2.1,hx.2.2.1,hx.2.2.2,C2.out.1,C2.out.2.1,C2.out.2.2.1,C2.out.2.2.2⟩
     clear hK K;(try simp only[sp]);refine wk [.k 6 23,.k 7 30,.k 8 31] (fun _ _ _ _ _ h=>h) hHeld ?_ (by kernel_rfl);repeat (refine .k (v:=?_) rfl (by kernel_rfl) ?_ ?_;rotate_left 1;(intro w h;go_simp<;>try rfl);try simp only[sp])
     refine .nil ?_;all_goals
      refine wQ 10 none rfl (fun K hK=>?_) (by kernel_rfl);obtain⟨s0,s1,y0,y1,_⟩:=D2.out;go_simp;clear s0 s1 y0 y1;have hgs:=gb_trans (gb_set v2 D 0 (.int .i64 t1)) (gb_set (v2.setCell ⟨D,0,none⟩ (.int .i64 t1)) D 1 (.int .i64 t2));have OX:=aH (show KS.Own ((v2.setCell ⟨D,0,none⟩ (.int .i64 t1)).setCell ⟨D,1,none⟩ (.int .i64 t2)) w2.heap.size u5 L from O2.out.kept hgs NO.out);have FX:=aH (show Below w2.heap.size w2 ((v2.setCell ⟨D,0,none⟩ (.int .i64 t1)).setCell ⟨D,1,none⟩ (.int .i64 t2))from bS (bS F2.out NE.out) NE.out);have DX:=aH (show Cell2 ((v2.setCell ⟨D,0,none⟩ (.int .i64 t1)).setCell ⟨D,1,none⟩ (.int .i64 t2)) D t1 t2 from D2.out.set t1 t2);clear hgs;have hbn:b≠D:=(by have:=NE.out;omega);have CX:=aH (show((v2.setCell ⟨D,0,none⟩ (.int .i64 t1)).setCell ⟨D,1,none⟩ (.int .i64 t2)).cell? ⟨b,off+k*4,none⟩=some (.int .i64 pa)∧((v2.setCell ⟨D,0,none⟩ (.int .i64 t1)).setCell ⟨D,1,none⟩ (.int .i64 t2)).cell? ⟨b,off+k*4+1,none⟩=some (.int .i64 pb)∧((v2.setCell ⟨D,0,none⟩ (.int .i64 t1)).setCell ⟨D,1,none⟩ (.int .i64 t2)).cell? ⟨b,off+k*4+2,none⟩=some (.int .i64 pc)∧((v2.setCell ⟨D,0,none⟩ (.int .i64 t1)).setCell ⟨D,1,none⟩ (.int .i64 t2)).cell? ⟨b,off+k*4+3,none⟩=some (.int .i64 pd)from⟨sO (sO C2.out.1 (ad_nf (.inl (Ne.symm hbn)))) (ad_nf (.inl (Ne.symm hbn))),sO (sO C2.out.2.1 (ad_nf (.inl (Ne.symm hbn)))) (ad_nf (.inl (Ne.symm hbn))),sO (sO C2.out.2.2.1 (ad_nf (.inl (Ne.symm hbn)))) (ad_nf (.inl (Ne.symm hbn))),sO (sO C2.out.2.2.2 (ad_nf (.inl (Ne.symm hbn)))) (ad_nf (.inl (Ne.symm hbn)))⟩);refine hK.out _ _ ?_ (fun hHeld=>?_)
      ·have hx:=HF.out _ (bC HB2.out FX.out);exact⟨hx.1,hx.2.1,hx.2.2.1,hx.2.2.2,CX.out.1,CX.out.2.1,CX.out.2.2.1,CX.out.2.2.2⟩
      clear hK K;(try simp only[sp]);refine wk [.k 11 9] (fun _ _ _ _ _ h=>h) hHeld ?_ (by kernel_rfl);repeat (refine .k (v:=?_) rfl (by kernel_rfl) ?_ ?_;rotate_left 1;(intro w h;go_simp<;>try rfl);try simp only[sp])
      refine .nil ?_;refine wD (by kernel_rfl) ?_;clear hHeld O2 F2 C2 D2;generalize ((v2.setCell ⟨D,0,none⟩ (.int .i64 t1)).setCell ⟨D,1,none⟩ (.int .i64 t2))=vx at *;obtain⟨s0,s1,y0,y1,_⟩:=DX.out;have HOKT:=aH (show KS.ok ((t1:Int),(t2:Int))from⟨show fits (t1:Int)by have:=HG.out;unfold fits;omega,show fits (t2:Int)by have:=HG.out;unfold fits;omega⟩);go_wp2_with (at_builtin;refine Lk.wpList_app (K:=KS) _ rfl _ _ rfl rfl w2.heap.size (vx.heap.size+1) _ _ L [((t1:Int),(t2:Int))] rfl rfl (OX.out.alloc _) (Lk.IsL.lit (K:=KS) _ ((t1:Int),(t2:Int)) _ HOKT.out rfl vx.heap.size rfl) ?c1 ?c2 ?_)
      case c1=>have:=HLen.out;simp;omega
      case c2=>have:=FX.out.size;simp;omega
      intro v9 w9 hown hgrow _;have HO9:=aH hown;have HB9:=aH (Lk.Own.grow' (OX.out.alloc (.cells #[.int .i64 t1,.int .i64 t2] 134)) (bL FX.out _) (by have:=FX.out.size;simp;omega) hgrow);clear hown hgrow;go_wp2
      go_roundw
      case rel=>exact⟨k+1,by omega,num_i (by omega),HN1.out,by rw[HPT'.out];exact HO9.out,HB9.out⟩
      case measure=>simp[intOf];omega
    ·have HER:=aH (HFS'.out t3 ht rfl);have q1:(t3 != 0)=true:=(by rw[bne_iff_ne];exact ht);have HNE:=aH ht;clear HFS' HFT' HSG' ht;go_wp2_with fail;refine wp_region_held_drew (S:=fun w'=>w'.cell? ⟨w.heap.size,0,none⟩=some (.slice d.bA d.bn d.bc)∧w'.cell? ⟨w.heap.size,1,none⟩=some (.slice d.pA d.pn d.pc)∧w'.cell? ⟨w.heap.size,2,none⟩=some (.slice d.rA d.rn d.rc)∧w'.cell? ⟨w.heap.size,3,none⟩=some (.int .i64 d.arms)∧w'.cell? ⟨b,off+k*4,none⟩=some (.int .i64 pa)∧w'.cell? ⟨b,off+k*4+1,none⟩=some (.int .i64 pb)∧w'.cell? ⟨b,off+k*4+2,none⟩=some (.int .i64 pc)∧w'.cell? ⟨b,off+k*4+3,none⟩=some (.int .i64 pd)) (by kernel_rfl) ?_ (fun hHeld=>?_)
     ·exact⟨d0,d1,d2,d3,c0,c1,c2,c3⟩
     refine wk [.k 0 24,.k 1 25,.k 2 26,.k 3 27,.k 4 28] (fun _ _ _ _ _ h=>h) hHeld ?_ (by kernel_rfl);repeat (refine .k (v:=?_) rfl (by kernel_rfl) ?_ ?_;rotate_left 1;(intro w h;go_simp<;>try rfl);try simp only[sp])
     refine .nil ?_;clear d0 d1 d2 d3 c0 c1 c2 c3;have O0:=aH (show KS.Own wr.drew w2.heap.size u5 L from HO.out.drew);have F0:=aH (show Below w2.heap.size w2 wr.drew from HB.out.drew);have C0:=aH (show wr.drew.cell? ⟨b,off+k*4,none⟩=some (.int .i64 pa)∧wr.drew.cell? ⟨b,off+k*4+1,none⟩=some (.int .i64 pb)∧wr.drew.cell? ⟨b,off+k*4+2,none⟩=some (.int .i64 pc)∧wr.drew.cell? ⟨b,off+k*4+3,none⟩=some (.int .i64 pd)from CK.out);generalize wr.drew=v0 at *;refine wR 5 [9] (by kernel_rfl) ?_;refine rK (some 29) rfl (fun K hK=>?_) (rK (some 8) rfl (fun K hK=>?_) rN);go_simp;refine(HKP.out v0 F0.out).mono ?_;rintro e v1 ⟨rfl,hb⟩;have O1:=aH (O0.out.below hb);have F1:=aH (bC F0.out hb);have C1:=aH (aI (kK hb C0.out.1) (aI (kK hb C0.out.2.1) (aI (kK hb C0.out.2.2.1) (kK hb C0.out.2.2.2))));clear hb O0 F0 C0;go_wp2_with fail;refine hK.out _ _ ?_ (fun hHeld=>?_)
     ·have hx:=HF.out _ (bC HB2.out F1.out);exact⟨hx.1,hx.2.1,hx.2.2.1,hx.2.2.2,C1.out.1,C1.out.2.1,C1.out.2.2.1,C1.out.2.2.2⟩
     clear hK K;(try simp only[sp]);refine wk [.k 6 23,.k 7 30,.k 8 31] (fun _ _ _ _ _ h=>h) hHeld ?_ (by kernel_rfl);repeat (refine .k (v:=?_) rfl (by kernel_rfl) ?_ ?_;rotate_left 1;(intro w h;go_simp<;>try rfl);try simp only[sp])
     refine .nil ?_;refine wQ 9 (some 8) rfl (fun K hK=>?_) (by kernel_rfl);go_simp;have hb:=bL (bR _ v1) (.cells #[.int .i64 0,.int .i64 0] 134);have O2:=aH (O1.out.below hb);have F2:=aH (bC F1.out hb);have C2:=aH (aI (kK hb C1.out.1) (aI (kK hb C1.out.2.1) (aI (kK hb C1.out.2.2.1) (kK hb C1.out.2.2.2))));have D2:=aH (Cell2.new v1 0 0);have NE:=aH (show w2.heap.size≤v1.heap.size from F1.out.size);have NO:=aH (show u5.ownBlock=none∨u5.ownBlock≠some v1.heap.size from .inr (fun e=>Nat.lt_irrefl _ (O1.out.lt _ e).2));clear hb O1 F1 C1;generalize v1.alloc (.cells #[.int .i64 0,.int .i64 0] 134)=v2 at *;generalize v1.heap.size=D at *;refine hK.out _ _ ?_ (fun hHeld=>?_)
     ·have hx:=HF.out _ (bC HB2.out F2.out);exact⟨hx.1,hx.2.1,hx.2.2.1,hx.2.2.2,C2.out.1,C2.out.2.1,C2.out.2.2.1,C2.out.2.2.2⟩
     clear hK K;(try simp only[sp]);rotate_left 1
     go_simp;have hb:=bL (bR _ v0) (.cells #[.int .i64 0,.int .i64 0] 134);have O3:=aH (O0.out.below hb);have F3:=aH (bC F0.out hb);have C3:=aH (aI (kK hb C0.out.1) (aI (kK hb C0.out.2.1) (aI (kK hb C0.out.2.2.1) (kK hb C0.out.2.2.2))));have D3:=aH (Cell2.new v0 0 0);have NE:=aH (show w2.heap.size≤v0.heap.size from F0.out.size);have NO:=aH (show u5.ownBlock=none∨u5.ownBlock≠some v0.heap.size from .inr (fun e=>Nat.lt_irrefl _ (O0.out.lt _ e).2));clear hb O0 F0 C0;generalize v0.alloc (.cells #[.int .i64 0,.int .i64 0] 134)=v3 at *;generalize v0.heap.size=D at *;refine hK.out _ _ ?_ (fun hHeld=>?_)
     ·have hx:=HF.out _ (bC HB2.out F3.out);exact⟨hx.1,hx.2.1,hx.2.2.1,hx.2.2.2,C3.out.1,C3.out.2.1,C3.out.2.2.1,C3.out.2.2.2⟩
     clear hK K;(try simp only[sp]);refine wQ 5 (some 29) rfl (fun K hK=>?_) (by kernel_rfl);go_simp;refine(HKP.out v3 F3.out).mono ?_;rintro e v2 ⟨rfl,hb⟩;have O2:=aH (O3.out.below hb);have F2:=aH (bC F3.out hb);have C2:=aH (aI (kK hb C3.out.1) (aI (kK hb C3.out.2.1) (aI (kK hb C3.out.2.2.1) (kK hb C3.out.2.2.2))));have D2:=aH (D3.out.below hb);clear hb O3 F3 C3 D3;go_wp2_with fail;refine hK.out _ _ ?_ (fun hHeld=>?_)
     ·have hx:=HF.out _ (bC HB2.out F2.out);exact⟨hx.1,hx.2.1,hx.2.2.1,hx.2.2.2,C2.out.1,C2.out.2.1,C2.out.2.2.1,C2.out.2.2.2⟩
     clear hK K;(try simp only[sp]);refine wk [.k 6 23,.k 7 30,.k 8 31] (fun _ _ _ _ _ h=>h) hHeld ?_ (by kernel_rfl);repeat (refine .k (v:=?_) rfl (by kernel_rfl) ?_ ?_;rotate_left 1;(intro w h;go_simp<;>try rfl);try simp only[sp])
     refine .nil ?_;all_goals
      refine wQ 10 none rfl (fun K hK=>?_) (by kernel_rfl);obtain⟨s0,s1,y0,y1,_⟩:=D2.out;go_simp;clear s0 s1 y0 y1;have hgs:=gb_trans (gb_set v2 D 0 (.int .i64 t1)) (gb_set (v2.setCell ⟨D,0,none⟩ (.int .i64 t1)) D 1 (.int .i64 t2));have OX:=aH (show KS.Own ((v2.setCell ⟨D,0,none⟩ (.int .i64 t1)).setCell ⟨D,1,none⟩ (.int .i64 t2)) w2.heap.size u5 L from O2.out.kept hgs NO.out);have FX:=aH (show Below w2.heap.size w2 ((v2.setCell ⟨D,0,none⟩ (.int .i64 t1)).setCell ⟨D,1,none⟩ (.int .i64 t2))from bS (bS F2.out NE.out) NE.out);have DX:=aH (show Cell2 ((v2.setCell ⟨D,0,none⟩ (.int .i64 t1)).setCell ⟨D,1,none⟩ (.int .i64 t2)) D t1 t2 from D2.out.set t1 t2);clear hgs;have hbn:b≠D:=(by have:=NE.out;omega);have CX:=aH (show((v2.setCell ⟨D,0,none⟩ (.int .i64 t1)).setCell ⟨D,1,none⟩ (.int .i64 t2)).cell? ⟨b,off+k*4,none⟩=some (.int .i64 pa)∧((v2.setCell ⟨D,0,none⟩ (.int .i64 t1)).setCell ⟨D,1,none⟩ (.int .i64 t2)).cell? ⟨b,off+k*4+1,none⟩=some (.int .i64 pb)∧((v2.setCell ⟨D,0,none⟩ (.int .i64 t1)).setCell ⟨D,1,none⟩ (.int .i64 t2)).cell? ⟨b,off+k*4+2,none⟩=some (.int .i64 pc)∧((v2.setCell ⟨D,0,none⟩ (.int .i64 t1)).setCell ⟨D,1,none⟩ (.int .i64 t2)).cell? ⟨b,off+k*4+3,none⟩=some (.int .i64 pd)from⟨sO (sO C2.out.1 (ad_nf (.inl (Ne.symm hbn)))) (ad_nf (.inl (Ne.symm hbn))),sO (sO C2.out.2.1 (ad_nf (.inl (Ne.symm hbn)))) (ad_nf (.inl (Ne.symm hbn))),sO (sO C2.out.2.2.1 (ad_nf (.inl (Ne.symm hbn)))) (ad_nf (.inl (Ne.symm hbn))),sO (sO C2.out.2.2.2 (ad_nf (.inl (Ne.symm hbn)))) (ad_nf (.inl (Ne.symm hbn)))⟩);refine hK.out _ _ ?_ (fun hHeld=>?_)
      ·have hx:=HF.out _ (bC HB2.out FX.out);exact⟨hx.1,hx.2.1,hx.2.2.1,hx.2.2.2,CX.out.1,CX.out.2.1,CX.out.2.2.1,CX.out.2.2.2⟩
      clear hK K;(try simp only[sp]);refine wk [.k 11 9] (fun _ _ _ _ _ h=>h) hHeld ?_ (by kernel_rfl);repeat (refine .k (v:=?_) rfl (by kernel_rfl) ?_ ?_;rotate_left 1;(intro w h;go_simp<;>try rfl);try simp only[sp])
      refine .nil ?_;refine wD (by kernel_rfl) ?_;clear hHeld O2 F2 C2 D2;generalize ((v2.setCell ⟨D,0,none⟩ (.int .i64 t1)).setCell ⟨D,1,none⟩ (.int .i64 t2))=vx at *;go_wp2
      go_ret2
      have hE:=HEE.out.trans HER.out;have hT:=HTT.out;rw[if_neg (by rw[hE];exact HNE.out)]at hT;subst hE hT;exact⟨_,rfl,Lk.Own.nil _ _,bC HB0.out (bC HB2.out FX.out)⟩
   ·obtain rfl:k=PS.length:=(by omega);have e:TT.take PS.length=TT:=List.take_of_length_le (by rw[HTL.out];exact nR _);rw[e]at HE0 HO;clear e;go_wp2
    go_ret2
    have hE:=HEE.out.trans HE0.out;have hT:=HTT.out;rw[if_pos hE]at hT;subst hE hT;exact⟨_,rfl,HO.out.mono (by rw[←hQ];exact HQS.out),bC HB0.out (bC HB2.out HB.out)⟩
 ·have T:zchk d=dchk d:=by unfold zchk;rw[if_neg hz]
  have T2:tabV d=[]:=by unfold tabV;rw[if_neg (by rw[T];exact hz)]
  rw[T,T2];have hz':(dchk d != 0)=true:=by rw[bne_iff_ne];exact hz
  clear T T2 hz hd;generalize dchk d=c at *;go_enter Tryz.func148,Tryz.ntmps148;go_wp2_with fail;rw[←hw0];clear hw0;refine(HC.out _ HD0.out).mono ?_;rintro e w1 ⟨rfl,hb1⟩;have HB1:=aH hb1;clear hb1;go_wp2
  go_ret2
  exact⟨_,rfl,Lk.Own.nil _ _,bC HB0.out HB1.out⟩
end Go.Proofs.YtmecohdedghiaaaGreatDoor
namespace Go.Proofs.YtmecohdedghiaaaGreatDoor.Sp
open Go.RowKit
abbrev sv (x y:Int):Value:=.agg #[.int .i64 x,.int .i64 y]
def hullV (a b:Int×Int):Int×Int:=if a.2<a.1 then(if b.2<b.1 then(0,-1)else b)else if b.2<b.1 then a else(min a.1 b.1,max a.2 b.2)
def lenV (a:Int×Int):Int:=if a.2<a.1 then 0 else if a.2-a.1<9223372036854775807 then a.2-a.1+1 else 9223372036854775807
theorem empty_any (a b:Int) (w:World):Calls Tryz.prog 208 #[.agg #[.int .i64 a,.int .i64 b]] w fun e w'=>e=.returned (.bool (decide (b<a)))∧Below w.heap.size w w':=by
 go_enter Tryz.func208,Tryz.ntmps208;go_wp2
 go_ret
 exact⟨ret_b rfl,(bR _ _).alloc (nR _) _⟩
theorem none_any (w:World):Calls Tryz.prog 209 #[] w fun e w'=>e=.returned (.agg #[.int .i64 0,.int .i64 (-1)])∧Below w.heap.size w w':=by
 go_enter Tryz.func209,Tryz.ntmps209;go_wp2;exact bP (v:=.agg #[.int .i64 0,.int .i64 (-1)]) (by simp[results,Tryz.results209,go_sem]) rfl ⟨rfl,(bR _ _).alloc (nR _) _⟩
theorem bcell {W w1:World} (hb:Below W.heap.size W w1):(∀b o,b<W.heap.size→w1.cell? ⟨b,o,none⟩=W.cell? ⟨b,o,none⟩)∧(∀b o,b<W.heap.size→w1.frozen? ⟨b,o,none⟩=W.frozen? ⟨b,o,none⟩):=
 ⟨fun b o h=>hb.cell (p:=⟨b,o,none⟩) h,fun b o h=>hb.frozen (p:=⟨b,o,none⟩) h⟩
theorem bL {w w':World} (h:Below w.heap.size w w') (o:Obj):Below w.heap.size w (w'.alloc o):=h.alloc h.size o
theorem bC {w w' w'':World} (h:Below w.heap.size w w') (k:Below w'.heap.size w' w''):Below w.heap.size w w'':=h.trans (k.mono h.size)
theorem bS {w w':World} {p:Addr} {v:Value} (h:Below w.heap.size w w') (hp:w.heap.size≤p.block):Below w.heap.size w (w'.setCell p v):=h.setCell hp v
theorem hullV_nn {a b c d:Int} (h:b<a) (k:d<c):hullV (a,b) (c,d)=(0,-1):=by simp[hullV,h,k]
theorem hullV_ny {a b c d:Int} (h:b<a) (k:¬d<c):hullV (a,b) (c,d)=(c,d):=by simp[hullV,h,k]
theorem hullV_yn {a b c d:Int} (h:¬b<a) (k:d<c):hullV (a,b) (c,d)=(a,b):=by simp[hullV,h,k]
theorem hullV_yy {a b c d:Int} (h:¬b<a) (k:¬d<c):hullV (a,b) (c,d)=(min a c,max b d):=by simp[hullV,h,k]
theorem hull_nn (a b c d:Int) (h:b<a) (k:d<c) (w:World):Calls Tryz.prog 147 #[.agg #[.int .i64 a,.int .i64 b],.agg #[.int .i64 c,.int .i64 d]] w fun e w'=>e=.returned (.agg #[.int .i64 0,.int .i64 (-1)])∧Below w.heap.size w w':=by
 go_enter Tryz.func147,Tryz.ntmps147;go_wp2_with fail;refine(empty_any _ _ _).mono ?_;rintro e w1 ⟨rfl,hb1⟩;obtain⟨hc1,hf1⟩:=bcell hb1;have HB1:=aH hb1;have hz1_0:w.heap.size<w1.heap.size:=by(have:=hb1.size;(try simp at this)<;>omega)
 have hz1_1:w.heap.size+1<w1.heap.size:=by(have:=hb1.size;(try simp at this)<;>omega)
 have hz1_2:w.heap.size+1+1<w1.heap.size:=by(have:=hb1.size;(try simp at this)<;>omega)
 clear hb1;go_wp2_with fail;refine(empty_any _ _ _).mono ?_;rintro e w2 ⟨rfl,hb2⟩;obtain⟨hc2,hf2⟩:=bcell hb2;have HB2:=aH hb2;have hz2_0:w.heap.size<w2.heap.size:=by(have:=hb2.size;(try simp at this)<;>omega)
 have hz2_1:w.heap.size+1<w2.heap.size:=by(have:=hb2.size;(try simp at this)<;>omega)
 have hz2_2:w.heap.size+1+1<w2.heap.size:=by(have:=hb2.size;(try simp at this)<;>omega)
 clear hb2;go_wp2_with fail;refine(none_any _).mono ?_;rintro e w3 ⟨rfl,hb3⟩;obtain⟨hc3,hf3⟩:=bcell hb3;have HB3:=aH hb3;have hz3_0:w.heap.size<w3.heap.size:=by(have:=hb3.size;(try simp at this)<;>omega)
 have hz3_1:w.heap.size+1<w3.heap.size:=by(have:=hb3.size;(try simp at this)<;>omega)
 have hz3_2:w.heap.size+1+1<w3.heap.size:=by(have:=hb3.size;(try simp at this)<;>omega)
 clear hb3;go_wp2;refine bP (v:=.agg #[.int .i64 0,.int .i64 (-1)]) (by simp[results,Tryz.results147,go_sem,hc1,hc2,hc3,hz1_2,hz2_2]) rfl ⟨rfl,?_⟩;(repeat (first|exact bR _ _|(with_reducible refine bS ?_ (by simp<;>omega))|(with_reducible refine bL ?_ _)|(with_reducible refine bC ?_ HB1.out)|(with_reducible refine bC ?_ HB2.out)|(with_reducible refine bC ?_ HB3.out)|(with_reducible refine bC ?_ HB4.out)))
theorem hull_ny (a b c d:Int) (h:b<a) (k:¬d<c) (w:World):Calls Tryz.prog 147 #[.agg #[.int .i64 a,.int .i64 b],.agg #[.int .i64 c,.int .i64 d]] w fun e w'=>e=.returned (.agg #[.int .i64 c,.int .i64 d])∧Below w.heap.size w w':=by
 go_enter Tryz.func147,Tryz.ntmps147;go_wp2_with fail;refine(empty_any _ _ _).mono ?_;rintro e w1 ⟨rfl,hb1⟩;obtain⟨hc1,hf1⟩:=bcell hb1;have HB1:=aH hb1;have hz1_0:w.heap.size<w1.heap.size:=by(have:=hb1.size;(try simp at this)<;>omega)
 have hz1_1:w.heap.size+1<w1.heap.size:=by(have:=hb1.size;(try simp at this)<;>omega)
 have hz1_2:w.heap.size+1+1<w1.heap.size:=by(have:=hb1.size;(try simp at this)<;>omega)
 clear hb1;go_wp2_with fail;refine(empty_any _ _ _).mono ?_;rintro e w2 ⟨rfl,hb2⟩;obtain⟨hc2,hf2⟩:=bcell hb2;have HB2:=aH hb2;have hz2_0:w.heap.size<w2.heap.size:=by(have:=hb2.size;(try simp at this)<;>omega)
 have hz2_1:w.heap.size+1<w2.heap.size:=by(have:=hb2.size;(try simp at this)<;>omega)
 have hz2_2:w.heap.size+1+1<w2.heap.size:=by(have:=hb2.size;(try simp at this)<;>omega)
 clear hb2;go_wp2_with fail;refine(empty_any _ _ _).mono ?_;rintro e w3 ⟨rfl,hb3⟩;obtain⟨hc3,hf3⟩:=bcell hb3;have HB3:=aH hb3;have hz3_0:w.heap.size<w3.heap.size:=by(have:=hb3.size;(try simp at this)<;>omega)
 have hz3_1:w.heap.size+1<w3.heap.size:=by(have:=hb3.size;(try simp at this)<;>omega)
 have hz3_2:w.heap.size+1+1<w3.heap.size:=by(have:=hb3.size;(try simp at this)<;>omega)
 clear hb3;go_wp2;refine bP (v:=.agg #[.int .i64 c,.int .i64 d]) (by simp[results,Tryz.results147,go_sem,hc1,hc2,hc3,hz1_2,hz2_2]) rfl ⟨rfl,?_⟩;(repeat (first|exact bR _ _|(with_reducible refine bS ?_ (by simp<;>omega))|(with_reducible refine bL ?_ _)|(with_reducible refine bC ?_ HB1.out)|(with_reducible refine bC ?_ HB2.out)|(with_reducible refine bC ?_ HB3.out)|(with_reducible refine bC ?_ HB4.out)))
theorem hull_yn (a b c d:Int) (h:¬b<a) (k:d<c) (w:World):Calls Tryz.prog 147 #[.agg #[.int .i64 a,.int .i64 b],.agg #[.int .i64 c,.int .i64 d]] w fun e w'=>e=.returned (.agg #[.int .i64 a,.int .i64 b])∧Below w.heap.size w w':=by
 go_enter Tryz.func147,Tryz.ntmps147;go_wp2_with fail;refine(empty_any _ _ _).mono ?_;rintro e w1 ⟨rfl,hb1⟩;obtain⟨hc1,hf1⟩:=bcell hb1;have HB1:=aH hb1;have hz1_0:w.heap.size<w1.heap.size:=by(have:=hb1.size;(try simp at this)<;>omega)
 have hz1_1:w.heap.size+1<w1.heap.size:=by(have:=hb1.size;(try simp at this)<;>omega)
 have hz1_2:w.heap.size+1+1<w1.heap.size:=by(have:=hb1.size;(try simp at this)<;>omega)
 clear hb1;go_wp2_with fail;refine(empty_any _ _ _).mono ?_;rintro e w2 ⟨rfl,hb2⟩;obtain⟨hc2,hf2⟩:=bcell hb2;have HB2:=aH hb2;have hz2_0:w.heap.size<w2.heap.size:=by(have:=hb2.size;(try simp at this)<;>omega)
 have hz2_1:w.heap.size+1<w2.heap.size:=by(have:=hb2.size;(try simp at this)<;>omega)
 have hz2_2:w.heap.size+1+1<w2.heap.size:=by(have:=hb2.size;(try simp at this)<;>omega)
 clear hb2;go_wp2_with fail;refine(empty_any _ _ _).mono ?_;rintro e w3 ⟨rfl,hb3⟩;obtain⟨hc3,hf3⟩:=bcell hb3;have HB3:=aH hb3;have hz3_0:w.heap.size<w3.heap.size:=by(have:=hb3.size;(try simp at this)<;>omega)
 have hz3_1:w.heap.size+1<w3.heap.size:=by(have:=hb3.size;(try simp at this)<;>omega)
 have hz3_2:w.heap.size+1+1<w3.heap.size:=by(have:=hb3.size;(try simp at this)<;>omega)
 clear hb3;go_wp2;refine bP (v:=.agg #[.int .i64 a,.int .i64 b]) (by simp[results,Tryz.results147,go_sem,hc1,hc2,hc3,hz1_2,hz2_2]) rfl ⟨rfl,?_⟩;(repeat (first|exact bR _ _|(with_reducible refine bS ?_ (by simp<;>omega))|(with_reducible refine bL ?_ _)|(with_reducible refine bC ?_ HB1.out)|(with_reducible refine bC ?_ HB2.out)|(with_reducible refine bC ?_ HB3.out)|(with_reducible refine bC ?_ HB4.out)))
theorem hull_yy (a b c d:Int) (h:¬b<a) (k:¬d<c) (w:World):Calls Tryz.prog 147 #[.agg #[.int .i64 a,.int .i64 b],.agg #[.int .i64 c,.int .i64 d]] w fun e w'=>e=.returned (.agg #[.int .i64 (min a c),.int .i64 (max b d)])∧Below w.heap.size w w':=by
 by_cases ha:a≤c<;>by_cases hd:d≤b;all_goals
  go_enter Tryz.func147,Tryz.ntmps147;go_wp2_with fail;refine(empty_any _ _ _).mono ?_;rintro e w1 ⟨rfl,hb1⟩;obtain⟨hc1,hf1⟩:=bcell hb1;have HB1:=aH hb1;have hz1_0:w.heap.size<w1.heap.size:=by(have:=hb1.size;(try simp at this)<;>omega)
  have hz1_1:w.heap.size+1<w1.heap.size:=by(have:=hb1.size;(try simp at this)<;>omega)
  have hz1_2:w.heap.size+1+1<w1.heap.size:=by(have:=hb1.size;(try simp at this)<;>omega)
  clear hb1;go_wp2_with fail;refine(empty_any _ _ _).mono ?_;rintro e w2 ⟨rfl,hb2⟩;obtain⟨hc2,hf2⟩:=bcell hb2;have HB2:=aH hb2;have hz2_0:w.heap.size<w2.heap.size:=by(have:=hb2.size;(try simp at this)<;>omega)
  have hz2_1:w.heap.size+1<w2.heap.size:=by(have:=hb2.size;(try simp at this)<;>omega)
  have hz2_2:w.heap.size+1+1<w2.heap.size:=by(have:=hb2.size;(try simp at this)<;>omega)
  clear hb2;go_wp2_with fail;refine(empty_any _ _ _).mono ?_;rintro e w3 ⟨rfl,hb3⟩;obtain⟨hc3,hf3⟩:=bcell hb3;have HB3:=aH hb3;have hz3_0:w.heap.size<w3.heap.size:=by(have:=hb3.size;(try simp at this)<;>omega)
  have hz3_1:w.heap.size+1<w3.heap.size:=by(have:=hb3.size;(try simp at this)<;>omega)
  have hz3_2:w.heap.size+1+1<w3.heap.size:=by(have:=hb3.size;(try simp at this)<;>omega)
  clear hb3;go_wp2;refine bP (v:=.agg #[.int .i64 (min a c),.int .i64 (max b d)]) (by simp[results,Tryz.results147,go_sem,hc1,hc2,hc3,hz1_2,hz2_2];omega) rfl ⟨rfl,?_⟩;(repeat (first|exact bR _ _|(with_reducible refine bS ?_ (by simp<;>omega))|(with_reducible refine bL ?_ _)|(with_reducible refine bC ?_ HB1.out)|(with_reducible refine bC ?_ HB2.out)|(with_reducible refine bC ?_ HB3.out)|(with_reducible refine bC ?_ HB4.out)))
theorem hull_any (p q:Int×Int) (w:World):Calls Tryz.prog 147 #[.agg #[.int .i64 p.1,.int .i64 p.2],.agg #[.int .i64 q.1,.int .i64 q.2]] w fun e w'=>e=.returned (.agg #[.int .i64 (hullV p q).1,.int .i64 (hullV p q).2])∧Below w.heap.size w w':=by
 obtain⟨a,b⟩:=p;obtain⟨c,d⟩:=q;by_cases h:b<a<;>by_cases k:d<c
 ·rw[hullV_nn h k];exact hull_nn a b c d h k w
 ·rw[hullV_ny h k];exact hull_ny a b c d h k w
 ·rw[hullV_yn h k];exact hull_yn a b c d h k w
 ·rw[hullV_yy h k];exact hull_yy a b c d h k w
end Go.Proofs.YtmecohdedghiaaaGreatDoor.Sp
