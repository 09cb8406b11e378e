/- Spans. -/
import Derived.Test.YtmecohdedghiaaaGreatDoorPo00
import Derived.Test.YtmecohdedghiaaaGreatDoorPo09
import Derived.Test.YtmecohdedghiaaaGreatDoorChecked
import Derived.WalkKit
import Derived.WalkLawsBesides
import Derived.WalkSpells
import Derived.Outline
import Derived.KernelRfl
import Derived.Lib.Hide
set_option maxRecDepth 100000
set_option maxHeartbeats 8000000
open Go.Proofs.Tryz
namespace Go.Proofs.YtmecohdedghiaaaGreatDoor
open Go.RowKit
theorem kM (w:World) (b i:Nat) (v:Value):w.grownBy (w.setCell ⟨b,i,none⟩ v) (some b):=
 ⟨rfl,rfl,rfl,by simp,fun k _ hk=>heap_setCell_other w _ k v (fun e=>hk (by rw[e]))⟩
def Cell2 (V:World) (D:Nat) (x y:Int):Prop:=
 V.cell? ⟨D,0,none⟩=some (.int .i64 x)∧V.cell? ⟨D,1,none⟩=some (.int .i64 y)∧V.frozen? ⟨D,0,none⟩=false∧V.frozen? ⟨D,1,none⟩=false∧D<V.heap.size
theorem Cell2.new (V:World) (x y:Int):Cell2 (V.alloc (.cells #[.int .i64 x,.int .i64 y] 134)) V.heap.size x y:=by
 refine⟨?_,?_,?_,?_,?_⟩<;>simp
theorem Cell2.below {V V':World} {D:Nat} {x y:Int} (h:Cell2 V D x y) (hb:Bw V V'):Cell2 V' D x y:=by
 obtain⟨h0,h1,z0,z1,hs⟩:=h;refine⟨kK hb h0,kK hb h1,?_,?_,nL hs hb.size⟩
 ·rw[hb.frozen (p:=⟨D,0,none⟩) hs];exact z0
 ·rw[hb.frozen (p:=⟨D,1,none⟩) hs];exact z1
theorem Cell2.set {V:World} {D:Nat} {x y:Int} (h:Cell2 V D x y) (p q:Int):Cell2 ((V.setCell ⟨D,0,none⟩ (.int .i64 p)).setCell ⟨D,1,none⟩ (.int .i64 q)) D p q:=by
 obtain⟨h0,h1,z0,z1,hs⟩:=h;refine⟨sO (ag h0) (aW (by omega)),ag (sO h1 (aW (by omega))),sF (sF z0),sF (sF z1),?_⟩;simpa using hs
theorem tZ (l:List T3) (k:Nat) (hk:k<l.length) (h0:bp (l.take k)=0) (h:(l.getD k (0,0,0)).2.2=0):bp (l.take (k+1))=0:=by
 rw[aX l k (0,0,0) hk,bN,if_pos h0,bp,if_pos h];rfl
theorem rL (l:List T3) (k:Nat) (hk:k<l.length) (h0:bp (l.take k)=0) (e:Int) (he:e≠0) (h:(l.getD k (0,0,0)).2.2=e):bp l=e:=by
 have hl:l=l.take k++(l.getD k (0,0,0)::l.drop (k+1)):=by rw[←fG l k (0,0,0) hk,List.take_append_drop]
 generalize l.getD k (0,0,0)=t at *;rw[hl,bN,if_pos h0,bp,if_neg (by rw[h];exact he),h]
theorem mX (l:List T3) (k:Nat) (hk:k<l.length):cq (l.take (k+1))=cq (l.take k)++[(((l.getD k (0,0,0)).1:Int),((l.getD k (0,0,0)).2.1:Int))]:=by
 rw[aX l k (0,0,0) hk,kz];rfl
theorem mZ (d:Dk) (h:aJ d=0) (k:Nat) (hk:k<(ak d).length):(bV d).getD k (0,0,0)=cr d ((ak d).getD k ⟨0,0,0,0⟩):=by
 have e:ak d=bM d:=if_pos h;rw[e]at hk⊢;rw[List.getD_eq_getElem?_getD,List.getD_eq_getElem?_getD];unfold bV;rw[List.getElem?_map,List.getElem?_eq_getElem hk];rfl
theorem mL (d:Dk) {w:World} (hd:d.In w w.heap.size) (p:Q4) (hp:p∈ak d) (h:(cr d p).2.2=0):(cr d p).1≤(cr d p).2.1∧(cr d p).2.1≤23:=by
 have hz:OkD d:=by
  unfold ak at hp;by_cases e:aJ d=0
  ·exact aU d e
  ·rw[if_neg e]at hp;cases hp
 rcases gp d p hp with ⟨h3,h0⟩|hl
 ·have hb:=(eA d p hp).2.2.1;unfold cr;rw[if_pos h3];dsimp only;omega
 ·have h3:p.a≠3:=by rcases hl with h|h<;>omega
  have e:cr d p=cv d.bl (bs d p).x (bs d p).p (bs d p).r (cf p.d):=by unfold cr;rw[if_neg h3]
  rw[e]at h⊢;obtain⟨g1,g2,g3⟩:=th d.bl _ _ _ _ (ku hd p hl) h;exact⟨g1,by omega⟩
theorem nu (d:Dk) (w:World) (hd:d.In w w.heap.size):Calls prog 148 #[d.v] w fun e w'=>∃v,e=.returned (.tuple #[v,.int .i64 (aA d)])∧KS.Own w' w.heap.size v (eY d)∧Bw w w':=by
 have HD:=aH hd;have HC:=aH (fun w h=>gv d w h);have H7:=aH (fun w h=>dI d w h);obtain⟨w0,hw0⟩:∃w0,w0=w.alloc d.ob:=⟨_,rfl⟩;have CG:=aH (cI hw0);have CR:=aH (HD.out.then CG.out);have HF:=aH (show ∀w1,Bw w0 w1→(w1.cell? ⟨w.heap.size,0,none⟩=some (.slice d.bA d.bn d.bc)∧w1.cell? ⟨w.heap.size,1,none⟩=some (.slice d.pA d.pn d.pc)∧w1.cell? ⟨w.heap.size,2,none⟩=some (.slice d.rA d.rn d.rc)∧w1.cell? ⟨w.heap.size,3,none⟩=some (.int .i64 d.arms))from by
   intro w1 hb;refine⟨kK hb ?_,kK hb ?_,kK hb ?_,kK hb ?_⟩;all_goals (rw[hw0];simp))
 by_cases hz:aJ d=0
 ·have HZ:=aH (show aA d=bp (bV d)by rw[pF d (aU d hz)];unfold aA;rw[if_pos hz]);have RU:=aH (show eY d=if bp (bV d)=0 then cq (bV d)else []by rw[←HZ.out];rfl);have FH:=aH (fun k hk=>mZ d hz k hk);have Hc:=aH (show(bV d).length=(ak d).length by rw[fh];unfold ak;rw[if_pos hz]);have FD:=aH (eg d);have SR:=aH (fun p hp=>gp d p hp);have PJ:=aH (fun p hp h=>mL d HD.out p hp h);have G9:=aH (fun(w:World) (h:d.In w w.heap.size) p hp=>nl d p w h hp);rw[HZ.out,RU.out];obtain⟨E,hE⟩:∃E,E=bp (bV d):=⟨_,rfl⟩;obtain⟨TV,hTV⟩:∃TV,TV=if bp (bV d)=0 then cq (bV d)else []:=⟨_,rfl⟩
  rw[←hTV,←hE];have N9:=aH (show E=bp (bV d)from hE);have Ea:=aH (show TV=if E=0 then cq (bV d)else []by rw[hTV,hE]);clear hE hTV;rw[hz]at HC;clear hz hd HZ RU;have J0:=aH (tZ (bV d));have FA:=aH (rL (bV d));have Ge:=aH (mX (bV d));generalize ak d=PS at *;generalize bV d=TT at *;go_enter func148,ntmps148;go_wp2_with fail;rw[←hw0];clear hw0;refine(HC.out _ CR.out).mono ?_;rintro e w1 ⟨rfl,CE⟩;obtain⟨d0,d1,d2,d3⟩:=HF.out w1 CE;have CH:=aH CE;clear CE;go_wp2_with fail;refine(H7.out w1 (CR.out.then CH.out)).mono ?_;rintro e w2 ⟨v,rfl,C9,CM⟩;have CL:=aH (bC CH.out CM);have Gl:=aH (C9.isL (by have:=FD.out;omega));clear CM C9 d0 d1 d2 d3;obtain⟨A,cap,rfl⟩:∃A cap,v=.slice A PS.length cap:=by
   obtain⟨⟨A,cap,h,_⟩,_⟩:=Gl.out;exact⟨A,cap,h⟩
  go_wp2_with fail;obtain⟨Q,hQ⟩:∃Q,Q=w2.heap.size:=⟨_,rfl⟩;have SJ:=aH (show w.heap.size≤Q by rw[hQ];exact Nat.le_trans CG.out.size CL.out.size)
  go_loopw [5,7] (fun u i wr=>∃k:Nat,k≤PS.length∧i=.int .i64 k∧bp (TT.take k)=0∧KS.Own wr w2.heap.size u (cq (TT.take k))∧Bw w2 wr) (fun _ i _=>PS.length-(intOf i).toNat)
  case atStart=>exact⟨0,Nat.zero_le _,rfl,rfl,Lk.Own.nil _ _,bR _ _⟩
  case round=>
   obtain⟨k,hk,rfl,hf,CF,CP⟩:=hrel;have HO:=aH CF;have HB:=aH CP;have Jj:=aH hf;have h8:=FD.out;clear CF CP hf;by_cases CI:k<PS.length
   ·obtain⟨b,off,rfl,hb,hc,CD⟩:=iy (K:=KQ) rfl rfl rfl (Gl.out.below HB.out) (by omega);obtain⟨c0,c1,c2,c3⟩:=CD k CI;have GV:=af PS k ⟨0,0,0,0⟩ CI;have Mr:=aH (SR.out _ GV);have F9:=aH (FH.out k CI);have JH:=aH (PJ.out _ GV);have JT:k<TT.length:=(by rw[Hc.out];exact CI);have JE:=aH (J0.out k JT Jj.out);have JY:=aH (FA.out k JT Jj.out);have Nl:=aH (Ge.out k JT);obtain⟨d0,d1,d2,d3⟩:=HF.out wr (bC CL.out HB.out);obtain⟨p,hp⟩:∃p,p=PS.getD k ⟨0,0,0,0⟩:=⟨_,rfl⟩;rw[←hp]at c0 c1 c2 c3 Mr F9 JH;have Hl:=aH (fun(V:World) (h:Bw w2 V)=>G9.out V (CR.out.then (bC CL.out h)) p Mr.out);rw[F9.out]at JE JY Nl;have Db:(cq (TT.take k)).length=k:=(by rw[fL,List.length_take];omega);have PH:=aH Db;clear CD hp GV JT F9 Db;generalize cr d p=t at *;obtain⟨t1,t2,t3⟩:=t;unfold aG at Hl;dsimp only at *;generalize cq (TT.take k)=L at *;obtain⟨pa,pb,pc,pd⟩:=p;dsimp only at *;have CK:=aH (aI c0 (aI c1 (aI c2 c3)));have NB:=aH (show b<w2.heap.size from hb);by_cases ht:t3=0
    ·subst ht;have HG:=aH (JH.out rfl);have LZ:=aH (JE.out rfl);clear JY JE JH;go_wp2_with fail;refine Bn ⟨d0,d1,d2,d3,c0,c1,c2,c3⟩ (by kernel_rfl) (fun CC=>?_);refine wk [.k 0 24,.k 1 25,.k 2 26,.k 3 27,.k 4 28] (fun _ _ _ _ _ h=>h) CC ?_ (by kernel_rfl);repeat (refine .k (v:=?_) rfl (by kernel_rfl) ?_ ?_;rotate_left 1;(intro w h;go_simp<;>try rfl);try simp only[sp])
     refine .nil ?_;clear d0 d1 d2 d3 c0 c1 c2 c3;have O0:=aH (show KS.Own wr.drew w2.heap.size u5 L from HO.out.drew);have F0:=aH (show Bw w2 wr.drew from HB.out.drew);have C0:=aH (show wr.drew.cell? ⟨b,off+k*4,none⟩=some (.int .i64 pa)∧wr.drew.cell? ⟨b,off+k*4+1,none⟩=some (.int .i64 pb)∧wr.drew.cell? ⟨b,off+k*4+2,none⟩=some (.int .i64 pc)∧wr.drew.cell? ⟨b,off+k*4+3,none⟩=some (.int .i64 pd)from CK.out);generalize wr.drew=v0 at *;refine wR 5 [9] (by kernel_rfl) ?_;refine rK (some 29) rfl (fun K hK=>?_) (rK (some 8) rfl (fun K hK=>?_) rN);go_simp;refine(Hl.out v0 F0.out).mono ?_;rintro e v1 ⟨rfl,hb⟩;have O1:=aH (O0.out.below hb);have F1:=aH (bC F0.out hb);have C1:=aH (aI (kK hb C0.out.1) (aI (kK hb C0.out.2.1) (aI (kK hb C0.out.2.2.1) (kK hb C0.out.2.2.2))));clear hb O0 F0 C0;go_wp2_with fail;refine hK.out _ _ ?_ (fun CC=>?_)
     ·have hx:=HF.out _ (bC CL.out F1.out);exact⟨hx.1,hx.2.1,hx.2.2.1,hx.2.2.2,C1.out.1,C1.out.2.1,C1.out.2.2.1,C1.out.2.2.2⟩
     clear hK K;(try simp only[sp]);refine wk [.k 6 23,.k 7 30,.k 8 31] (fun _ _ _ _ _ h=>h) CC ?_ (by kernel_rfl);repeat (refine .k (v:=?_) rfl (by kernel_rfl) ?_ ?_;rotate_left 1;(intro w h;go_simp<;>try rfl);try simp only[sp])
     refine .nil ?_;refine wQ 9 (some 8) rfl (fun K hK=>?_) (by kernel_rfl);go_simp;have hb:=bL (bR _ v1) (.cells #[.int .i64 0,.int .i64 0] 134);have O2:=aH (O1.out.below hb);have F2:=aH (bC F1.out hb);have C2:=aH (aI (kK hb C1.out.1) (aI (kK hb C1.out.2.1) (aI (kK hb C1.out.2.2.1) (kK hb C1.out.2.2.2))));have D2:=aH (Cell2.new v1 0 0);have NE:=aH (show w2.heap.size≤v1.heap.size from F1.out.size);have NO:=aH (show u5.ownBlock=none∨u5.ownBlock≠some v1.heap.size from .inr (fun e=>Nat.lt_irrefl _ (O1.out.lt _ e).2));clear hb O1 F1 C1;generalize v1.alloc (.cells #[.int .i64 0,.int .i64 0] 134)=v2 at *;generalize v1.heap.size=D at *;refine hK.out _ _ ?_ (fun CC=>?_)
     ·have hx:=HF.out _ (bC CL.out F2.out);exact⟨hx.1,hx.2.1,hx.2.2.1,hx.2.2.2,C2.out.1,C2.out.2.1,C2.out.2.2.1,C2.out.2.2.2⟩
     clear hK K;(try simp only[sp]);rotate_left 1
     go_simp;have hb:=bL (bR _ v0) (.cells #[.int .i64 0,.int .i64 0] 134);have O3:=aH (O0.out.below hb);have F3:=aH (bC F0.out hb);have C3:=aH (aI (kK hb C0.out.1) (aI (kK hb C0.out.2.1) (aI (kK hb C0.out.2.2.1) (kK hb C0.out.2.2.2))));have D3:=aH (Cell2.new v0 0 0);have NE:=aH (show w2.heap.size≤v0.heap.size from F0.out.size);have NO:=aH (show u5.ownBlock=none∨u5.ownBlock≠some v0.heap.size from .inr (fun e=>Nat.lt_irrefl _ (O0.out.lt _ e).2));clear hb O0 F0 C0;generalize v0.alloc (.cells #[.int .i64 0,.int .i64 0] 134)=v3 at *;generalize v0.heap.size=D at *;refine hK.out _ _ ?_ (fun CC=>?_)
     ·have hx:=HF.out _ (bC CL.out F3.out);exact⟨hx.1,hx.2.1,hx.2.2.1,hx.2.2.2,C3.out.1,C3.out.2.1,C3.out.2.2.1,C3.out.2.2.2⟩
     clear hK K;(try simp only[sp]);refine wQ 5 (some 29) rfl (fun K hK=>?_) (by kernel_rfl);go_simp;refine(Hl.out v3 F3.out).mono ?_;rintro e v2 ⟨rfl,hb⟩;have O2:=aH (O3.out.below hb);have F2:=aH (bC F3.out hb);have C2:=aH (aI (kK hb C3.out.1) (aI (kK hb C3.out.2.1) (aI (kK hb C3.out.2.2.1) (kK hb C3.out.2.2.2))));have D2:=aH (D3.out.below hb);clear hb O3 F3 C3 D3;go_wp2_with fail;refine hK.out _ _ ?_ (fun CC=>?_)
     ·have hx:=HF.out _ (bC CL.out F2.out);exact⟨hx.1,hx.2.1,hx.2.2.1,hx.2.2.2,C2.out.1,C2.out.2.1,C2.out.2.2.1,C2.out.2.2.2⟩
     clear hK K;(try simp only[sp]);refine wk [.k 6 23,.k 7 30,.k 8 31] (fun _ _ _ _ _ h=>h) CC ?_ (by kernel_rfl);repeat (refine .k (v:=?_) rfl (by kernel_rfl) ?_ ?_;rotate_left 1;(intro w h;go_simp<;>try rfl);try simp only[sp])
     refine .nil ?_;all_goals
      refine wQ 10 none rfl (fun K hK=>?_) (by kernel_rfl);obtain⟨s0,s1,y0,y1,_⟩:=D2.out;go_simp;clear s0 s1 y0 y1;have Ih:=lM (kM v2 D 0 (.int .i64 t1)) (kM (v2.setCell ⟨D,0,none⟩ (.int .i64 t1)) D 1 (.int .i64 t2));have OX:=aH (show KS.Own ((v2.setCell ⟨D,0,none⟩ (.int .i64 t1)).setCell ⟨D,1,none⟩ (.int .i64 t2)) w2.heap.size u5 L from O2.out.kept Ih NO.out);have FX:=aH (show Bw w2 ((v2.setCell ⟨D,0,none⟩ (.int .i64 t1)).setCell ⟨D,1,none⟩ (.int .i64 t2))from bS (bS F2.out NE.out) NE.out);have DX:=aH (show Cell2 ((v2.setCell ⟨D,0,none⟩ (.int .i64 t1)).setCell ⟨D,1,none⟩ (.int .i64 t2)) D t1 t2 from D2.out.set t1 t2);clear Ih;have Fd:b≠D:=(by have:=NE.out;omega);have CX:=aH (show((v2.setCell ⟨D,0,none⟩ (.int .i64 t1)).setCell ⟨D,1,none⟩ (.int .i64 t2)).cell? ⟨b,off+k*4,none⟩=some (.int .i64 pa)∧((v2.setCell ⟨D,0,none⟩ (.int .i64 t1)).setCell ⟨D,1,none⟩ (.int .i64 t2)).cell? ⟨b,off+k*4+1,none⟩=some (.int .i64 pb)∧((v2.setCell ⟨D,0,none⟩ (.int .i64 t1)).setCell ⟨D,1,none⟩ (.int .i64 t2)).cell? ⟨b,off+k*4+2,none⟩=some (.int .i64 pc)∧((v2.setCell ⟨D,0,none⟩ (.int .i64 t1)).setCell ⟨D,1,none⟩ (.int .i64 t2)).cell? ⟨b,off+k*4+3,none⟩=some (.int .i64 pd)from⟨sO (sO C2.out.1 (aW (.inl (Ne.symm Fd)))) (aW (.inl (Ne.symm Fd))),sO (sO C2.out.2.1 (aW (.inl (Ne.symm Fd)))) (aW (.inl (Ne.symm Fd))),sO (sO C2.out.2.2.1 (aW (.inl (Ne.symm Fd)))) (aW (.inl (Ne.symm Fd))),sO (sO C2.out.2.2.2 (aW (.inl (Ne.symm Fd)))) (aW (.inl (Ne.symm Fd)))⟩);refine hK.out _ _ ?_ (fun CC=>?_)
      ·have hx:=HF.out _ (bC CL.out FX.out);exact⟨hx.1,hx.2.1,hx.2.2.1,hx.2.2.2,CX.out.1,CX.out.2.1,CX.out.2.2.1,CX.out.2.2.2⟩
      clear hK K;(try simp only[sp]);refine wk [.k 11 9] (fun _ _ _ _ _ h=>h) CC ?_ (by kernel_rfl);repeat (refine .k (v:=?_) rfl (by kernel_rfl) ?_ ?_;rotate_left 1;(intro w h;go_simp<;>try rfl);try simp only[sp])
      refine .nil ?_;refine wD (by kernel_rfl) ?_;clear CC O2 F2 C2 D2;generalize ((v2.setCell ⟨D,0,none⟩ (.int .i64 t1)).setCell ⟨D,1,none⟩ (.int .i64 t2))=vx at *;obtain⟨s0,s1,y0,y1,_⟩:=DX.out;have K3:=aH (show KS.ok ((t1:Int),(t2:Int))from⟨show ae (t1:Int)by have:=HG.out;unfold ae;omega,show ae (t2:Int)by have:=HG.out;unfold ae;omega⟩);go_wp2_with (at_builtin;refine Lk.wpList_app (K:=KS) _ rfl _ _ rfl rfl w2.heap.size (vx.heap.size+1) _ _ L [((t1:Int),(t2:Int))] rfl rfl (OX.out.alloc _) (Lk.IsL.lit (K:=KS) _ ((t1:Int),(t2:Int)) _ K3.out rfl vx.heap.size rfl) ?c1 ?c2 ?_)
      case c1=>have:=PH.out;simp;omega
      case c2=>have:=FX.out.size;simp;omega
      intro v9 w9 CF hgrow _;have Mb:=aH CF;have Lv:=aH (Lk.Own.grow' (OX.out.alloc (.cells #[.int .i64 t1,.int .i64 t2] 134)) (bL FX.out _) (by have:=FX.out.size;simp;omega) hgrow);clear CF hgrow;go_wp2
      go_roundw
      case rel=>exact⟨k+1,by omega,ai (by omega),LZ.out,by rw[Nl.out];exact Mb.out,Lv.out⟩
      case measure=>simp[intOf];omega
    ·have Qb:=aH (JY.out t3 ht rfl);have q1:(t3 != 0)=true:=(by rw[bne_iff_ne];exact ht);have DF:=aH ht;clear JY JE JH ht;go_wp2_with fail;refine Bn ⟨d0,d1,d2,d3,c0,c1,c2,c3⟩ (by kernel_rfl) (fun CC=>?_);refine wk [.k 0 24,.k 1 25,.k 2 26,.k 3 27,.k 4 28] (fun _ _ _ _ _ h=>h) CC ?_ (by kernel_rfl);repeat (refine .k (v:=?_) rfl (by kernel_rfl) ?_ ?_;rotate_left 1;(intro w h;go_simp<;>try rfl);try simp only[sp])
     refine .nil ?_;clear d0 d1 d2 d3 c0 c1 c2 c3;have O0:=aH (show KS.Own wr.drew w2.heap.size u5 L from HO.out.drew);have F0:=aH (show Bw w2 wr.drew from HB.out.drew);have C0:=aH (show wr.drew.cell? ⟨b,off+k*4,none⟩=some (.int .i64 pa)∧wr.drew.cell? ⟨b,off+k*4+1,none⟩=some (.int .i64 pb)∧wr.drew.cell? ⟨b,off+k*4+2,none⟩=some (.int .i64 pc)∧wr.drew.cell? ⟨b,off+k*4+3,none⟩=some (.int .i64 pd)from CK.out);generalize wr.drew=v0 at *;refine wR 5 [9] (by kernel_rfl) ?_;refine rK (some 29) rfl (fun K hK=>?_) (rK (some 8) rfl (fun K hK=>?_) rN);go_simp;refine(Hl.out v0 F0.out).mono ?_;rintro e v1 ⟨rfl,hb⟩;have O1:=aH (O0.out.below hb);have F1:=aH (bC F0.out hb);have C1:=aH (aI (kK hb C0.out.1) (aI (kK hb C0.out.2.1) (aI (kK hb C0.out.2.2.1) (kK hb C0.out.2.2.2))));clear hb O0 F0 C0;go_wp2_with fail;refine hK.out _ _ ?_ (fun CC=>?_)
     ·have hx:=HF.out _ (bC CL.out F1.out);exact⟨hx.1,hx.2.1,hx.2.2.1,hx.2.2.2,C1.out.1,C1.out.2.1,C1.out.2.2.1,C1.out.2.2.2⟩
     clear hK K;(try simp only[sp]);refine wk [.k 6 23,.k 7 30,.k 8 31] (fun _ _ _ _ _ h=>h) CC ?_ (by kernel_rfl);repeat (refine .k (v:=?_) rfl (by kernel_rfl) ?_ ?_;rotate_left 1;(intro w h;go_simp<;>try rfl);try simp only[sp])
     refine .nil ?_;refine wQ 9 (some 8) rfl (fun K hK=>?_) (by kernel_rfl);go_simp;have hb:=bL (bR _ v1) (.cells #[.int .i64 0,.int .i64 0] 134);have O2:=aH (O1.out.below hb);have F2:=aH (bC F1.out hb);have C2:=aH (aI (kK hb C1.out.1) (aI (kK hb C1.out.2.1) (aI (kK hb C1.out.2.2.1) (kK hb C1.out.2.2.2))));have D2:=aH (Cell2.new v1 0 0);have NE:=aH (show w2.heap.size≤v1.heap.size from F1.out.size);have NO:=aH (show u5.ownBlock=none∨u5.ownBlock≠some v1.heap.size from .inr (fun e=>Nat.lt_irrefl _ (O1.out.lt _ e).2));clear hb O1 F1 C1;generalize v1.alloc (.cells #[.int .i64 0,.int .i64 0] 134)=v2 at *;generalize v1.heap.size=D at *;refine hK.out _ _ ?_ (fun CC=>?_)
     ·have hx:=HF.out _ (bC CL.out F2.out);exact⟨hx.1,hx.2.1,hx.2.2.1,hx.2.2.2,C2.out.1,C2.out.2.1,C2.out.2.2.1,C2.out.2.2.2⟩
     clear hK K;(try simp only[sp]);rotate_left 1
     go_simp;have hb:=bL (bR _ v0) (.cells #[.int .i64 0,.int .i64 0] 134);have O3:=aH (O0.out.below hb);have F3:=aH (bC F0.out hb);have C3:=aH (aI (kK hb C0.out.1) (aI (kK hb C0.out.2.1) (aI (kK hb C0.out.2.2.1) (kK hb C0.out.2.2.2))));have D3:=aH (Cell2.new v0 0 0);have NE:=aH (show w2.heap.size≤v0.heap.size from F0.out.size);have NO:=aH (show u5.ownBlock=none∨u5.ownBlock≠some v0.heap.size from .inr (fun e=>Nat.lt_irrefl _ (O0.out.lt _ e).2));clear hb O0 F0 C0;generalize v0.alloc (.cells #[.int .i64 0,.int .i64 0] 134)=v3 at *;generalize v0.heap.size=D at *;refine hK.out _ _ ?_ (fun CC=>?_)
     ·have hx:=HF.out _ (bC CL.out F3.out);exact⟨hx.1,hx.2.1,hx.2.2.1,hx.2.2.2,C3.out.1,C3.out.2.1,C3.out.2.2.1,C3.out.2.2.2⟩
     clear hK K;(try simp only[sp]);refine wQ 5 (some 29) rfl (fun K hK=>?_) (by kernel_rfl);go_simp;refine(Hl.out v3 F3.out).mono ?_;rintro e v2 ⟨rfl,hb⟩;have O2:=aH (O3.out.below hb);have F2:=aH (bC F3.out hb);have C2:=aH (aI (kK hb C3.out.1) (aI (kK hb C3.out.2.1) (aI (kK hb C3.out.2.2.1) (kK hb C3.out.2.2.2))));have D2:=aH (D3.out.below hb);clear hb O3 F3 C3 D3;go_wp2_with fail;refine hK.out _ _ ?_ (fun CC=>?_)
     ·have hx:=HF.out _ (bC CL.out F2.out);exact⟨hx.1,hx.2.1,hx.2.2.1,hx.2.2.2,C2.out.1,C2.out.2.1,C2.out.2.2.1,C2.out.2.2.2⟩
     clear hK K;(try simp only[sp]);refine wk [.k 6 23,.k 7 30,.k 8 31] (fun _ _ _ _ _ h=>h) CC ?_ (by kernel_rfl);repeat (refine .k (v:=?_) rfl (by kernel_rfl) ?_ ?_;rotate_left 1;(intro w h;go_simp<;>try rfl);try simp only[sp])
     refine .nil ?_;all_goals
      refine wQ 10 none rfl (fun K hK=>?_) (by kernel_rfl);obtain⟨s0,s1,y0,y1,_⟩:=D2.out;go_simp;clear s0 s1 y0 y1;have Ih:=lM (kM v2 D 0 (.int .i64 t1)) (kM (v2.setCell ⟨D,0,none⟩ (.int .i64 t1)) D 1 (.int .i64 t2));have OX:=aH (show KS.Own ((v2.setCell ⟨D,0,none⟩ (.int .i64 t1)).setCell ⟨D,1,none⟩ (.int .i64 t2)) w2.heap.size u5 L from O2.out.kept Ih NO.out);have FX:=aH (show Bw w2 ((v2.setCell ⟨D,0,none⟩ (.int .i64 t1)).setCell ⟨D,1,none⟩ (.int .i64 t2))from bS (bS F2.out NE.out) NE.out);have DX:=aH (show Cell2 ((v2.setCell ⟨D,0,none⟩ (.int .i64 t1)).setCell ⟨D,1,none⟩ (.int .i64 t2)) D t1 t2 from D2.out.set t1 t2);clear Ih;have Fd:b≠D:=(by have:=NE.out;omega);have CX:=aH (show((v2.setCell ⟨D,0,none⟩ (.int .i64 t1)).setCell ⟨D,1,none⟩ (.int .i64 t2)).cell? ⟨b,off+k*4,none⟩=some (.int .i64 pa)∧((v2.setCell ⟨D,0,none⟩ (.int .i64 t1)).setCell ⟨D,1,none⟩ (.int .i64 t2)).cell? ⟨b,off+k*4+1,none⟩=some (.int .i64 pb)∧((v2.setCell ⟨D,0,none⟩ (.int .i64 t1)).setCell ⟨D,1,none⟩ (.int .i64 t2)).cell? ⟨b,off+k*4+2,none⟩=some (.int .i64 pc)∧((v2.setCell ⟨D,0,none⟩ (.int .i64 t1)).setCell ⟨D,1,none⟩ (.int .i64 t2)).cell? ⟨b,off+k*4+3,none⟩=some (.int .i64 pd)from⟨sO (sO C2.out.1 (aW (.inl (Ne.symm Fd)))) (aW (.inl (Ne.symm Fd))),sO (sO C2.out.2.1 (aW (.inl (Ne.symm Fd)))) (aW (.inl (Ne.symm Fd))),sO (sO C2.out.2.2.1 (aW (.inl (Ne.symm Fd)))) (aW (.inl (Ne.symm Fd))),sO (sO C2.out.2.2.2 (aW (.inl (Ne.symm Fd)))) (aW (.inl (Ne.symm Fd)))⟩);refine hK.out _ _ ?_ (fun CC=>?_)
      ·have hx:=HF.out _ (bC CL.out FX.out);exact⟨hx.1,hx.2.1,hx.2.2.1,hx.2.2.2,CX.out.1,CX.out.2.1,CX.out.2.2.1,CX.out.2.2.2⟩
      clear hK K;(try simp only[sp]);refine wk [.k 11 9] (fun _ _ _ _ _ h=>h) CC ?_ (by kernel_rfl);repeat (refine .k (v:=?_) rfl (by kernel_rfl) ?_ ?_;rotate_left 1;(intro w h;go_simp<;>try rfl);try simp only[sp])
      refine .nil ?_;refine wD (by kernel_rfl) ?_;clear CC O2 F2 C2 D2;generalize ((v2.setCell ⟨D,0,none⟩ (.int .i64 t1)).setCell ⟨D,1,none⟩ (.int .i64 t2))=vx at *;go_wp2
      go_ret2
      have hE:=N9.out.trans Qb.out;have hT:=Ea.out;rw[if_neg (by rw[hE];exact DF.out)]at hT;subst hE hT;exact⟨_,rfl,Lk.Own.nil _ _,bC CG.out (bC CL.out FX.out)⟩
   ·obtain rfl:k=PS.length:=(by omega);have e:TT.take PS.length=TT:=List.take_of_length_le (by rw[Hc.out];exact nR _);rw[e]at Jj HO;clear e;go_wp2
    go_ret2
    have hE:=N9.out.trans Jj.out;have hT:=Ea.out;rw[if_pos hE]at hT;subst hE hT;exact⟨_,rfl,HO.out.mono (by rw[←hQ];exact SJ.out),bC CG.out (bC CL.out HB.out)⟩
 ·have T:aA d=aJ d:=by unfold aA;rw[if_neg hz]
  have T2:eY d=[]:=by unfold eY;rw[if_neg (by rw[T];exact hz)]
  rw[T,T2];have GB:(aJ d != 0)=true:=by rw[bne_iff_ne];exact hz
  clear T T2 hz hd;generalize aJ d=c at *;go_enter func148,ntmps148;go_wp2_with fail;rw[←hw0];clear hw0;refine(HC.out _ CR.out).mono ?_;rintro e w1 ⟨rfl,CE⟩;have CH:=aH CE;clear CE;go_wp2
  go_ret2
  exact⟨_,rfl,Lk.Own.nil _ _,bC CG.out CH.out⟩
end Go.Proofs.YtmecohdedghiaaaGreatDoor
namespace Go.Proofs.YtmecohdedghiaaaGreatDoor.Sp
open Go.RowKit
abbrev sv (x y:Int):Value:=.agg #[.int .i64 x,.int .i64 y]
def eN (a b:Int×Int):Int×Int:=if a.2<a.1 then(if b.2<b.1 then(0,-1)else b)else if b.2<b.1 then a else(min a.1 b.1,max a.2 b.2)
def lenV (a:Int×Int):Int:=if a.2<a.1 then 0 else if a.2-a.1<9223372036854775807 then a.2-a.1+1 else 9223372036854775807
theorem empty_any (a b:Int) (w:World):Calls prog 208 #[.agg #[.int .i64 a,.int .i64 b]] w fun e w'=>e=.returned (.bool (decide (b<a)))∧Bw w w':=by
 go_enter func208,ntmps208;go_wp2
 go_ret
 exact⟨aj rfl,(bR _ _).alloc (nR _) _⟩
theorem rU (w:World):Calls prog 209 #[] w fun e w'=>e=.returned (.agg #[.int .i64 0,.int .i64 (-1)])∧Bw w w':=by
 go_enter func209,ntmps209;go_wp2;exact bP (v:=.agg #[.int .i64 0,.int .i64 (-1)]) (by simp[results,results209,go_sem]) rfl ⟨rfl,(bR _ _).alloc (nR _) _⟩
theorem aL {W w1:World} (hb:Bw W w1):(∀b o,b<W.heap.size→w1.cell? ⟨b,o,none⟩=W.cell? ⟨b,o,none⟩)∧(∀b o,b<W.heap.size→w1.frozen? ⟨b,o,none⟩=W.frozen? ⟨b,o,none⟩):=
 ⟨fun b o h=>hb.cell (p:=⟨b,o,none⟩) h,fun b o h=>hb.frozen (p:=⟨b,o,none⟩) h⟩
theorem bL {w w':World} (h:Bw w w') (o:Obj):Bw w (w'.alloc o):=h.alloc h.size o
theorem bC {w w' w'':World} (h:Bw w w') (k:Below w'.heap.size w' w''):Bw w w'':=h.trans (k.mono h.size)
theorem bS {w w':World} {p:Addr} {v:Value} (h:Bw w w') (hp:w.heap.size≤p.block):Bw w (w'.setCell p v):=h.setCell hp v
theorem sH {a b c d:Int} (h:b<a) (k:d<c):eN (a,b) (c,d)=(0,-1):=by simp[eN,h,k]
theorem ud {a b c d:Int} (h:b<a) (k:¬d<c):eN (a,b) (c,d)=(c,d):=by simp[eN,h,k]
theorem tj {a b c d:Int} (h:¬b<a) (k:d<c):eN (a,b) (c,d)=(a,b):=by simp[eN,h,k]
theorem hullV_yy {a b c d:Int} (h:¬b<a) (k:¬d<c):eN (a,b) (c,d)=(min a c,max b d):=by simp[eN,h,k]
theorem xH (a b c d:Int) (h:b<a) (k:d<c) (w:World):Calls prog 147 #[.agg #[.int .i64 a,.int .i64 b],.agg #[.int .i64 c,.int .i64 d]] w fun e w'=>e=.returned (.agg #[.int .i64 0,.int .i64 (-1)])∧Bw w w':=by
 go_enter func147,ntmps147;go_wp2_with fail;refine(empty_any _ _ _).mono ?_;rintro e w1 ⟨rfl,CE⟩;obtain⟨Dn,Ep⟩:=aL CE;have CH:=aH CE;have Dd:w.heap.size<w1.heap.size:=by(have:=CE.size;(try simp at this)<;>omega)
 have Dc:w.heap.size+1<w1.heap.size:=by(have:=CE.size;(try simp at this)<;>omega)
 have Dw:w.heap.size+1+1<w1.heap.size:=by(have:=CE.size;(try simp at this)<;>omega)
 clear CE;go_wp2_with fail;refine(empty_any _ _ _).mono ?_;rintro e w2 ⟨rfl,CM⟩;obtain⟨EA,hf2⟩:=aL CM;have CL:=aH CM;have I0:w.heap.size<w2.heap.size:=by(have:=CM.size;(try simp at this)<;>omega)
 have II:w.heap.size+1<w2.heap.size:=by(have:=CM.size;(try simp at this)<;>omega)
 have Fl:w.heap.size+1+1<w2.heap.size:=by(have:=CM.size;(try simp at this)<;>omega)
 clear CM;go_wp2_with fail;refine(rU _).mono ?_;rintro e w3 ⟨rfl,CO⟩;obtain⟨FW,hf3⟩:=aL CO;have CS:=aH CO;have Fg:w.heap.size<w3.heap.size:=by(have:=CO.size;(try simp at this)<;>omega)
 have Fj:w.heap.size+1<w3.heap.size:=by(have:=CO.size;(try simp at this)<;>omega)
 have Fe:w.heap.size+1+1<w3.heap.size:=by(have:=CO.size;(try simp at this)<;>omega)
 clear CO;go_wp2;refine bP (v:=.agg #[.int .i64 0,.int .i64 (-1)]) (by simp[results,results147,go_sem,Dn,EA,FW,Dw,Fl]) rfl ⟨rfl,?_⟩;(repeat (first|exact bR _ _|(with_reducible refine bS ?_ (by simp<;>omega))|(with_reducible refine bL ?_ _)|(with_reducible refine bC ?_ CH.out)|(with_reducible refine bC ?_ CL.out)|(with_reducible refine bC ?_ CS.out)|(with_reducible refine bC ?_ CW.out)))
theorem xh (a b c d:Int) (h:b<a) (k:¬d<c) (w:World):Calls prog 147 #[.agg #[.int .i64 a,.int .i64 b],.agg #[.int .i64 c,.int .i64 d]] w fun e w'=>e=.returned (.agg #[.int .i64 c,.int .i64 d])∧Bw w w':=by
 go_enter func147,ntmps147;go_wp2_with fail;refine(empty_any _ _ _).mono ?_;rintro e w1 ⟨rfl,CE⟩;obtain⟨Dn,Ep⟩:=aL CE;have CH:=aH CE;have Dd:w.heap.size<w1.heap.size:=by(have:=CE.size;(try simp at this)<;>omega)
 have Dc:w.heap.size+1<w1.heap.size:=by(have:=CE.size;(try simp at this)<;>omega)
 have Dw:w.heap.size+1+1<w1.heap.size:=by(have:=CE.size;(try simp at this)<;>omega)
 clear CE;go_wp2_with fail;refine(empty_any _ _ _).mono ?_;rintro e w2 ⟨rfl,CM⟩;obtain⟨EA,hf2⟩:=aL CM;have CL:=aH CM;have I0:w.heap.size<w2.heap.size:=by(have:=CM.size;(try simp at this)<;>omega)
 have II:w.heap.size+1<w2.heap.size:=by(have:=CM.size;(try simp at this)<;>omega)
 have Fl:w.heap.size+1+1<w2.heap.size:=by(have:=CM.size;(try simp at this)<;>omega)
 clear CM;go_wp2_with fail;refine(empty_any _ _ _).mono ?_;rintro e w3 ⟨rfl,CO⟩;obtain⟨FW,hf3⟩:=aL CO;have CS:=aH CO;have Fg:w.heap.size<w3.heap.size:=by(have:=CO.size;(try simp at this)<;>omega)
 have Fj:w.heap.size+1<w3.heap.size:=by(have:=CO.size;(try simp at this)<;>omega)
 have Fe:w.heap.size+1+1<w3.heap.size:=by(have:=CO.size;(try simp at this)<;>omega)
 clear CO;go_wp2;refine bP (v:=.agg #[.int .i64 c,.int .i64 d]) (by simp[results,results147,go_sem,Dn,EA,FW,Dw,Fl]) rfl ⟨rfl,?_⟩;(repeat (first|exact bR _ _|(with_reducible refine bS ?_ (by simp<;>omega))|(with_reducible refine bL ?_ _)|(with_reducible refine bC ?_ CH.out)|(with_reducible refine bC ?_ CL.out)|(with_reducible refine bC ?_ CS.out)|(with_reducible refine bC ?_ CW.out)))
theorem wm (a b c d:Int) (h:¬b<a) (k:d<c) (w:World):Calls prog 147 #[.agg #[.int .i64 a,.int .i64 b],.agg #[.int .i64 c,.int .i64 d]] w fun e w'=>e=.returned (.agg #[.int .i64 a,.int .i64 b])∧Bw w w':=by
 go_enter func147,ntmps147;go_wp2_with fail;refine(empty_any _ _ _).mono ?_;rintro e w1 ⟨rfl,CE⟩;obtain⟨Dn,Ep⟩:=aL CE;have CH:=aH CE;have Dd:w.heap.size<w1.heap.size:=by(have:=CE.size;(try simp at this)<;>omega)
 have Dc:w.heap.size+1<w1.heap.size:=by(have:=CE.size;(try simp at this)<;>omega)
 have Dw:w.heap.size+1+1<w1.heap.size:=by(have:=CE.size;(try simp at this)<;>omega)
 clear CE;go_wp2_with fail;refine(empty_any _ _ _).mono ?_;rintro e w2 ⟨rfl,CM⟩;obtain⟨EA,hf2⟩:=aL CM;have CL:=aH CM;have I0:w.heap.size<w2.heap.size:=by(have:=CM.size;(try simp at this)<;>omega)
 have II:w.heap.size+1<w2.heap.size:=by(have:=CM.size;(try simp at this)<;>omega)
 have Fl:w.heap.size+1+1<w2.heap.size:=by(have:=CM.size;(try simp at this)<;>omega)
 clear CM;go_wp2_with fail;refine(empty_any _ _ _).mono ?_;rintro e w3 ⟨rfl,CO⟩;obtain⟨FW,hf3⟩:=aL CO;have CS:=aH CO;have Fg:w.heap.size<w3.heap.size:=by(have:=CO.size;(try simp at this)<;>omega)
 have Fj:w.heap.size+1<w3.heap.size:=by(have:=CO.size;(try simp at this)<;>omega)
 have Fe:w.heap.size+1+1<w3.heap.size:=by(have:=CO.size;(try simp at this)<;>omega)
 clear CO;go_wp2;refine bP (v:=.agg #[.int .i64 a,.int .i64 b]) (by simp[results,results147,go_sem,Dn,EA,FW,Dw,Fl]) rfl ⟨rfl,?_⟩;(repeat (first|exact bR _ _|(with_reducible refine bS ?_ (by simp<;>omega))|(with_reducible refine bL ?_ _)|(with_reducible refine bC ?_ CH.out)|(with_reducible refine bC ?_ CL.out)|(with_reducible refine bC ?_ CS.out)|(with_reducible refine bC ?_ CW.out)))
theorem xg (a b c d:Int) (h:¬b<a) (k:¬d<c) (w:World):Calls prog 147 #[.agg #[.int .i64 a,.int .i64 b],.agg #[.int .i64 c,.int .i64 d]] w fun e w'=>e=.returned (.agg #[.int .i64 (min a c),.int .i64 (max b d)])∧Bw w w':=by
 by_cases ha:a≤c<;>by_cases hd:d≤b;all_goals
  go_enter func147,ntmps147;go_wp2_with fail;refine(empty_any _ _ _).mono ?_;rintro e w1 ⟨rfl,CE⟩;obtain⟨Dn,Ep⟩:=aL CE;have CH:=aH CE;have Dd:w.heap.size<w1.heap.size:=by(have:=CE.size;(try simp at this)<;>omega)
  have Dc:w.heap.size+1<w1.heap.size:=by(have:=CE.size;(try simp at this)<;>omega)
  have Dw:w.heap.size+1+1<w1.heap.size:=by(have:=CE.size;(try simp at this)<;>omega)
  clear CE;go_wp2_with fail;refine(empty_any _ _ _).mono ?_;rintro e w2 ⟨rfl,CM⟩;obtain⟨EA,hf2⟩:=aL CM;have CL:=aH CM;have I0:w.heap.size<w2.heap.size:=by(have:=CM.size;(try simp at this)<;>omega)
  have II:w.heap.size+1<w2.heap.size:=by(have:=CM.size;(try simp at this)<;>omega)
  have Fl:w.heap.size+1+1<w2.heap.size:=by(have:=CM.size;(try simp at this)<;>omega)
  clear CM;go_wp2_with fail;refine(empty_any _ _ _).mono ?_;rintro e w3 ⟨rfl,CO⟩;obtain⟨FW,hf3⟩:=aL CO;have CS:=aH CO;have Fg:w.heap.size<w3.heap.size:=by(have:=CO.size;(try simp at this)<;>omega)
  have Fj:w.heap.size+1<w3.heap.size:=by(have:=CO.size;(try simp at this)<;>omega)
  have Fe:w.heap.size+1+1<w3.heap.size:=by(have:=CO.size;(try simp at this)<;>omega)
  clear CO;go_wp2;refine bP (v:=.agg #[.int .i64 (min a c),.int .i64 (max b d)]) (by simp[results,results147,go_sem,Dn,EA,FW,Dw,Fl];omega) rfl ⟨rfl,?_⟩;(repeat (first|exact bR _ _|(with_reducible refine bS ?_ (by simp<;>omega))|(with_reducible refine bL ?_ _)|(with_reducible refine bC ?_ CH.out)|(with_reducible refine bC ?_ CL.out)|(with_reducible refine bC ?_ CS.out)|(with_reducible refine bC ?_ CW.out)))
theorem hull_any (p q:Int×Int) (w:World):Calls prog 147 #[.agg #[.int .i64 p.1,.int .i64 p.2],.agg #[.int .i64 q.1,.int .i64 q.2]] w fun e w'=>e=.returned (.agg #[.int .i64 (eN p q).1,.int .i64 (eN p q).2])∧Bw w w':=by
 obtain⟨a,b⟩:=p;obtain⟨c,d⟩:=q;by_cases h:b<a<;>by_cases k:d<c
 ·rw[sH h k];exact xH a b c d h k w
 ·rw[ud h k];exact xh a b c d h k w
 ·rw[tj h k];exact wm a b c d h k w
 ·rw[hullV_yy h k];exact xg a b c d h k w
end Go.Proofs.YtmecohdedghiaaaGreatDoor.Sp
