/- Is a deck too large to be looked at; what a well holds at most, and at first: what the program and the reference answer. -/
import Derived.Test.YtmecohdedghiaaaGreatDoorPo00
import Derived.Test.YtmecohdedghiaaaGreatDoorPo06
import Derived.StillTailTactics
set_option maxRecDepth 100000
set_option maxHeartbeats 8000000
open Go.Proofs.Tryz
namespace Go.Proofs.YtmecohdedghiaaaGreatDoor
open Go.RowKit
noncomputable def ak (d:Dk):List Q4:=if aJ d=0 then bM d else []
theorem df (us:List Q4) (u:Q4):ar (us++[u])=ar us++aw u:=by
 unfold ar;rw[List.flatMap_append];simp
theorem ct (us:List Q4) (h:∀u∈us,pg u):(ar us).length≤1536*us.length:=by
 induction us with
 |nil=>simp[ar]
 |cons u us ih=>
  rw[gu,List.length_append,bx,List.length_cons];have:=(cK (h u (by simp))).2.2.2.2.2.2;have:=ih (fun u hu=>h u (by simp[hu]));omega
theorem m8 (i:Nat):aw (bT i)=[⟨3,i,0,0⟩]:=by
 unfold aw co bT cH;simp[List.range_succ]
theorem fV (d:Dk) (h:OkD d) (i:Nat) (hi:i<d.pl.length):pg (aE d.pl i):=by
 have:=h.p4;exact⟨.inl rfl,show(0:Int)≤(i:Int)by omega,show(i:Int)≤23 by omega,bi (h.pl i hi)⟩
theorem i9 (d:Dk) (h:OkD d) (i:Nat) (hi:i<d.rl.length):pg (ba d.rl i):=by
 have:=h.r4;exact⟨.inr (.inl rfl),show(0:Int)≤(i:Int)by omega,show(i:Int)≤23 by omega,h.rl i hi⟩
theorem rZ (i:Nat) (hi:i≤23):pg (bT i):=⟨.inr (.inr rfl),show(0:Int)≤(i:Int)by omega,show(i:Int)≤23 by omega,(by decide:bG 1 1=true)⟩
theorem fp {f:Nat→Q4} {n k:Nat} (h:∀i,i<n→pg (f i)) (hk:k≤n):∀u∈(List.range k).map f,pg u:=by
 intro u hu;obtain⟨i,hi,rfl⟩:=List.mem_map.1 hu;exact h i (by have:=List.mem_range.1 hi;omega)
theorem dI (d:Dk) (w:World) (hd:d.In w w.heap.size):Calls prog 55 #[d.v] w fun e w'=>∃v,e=.returned v∧KQ.Own w' w.heap.size v (ak d)∧Bw w w':=by
 have HC:=aH (fun w h=>gv d w h);have HD:=aH hd;have Fd:=aH hd.b.len;have Ev:=aH hd.p.len;have Pt:=aH hd.r.len;obtain⟨w0,hw0⟩:∃w0,w0=w.alloc d.ob:=⟨_,rfl⟩;have CG:=aH (cI hw0);have CR:=aH (HD.out.then CG.out);have HF:=aH (show ∀w1,Bw w0 w1→(w1.cell? ⟨w.heap.size,0,none⟩=some (.slice d.bA d.bn d.bc)∧w1.cell? ⟨w.heap.size,1,none⟩=some (.slice d.pA d.pn d.pc)∧w1.cell? ⟨w.heap.size,2,none⟩=some (.slice d.rA d.rn d.rc)∧w1.cell? ⟨w.heap.size,3,none⟩=some (.int .i64 d.arms))from by
   intro w1 hb;refine⟨kK hb ?_,kK hb ?_,kK hb ?_,kK hb ?_⟩;all_goals (rw[hw0];simp))
 by_cases hz:aJ d=0
 ·have Dj:=aU d hz;have Dh:=aH Dj;have HP:=aH (show ak d=ar ((List.range d.pl.length).map (aE d.pl))++ar ((List.range d.rl.length).map (ba d.rl))++ar ((List.range (d.bl.length-1)).map bT)by unfold ak;rw[if_pos hz];unfold bM ar bD;rw[List.flatMap_append,List.flatMap_append]);obtain⟨P,hP⟩:∃P,P=ak d:=⟨_,rfl⟩;rw[←hP]at HP⊢;rw[hz]at HC;have KD:=aH (fV d Dj);have H6:=aH (i9 d Dj);have p4:=Dj.p4;have r4:=Dj.r4;have b2:=Dj.rise.two;have b3:=Dj.rise.most;clear hz hP Dj hd;rw[←Fd.out]at b2 b3 HP;rw[←Ev.out]at p4 HP KD;rw[←Pt.out]at r4 HP H6;go_enter func55,ntmps55;go_wp2_with fail;rw[←hw0];clear hw0;refine(HC.out _ CR.out).mono ?_;rintro e w1 ⟨rfl,CE⟩;have CH:=aH CE;clear CE;go_wp2
  go_loopw [3,4] (fun v i wr=>∃k:Nat,k≤d.pn∧i=.int .i64 k∧KQ.Own wr w0.heap.size v (ar ((List.range k).map (aE d.pl)))∧Bw w0 wr) (fun _ i _=>d.pn-(intOf i).toNat)
  case atStart=>exact⟨0,Nat.zero_le _,rfl,Lk.Own.nil _ _,CH.out⟩
  case round=>
   obtain⟨k,hk,rfl,CF,CP⟩:=hrel;have HO:=aH CF;have HB:=aH CP;clear CF CP;obtain⟨f0,f1,f2,f3⟩:=HF.out wr HB.out;by_cases CI:k<d.pn
   ·obtain⟨b,off,hA,hb,hc,CD⟩:=aQ CR.out.p (by have:=Ev.out;omega);obtain⟨e0,e1,_⟩:=CD k (by have:=Ev.out;omega);have HS:=aH (show ar ((List.range (k+1)).map (aE d.pl))=ar ((List.range k).map (aE d.pl))++aw (aE d.pl k)by rw[bQ,df]);have hu:aE d.pl k=⟨1,k,(d.pl.getD k KP.dflt).rows,(d.pl.getD k KP.dflt).cols⟩:=rfl;have ho:=KD.out k CI;rw[hu]at HS ho;have MO:=aH (gC _ ho);have CV:=aH (show(ar ((List.range k).map (aE d.pl))).length≤1536*4 by
     have:=ct _ (fp (f:=aE d.pl) (n:=d.pn) (fun i hi=>KD.out i hi) hk);simp at this;omega)
    have JN:=aH (show(aw ⟨1,k,(d.pl.getD k KP.dflt).rows,(d.pl.getD k KP.dflt).cols⟩).length≤1536 by rw[bx];exact(cK ho).2.2.2.2.2.2);rw[hA]at f1;clear CD hu ho f0 f2 f3;dsimp only at MO;generalize d.pl.getD k KP.dflt=q at *;generalize ar ((List.range k).map (aE d.pl))=L at *;have EU:=aH (show ∀w',Bw w0 w'→w'.cell? ⟨w.heap.size,1,none⟩=some (.slice (some ⟨b,off,none⟩) d.pn d.pc)∧w'.cell? ⟨b,off+k*7,none⟩=some (.int .i64 q.rows)∧w'.cell? ⟨b,off+k*7+1,none⟩=some (.int .i64 q.cols)from fun w' hb=>⟨by rw[←hA];exact(HF.out w' hb).2.1,kK hb e0,kK hb e1⟩);obtain⟨g0,g1,g2⟩:=EU.out wr HB.out;clear e0 e1 hA;go_wp2_with fail;refine Cp ⟨g0,g1,g2⟩ (by kernel_rfl) (fun CC=>?_);refine wk [.k 0 18,.k 1 19,.k 2 20,.k 3 21,.k 4 22,.k 5 23,.k 6 24,.k 7 25,.k 8 26,.k 9 27,.k 10 28,.k 11 29,.k 12 30,.k 13 31] (fun _ _ _ _ _ h=>h) CC ?_ (by kernel_rfl);repeat (refine .k (v:=?_) rfl (by kernel_rfl) ?_ ?_;rotate_left 1;(intro w h;go_simp<;>try rfl);try simp only[sp])
    refine .nil ?_;clear g0 g1 g2;have Fy:=aH (show KQ.Own wr.drew w0.heap.size _ L from HO.out.drew);have Fx:=aH (show Bw w0 wr.drew from HB.out.drew);generalize wr.drew=w2 at *;refine wQ 14 (some 32) rfl (fun K hK=>?_) (by kernel_rfl);go_simp;refine(MO.out _).mono ?_;rintro e w3 ⟨v3,rfl,hown3,CO⟩;have Eo:=aH (Fy.out.below CO);have Pj:=aH (hown3.isL (by have:=JN.out;omega));have CS:=aH (bC Fx.out CO);clear hown3 CO;go_wp2_with fail;refine hK.out _ _ ?_ (fun CC=>?_)
    ·exact EU.out w3 CS.out
    clear hK K;(try simp only[sp]);refine wQ 15 (some 33) rfl (fun K hK=>?_) (by kernel_rfl);refine Lk.wp_app (K:=KQ) w3 _ _ rfl rfl w0.heap.size w3.heap.size _ v3 L _ rfl rfl Eo.out Pj.out ?_ CS.out.size ?_
    ·have:=CV.out;have:=JN.out;omega
    intro v4 w4 hown4 hgr4 _;have DB:=aH hown4;have CW:=aH (Lk.Own.grow' Eo.out CS.out CS.out.size hgr4);clear hown4 hgr4;refine hK.out _ _ ?_ (fun CC=>?_)
    ·exact EU.out w4 CW.out
    clear hK K;(try simp only[sp]);refine wk [.k 16 3] (fun _ _ _ _ _ h=>h) CC ?_ (by kernel_rfl);repeat (refine .k (v:=?_) rfl (by kernel_rfl) ?_ ?_;rotate_left 1;(intro w h;go_simp<;>try rfl);try simp only[sp])
    refine .nil ?_;refine wD (by kernel_rfl) ?_;go_wp2
    go_roundw
    case rel=>exact⟨k+1,by omega,ai (by omega),by rw[HS.out];exact DB.out,CW.out⟩
    case measure=>simp[intOf];omega
   ·obtain rfl:k=d.pn:=(by omega);have Ej:=aH (show(ar ((List.range d.pn).map (aE d.pl))).length≤1536*4 by
     have:=ct _ (fp (f:=aE d.pl) (n:=d.pn) (fun i hi=>KD.out i hi) (nR _));simp at this;omega)
    obtain⟨PA,hPA⟩:∃PA,PA=ar ((List.range d.pn).map (aE d.pl)):=⟨_,rfl⟩;rw[←hPA]at HP HO Ej;clear hPA;obtain⟨w1,Fs⟩:∃w1,w1=wr:=⟨_,rfl⟩;subst Fs;obtain⟨va,hva⟩:∃v,v=u3:=⟨_,rfl⟩;rw[←hva]at HO;go_wp2;clear f0 f1 f2 f3
    go_loopw [3,5] (fun v i wr=>∃k:Nat,k≤d.rn∧i=.int .i64 k∧KQ.Own wr w0.heap.size v (PA++ar ((List.range k).map (ba d.rl)))∧Bw w0 wr) (fun _ i _=>d.rn-(intOf i).toNat)
    case atStart=>exact⟨0,Nat.zero_le _,rfl,by rw[←hva];simpa [ar]using HO.out,HB.out⟩
    case round=>
     clear HO;obtain⟨k,hk,rfl,CF,CP⟩:=hrel;have HO:=aH CF;have CL:=aH CP;clear CF CP;obtain⟨f0,f1,f2,f3⟩:=HF.out wr CL.out;by_cases CI:k<d.rn
     ·obtain⟨b,off,hA,hb,hc,CD⟩:=bu CR.out.r (by have:=Pt.out;omega);obtain⟨e0,e1,_⟩:=CD k (by have:=Pt.out;omega);have HS:=aH (show PA++ar ((List.range (k+1)).map (ba d.rl))=(PA++ar ((List.range k).map (ba d.rl)))++aw (ba d.rl k)by rw[bQ,df,List.append_assoc]);have hu:ba d.rl k=⟨2,k,(d.rl.getD k KR.dflt).rows,(d.rl.getD k KR.dflt).cols⟩:=rfl;have ho:=H6.out k CI;rw[hu]at HS ho;have MO:=aH (gC _ ho);have CV:=aH (show(PA++ar ((List.range k).map (ba d.rl))).length≤1536*8 by
       have:=ct _ (fp (f:=ba d.rl) (n:=d.rn) (fun i hi=>H6.out i hi) hk);have h2:=Ej.out;rw[List.length_append];simp at this;omega)
      have JN:=aH (show(aw ⟨2,k,(d.rl.getD k KR.dflt).rows,(d.rl.getD k KR.dflt).cols⟩).length≤1536 by rw[bx];exact(cK ho).2.2.2.2.2.2);rw[hA]at f2;clear CD hu ho f0 f1 f3;dsimp only at MO;generalize d.rl.getD k KR.dflt=q at *;generalize PA++ar ((List.range k).map (ba d.rl))=L at *;have EU:=aH (show ∀w',Bw w0 w'→w'.cell? ⟨w.heap.size,2,none⟩=some (.slice (some ⟨b,off,none⟩) d.rn d.rc)∧w'.cell? ⟨b,off+k*5,none⟩=some (.int .i64 q.rows)∧w'.cell? ⟨b,off+k*5+1,none⟩=some (.int .i64 q.cols)from fun w' hb=>⟨by rw[←hA];exact(HF.out w' hb).2.2.1,kK hb e0,kK hb e1⟩);obtain⟨g0,g1,g2⟩:=EU.out wr CL.out;clear e0 e1 hA;go_wp2_with fail;refine Cp ⟨g0,g1,g2⟩ (by kernel_rfl) (fun CC=>?_);refine wk [.k 0 41,.k 1 42,.k 2 43,.k 3 44,.k 4 45,.k 5 46,.k 6 47,.k 7 48,.k 8 49,.k 9 50,.k 10 51,.k 11 52,.k 12 53,.k 13 54] (fun _ _ _ _ _ h=>h) CC ?_ (by kernel_rfl);repeat (refine .k (v:=?_) rfl (by kernel_rfl) ?_ ?_;rotate_left 1;(intro w h;go_simp<;>try rfl);try simp only[sp])
      refine .nil ?_;clear g0 g1 g2;have Fy:=aH (show KQ.Own wr.drew w0.heap.size _ L from HO.out.drew);have Fx:=aH (show Bw w0 wr.drew from CL.out.drew);generalize wr.drew=w2 at *;refine wQ 14 (some 55) rfl (fun K hK=>?_) (by kernel_rfl);go_simp;refine(MO.out _).mono ?_;rintro e w3 ⟨v3,rfl,hown3,CO⟩;have Eo:=aH (Fy.out.below CO);have Pj:=aH (hown3.isL (by have:=JN.out;omega));have CS:=aH (bC Fx.out CO);clear hown3 CO;go_wp2_with fail;refine hK.out _ _ ?_ (fun CC=>?_)
      ·exact EU.out w3 CS.out
      clear hK K;(try simp only[sp]);refine wQ 15 (some 56) rfl (fun K hK=>?_) (by kernel_rfl);refine Lk.wp_app (K:=KQ) w3 _ _ rfl rfl w0.heap.size w3.heap.size _ v3 L _ rfl rfl Eo.out Pj.out ?_ CS.out.size ?_
      ·have:=CV.out;have:=JN.out;omega
      intro v4 w4 hown4 hgr4 _;have DB:=aH hown4;have CW:=aH (Lk.Own.grow' Eo.out CS.out CS.out.size hgr4);clear hown4 hgr4;refine hK.out _ _ ?_ (fun CC=>?_)
      ·exact EU.out w4 CW.out
      clear hK K;(try simp only[sp]);refine wk [.k 16 3] (fun _ _ _ _ _ h=>h) CC ?_ (by kernel_rfl);repeat (refine .k (v:=?_) rfl (by kernel_rfl) ?_ ?_;rotate_left 1;(intro w h;go_simp<;>try rfl);try simp only[sp])
      refine .nil ?_;refine wD (by kernel_rfl) ?_;go_wp2
      go_roundw
      case rel=>exact⟨k+1,by omega,ai (by omega),by rw[HS.out];exact DB.out,CW.out⟩
      case measure=>simp[intOf];omega
     ·obtain rfl:k=d.rn:=(by omega);have NJ:=aH (show(PA++ar ((List.range d.rn).map (ba d.rl))).length≤1536*8 by
       have:=ct _ (fp (f:=ba d.rl) (n:=d.rn) (fun i hi=>H6.out i hi) (nR _));have h2:=Ej.out;rw[List.length_append];simp at this;omega)
      obtain⟨PB,hPB⟩:∃PB,PB=PA++ar ((List.range d.rn).map (ba d.rl)):=⟨_,rfl⟩;rw[←hPB]at HP HO NJ;clear hPB;obtain⟨w2,F6⟩:∃w2,w2=wr:=⟨_,rfl⟩;subst F6;obtain⟨vb,hvb⟩:∃v,v=u3:=⟨_,rfl⟩;rw[←hvb]at HO;go_wp2;clear f0 f1 f2 f3
      go_loopw [3,6] (fun v i wr=>∃k:Nat,k≤d.bn-1∧i=.int .i64 k∧KQ.Own wr w0.heap.size v (PB++ar ((List.range k).map bT))∧Bw w0 wr) (fun _ i _=>d.bn-(intOf i).toNat)
      case atStart=>exact⟨0,by omega,rfl,by rw[←hvb];simpa [ar]using HO.out,CL.out⟩
      case round=>
       clear HO;obtain⟨k,hk,rfl,CF,CP⟩:=hrel;have HO:=aH CF;have CS:=aH CP;clear CF CP;obtain⟨f0,f1,f2,f3⟩:=HF.out wr CS.out;by_cases CI:k<d.bn-1
       ·have HS:=aH (show PB++ar ((List.range (k+1)).map bT)=(PB++ar ((List.range k).map bT))++[⟨3,k,0,0⟩]by rw[bQ,df,m8,List.append_assoc]);have Dh:=aH (show KQ.ok ⟨3,k,0,0⟩from⟨(by decide:ae 3),(show ae (k:Int)by unfold ae;omega),(by decide:ae 0),(by decide:ae 0)⟩);have CV:=aH (show(PB++ar ((List.range k).map bT)).length≤1536*8+1536*25 by
         have:=ct _ (fp (f:=bT) (n:=k) (fun i hi=>rZ i (by omega)) (nR _));have h2:=NJ.out;rw[List.length_append];simp at this;omega)
        generalize PB++ar ((List.range k).map bT)=L at *;go_wp2_with (at_builtin;refine Lk.wpList_app (K:=KQ) _ rfl _ _ rfl rfl w0.heap.size (wr.heap.size+1) _ _ L [⟨3,k,0,0⟩] rfl rfl (HO.out.alloc _) (Lk.IsL.lit (K:=KQ) _ ⟨3,k,0,0⟩ _ Dh.out rfl wr.heap.size rfl) ?c1 ?c2 ?_)
        case c1=>have:=CV.out;simp;omega
        case c2=>have:=CS.out.size;simp;omega
        intro v1 w4 CF hgrow _;have CW:=aH (Lk.Own.grow' (HO.out.alloc _) (bL CS.out _) (by have:=CS.out.size;simp;omega) hgrow);have DB:=aH CF;clear CF hgrow;go_wp2
        go_roundw
        case rel=>exact⟨k+1,by omega,ai (by omega),by rw[HS.out];exact DB.out,CW.out⟩
        case measure=>simp[intOf];omega
       ·have RE:k=d.bn-1:=(by omega);have TK:=aH RE;have Uv:(d.bn:Int)-1≤k:=(by omega);clear RE;go_wp2
        go_ret
        exact⟨_,rfl,by rw[HP.out,←TK.out];exact HO.out.mono CG.out.size,bC CG.out CS.out⟩
 ·have T:ak d=[]:=by unfold ak;rw[if_neg hz]
  rw[T];have GB:(aJ d != 0)=true:=by rw[bne_iff_ne];exact hz
  clear T hz hd;generalize aJ d=c at *;go_enter func55,ntmps55;go_wp2_with fail;rw[←hw0];clear hw0;refine(HC.out _ CR.out).mono ?_;rintro e w1 ⟨rfl,CE⟩;have CH:=aH CE;clear CE;go_wp2
  go_ret
  exact⟨_,rfl,Lk.Own.nil _ _,bC CG.out CH.out⟩
def Cn (p:Q4):Prop:=(p.a=1∨p.a=2∨p.a=3)∧0≤p.b∧p.b≤23∧0≤p.c∧p.c≤31∧0≤p.d∧p.d≤47∧(p.a=3→p.c=0∧p.d=0)
theorem tG (u:Q4) (hu:pg u) (hl:u.a=3→u.c=1∧u.d=1):∀p∈aw u,Cn p:=by
 obtain⟨o1,o2,o3,o4,o5,o6,o7⟩:=cK hu;obtain⟨s1,s2,s3,s4⟩:=dP hu.2.2.2;intro p hp;unfold aw at hp;obtain⟨i,hi,rfl⟩:=List.mem_map.1 hp;have hi:=List.mem_range.1 hi;have a1:i/u.d.toNat<u.c.toNat:=(Nat.div_lt_iff_lt_mul (by omega)).2 hi;have a2:i%u.d.toNat<u.d.toNat:=Nat.mod_lt _ (by omega);unfold cH;generalize i/u.d.toNat=r at *;generalize i%u.d.toNat=c at *;refine⟨hu.1,hu.2.1,hu.2.2.1,show(0:Int)≤(r:Int)by omega,show(r:Int)≤31 by omega,show(0:Int)≤(c:Int)by omega,show(c:Int)≤47 by omega,fun h=>?_⟩;obtain⟨h1,h2⟩:=hl h;exact⟨show(r:Int)=0 by omega,show(c:Int)=0 by omega⟩
theorem ov (d:Dk):∀u∈bD d,u.a=3→u.c=1∧u.d=1:=by
 intro u hu h;unfold bD at hu;rcases List.mem_append.1 hu with hu|hu
 ·rcases List.mem_append.1 hu with hu|hu
  ·obtain⟨i,hi,rfl⟩:=List.mem_map.1 hu;exact absurd h (show ¬(1:Int)=3 by decide)
  ·obtain⟨i,hi,rfl⟩:=List.mem_map.1 hu;exact absurd h (show ¬(2:Int)=3 by decide)
 ·obtain⟨i,hi,rfl⟩:=List.mem_map.1 hu;exact⟨rfl,rfl⟩
theorem eA (d:Dk):∀p∈ak d,Cn p:=by
 intro p hp;unfold ak at hp;by_cases hz:aJ d=0
 ·rw[if_pos hz]at hp;unfold bM ar at hp;obtain⟨u,hu,hp⟩:=List.mem_flatMap.1 hp;exact tG u (ff d (aU d hz) u hu) (ov d u hu) p hp
 ·rw[if_neg hz]at hp;simp at hp
theorem eg (d:Dk):(ak d).length≤49152:=by
 unfold ak;by_cases hz:aJ d=0
 ·rw[if_pos hz];have h:=ct _ (ff d (aU d hz));have h2:=j5 d (aU d hz);unfold bM;omega
 ·rw[if_neg hz];simp
theorem sK (k:Int):bZ k []=0:=rfl
theorem mx (k:Int) (f:Nat→Q4) (n:Nat) (j:Int) (hj:∀i,(f i).a=j):bZ k (ar ((List.range n).map f))=if j=k then(((List.range n).map fun i=>(co (f i):Int)).sum)else 0:=by
 induction n with
 |zero=>simp[ar,sK]
 |succ n ih=>
  rw[bQ,df,dz,ih,tN,hj n,bQ,List.sum_append];by_cases h:j=k
  ·rw[if_pos h,if_pos h,if_pos h];simp
  ·rw[if_neg h,if_neg h,if_neg h];rfl
theorem i6 (l:List Pl) (h:∀i,i<l.length→pg (aE l i)):∀n,n≤l.length→((List.range n).map fun i=>(co (aE l i):Int)).sum=aC (l.take n):=by
 intro n
 induction n with
 |zero=>intro _;rfl
 |succ n ih=>
  intro hn;rw[bQ,List.sum_append,ih (by omega),cU l n (by omega)];have:=(cK (h n (by omega))).2.2.2.2.1;have e:(aE l n).c*(aE l n).d=(l.getD n KP.dflt).rows*(l.getD n KP.dflt).cols:=rfl;rw[e]at this;rw[this];simp
theorem jL (l:List Rk) (h:∀i,i<l.length→pg (ba l i)):∀n,n≤l.length→((List.range n).map fun i=>(co (ba l i):Int)).sum=bj (l.take n):=by
 intro n
 induction n with
 |zero=>intro _;rfl
 |succ n ih=>
  intro hn;rw[bQ,List.sum_append,ih (by omega),ep l n (by omega)];have:=(cK (h n (by omega))).2.2.2.2.1;have e:(ba l n).c*(ba l n).d=(l.getD n KR.dflt).rows*(l.getD n KR.dflt).cols:=rfl;rw[e]at this;rw[this];simp
theorem re (n:Nat):((List.range n).map fun i=>(co (bT i):Int)).sum=n:=by
 induction n with
 |zero=>rfl
 |succ n ih=>
  rw[bQ,List.sum_append,ih];simp[co,bT]
theorem tT (d:Dk):ci d=(bZ 1 (ak d),bZ 2 (ak d),bZ 3 (ak d)):=by
 unfold ci ak;by_cases hz:aJ d=0
 ·have Dj:=aU d hz;rw[if_pos hz,if_pos hz];have e:bM d=ar ((List.range d.pl.length).map (aE d.pl))++ar ((List.range d.rl.length).map (ba d.rl))++ar ((List.range (d.bl.length-1)).map bT):=by
   unfold bM ar bD;rw[List.flatMap_append,List.flatMap_append]
  have c:=fun k=>show bZ k (bM d)=_ from by rw[e,dz,dz,mx k (aE d.pl) _ 1 (fun _=>rfl),mx k (ba d.rl) _ 2 (fun _=>rfl),mx k bT _ 3 (fun _=>rfl),i6 d.pl (fun i hi=>fV d Dj i hi) _ (nR _),jL d.rl (fun i hi=>i9 d Dj i hi) _ (nR _),re,List.take_length,List.take_length]
  rw[c 1,c 2,c 3];have h2:=Dj.rise.two;simp;omega
 ·rw[if_neg hz,if_neg hz];rfl
theorem iQ (k:Int) (l:List Q4) (i:Nat) (h:i<l.length):bZ k (l.take (i+1))=bZ k (l.take i)+(if (l.getD i ⟨0,0,0,0⟩).a=k then 1 else 0):=by
 rw[aX l i ⟨0,0,0,0⟩ h,dz]
 congr 1
 unfold bZ;generalize l.getD i ⟨0,0,0,0⟩=q;by_cases hk:q.a=k
 ·rw[if_pos hk];simp[hk]
 ·rw[if_neg hk];simp[hk]
theorem mW (k:Int) (l:List Q4) (i:Nat):0≤bZ k (l.take i)∧bZ k (l.take i)≤l.length:=by
 unfold bZ;have h1:=List.length_filter_le (fun p:Q4=>p.a==k) (l.take i);rw[List.length_take]at h1;omega
theorem oK (d:Dk) (id:Int) (h:aJ d=0):bh d id=eK (ak d) id:=by unfold bh ak;rw[if_pos h,if_pos h]
theorem mH (d:Dk) (w:World) (hd:d.In w w.heap.size):Calls prog 102 #[d.v] w fun e w'=>e=.returned (.tuple #[.int .i64 (ci d).1,.int .i64 (ci d).2.1,.int .i64 (ci d).2.2])∧Bw w w':=by
 have HP:=aH (fun w h=>dI d w h);have HD:=aH hd;have Dh:=aH (eA d);have CV:=aH (eg d);rw[tT];dsimp only;obtain⟨P,hP⟩:∃P,P=ak d:=⟨_,rfl⟩;rw[←hP]at HP Dh CV⊢;clear hP hd;obtain⟨w0,hw0⟩:∃w0,w0=(w.alloc d.ob).alloc (.cells #[.int .i64 0,.int .i64 0,.int .i64 0,.int .i64 0] 199):=⟨_,rfl⟩;have CG:=aH (gj hw0);have CR:=aH (HD.out.then CG.out);have D7:=aH (show w.heap.size+1<w0.heap.size by rw[hw0];simp);have HF:=aH (show ∀w1,Bw w0 w1→(w1.cell? ⟨w.heap.size+1,0,none⟩=some (.int .i64 0)∧w1.cell? ⟨w.heap.size+1,1,none⟩=some (.int .i64 0)∧w1.cell? ⟨w.heap.size+1,2,none⟩=some (.int .i64 0)∧w1.cell? ⟨w.heap.size+1,3,none⟩=some (.int .i64 0))∧
  (w1.frozen? ⟨w.heap.size+1,1,none⟩=false∧w1.frozen? ⟨w.heap.size+1,2,none⟩=false∧w1.frozen? ⟨w.heap.size+1,3,none⟩=false)from by
   intro w1 hb;have hs:w.heap.size+1<w0.heap.size:=D7.out;refine⟨⟨kK hb ?_,kK hb ?_,kK hb ?_,kK hb ?_⟩,(hb.frozen (p:=⟨_,1,none⟩) hs).trans ?_,(hb.frozen (p:=⟨_,2,none⟩) hs).trans ?_,(hb.frozen (p:=⟨_,3,none⟩) hs).trans ?_⟩;all_goals (rw[hw0];simp))
 go_enter func102,ntmps102;go_wp2_with fail;rw[←hw0];clear hw0;refine(HP.out _ CR.out).mono ?_;rintro e w3 ⟨v,rfl,CF,CO⟩;obtain⟨⟨r0,r1,r2,r3⟩,z1,z2,z3⟩:=HF.out w3 CO;have CS:=aH (bC CG.out CO);have Hn:=aH (nL D7.out CO.size);have HL:=aH (CF.isL (by have:=CV.out;omega));obtain⟨⟨A,cap,rfl,hcap,CD⟩,_,_⟩:=CF.isL (by have:=CV.out;omega);have FT:P.length≤49152:=CV.out;have UF:w0.heap.size≤w3.heap.size:=CO.size;obtain⟨B,hB⟩:∃B,KQ.IsL w3 B (.slice A P.length cap) P∧w.heap.size+1<B:=⟨_,HL.out,Hn.out⟩;have FF:=aH (CF);clear CF CO CD;go_wp2
 go_loopw [7] (fun i wr=>∃k:Nat,k≤P.length∧i=.int .i64 k∧(∀b o u,w.heap.size+1<b→w3.cell? ⟨b,o,none⟩=some u→wr.cell? ⟨b,o,none⟩=some u)∧wr.cell? ⟨w.heap.size+1,1,none⟩=some (.int .i64 (bZ 1 (P.take k)))∧wr.cell? ⟨w.heap.size+1,2,none⟩=some (.int .i64 (bZ 2 (P.take k)))∧wr.cell? ⟨w.heap.size+1,3,none⟩=some (.int .i64 (bZ 3 (P.take k)))∧
  wr.frozen? ⟨w.heap.size+1,1,none⟩=false∧wr.frozen? ⟨w.heap.size+1,2,none⟩=false∧wr.frozen? ⟨w.heap.size+1,3,none⟩=false∧Bw w wr) (fun i _=>P.length-(intOf i).toNat)
 case atStart=>exact⟨0,Nat.zero_le _,rfl,fun _ _ _ _ h=>h,r1,r2,r3,z1,z2,z3,CS.out⟩
 case round=>
  clear r0 r1 r2 r3 z1 z2 z3;obtain⟨k,hk,rfl,hkeep,r1,r2,r3,z1,z2,z3,CP⟩:=hrel;have HB:=aH CP;have Hl:=aH hkeep;clear CP hkeep;obtain⟨b1,b2⟩:=mW 1 P k;obtain⟨b3,b4⟩:=mW 2 P k;obtain⟨b5,b6⟩:=mW 3 P k;by_cases CI:k<P.length
  ·obtain⟨b,off,hA,hbB,_,CD⟩:=iy (K:=KQ) rfl rfl rfl HL.out (by omega);have Jm:w.heap.size+1<b:=by
    rcases FF.out.1.2 with ⟨h,_⟩|⟨g,c,cur,h,hb,_⟩
    ·rw[hA]at h;cases h
    ·rw[hA]at h;injection h with e1
     injection e1 with e2
     injection e2 with e3
     have:=D7.out;omega
   obtain⟨c0,_⟩:=CD k CI;have Ui:=Hl.out _ _ _ Jm c0;have S1:=aH (iQ 1 P k CI);have S2:=aH (iQ 2 P k CI);have S3:=aH (iQ 3 P k CI);obtain⟨hp,_⟩:=Dh.out _ (af P k ⟨0,0,0,0⟩ CI);subst hA;clear CD c0;generalize P.getD k ⟨0,0,0,0⟩=q at *;generalize bZ 1 (P.take k)=n1 at *;generalize bZ 2 (P.take k)=n2 at *;generalize bZ 3 (P.take k)=n3 at *;obtain⟨qa,qb,qc,qd⟩:=q;dsimp only at *;rcases hp with rfl|rfl|rfl
   ·go_wp2
    go_roundw
    case rel=>
     refine⟨k+1,by omega,ai (by omega),fun b o u h1 h2=>sO (Hl.out b o u h1 h2) (fun e=>by injection e with e1;omega),by rw[S1.out];exact ag r1,by rw[S2.out];exact sO (by simpa using r2) (by simp),by rw[S3.out];exact sO (by simpa using r3) (by simp),sF z1,sF z2,sF z3,bS HB.out (show w.heap.size≤w.heap.size+1 by omega)⟩
    case measure=>simp[intOf];omega
   ·go_wp2
    go_roundw
    case rel=>
     refine⟨k+1,by omega,ai (by omega),fun b o u h1 h2=>sO (Hl.out b o u h1 h2) (fun e=>by injection e with e1;omega),by rw[S1.out];exact sO (by simpa using r1) (by simp),by rw[S2.out];exact ag r2,by rw[S3.out];exact sO (by simpa using r3) (by simp),sF z1,sF z2,sF z3,bS HB.out (show w.heap.size≤w.heap.size+1 by omega)⟩
    case measure=>simp[intOf];omega
   ·go_wp2
    go_roundw
    case rel=>
     refine⟨k+1,by omega,ai (by omega),fun b o u h1 h2=>sO (Hl.out b o u h1 h2) (fun e=>by injection e with e1;omega),by rw[S1.out];exact sO (by simpa using r1) (by simp),by rw[S2.out];exact sO (by simpa using r2) (by simp),by rw[S3.out];exact ag r3,sF z1,sF z2,sF z3,bS HB.out (show w.heap.size≤w.heap.size+1 by omega)⟩
    case measure=>simp[intOf];omega
  ·obtain rfl:k=P.length:=(by omega);rw[List.take_length]at r1 r2 r3;clear b1 b2 b3 b4 b5 b6;go_wp2_with fail;go_quiet (fail);go_wp2
   go_ret3
   exact⟨rfl,aa HB.out _⟩
def oe (q:Pl):Bool:=decide (500<q.st.length)
def dB (d:Dk):Bool:=decide (60<d.bl.length∨8<d.pl.length∨8<d.rl.length)||d.pl.any oe
theorem kk {α:Type} (l:List α) (z:α) (f:α→Bool) (k:Nat) (h:k<l.length) (hf:f (l.getD k z)=true):l.any f=true:=List.any_eq_true.2 ⟨_,af l k z h,hf⟩
theorem zP {α:Type} (l:List α) (z:α) (f:α→Bool) (h:∀i,i<l.length→f (l.getD i z)=false):l.any f=false:=by
 rw[←Bool.not_eq_true,List.any_eq_true];rintro⟨x,hx,hf⟩;obtain⟨i,hi,rfl⟩:=List.mem_iff_getElem.1 hx;have:=h i hi;rw[List.getD_eq_getElem?_getD,List.getElem?_eq_getElem hi,Option.getD_some,hf]at this
 cases this
theorem qR (d:Dk) (w:World) (hd:d.In w w.heap.size):Calls prog 16 #[d.v] w fun e w'=>e=.returned (.bool (dB d))∧Bw w w':=by
 have HD:=aH hd;have e0:=hd.b.len;have e1:=hd.p.len;have e2:=hd.r.len;have L1:=aH (fun h:60<d.bl.length∨8<d.pl.length∨8<d.rl.length=>show dB d=true by unfold dB;rw[dT h];rfl);have L2:=aH (fun h:¬(60<d.bl.length∨8<d.pl.length∨8<d.rl.length)=>show dB d=d.pl.any oe by unfold dB;rw[dF h];rfl);have HY:=aH (kk d.pl KP.dflt oe);have HN:=aH (zP d.pl KP.dflt oe);obtain⟨C,hC⟩:∃C,C=dB d:=⟨_,rfl⟩;rw[←hC]at L1 L2⊢;clear hC;obtain⟨bA,bn,bc,bl,pA,pn,pc,pl,rA,rn,rc,rl,arms⟩:=d;dsimp only at *;subst e0 e1 e2;have lb:=hd.b.2.2;clear hd;obtain⟨w0,hw0⟩:∃w0,w0=w.alloc (.cells #[.slice bA bl.length bc,.slice pA pl.length pc,.slice rA rl.length rc,.int .i64 arms] 26):=⟨_,rfl⟩;have f1:w0.cell? ⟨w.heap.size,1,none⟩=some (.slice pA pl.length pc):=by rw[hw0];exact ap _ _ _ _ _ rfl
 have CG:=aH (cI hw0);have CR:=aH (HD.out.then CG.out);by_cases h1:60<bl.length
 ·obtain rfl:=L1.out (.inl h1);go_enter func16,ntmps16;go_wp2
  go_ret
  exact⟨rfl,by rw[←hw0];exact CG.out⟩
 ·by_cases h2:8<pl.length
  ·obtain rfl:=L1.out (.inr (.inl h2));go_enter func16,ntmps16;go_wp2
   go_ret
   exact⟨rfl,by rw[←hw0];exact CG.out⟩
  ·by_cases h3:8<rl.length
   ·obtain rfl:=L1.out (.inr (.inr h3));go_enter func16,ntmps16;go_wp2
    go_ret
    exact⟨rfl,by rw[←hw0];exact CG.out⟩
   ·have HL:=aH (L2.out (by omega));clear L1 L2;go_enter func16,ntmps16;go_wp2;rw[←hw0];clear hw0
    go_loop [3] (fun i=>∃k:Nat,k≤pl.length∧i=.int .i64 k∧∀i,i<k→oe (pl.getD i KP.dflt)=false) (fun i=>pl.length-(intOf i).toNat)
    case atStart=>exact⟨0,Nat.zero_le _,rfl,fun i hi=>by omega⟩
    case round=>
     obtain⟨k,hk,rfl,hall⟩:=hrel;have HA:=aH hall;clear hall;by_cases CI:k<pl.length
     ·obtain⟨b,off,rfl,hb,hc,CD⟩:=aQ CR.out.p (by dsimp only;omega);obtain⟨c0,c1,c2,c3,c4,c5,c6⟩:=CD k CI;have NN:=(CR.out.s _ (af pl k KP.dflt CI)).len;have Oc:=(CR.out.s _ (af pl k KP.dflt CI)).2.2;have Oe:=aH (HY.out k CI);have Gb:=aH (show ∀(h:oe (pl.getD k KP.dflt)=false) (i:Nat),i<k+1→oe (pl.getD i KP.dflt)=false from fun h i hi=>by
       by_cases e:i=k
       ·rw[e];exact h
       ·exact HA.out i (by omega))
      clear CD;dsimp only at *;rw[NN]at c6;clear NN;generalize pl.getD k KP.dflt=q at *;by_cases g:500<q.st.length
      ·have HR:=aH (Oe.out (dT g));go_wp2
       go_ret
       exact⟨aj (by rw[HL.out,HR.out]),CG.out⟩
      ·have HR:=aH (Gb.out (dF g));go_wp2
       go_round
       case rel=>exact⟨k+1,by omega,ai (by omega),HR.out⟩
       case measure=>simp[intOf];omega
     ·obtain rfl:k=pl.length:=(by omega);have HR:=aH (HN.out HA.out);go_wp2
      go_ret
      exact⟨aj (by rw[HL.out,HR.out]),CG.out⟩
theorem sD (d:Dk) (id:Int) (h:(bh d id).2=0):OkD d∧(bh d id).1∈ak d∧aJ d=0∧0≤id∧id<(ak d).length:=by
 by_cases hz:aJ d=0
 ·have e:=oK d id hz;refine⟨aU d hz,?_⟩;rw[e]at h⊢;unfold eK at h⊢;by_cases hr:id<0∨((ak d).length:Int)≤id
  ·rw[if_pos hr]at h;cases h
  ·rw[if_neg hr];exact⟨af _ _ _ (by omega),hz,by omega,by omega⟩
 ·unfold bh at h;rw[if_neg hz]at h;exact absurd h hz
end Go.Proofs.YtmecohdedghiaaaGreatDoor
