/- Is a deck too large to be looked at; what a well holds at most, and at first: what the program and the reference answer. -/
import Derived.Test.YtmecohdedghiaaaGreatDoorPn00
import Derived.Test.YtmecohdedghiaaaGreatDoorPn07
import Derived.StillTailTactics
set_option maxRecDepth 100000
set_option maxHeartbeats 8000000
namespace Go.Proofs.YtmecohdedghiaaaGreatDoor
open Go.RowKit
noncomputable def partsK (d:Dk):List Q4:=if dchk d=0 then partsL d else []
theorem partsU_snoc (us:List Q4) (u:Q4):partsU (us++[u])=partsU us++unitParts u:=by
 unfold partsU;rw[List.flatMap_append];simp
theorem partsU_len (us:List Q4) (h:∀u∈us,okU u):(partsU us).length≤1536*us.length:=by
 induction us with
 |nil=>simp[partsU]
 |cons u us ih=>
  rw[partsU_cons,List.length_append,unitParts_len,List.length_cons];have:=(okU_pos (h u (by simp))).2.2.2.2.2.2;have:=ih (fun u hu=>h u (by simp[hu]));omega
theorem lane_parts (i:Nat):unitParts (laneU i)=[⟨3,i,0,0⟩]:=by
 unfold unitParts unitN laneU unitF;simp[List.range_succ]
theorem plateU_ok (d:Dk) (h:OkD d) (i:Nat) (hi:i<d.pl.length):okU (plateU d.pl i):=by
 have:=h.p4;exact⟨.inl rfl,show(0:Int)≤(i:Int)by omega,show(i:Int)≤23 by omega,plate_size (h.pl i hi)⟩
theorem rackU_ok (d:Dk) (h:OkD d) (i:Nat) (hi:i<d.rl.length):okU (rackU d.rl i):=by
 have:=h.r4;exact⟨.inr (.inl rfl),show(0:Int)≤(i:Int)by omega,show(i:Int)≤23 by omega,h.rl i hi⟩
theorem laneU_ok (i:Nat) (hi:i≤23):okU (laneU i):=⟨.inr (.inr rfl),show(0:Int)≤(i:Int)by omega,show(i:Int)≤23 by omega,(by decide:sizeB 1 1=true)⟩
theorem upto_ok {f:Nat→Q4} {n k:Nat} (h:∀i,i<n→okU (f i)) (hk:k≤n):∀u∈(List.range k).map f,okU u:=by
 intro u hu;obtain⟨i,hi,rfl⟩:=List.mem_map.1 hu;exact h i (by have:=List.mem_range.1 hi;omega)
theorem rparts_any (d:Dk) (w:World) (hd:d.In w w.heap.size):Calls Tryz.prog 55 #[d.v] w fun e w'=>∃v,e=.returned v∧KQ.Own w' w.heap.size v (partsK d)∧Below w.heap.size w w':=by
 have HC:=aH (fun w h=>rdcheck_any d w h);have HD:=aH hd;have hbn:=aH hd.b.len;have hpn:=aH hd.p.len;have hrn:=aH hd.r.len;obtain⟨w0,hw0⟩:∃w0,w0=w.alloc d.ob:=⟨_,rfl⟩;have HB0:=aH (show Below w.heap.size w w0 by rw[hw0];exact bL (bR _ _) _);have HD0:=aH (HD.out.then HB0.out);have HF:=aH (show ∀w1,Below w0.heap.size w0 w1→(w1.cell? ⟨w.heap.size,0,none⟩=some (.slice d.bA d.bn d.bc)∧w1.cell? ⟨w.heap.size,1,none⟩=some (.slice d.pA d.pn d.pc)∧w1.cell? ⟨w.heap.size,2,none⟩=some (.slice d.rA d.rn d.rc)∧w1.cell? ⟨w.heap.size,3,none⟩=some (.int .i64 d.arms))from by
   intro w1 hb;refine⟨kK hb ?_,kK hb ?_,kK hb ?_,kK hb ?_⟩;all_goals (rw[hw0];simp))
 by_cases hz:dchk d=0
 ·have hok:=dchk_ok d hz;have HOK:=aH hok;have HP:=aH (show partsK d=partsU ((List.range d.pl.length).map (plateU d.pl))++partsU ((List.range d.rl.length).map (rackU d.rl))++partsU ((List.range (d.bl.length-1)).map laneU)by unfold partsK;rw[if_pos hz];unfold partsL partsU unitsL;rw[List.flatMap_append,List.flatMap_append]);obtain⟨P,hP⟩:∃P,P=partsK d:=⟨_,rfl⟩;rw[←hP]at HP⊢;rw[hz]at HC;have HPO:=aH (plateU_ok d hok);have HRO:=aH (rackU_ok d hok);have p4:=hok.p4;have r4:=hok.r4;have b2:=hok.rise.two;have b3:=hok.rise.most;clear hz hP hok hd;rw[←hbn.out]at b2 b3 HP;rw[←hpn.out]at p4 HP HPO;rw[←hrn.out]at r4 HP HRO;go_enter Tryz.func55,Tryz.ntmps55;go_wp2_with fail;rw[←hw0];clear hw0;refine(HC.out _ HD0.out).mono ?_;rintro e w1 ⟨rfl,hb1⟩;have HB1:=aH hb1;clear hb1;go_wp2
  go_loopw [3,4] (fun v i wr=>∃k:Nat,k≤d.pn∧i=.int .i64 k∧KQ.Own wr w0.heap.size v (partsU ((List.range k).map (plateU d.pl)))∧Below w0.heap.size w0 wr) (fun _ i _=>d.pn-(intOf i).toNat)
  case atStart=>exact⟨0,Nat.zero_le _,rfl,Lk.Own.nil _ _,HB1.out⟩
  case round=>
   obtain⟨k,hk,rfl,hown,hbl⟩:=hrel;have HO:=aH hown;have HB:=aH hbl;clear hown hbl;obtain⟨f0,f1,f2,f3⟩:=HF.out wr HB.out;by_cases hlt:k<d.pn
   ·obtain⟨b,off,hA,hb,hc,hcell⟩:=plate_cells HD0.out.p (by have:=hpn.out;omega);obtain⟨e0,e1,_⟩:=hcell k (by have:=hpn.out;omega);have HS:=aH (show partsU ((List.range (k+1)).map (plateU d.pl))=partsU ((List.range k).map (plateU d.pl))++unitParts (plateU d.pl k)by rw[map_snoc,partsU_snoc]);have hu:plateU d.pl k=⟨1,k,(d.pl.getD k KP.dflt).rows,(d.pl.getD k KP.dflt).cols⟩:=rfl;have ho:=HPO.out k hlt;rw[hu]at HS ho;have HUP:=aH (rplaces_any _ ho);have HLN:=aH (show(partsU ((List.range k).map (plateU d.pl))).length≤1536*4 by
     have:=partsU_len _ (upto_ok (f:=plateU d.pl) (n:=d.pn) (fun i hi=>HPO.out i hi) hk);simp at this;omega)
    have HUL:=aH (show(unitParts ⟨1,k,(d.pl.getD k KP.dflt).rows,(d.pl.getD k KP.dflt).cols⟩).length≤1536 by rw[unitParts_len];exact(okU_pos ho).2.2.2.2.2.2);rw[hA]at f1;clear hcell hu ho f0 f2 f3;dsimp only at HUP;generalize d.pl.getD k KP.dflt=q at *;generalize partsU ((List.range k).map (plateU d.pl))=L at *;have HSS:=aH (show ∀w',Below w0.heap.size w0 w'→w'.cell? ⟨w.heap.size,1,none⟩=some (.slice (some ⟨b,off,none⟩) d.pn d.pc)∧w'.cell? ⟨b,off+k*7,none⟩=some (.int .i64 q.rows)∧w'.cell? ⟨b,off+k*7+1,none⟩=some (.int .i64 q.cols)from fun w' hb=>⟨by rw[←hA];exact(HF.out w' hb).2.1,kK hb e0,kK hb e1⟩);obtain⟨g0,g1,g2⟩:=HSS.out wr HB.out;clear e0 e1 hA;go_wp2_with fail;refine wp_region_held_drew (S:=fun w'=>w'.cell? ⟨w.heap.size,1,none⟩=some (.slice (some ⟨b,off,none⟩) d.pn d.pc)∧w'.cell? ⟨b,off+k*7,none⟩=some (.int .i64 q.rows)∧w'.cell? ⟨b,off+k*7+1,none⟩=some (.int .i64 q.cols)) (by kernel_rfl) ?_ (fun hHeld=>?_)
    ·exact⟨g0,g1,g2⟩
    refine wk [.k 0 18,.k 1 19,.k 2 20,.k 3 21,.k 4 22,.k 5 23,.k 6 24,.k 7 25,.k 8 26,.k 9 27,.k 10 28,.k 11 29,.k 12 30,.k 13 31] (fun _ _ _ _ _ h=>h) hHeld ?_ (by kernel_rfl);repeat (refine .k (v:=?_) rfl (by kernel_rfl) ?_ ?_;rotate_left 1;(intro w h;go_simp<;>try rfl);try simp only[sp])
    refine .nil ?_;clear g0 g1 g2;have HO1:=aH (show KQ.Own wr.drew w0.heap.size _ L from HO.out.drew);have HB1':=aH (show Below w0.heap.size w0 wr.drew from HB.out.drew);generalize wr.drew=w2 at *;refine wQ 14 (some 32) rfl (fun K hK=>?_) (by kernel_rfl);go_simp;refine(HUP.out _).mono ?_;rintro e w3 ⟨v3,rfl,hown3,hb3⟩;have HO3:=aH (HO1.out.below hb3);have HI3:=aH (hown3.isL (by have:=HUL.out;omega));have HB3:=aH (bC HB1'.out hb3);clear hown3 hb3;go_wp2_with fail;refine hK.out _ _ ?_ (fun hHeld=>?_)
    ·exact HSS.out w3 HB3.out
    clear hK K;(try simp only[sp]);refine wQ 15 (some 33) rfl (fun K hK=>?_) (by kernel_rfl);refine Lk.wp_app (K:=KQ) w3 _ _ rfl rfl w0.heap.size w3.heap.size _ v3 L _ rfl rfl HO3.out HI3.out ?_ HB3.out.size ?_
    ·have:=HLN.out;have:=HUL.out;omega
    intro v4 w4 hown4 hgr4 _;have HO4:=aH hown4;have HB4:=aH (Lk.Own.grow' HO3.out HB3.out HB3.out.size hgr4);clear hown4 hgr4;refine hK.out _ _ ?_ (fun hHeld=>?_)
    ·exact HSS.out w4 HB4.out
    clear hK K;(try simp only[sp]);refine wk [.k 16 3] (fun _ _ _ _ _ h=>h) hHeld ?_ (by kernel_rfl);repeat (refine .k (v:=?_) rfl (by kernel_rfl) ?_ ?_;rotate_left 1;(intro w h;go_simp<;>try rfl);try simp only[sp])
    refine .nil ?_;refine wD (by kernel_rfl) ?_;go_wp2
    go_roundw
    case rel=>exact⟨k+1,by omega,num_i (by omega),by rw[HS.out];exact HO4.out,HB4.out⟩
    case measure=>simp[intOf];omega
   ·obtain rfl:k=d.pn:=(by omega);have HLA:=aH (show(partsU ((List.range d.pn).map (plateU d.pl))).length≤1536*4 by
     have:=partsU_len _ (upto_ok (f:=plateU d.pl) (n:=d.pn) (fun i hi=>HPO.out i hi) (nR _));simp at this;omega)
    obtain⟨PA,hPA⟩:∃PA,PA=partsU ((List.range d.pn).map (plateU d.pl)):=⟨_,rfl⟩;rw[←hPA]at HP HO HLA;clear hPA;obtain⟨w1,hw1⟩:∃w1,w1=wr:=⟨_,rfl⟩;subst hw1;obtain⟨va,hva⟩:∃v,v=u3:=⟨_,rfl⟩;rw[←hva]at HO;go_wp2;clear f0 f1 f2 f3
    go_loopw [3,5] (fun v i wr=>∃k:Nat,k≤d.rn∧i=.int .i64 k∧KQ.Own wr w0.heap.size v (PA++partsU ((List.range k).map (rackU d.rl)))∧Below w0.heap.size w0 wr) (fun _ i _=>d.rn-(intOf i).toNat)
    case atStart=>exact⟨0,Nat.zero_le _,rfl,by rw[←hva];simpa [partsU]using HO.out,HB.out⟩
    case round=>
     clear HO;obtain⟨k,hk,rfl,hown,hbl⟩:=hrel;have HO:=aH hown;have HB2:=aH hbl;clear hown hbl;obtain⟨f0,f1,f2,f3⟩:=HF.out wr HB2.out;by_cases hlt:k<d.rn
     ·obtain⟨b,off,hA,hb,hc,hcell⟩:=rack_cells HD0.out.r (by have:=hrn.out;omega);obtain⟨e0,e1,_⟩:=hcell k (by have:=hrn.out;omega);have HS:=aH (show PA++partsU ((List.range (k+1)).map (rackU d.rl))=(PA++partsU ((List.range k).map (rackU d.rl)))++unitParts (rackU d.rl k)by rw[map_snoc,partsU_snoc,List.append_assoc]);have hu:rackU d.rl k=⟨2,k,(d.rl.getD k KR.dflt).rows,(d.rl.getD k KR.dflt).cols⟩:=rfl;have ho:=HRO.out k hlt;rw[hu]at HS ho;have HUP:=aH (rplaces_any _ ho);have HLN:=aH (show(PA++partsU ((List.range k).map (rackU d.rl))).length≤1536*8 by
       have:=partsU_len _ (upto_ok (f:=rackU d.rl) (n:=d.rn) (fun i hi=>HRO.out i hi) hk);have h2:=HLA.out;rw[List.length_append];simp at this;omega)
      have HUL:=aH (show(unitParts ⟨2,k,(d.rl.getD k KR.dflt).rows,(d.rl.getD k KR.dflt).cols⟩).length≤1536 by rw[unitParts_len];exact(okU_pos ho).2.2.2.2.2.2);rw[hA]at f2;clear hcell hu ho f0 f1 f3;dsimp only at HUP;generalize d.rl.getD k KR.dflt=q at *;generalize PA++partsU ((List.range k).map (rackU d.rl))=L at *;have HSS:=aH (show ∀w',Below w0.heap.size w0 w'→w'.cell? ⟨w.heap.size,2,none⟩=some (.slice (some ⟨b,off,none⟩) d.rn d.rc)∧w'.cell? ⟨b,off+k*5,none⟩=some (.int .i64 q.rows)∧w'.cell? ⟨b,off+k*5+1,none⟩=some (.int .i64 q.cols)from fun w' hb=>⟨by rw[←hA];exact(HF.out w' hb).2.2.1,kK hb e0,kK hb e1⟩);obtain⟨g0,g1,g2⟩:=HSS.out wr HB2.out;clear e0 e1 hA;go_wp2_with fail;refine wp_region_held_drew (S:=fun w'=>w'.cell? ⟨w.heap.size,2,none⟩=some (.slice (some ⟨b,off,none⟩) d.rn d.rc)∧w'.cell? ⟨b,off+k*5,none⟩=some (.int .i64 q.rows)∧w'.cell? ⟨b,off+k*5+1,none⟩=some (.int .i64 q.cols)) (by kernel_rfl) ?_ (fun hHeld=>?_)
      ·exact⟨g0,g1,g2⟩
      refine wk [.k 0 41,.k 1 42,.k 2 43,.k 3 44,.k 4 45,.k 5 46,.k 6 47,.k 7 48,.k 8 49,.k 9 50,.k 10 51,.k 11 52,.k 12 53,.k 13 54] (fun _ _ _ _ _ h=>h) hHeld ?_ (by kernel_rfl);repeat (refine .k (v:=?_) rfl (by kernel_rfl) ?_ ?_;rotate_left 1;(intro w h;go_simp<;>try rfl);try simp only[sp])
      refine .nil ?_;clear g0 g1 g2;have HO1:=aH (show KQ.Own wr.drew w0.heap.size _ L from HO.out.drew);have HB1':=aH (show Below w0.heap.size w0 wr.drew from HB2.out.drew);generalize wr.drew=w2 at *;refine wQ 14 (some 55) rfl (fun K hK=>?_) (by kernel_rfl);go_simp;refine(HUP.out _).mono ?_;rintro e w3 ⟨v3,rfl,hown3,hb3⟩;have HO3:=aH (HO1.out.below hb3);have HI3:=aH (hown3.isL (by have:=HUL.out;omega));have HB3:=aH (bC HB1'.out hb3);clear hown3 hb3;go_wp2_with fail;refine hK.out _ _ ?_ (fun hHeld=>?_)
      ·exact HSS.out w3 HB3.out
      clear hK K;(try simp only[sp]);refine wQ 15 (some 56) rfl (fun K hK=>?_) (by kernel_rfl);refine Lk.wp_app (K:=KQ) w3 _ _ rfl rfl w0.heap.size w3.heap.size _ v3 L _ rfl rfl HO3.out HI3.out ?_ HB3.out.size ?_
      ·have:=HLN.out;have:=HUL.out;omega
      intro v4 w4 hown4 hgr4 _;have HO4:=aH hown4;have HB4:=aH (Lk.Own.grow' HO3.out HB3.out HB3.out.size hgr4);clear hown4 hgr4;refine hK.out _ _ ?_ (fun hHeld=>?_)
      ·exact HSS.out w4 HB4.out
      clear hK K;(try simp only[sp]);refine wk [.k 16 3] (fun _ _ _ _ _ h=>h) hHeld ?_ (by kernel_rfl);repeat (refine .k (v:=?_) rfl (by kernel_rfl) ?_ ?_;rotate_left 1;(intro w h;go_simp<;>try rfl);try simp only[sp])
      refine .nil ?_;refine wD (by kernel_rfl) ?_;go_wp2
      go_roundw
      case rel=>exact⟨k+1,by omega,num_i (by omega),by rw[HS.out];exact HO4.out,HB4.out⟩
      case measure=>simp[intOf];omega
     ·obtain rfl:k=d.rn:=(by omega);have HLB:=aH (show(PA++partsU ((List.range d.rn).map (rackU d.rl))).length≤1536*8 by
       have:=partsU_len _ (upto_ok (f:=rackU d.rl) (n:=d.rn) (fun i hi=>HRO.out i hi) (nR _));have h2:=HLA.out;rw[List.length_append];simp at this;omega)
      obtain⟨PB,hPB⟩:∃PB,PB=PA++partsU ((List.range d.rn).map (rackU d.rl)):=⟨_,rfl⟩;rw[←hPB]at HP HO HLB;clear hPB;obtain⟨w2,hw2⟩:∃w2,w2=wr:=⟨_,rfl⟩;subst hw2;obtain⟨vb,hvb⟩:∃v,v=u3:=⟨_,rfl⟩;rw[←hvb]at HO;go_wp2;clear f0 f1 f2 f3
      go_loopw [3,6] (fun v i wr=>∃k:Nat,k≤d.bn-1∧i=.int .i64 k∧KQ.Own wr w0.heap.size v (PB++partsU ((List.range k).map laneU))∧Below w0.heap.size w0 wr) (fun _ i _=>d.bn-(intOf i).toNat)
      case atStart=>exact⟨0,by omega,rfl,by rw[←hvb];simpa [partsU]using HO.out,HB2.out⟩
      case round=>
       clear HO;obtain⟨k,hk,rfl,hown,hbl⟩:=hrel;have HO:=aH hown;have HB3:=aH hbl;clear hown hbl;obtain⟨f0,f1,f2,f3⟩:=HF.out wr HB3.out;by_cases hlt:k<d.bn-1
       ·have HS:=aH (show PB++partsU ((List.range (k+1)).map laneU)=(PB++partsU ((List.range k).map laneU))++[⟨3,k,0,0⟩]by rw[map_snoc,partsU_snoc,lane_parts,List.append_assoc]);have HOK:=aH (show KQ.ok ⟨3,k,0,0⟩from⟨(by decide:fits 3),(show fits (k:Int)by unfold fits;omega),(by decide:fits 0),(by decide:fits 0)⟩);have HLN:=aH (show(PB++partsU ((List.range k).map laneU)).length≤1536*8+1536*25 by
         have:=partsU_len _ (upto_ok (f:=laneU) (n:=k) (fun i hi=>laneU_ok i (by omega)) (nR _));have h2:=HLB.out;rw[List.length_append];simp at this;omega)
        generalize PB++partsU ((List.range k).map laneU)=L at *;go_wp2_with (at_builtin;refine Lk.wpList_app (K:=KQ) _ rfl _ _ rfl rfl w0.heap.size (wr.heap.size+1) _ _ L [⟨3,k,0,0⟩] rfl rfl (HO.out.alloc _) (Lk.IsL.lit (K:=KQ) _ ⟨3,k,0,0⟩ _ HOK.out rfl wr.heap.size rfl) ?c1 ?c2 ?_)
        case c1=>have:=HLN.out;simp;omega
        case c2=>have:=HB3.out.size;simp;omega
        intro v1 w4 hown hgrow _;have HB4:=aH (Lk.Own.grow' (HO.out.alloc _) (bL HB3.out _) (by have:=HB3.out.size;simp;omega) hgrow);have HO4:=aH hown;clear hown hgrow;go_wp2
        go_roundw
        case rel=>exact⟨k+1,by omega,num_i (by omega),by rw[HS.out];exact HO4.out,HB4.out⟩
        case measure=>simp[intOf];omega
       ·have hke:k=d.bn-1:=(by omega);have HKE:=aH hke;have hk1:(d.bn:Int)-1≤k:=(by omega);clear hke;go_wp2
        go_ret
        exact⟨_,rfl,by rw[HP.out,←HKE.out];exact HO.out.mono HB0.out.size,bC HB0.out HB3.out⟩
 ·have T:partsK d=[]:=by unfold partsK;rw[if_neg hz]
  rw[T];have hz':(dchk d != 0)=true:=by rw[bne_iff_ne];exact hz
  clear T hz hd;generalize dchk d=c at *;go_enter Tryz.func55,Tryz.ntmps55;go_wp2_with fail;rw[←hw0];clear hw0;refine(HC.out _ HD0.out).mono ?_;rintro e w1 ⟨rfl,hb1⟩;have HB1:=aH hb1;clear hb1;go_wp2
  go_ret
  exact⟨_,rfl,Lk.Own.nil _ _,bC HB0.out HB1.out⟩
def okP (p:Q4):Prop:=(p.a=1∨p.a=2∨p.a=3)∧0≤p.b∧p.b≤23∧0≤p.c∧p.c≤31∧0≤p.d∧p.d≤47∧(p.a=3→p.c=0∧p.d=0)
theorem unit_okP (u:Q4) (hu:okU u) (hl:u.a=3→u.c=1∧u.d=1):∀p∈unitParts u,okP p:=by
 obtain⟨o1,o2,o3,o4,o5,o6,o7⟩:=okU_pos hu;obtain⟨s1,s2,s3,s4⟩:=size_of hu.2.2.2;intro p hp;unfold unitParts at hp;obtain⟨i,hi,rfl⟩:=List.mem_map.1 hp;have hi:=List.mem_range.1 hi;have a1:i/u.d.toNat<u.c.toNat:=(Nat.div_lt_iff_lt_mul (by omega)).2 hi;have a2:i%u.d.toNat<u.d.toNat:=Nat.mod_lt _ (by omega);unfold unitF;generalize i/u.d.toNat=r at *;generalize i%u.d.toNat=c at *;refine⟨hu.1,hu.2.1,hu.2.2.1,show(0:Int)≤(r:Int)by omega,show(r:Int)≤31 by omega,show(0:Int)≤(c:Int)by omega,show(c:Int)≤47 by omega,fun h=>?_⟩;obtain⟨h1,h2⟩:=hl h;exact⟨show(r:Int)=0 by omega,show(c:Int)=0 by omega⟩
theorem units_lane (d:Dk):∀u∈unitsL d,u.a=3→u.c=1∧u.d=1:=by
 intro u hu h;unfold unitsL at hu;rcases List.mem_append.1 hu with hu|hu
 ·rcases List.mem_append.1 hu with hu|hu
  ·obtain⟨i,hi,rfl⟩:=List.mem_map.1 hu;exact absurd h (show ¬(1:Int)=3 by decide)
  ·obtain⟨i,hi,rfl⟩:=List.mem_map.1 hu;exact absurd h (show ¬(2:Int)=3 by decide)
 ·obtain⟨i,hi,rfl⟩:=List.mem_map.1 hu;exact⟨rfl,rfl⟩
theorem parts_okP (d:Dk):∀p∈partsK d,okP p:=by
 intro p hp;unfold partsK at hp;by_cases hz:dchk d=0
 ·rw[if_pos hz]at hp;unfold partsL partsU at hp;obtain⟨u,hu,hp⟩:=List.mem_flatMap.1 hp;exact unit_okP u (units_ok d (dchk_ok d hz) u hu) (units_lane d u hu) p hp
 ·rw[if_neg hz]at hp;simp at hp
theorem parts_len (d:Dk):(partsK d).length≤49152:=by
 unfold partsK;by_cases hz:dchk d=0
 ·rw[if_pos hz];have h:=partsU_len _ (units_ok d (dchk_ok d hz));have h2:=units_len d (dchk_ok d hz);unfold partsL;omega
 ·rw[if_neg hz];simp
theorem cntK_nil (k:Int):cntK k []=0:=rfl
theorem cnt_U (k:Int) (f:Nat→Q4) (n:Nat) (j:Int) (hj:∀i,(f i).a=j):cntK k (partsU ((List.range n).map f))=if j=k then(((List.range n).map fun i=>(unitN (f i):Int)).sum)else 0:=by
 induction n with
 |zero=>simp[partsU,cntK_nil]
 |succ n ih=>
  rw[map_snoc,partsU_snoc,cnt_append,ih,cnt_unit,hj n,map_snoc,List.sum_append];by_cases h:j=k
  ·rw[if_pos h,if_pos h,if_pos h];simp
  ·rw[if_neg h,if_neg h,if_neg h];rfl
theorem sum_plates (l:List Pl) (h:∀i,i<l.length→okU (plateU l i)):∀n,n≤l.length→((List.range n).map fun i=>(unitN (plateU l i):Int)).sum=wellsV (l.take n):=by
 intro n
 induction n with
 |zero=>intro _;rfl
 |succ n ih=>
  intro hn;rw[map_snoc,List.sum_append,ih (by omega),wells_snoc l n (by omega)];have:=(okU_pos (h n (by omega))).2.2.2.2.1;have e:(plateU l n).c*(plateU l n).d=(l.getD n KP.dflt).rows*(l.getD n KP.dflt).cols:=rfl;rw[e]at this;rw[this];simp
theorem sum_racks (l:List Rk) (h:∀i,i<l.length→okU (rackU l i)):∀n,n≤l.length→((List.range n).map fun i=>(unitN (rackU l i):Int)).sum=tipsV (l.take n):=by
 intro n
 induction n with
 |zero=>intro _;rfl
 |succ n ih=>
  intro hn;rw[map_snoc,List.sum_append,ih (by omega),tips_snoc l n (by omega)];have:=(okU_pos (h n (by omega))).2.2.2.2.1;have e:(rackU l n).c*(rackU l n).d=(l.getD n KR.dflt).rows*(l.getD n KR.dflt).cols:=rfl;rw[e]at this;rw[this];simp
theorem sum_lanes (n:Nat):((List.range n).map fun i=>(unitN (laneU i):Int)).sum=n:=by
 induction n with
 |zero=>rfl
 |succ n ih=>
  rw[map_snoc,List.sum_append,ih];simp[unitN,laneU]
theorem cnt_V (d:Dk):cntV d=(cntK 1 (partsK d),cntK 2 (partsK d),cntK 3 (partsK d)):=by
 unfold cntV partsK;by_cases hz:dchk d=0
 ·have hok:=dchk_ok d hz;rw[if_pos hz,if_pos hz];have e:partsL d=partsU ((List.range d.pl.length).map (plateU d.pl))++partsU ((List.range d.rl.length).map (rackU d.rl))++partsU ((List.range (d.bl.length-1)).map laneU):=by
   unfold partsL partsU unitsL;rw[List.flatMap_append,List.flatMap_append]
  have c:=fun k=>show cntK k (partsL d)=_ from by rw[e,cnt_append,cnt_append,cnt_U k (plateU d.pl) _ 1 (fun _=>rfl),cnt_U k (rackU d.rl) _ 2 (fun _=>rfl),cnt_U k laneU _ 3 (fun _=>rfl),sum_plates d.pl (fun i hi=>plateU_ok d hok i hi) _ (nR _),sum_racks d.rl (fun i hi=>rackU_ok d hok i hi) _ (nR _),sum_lanes,List.take_length,List.take_length]
  rw[c 1,c 2,c 3];have h2:=hok.rise.two;simp;omega
 ·rw[if_neg hz,if_neg hz];rfl
theorem cnt_snoc (k:Int) (l:List Q4) (i:Nat) (h:i<l.length):cntK k (l.take (i+1))=cntK k (l.take i)+(if (l.getD i ⟨0,0,0,0⟩).a=k then 1 else 0):=by
 rw[take_snoc l i ⟨0,0,0,0⟩ h,cnt_append]
 congr 1
 unfold cntK;generalize l.getD i ⟨0,0,0,0⟩=q;by_cases hk:q.a=k
 ·rw[if_pos hk];simp[hk]
 ·rw[if_neg hk];simp[hk]
theorem cnt_bd (k:Int) (l:List Q4) (i:Nat):0≤cntK k (l.take i)∧cntK k (l.take i)≤l.length:=by
 unfold cntK;have h1:=List.length_filter_le (fun p:Q4=>p.a==k) (l.take i);rw[List.length_take]at h1;omega
theorem partV_K (d:Dk) (id:Int) (h:dchk d=0):partV d id=partR (partsK d) id:=by unfold partV partsK;rw[if_pos h,if_pos h]
theorem rcounts_any (d:Dk) (w:World) (hd:d.In w w.heap.size):Calls Tryz.prog 102 #[d.v] w fun e w'=>e=.returned (.tuple #[.int .i64 (cntV d).1,.int .i64 (cntV d).2.1,.int .i64 (cntV d).2.2])∧Below w.heap.size w w':=by
 have HP:=aH (fun w h=>rparts_any d w h);have HD:=aH hd;have HOK:=aH (parts_okP d);have HLN:=aH (parts_len d);rw[cnt_V];dsimp only;obtain⟨P,hP⟩:∃P,P=partsK d:=⟨_,rfl⟩;rw[←hP]at HP HOK HLN⊢;clear hP hd;obtain⟨w0,hw0⟩:∃w0,w0=(w.alloc d.ob).alloc (.cells #[.int .i64 0,.int .i64 0,.int .i64 0,.int .i64 0] 199):=⟨_,rfl⟩;have HB0:=aH (show Below w.heap.size w w0 by rw[hw0];exact bL (bL (bR _ _) _) _);have HD0:=aH (HD.out.then HB0.out);have HSZ:=aH (show w.heap.size+1<w0.heap.size by rw[hw0];simp);have HF:=aH (show ∀w1,Below w0.heap.size w0 w1→(w1.cell? ⟨w.heap.size+1,0,none⟩=some (.int .i64 0)∧w1.cell? ⟨w.heap.size+1,1,none⟩=some (.int .i64 0)∧w1.cell? ⟨w.heap.size+1,2,none⟩=some (.int .i64 0)∧w1.cell? ⟨w.heap.size+1,3,none⟩=some (.int .i64 0))∧
  (w1.frozen? ⟨w.heap.size+1,1,none⟩=false∧w1.frozen? ⟨w.heap.size+1,2,none⟩=false∧w1.frozen? ⟨w.heap.size+1,3,none⟩=false)from by
   intro w1 hb;have hs:w.heap.size+1<w0.heap.size:=HSZ.out;refine⟨⟨kK hb ?_,kK hb ?_,kK hb ?_,kK hb ?_⟩,(hb.frozen (p:=⟨_,1,none⟩) hs).trans ?_,(hb.frozen (p:=⟨_,2,none⟩) hs).trans ?_,(hb.frozen (p:=⟨_,3,none⟩) hs).trans ?_⟩;all_goals (rw[hw0];simp))
 go_enter Tryz.func102,Tryz.ntmps102;go_wp2_with fail;rw[←hw0];clear hw0;refine(HP.out _ HD0.out).mono ?_;rintro e w3 ⟨v,rfl,hown,hb3⟩;obtain⟨⟨r0,r1,r2,r3⟩,z1,z2,z3⟩:=HF.out w3 hb3;have HB3:=aH (bC HB0.out hb3);have HS3:=aH (nL HSZ.out hb3.size);have HL:=aH (hown.isL (by have:=HLN.out;omega));obtain⟨⟨A,cap,rfl,hcap,hcell⟩,_,_⟩:=hown.isL (by have:=HLN.out;omega);have hpl:P.length≤49152:=HLN.out;have HGE:w0.heap.size≤w3.heap.size:=hb3.size;obtain⟨B,hB⟩:∃B,KQ.IsL w3 B (.slice A P.length cap) P∧w.heap.size+1<B:=⟨_,HL.out,HS3.out⟩;have HOW:=aH (hown);clear hown hb3 hcell;go_wp2
 go_loopw [7] (fun i wr=>∃k:Nat,k≤P.length∧i=.int .i64 k∧(∀b o u,w.heap.size+1<b→w3.cell? ⟨b,o,none⟩=some u→wr.cell? ⟨b,o,none⟩=some u)∧wr.cell? ⟨w.heap.size+1,1,none⟩=some (.int .i64 (cntK 1 (P.take k)))∧wr.cell? ⟨w.heap.size+1,2,none⟩=some (.int .i64 (cntK 2 (P.take k)))∧wr.cell? ⟨w.heap.size+1,3,none⟩=some (.int .i64 (cntK 3 (P.take k)))∧
  wr.frozen? ⟨w.heap.size+1,1,none⟩=false∧wr.frozen? ⟨w.heap.size+1,2,none⟩=false∧wr.frozen? ⟨w.heap.size+1,3,none⟩=false∧Below w.heap.size w wr) (fun i _=>P.length-(intOf i).toNat)
 case atStart=>exact⟨0,Nat.zero_le _,rfl,fun _ _ _ _ h=>h,r1,r2,r3,z1,z2,z3,HB3.out⟩
 case round=>
  clear r0 r1 r2 r3 z1 z2 z3;obtain⟨k,hk,rfl,hkeep,r1,r2,r3,z1,z2,z3,hbl⟩:=hrel;have HB:=aH hbl;have HKP:=aH hkeep;clear hbl hkeep;obtain⟨b1,b2⟩:=cnt_bd 1 P k;obtain⟨b3,b4⟩:=cnt_bd 2 P k;obtain⟨b5,b6⟩:=cnt_bd 3 P k;by_cases hlt:k<P.length
  ·obtain⟨b,off,hA,hbB,_,hcell⟩:=q4_cells (K:=KQ) rfl rfl rfl HL.out (by omega);have hbw:w.heap.size+1<b:=by
    rcases HOW.out.1.2 with ⟨h,_⟩|⟨g,c,cur,h,hb,_⟩
    ·rw[hA]at h;cases h
    ·rw[hA]at h;injection h with e1
     injection e1 with e2
     injection e2 with e3
     have:=HSZ.out;omega
   obtain⟨c0,_⟩:=hcell k hlt;have hc0:=HKP.out _ _ _ hbw c0;have S1:=aH (cnt_snoc 1 P k hlt);have S2:=aH (cnt_snoc 2 P k hlt);have S3:=aH (cnt_snoc 3 P k hlt);obtain⟨hp,_⟩:=HOK.out _ (getD_mem' P k ⟨0,0,0,0⟩ hlt);subst hA;clear hcell c0;generalize P.getD k ⟨0,0,0,0⟩=q at *;generalize cntK 1 (P.take k)=n1 at *;generalize cntK 2 (P.take k)=n2 at *;generalize cntK 3 (P.take k)=n3 at *;obtain⟨qa,qb,qc,qd⟩:=q;dsimp only at *;rcases hp with rfl|rfl|rfl
   ·go_wp2
    go_roundw
    case rel=>
     refine⟨k+1,by omega,num_i (by omega),fun b o u h1 h2=>sO (HKP.out b o u h1 h2) (fun e=>by injection e with e1;omega),by rw[S1.out];exact st_same r1,by rw[S2.out];exact sO (by simpa using r2) (by simp),by rw[S3.out];exact sO (by simpa using r3) (by simp),sF z1,sF z2,sF z3,bS HB.out (show w.heap.size≤w.heap.size+1 by omega)⟩
    case measure=>simp[intOf];omega
   ·go_wp2
    go_roundw
    case rel=>
     refine⟨k+1,by omega,num_i (by omega),fun b o u h1 h2=>sO (HKP.out b o u h1 h2) (fun e=>by injection e with e1;omega),by rw[S1.out];exact sO (by simpa using r1) (by simp),by rw[S2.out];exact st_same r2,by rw[S3.out];exact sO (by simpa using r3) (by simp),sF z1,sF z2,sF z3,bS HB.out (show w.heap.size≤w.heap.size+1 by omega)⟩
    case measure=>simp[intOf];omega
   ·go_wp2
    go_roundw
    case rel=>
     refine⟨k+1,by omega,num_i (by omega),fun b o u h1 h2=>sO (HKP.out b o u h1 h2) (fun e=>by injection e with e1;omega),by rw[S1.out];exact sO (by simpa using r1) (by simp),by rw[S2.out];exact sO (by simpa using r2) (by simp),by rw[S3.out];exact st_same r3,sF z1,sF z2,sF z3,bS HB.out (show w.heap.size≤w.heap.size+1 by omega)⟩
    case measure=>simp[intOf];omega
  ·obtain rfl:k=P.length:=(by omega);rw[List.take_length]at r1 r2 r3;clear b1 b2 b3 b4 b5 b6;go_wp2_with fail;go_quiet (fail);go_wp2
   go_ret3
   exact⟨rfl,below_drewN HB.out _⟩
def bigB (q:Pl):Bool:=decide (500<q.st.length)
def largeB (d:Dk):Bool:=decide (60<d.bl.length∨8<d.pl.length∨8<d.rl.length)||d.pl.any bigB
theorem any_yes {α:Type} (l:List α) (z:α) (f:α→Bool) (k:Nat) (h:k<l.length) (hf:f (l.getD k z)=true):l.any f=true:=List.any_eq_true.2 ⟨_,getD_mem' l k z h,hf⟩
theorem any_no {α:Type} (l:List α) (z:α) (f:α→Bool) (h:∀i,i<l.length→f (l.getD i z)=false):l.any f=false:=by
 rw[←Bool.not_eq_true,List.any_eq_true];rintro⟨x,hx,hf⟩;obtain⟨i,hi,rfl⟩:=List.mem_iff_getElem.1 hx;have:=h i hi;rw[List.getD_eq_getElem?_getD,List.getElem?_eq_getElem hi,Option.getD_some,hf]at this
 cases this
theorem large_any (d:Dk) (w:World) (hd:d.In w w.heap.size):Calls Tryz.prog 16 #[d.v] w fun e w'=>e=.returned (.bool (largeB d))∧Below w.heap.size w w':=by
 have HD:=aH hd;have e0:=hd.b.len;have e1:=hd.p.len;have e2:=hd.r.len;have L1:=aH (fun h:60<d.bl.length∨8<d.pl.length∨8<d.rl.length=>show largeB d=true by unfold largeB;rw[dT h];rfl);have L2:=aH (fun h:¬(60<d.bl.length∨8<d.pl.length∨8<d.rl.length)=>show largeB d=d.pl.any bigB by unfold largeB;rw[dF h];rfl);have HY:=aH (any_yes d.pl KP.dflt bigB);have HN:=aH (any_no d.pl KP.dflt bigB);obtain⟨C,hC⟩:∃C,C=largeB d:=⟨_,rfl⟩;rw[←hC]at L1 L2⊢;clear hC;obtain⟨bA,bn,bc,bl,pA,pn,pc,pl,rA,rn,rc,rl,arms⟩:=d;dsimp only at *;subst e0 e1 e2;have lb:=hd.b.2.2;clear hd;obtain⟨w0,hw0⟩:∃w0,w0=w.alloc (.cells #[.slice bA bl.length bc,.slice pA pl.length pc,.slice rA rl.length rc,.int .i64 arms] 26):=⟨_,rfl⟩;have f1:w0.cell? ⟨w.heap.size,1,none⟩=some (.slice pA pl.length pc):=by rw[hw0];exact alloc_cell _ _ _ _ _ rfl
 have HB0:=aH (show Below w.heap.size w w0 by rw[hw0];exact bL (bR _ _) _);have HD0:=aH (HD.out.then HB0.out);by_cases h1:60<bl.length
 ·obtain rfl:=L1.out (.inl h1);go_enter Tryz.func16,Tryz.ntmps16;go_wp2
  go_ret
  exact⟨rfl,by rw[←hw0];exact HB0.out⟩
 ·by_cases h2:8<pl.length
  ·obtain rfl:=L1.out (.inr (.inl h2));go_enter Tryz.func16,Tryz.ntmps16;go_wp2
   go_ret
   exact⟨rfl,by rw[←hw0];exact HB0.out⟩
  ·by_cases h3:8<rl.length
   ·obtain rfl:=L1.out (.inr (.inr h3));go_enter Tryz.func16,Tryz.ntmps16;go_wp2
    go_ret
    exact⟨rfl,by rw[←hw0];exact HB0.out⟩
   ·have HL:=aH (L2.out (by omega));clear L1 L2;go_enter Tryz.func16,Tryz.ntmps16;go_wp2;rw[←hw0];clear hw0
    go_loop [3] (fun i=>∃k:Nat,k≤pl.length∧i=.int .i64 k∧∀i,i<k→bigB (pl.getD i KP.dflt)=false) (fun i=>pl.length-(intOf i).toNat)
    case atStart=>exact⟨0,Nat.zero_le _,rfl,fun i hi=>by omega⟩
    case round=>
     obtain⟨k,hk,rfl,hall⟩:=hrel;have HA:=aH hall;clear hall;by_cases hlt:k<pl.length
     ·obtain⟨b,off,rfl,hb,hc,hcell⟩:=plate_cells HD0.out.p (by dsimp only;omega);obtain⟨c0,c1,c2,c3,c4,c5,c6⟩:=hcell k hlt;have hsn:=(HD0.out.s _ (getD_mem' pl k KP.dflt hlt)).len;have hsl:=(HD0.out.s _ (getD_mem' pl k KP.dflt hlt)).2.2;have HYk:=aH (HY.out k hlt);have HLS:=aH (show ∀(h:bigB (pl.getD k KP.dflt)=false) (i:Nat),i<k+1→bigB (pl.getD i KP.dflt)=false from fun h i hi=>by
       by_cases e:i=k
       ·rw[e];exact h
       ·exact HA.out i (by omega))
      clear hcell;dsimp only at *;rw[hsn]at c6;clear hsn;generalize pl.getD k KP.dflt=q at *;by_cases g:500<q.st.length
      ·have HR:=aH (HYk.out (dT g));go_wp2
       go_ret
       exact⟨ret_b (by rw[HL.out,HR.out]),HB0.out⟩
      ·have HR:=aH (HLS.out (dF g));go_wp2
       go_round
       case rel=>exact⟨k+1,by omega,num_i (by omega),HR.out⟩
       case measure=>simp[intOf];omega
     ·obtain rfl:k=pl.length:=(by omega);have HR:=aH (HN.out HA.out);go_wp2
      go_ret
      exact⟨ret_b (by rw[HL.out,HR.out]),HB0.out⟩
theorem partV_ok (d:Dk) (id:Int) (h:(partV d id).2=0):OkD d∧(partV d id).1∈partsK d∧dchk d=0∧0≤id∧id<(partsK d).length:=by
 by_cases hz:dchk d=0
 ·have e:=partV_K d id hz;refine⟨dchk_ok d hz,?_⟩;rw[e]at h⊢;unfold partR at h⊢;by_cases hr:id<0∨((partsK d).length:Int)≤id
  ·rw[if_pos hr]at h;cases h
  ·rw[if_neg hr];exact⟨getD_mem' _ _ _ (by omega),hz,by omega,by omega⟩
 ·unfold partV at h;rw[if_neg hz]at h;exact absurd h hz
end Go.Proofs.YtmecohdedghiaaaGreatDoor
