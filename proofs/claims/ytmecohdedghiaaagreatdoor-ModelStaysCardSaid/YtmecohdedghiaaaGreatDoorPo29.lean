/- A request is done, by the program. -/
import Derived.Test.YtmecohdedghiaaaGreatDoorPo28
set_option maxRecDepth 100000
set_option maxHeartbeats 8000000
open Go.Proofs.Tryz
namespace Go.Proofs.YtmecohdedghiaaaGreatDoor
open Go.RowKit
theorem xx (l:List Int):(jf l).1=0→(jf l).2=0:=by
 unfold jf;by_cases h0:l=[]
 ·rw[if_pos h0];intro h;exact absurd h (by decide)
 rw[if_neg h0];by_cases h1:16<l.length
 ·rw[if_pos h1];intro h;exact absurd h (by decide)
 rw[if_neg h1];by_cases h2:0≤Ah l
 ·rw[if_pos h2];intro h;exact absurd h (by show ¬(152:Int)=0;decide)
 ·rw[if_neg h2];intro _;rfl
theorem lH (d:Dk) (r:Rq):(bI d r).1=0→(bI d r).2=0:=by
 unfold bI;by_cases hz:aA d=0
 ·rw[if_neg (by simpa using hz)];by_cases hm:je r=(0,0)
  ·rw[if_neg (by simpa using hm)]
   cases jz d r with
   |some x=>intro h;exact absurd h (by show ¬(3:Int)=0;decide)
   |none=>
    intro _;show(jb r).2=0;unfold jb
    repeat' split
    all_goals rfl
  ·rw[if_pos hm];unfold je
   repeat' split
   ·intro h;exact absurd h (by decide)
   ·intro h;exact absurd h (by decide)
   ·exact xx _
   ·intro _;rfl
 ·rw[if_pos hz];intro h;exact absurd h hz
noncomputable def dO (d:Dk) (o:List Int) (who:Int) (r:Rq):Int×Int:=if who<1∨d.arms<who then(80,0)else if bI d r=(0,0)then(if (bX (uG o who) (lj d r)).2=true then(141,(bX (uG o who) (lj d r)).1)else(0,0))else bI d r
theorem uE (m:Md) (who:Int) (r:Rq) (x:Rs) (D:Nat) (w:World) (h:Tu w D m who r x) (hT:Nn.Tab w):Calls prog 65 #[.pointer (some ⟨D,0,none⟩)] w fun e w'=>e=.returned (.agg #[.int .i64 (dO m.d m.o who r).1,.int .i64 (dO m.d m.o who r).2])∧Below w.heap.size w w':=by
 obtain⟨w0,hw0⟩:∃w0,w0=w.alloc (.cells #[.int .i64 0,.int .i64 0] 104):=⟨_,rfl⟩;have CG:=aH (cI hw0);have CN:=aH (h.then CG.out);have HR:=aH (Row.n1 hw0 [.int .i64 0,.int .i64 0] rfl);have HG:=aH (aI (h.im.off (nR _)) (h.ix.offL (nR _)));have HL:=aH h.lt;have Jb:=aH (hT.below CG.out);have Rf:=aH (fun V (hb:Below w0.heap.size w0 V)=>(nk m.d r V (CN.out.im.d.then hb) ((CN.out.ir.more (Nat.le_of_lt CN.out.lt)).then hb) (Jb.out.below hb)).mono (R':=fun e w'=>e=.returned (.agg #[.int .i64 (bI m.d r).1,.int .i64 (bI m.d r).2,.int .i64 0,.int .i64 0,.slice none 0 0])∧Below V.heap.size V w') fun e w' h=>h);have Io:=aH (fun V (hb:Below w0.heap.size w0 V)=>su m.d r V (CN.out.im.d.then hb) ((CN.out.ir.more (Nat.le_of_lt CN.out.lt)).then hb) (Jb.out.below hb));have MR:=aH (fun V (hb:Below w0.heap.size w0 V) u (hu:KI.IsL V V.heap.size u (lj m.d r))=>wC (.slice m.oA m.o.length m.oc) u m.o (lj m.d r) who V (CN.out.im.o.then hb) hu);have HS:=aH (show ∀W,Below w0.heap.size w0 W→W.cell? ⟨D,0,none⟩=some (.slice m.d.bA m.d.bn m.d.bc)∧W.cell? ⟨D,1,none⟩=some (.slice m.d.pA m.d.pn m.d.pc)∧W.cell? ⟨D,2,none⟩=some (.slice m.d.rA m.d.rn m.d.rc)∧W.cell? ⟨D,3,none⟩=some (.int .i64 m.d.arms)∧W.cell? ⟨D,12,none⟩=some (.int .i64 r.k)∧W.cell? ⟨D,13,none⟩=some (.slice r.iA r.il.length r.ic)∧W.cell? ⟨D,14,none⟩=some (.int .i64 r.a)∧W.cell? ⟨D,15,none⟩=some (.int .i64 r.b)∧W.cell? ⟨D,16,none⟩=some (.int .i64 r.u)∧W.cell? ⟨D,17,none⟩=some (.int .u64 r.v)from fun W hb=>⟨kK hb (CN.out.row.g 0 rfl),kK hb (CN.out.row.g 1 rfl),kK hb (CN.out.row.g 2 rfl),kK hb (CN.out.row.g 3 rfl),kK hb (CN.out.row.g 12 rfl),kK hb (CN.out.row.g 13 rfl),kK hb (CN.out.row.g 14 rfl),kK hb (CN.out.row.g 15 rfl),kK hb (CN.out.row.g 16 rfl),kK hb (CN.out.row.g 17 rfl)⟩)
 have IK:=aH (lH m.d r);have HV:=aH (show dO m.d m.o who r=if who<1∨m.d.arms<who then(80,0)else if bI m.d r=(0,0)then(if (bX (uG m.o who) (lj m.d r)).2=true then(141,(bX (uG m.o who) (lj m.d r)).1)else(0,0))else bI m.d r from rfl);generalize dO m.d m.o who r=B at *;obtain⟨B1,B2⟩:=B;dsimp only;generalize lj m.d r=mu at *;generalize bX (uG m.o who) mu=lk at *;obtain⟨l1,l2⟩:=lk;generalize bI m.d r=cc at *;obtain⟨c1,c2⟩:=cc;dsimp only at *;clear h hT;by_cases h1:who<1
 ·rw[if_pos (Or.inl h1)]at HV;have hv:=HV.out
  cases hv
  go_enter func65,ntmps65
  go_upto_region 1 with fail
  rw[←hw0];clear hw0;have g11:=CN.out.row.g 11 rfl;have g3:=CN.out.row.g 3 rfl
  go_region
  have FG:=aH (show Below w0.heap.size w0 w0.drew from aa (bR _ _) 1);have DQ:=aH (HR.out.below FG.out);clear g11 g3;generalize w0.drew=w1 at *;have J8:=aH (bC CG.out FG.out);have k0:=DQ.out.g 0 rfl;have k1:=DQ.out.g 1 rfl;have y0:=DQ.out.z 0 rfl;have y1:=DQ.out.z 1 rfl;go_wp2;have HF:=aH ((DQ.out.set 0 (.int .i64 80)).set 1 (.int .i64 0));have f0:=HF.out.g 0 rfl;have f1:=HF.out.g 1 rfl;clear k0 k1 y0 y1;refine bP (v:=.agg #[.int .i64 80,.int .i64 0]) ?_ rfl ?_
  ·simp[results,results65,go_sem,f0,f1]
  ·exact⟨rfl,(J8.out.setCell (p:=⟨w.heap.size,0,none⟩) (nR _) _).setCell (p:=⟨w.heap.size,1,none⟩) (nR _) _⟩
 by_cases h2:m.d.arms<who
 ·rw[if_pos (Or.inr h2)]at HV;have hv:=HV.out
  cases hv
  go_enter func65,ntmps65
  go_upto_region 1 with fail
  rw[←hw0];clear hw0;have g11:=CN.out.row.g 11 rfl;have g3:=CN.out.row.g 3 rfl
  go_region
  have FG:=aH (show Below w0.heap.size w0 w0.drew from aa (bR _ _) 1);have DQ:=aH (HR.out.below FG.out);clear g11 g3;generalize w0.drew=w1 at *;have J8:=aH (bC CG.out FG.out);have k0:=DQ.out.g 0 rfl;have k1:=DQ.out.g 1 rfl;have y0:=DQ.out.z 0 rfl;have y1:=DQ.out.z 1 rfl;go_wp2;have HF:=aH ((DQ.out.set 0 (.int .i64 80)).set 1 (.int .i64 0));have f0:=HF.out.g 0 rfl;have f1:=HF.out.g 1 rfl;clear k0 k1 y0 y1;refine bP (v:=.agg #[.int .i64 80,.int .i64 0]) ?_ rfl ?_
  ·simp[results,results65,go_sem,f0,f1]
  ·exact⟨rfl,(J8.out.setCell (p:=⟨w.heap.size,0,none⟩) (nR _) _).setCell (p:=⟨w.heap.size,1,none⟩) (nR _) _⟩
 rw[if_neg (by omega)]at HV;go_enter func65,ntmps65
 go_upto_region 1 with fail
 rw[←hw0];clear hw0;have g11:=CN.out.row.g 11 rfl;have g3:=CN.out.row.g 3 rfl
 go_region
 go_upto_region 3 with fail
 have F7:=aH (show Below w0.heap.size w0 w0.drew from aa (bR _ _) 1);clear g11 g3;generalize w0.drew=wv at *;go_cut [3]from 25 (fun t3 wx=>∃ga:Nat,t3=.pointer (some ⟨ga,0,none⟩)∧Hid (Row wx ga [.int .i64 c1,.int .i64 c2,.int .i64 0,.int .i64 0,.slice none 0 0])∧Hid (Below w0.heap.size w0 wx)∧Hid (w0.heap.size≤ga))
 case first=>
  refine wp_region_held_drew (S:=fun w'=>w'.cell? ⟨D,0,none⟩=some (.slice m.d.bA m.d.bn m.d.bc)∧w'.cell? ⟨D,1,none⟩=some (.slice m.d.pA m.d.pn m.d.pc)∧w'.cell? ⟨D,2,none⟩=some (.slice m.d.rA m.d.rn m.d.rc)∧w'.cell? ⟨D,3,none⟩=some (.int .i64 m.d.arms)∧w'.cell? ⟨D,12,none⟩=some (.int .i64 r.k)∧w'.cell? ⟨D,13,none⟩=some (.slice r.iA r.il.length r.ic)∧w'.cell? ⟨D,14,none⟩=some (.int .i64 r.a)∧w'.cell? ⟨D,15,none⟩=some (.int .i64 r.b)∧w'.cell? ⟨D,16,none⟩=some (.int .i64 r.u)∧w'.cell? ⟨D,17,none⟩=some (.int .u64 r.v)) (by kernel_rfl) ?_ (fun CC=>?_)
  ·exact HS.out _ F7.out.drew
  have BB0:=aH F7.out.drew;generalize wv.drew=p0 at *;refine wk [.k 0 25,.k 1 26,.k 2 27,.k 3 28,.k 4 29,.k 5 30,.k 6 31,.k 7 32,.k 8 33] (fun _ _ _ _ _ h=>h) CC ?_ (by kernel_rfl);repeat (refine .k (v:=?_) rfl (by kernel_rfl) ?_ ?_;rotate_left 1;((intro w CY;(try dsimp only at CY);go_simp)<;>(try with_reducible rfl));(try simp only[sp]))
  refine .nil ?_;refine wR 9 [10] (by kernel_rfl) ?_;refine rK (some 34) rfl (fun K hK=>?_) (rK (some 3) rfl (fun K hK=>?_) rN)
  skip
  go_simp;(with_reducible refine(Rf.out _ BB0.out).mono ?_);rintro e p1 ⟨rfl,hb⟩;have BB1:=aH (bC BB0.out hb);clear hb CC BB0;go_wp2_with fail;refine hK.out _ _ (HS.out _ BB1.out) (fun CC=>?_);clear hK K;try simp only[sp]
  refine wQ 10 (some 3) rfl (fun K hK=>?_) (by kernel_rfl);go_simp;have hb:=bL (bR _ p1) (.cells eG 56);have BB2:=aH (bC BB1.out hb);have RA:=aH (show Row (p1.alloc (.cells eG 56)) p1.heap.size wS from Row.new _ _ _ _ rfl);have GA:=aH (show _≤p1.heap.size from BB1.out.size);clear hb CC BB1;generalize p1.alloc (.cells eG 56)=p2 at *;generalize p1.heap.size=ga at *;refine hK.out _ _ (HS.out _ BB2.out) (fun CC=>?_);clear hK K;try simp only[sp]
  rotate_left 1
  go_simp;have hb:=bL (bR _ p0) (.cells eG 56);have BB1:=aH (bC BB0.out hb);have RA:=aH (show Row (p0.alloc (.cells eG 56)) p0.heap.size wS from Row.new _ _ _ _ rfl);have GA:=aH (show _≤p0.heap.size from BB0.out.size);clear hb CC BB0;generalize p0.alloc (.cells eG 56)=p1 at *;generalize p0.heap.size=ga at *;refine hK.out _ _ (HS.out _ BB1.out) (fun CC=>?_);clear hK K;try simp only[sp]
  refine wQ 9 (some 34) rfl (fun K hK=>?_) (by kernel_rfl);go_simp;(with_reducible refine(Rf.out _ BB1.out).mono ?_);rintro e p2 ⟨rfl,hb⟩;have BB2:=aH (bC BB1.out hb);replace RA:=aH (RA.out.below hb);clear hb CC BB1;go_wp2_with fail;refine hK.out _ _ (HS.out _ BB2.out) (fun CC=>?_);clear hK K;try simp only[sp]
  all_goals
   refine wQ 11 none rfl (fun K hK=>?_) (by kernel_rfl);rw[if_pos (by kernel_rfl)];refine wp_store_mid _ _ _ rfl ga 0 #[.int .i64 c1,.int .i64 c2,.int .i64 0,.int .i64 0,.slice none 0 0] (by kernel_rfl) (by kernel_rfl) (RA.out.there rfl) (by kernel_rfl) (by kernel_rfl) ?_;change K _ (p2.setCells ga 0 [.int .i64 c1,.int .i64 c2,.int .i64 0,.int .i64 0,.slice none 0 0]);obtain⟨yW,hgW⟩:∃yW,p2.setCells ga 0 [.int .i64 c1,.int .i64 c2,.int .i64 0,.int .i64 0,.slice none 0 0]=yW:=⟨_,rfl⟩;have BB3:=aH (show Below _ _ yW by subst hgW;exact Below.fill GA.out _ _ 0 BB2.out);have RB:=aH (show Row yW ga [.int .i64 c1,.int .i64 c2,.int .i64 0,.int .i64 0,.slice none 0 0]by subst hgW;exact RA.out.fill _ rfl);clear CC BB2 RA;subst hgW;generalize p2.setCells ga 0 [.int .i64 c1,.int .i64 c2,.int .i64 0,.int .i64 0,.slice none 0 0]=p3 at *;refine hK.out _ _ (HS.out _ BB3.out) (fun CC=>?_);clear hK K;(try simp only[Act.put]);refine wD (by kernel_rfl) ?_;go_wp2;go_meet;exact⟨ga,rfl,RB,BB3,GA⟩
 case rest=>
  obtain⟨ga,rfl,HX,Dm,HGA⟩:=hcut;rename World=>wx
  have x0:=HX.out.g 0 rfl;have x1:=HX.out.g 1 rfl;by_cases hc:c1=0
  case neg=>
   have PW:(c1 != 0)=true:=(by simpa using hc);rw[if_neg (by intro h;cases h;exact hc rfl)]at HV;have hv:=HV.out
   cases hv
   have DQ:=aH (HR.out.below Dm.out);have J8:=aH (bC CG.out Dm.out);have k0:=DQ.out.g 0 rfl;have k1:=DQ.out.g 1 rfl;have y0:=DQ.out.z 0 rfl;have y1:=DQ.out.z 1 rfl;go_wp2;have HF:=aH ((DQ.out.set 0 (.int .i64 B1)).set 1 (.int .i64 B2));have f0:=HF.out.g 0 rfl;have f1:=HF.out.g 1 rfl;clear k0 k1 y0 y1;refine bP (v:=.agg #[.int .i64 B1,.int .i64 B2]) ?_ rfl ?_
   ·simp[results,results65,go_sem,f0,f1]
   ·exact⟨rfl,(J8.out.setCell (p:=⟨w.heap.size,0,none⟩) (nR _) _).setCell (p:=⟨w.heap.size,1,none⟩) (nR _) _⟩
  case pos=>
   subst hc;obtain rfl:c2=0:=IK.out rfl;rw[if_pos rfl]at HV
   go_upto_region 6 with fail
   clear x0 x1;have Em:=aH (CN.out.then Dm.out);have g10:=Em.out.row.g 10 rfl;have g0:=Em.out.row.g 0 rfl;have g1:=Em.out.row.g 1 rfl;have g2:=Em.out.row.g 2 rfl;have g3:=Em.out.row.g 3 rfl;have g12:=Em.out.row.g 12 rfl;have g13:=Em.out.row.g 13 rfl;have g14:=Em.out.row.g 14 rfl;have g15:=Em.out.row.g 15 rfl;have g16:=Em.out.row.g 16 rfl;have g17:=Em.out.row.g 17 rfl;have g11:=Em.out.row.g 11 rfl;refine AX ⟨g10,g0,g1,g2,g3,g12,g13,g14,g15,g16,g17,g11⟩ (by kernel_rfl) (fun CC=>?_);have CQ:=aH (show Below w0.heap.size w0 wx.drew from Dm.out.drew);have Mx:=aH (HR.out.below CQ.out);clear g10 g0 g1 g2 g3 g12 g13 g14 g15 g16 g17 g11;generalize wx.drew=wy at *;refine wk [.k 0 44,.k 1 45,.k 2 46,.k 3 47,.k 4 48,.k 5 49,.k 6 50,.k 7 51,.k 8 52,.k 9 53,.k 10 54,.k 11 55,.k 12 56,.k 13 57,.k 15 59,.k 16 60,.k 17 61,.k 18 62] (fun _ _ _ _ _ h=>h) CC ?_ (by kernel_rfl);repeat (refine .k (v:=?_) rfl (by kernel_rfl) ?_ ?_;rotate_left 1;((intro w CY;(try dsimp only at CY);go_simp)<;>(try with_reducible rfl));(try simp only[sp]))
   refine .nil ?_;refine wQ 14 (some 58) rfl (fun K hK=>?_) (by kernel_rfl);go_simp;(with_reducible refine(Io.out _ CQ.out).mono ?_);rintro e wv ⟨u,rfl,hu,hb⟩;obtain⟨s0,s1,s2,s3,s4,s5,s6,s7,s8,s9,s10,s11⟩:=CC;have CQ:=aH (bC CQ.out hb);have HU:=aH hu;replace s0:=kK hb s0;replace s1:=kK hb s1;replace s2:=kK hb s2;replace s3:=kK hb s3;replace s4:=kK hb s4;replace s5:=kK hb s5;replace s6:=kK hb s6;replace s7:=kK hb s7;replace s8:=kK hb s8;replace s9:=kK hb s9;replace s10:=kK hb s10;replace s11:=kK hb s11;clear hb hu;go_wp2_with fail;refine hK.out _ _ ⟨s0,s1,s2,s3,s4,s5,s6,s7,s8,s9,s10,s11⟩ (fun CC=>?_);clear hK K s0 s1 s2 s3 s4 s5 s6 s7 s8 s9 s10 s11;(try simp only[sp]);refine wQ 19 (some 63) rfl (fun K hK=>?_) (by kernel_rfl);go_simp;(with_reducible refine(MR.out _ CQ.out u HU.out).mono ?_);rintro e wv ⟨rfl,hb⟩;obtain⟨s0,s1,s2,s3,s4,s5,s6,s7,s8,s9,s10,s11⟩:=CC;have CQ:=aH (bC CQ.out hb);have HU:=aH (HU.out.then hb);replace s0:=kK hb s0;replace s1:=kK hb s1;replace s2:=kK hb s2;replace s3:=kK hb s3;replace s4:=kK hb s4;replace s5:=kK hb s5;replace s6:=kK hb s6;replace s7:=kK hb s7;replace s8:=kK hb s8;replace s9:=kK hb s9;replace s10:=kK hb s10;replace s11:=kK hb s11;clear hb;go_wp2_with fail;refine hK.out _ _ ⟨s0,s1,s2,s3,s4,s5,s6,s7,s8,s9,s10,s11⟩ (fun CC=>?_);clear hK K s0 s1 s2 s3 s4 s5 s6 s7 s8 s9 s10 s11;(try simp only[sp]);refine wk [.k 20 43,.k 21 64,.k 22 65,.k 23 4,.k 24 5] (fun _ _ _ _ _ h=>h) CC ?_ (by kernel_rfl);repeat (refine .k (v:=?_) rfl (by kernel_rfl) ?_ ?_;rotate_left 1;((intro w CY;(try dsimp only at CY);go_simp)<;>(try with_reducible rfl));(try simp only[sp]))
   refine .nil ?_;refine wD (by kernel_rfl) ?_;have J8:=aH (bC CG.out CQ.out);have DQ:=aH (HR.out.below CQ.out);clear CC Mx
   cases l2
   ·rw[if_neg (by decide)]at HV;have hv:=HV.out
    cases hv
    have k0:=DQ.out.g 0 rfl;have k1:=DQ.out.g 1 rfl;have y0:=DQ.out.z 0 rfl;have y1:=DQ.out.z 1 rfl;go_wp2;have HF:=aH ((DQ.out.set 0 (.int .i64 0)).set 1 (.int .i64 0));have f0:=HF.out.g 0 rfl;have f1:=HF.out.g 1 rfl;clear k0 k1 y0 y1;refine bP (v:=.agg #[.int .i64 0,.int .i64 0]) ?_ rfl ?_
    ·simp[results,results65,go_sem,f0,f1]
    ·exact⟨rfl,(J8.out.setCell (p:=⟨w.heap.size,0,none⟩) (nR _) _).setCell (p:=⟨w.heap.size,1,none⟩) (nR _) _⟩
   ·rw[if_pos rfl]at HV;have hv:=HV.out
    cases hv
    have k0:=DQ.out.g 0 rfl;have k1:=DQ.out.g 1 rfl;have y0:=DQ.out.z 0 rfl;have y1:=DQ.out.z 1 rfl;go_wp2;have HF:=aH ((DQ.out.set 0 (.int .i64 141)).set 1 (.int .i64 B2));have f0:=HF.out.g 0 rfl;have f1:=HF.out.g 1 rfl;clear k0 k1 y0 y1;refine bP (v:=.agg #[.int .i64 141,.int .i64 B2]) ?_ rfl ?_
    ·simp[results,results65,go_sem,f0,f1]
    ·exact⟨rfl,(J8.out.setCell (p:=⟨w.heap.size,0,none⟩) (nR _) _).setCell (p:=⟨w.heap.size,1,none⟩) (nR _) _⟩
theorem rd (v:Value) (xs:List Int) (k:Nat) (cap:Array Value) (p:Int→Bool) (w:World) (hv:KI.IsL w w.heap.size v xs) (E9:∀args w,(callFunc k args).run prog w=.ok (.enter k args) w) (hp:tk prog w k cap xs p):Calls prog 167 #[v,.func (.func k) #[] cap] w fun e w'=>∃n:Int,e=.returned (.int .i64 n)∧decide (0≤n)=xs.any p∧Below w.heap.size w w':=by
 have HV:=aH hv;have HP:=aH hp;obtain⟨⟨A,c,rfl,hc,_⟩,_,hl⟩:=hv;clear hp;go_enter func167,ntmps167;go_wp2
 go_loopw [8] (fun i wr=>∃k:Nat,i=.int .i64 k∧k≤xs.length∧(∀j,j<k→p (xs.getD j 0)=false)∧Below w.heap.size w wr) (fun i _=>xs.length-(intOf i).toNat)
 case atStart=>exact⟨0,rfl,Nat.zero_le _,fun j hj=>absurd hj (Nat.not_lt_zero _),bR _ _⟩
 case round=>
  obtain⟨i,rfl,hk,hkp,CP⟩:=hrel;have HB:=aH CP;have HK:=aH hkp;clear hkp CP;by_cases CI:i<xs.length
  ·obtain⟨b,off,cap',hs,_,hb,_,CD,_⟩:=KI.cells (HV.out.below HB.out) (by omega);simp only[Value.slice.injEq]at hs;obtain⟨rfl,_,rfl⟩:=hs;have e1:=CD i CI;clear CD;have HA:=aH (HP.out wr HB.out _ (af xs i 0 CI));have Fp:=aH (af xs i 0 CI);obtain⟨x,hx⟩:∃x,xs.getD i 0=x:=⟨_,rfl⟩;rw[hx]at HA e1 Fp;have HX:=aH hx;clear hx;obtain⟨q,hq⟩:∃q,p x=q:=⟨_,rfl⟩;rw[hq]at HA;have HQ:=aH hq;clear hq;have Jm:b<wr.heap.size:=nL hb HB.out.size;go_wp2_with fail;refine HA.out.mono ?_;rintro e w2 ⟨rfl,CM⟩;have CL:=aH (bC HB.out CM);clear CM e1
   cases q
   ·go_wp2
    go_roundw
    case rel=>exact⟨i+1,ai (by omega),by omega,fun j hj=>by
     by_cases h:j=i
     ·subst h;rw[HX.out];exact HQ.out
     ·exact HK.out j (by omega),CL.out⟩
    case measure=>simp[intOf];omega
   ·go_wp2
    go_ret
    refine⟨_,rfl,?_,CL.out⟩;rw[dT (by omega)];exact(List.any_eq_true.2 ⟨x,Fp.out,HQ.out⟩).symm
  ·go_wp2
   go_ret
   refine⟨_,rfl,?_,HB.out⟩;rw[dF (by decide)];symm;rw[List.any_eq_false];intro x hx;obtain⟨j,hj,rfl⟩:=List.getElem_of_mem hx;have h:=HK.out j (by omega);rw[List.getD_eq_getElem?_getD,List.getElem?_eq_getElem hj]at h;simpa using h
theorem kj (v:Value) (xs:List Int) (k:Nat) (cap:Array Value) (p:Int→Bool) (w:World) (hv:KI.IsL w w.heap.size v xs) (E9:∀args w,(callFunc k args).run prog w=.ok (.enter k args) w) (hp:tk prog w k cap xs p):Calls prog 110 #[v,.func (.func k) #[] cap] w fun e w'=>e=.returned (.bool (xs.any p))∧Below w.heap.size w w':=by
 have HI:=aH (rd v xs k cap p w hv E9 hp);clear hv hp;generalize xs.any p=q at *;go_enter func110,ntmps110;go_wp2_with fail;refine HI.out.mono ?_;rintro e w2 ⟨n,rfl,rfl,hb⟩;go_wp2
 go_ret
 exact⟨rfl,hb⟩
def uL (arms x:Int):Bool:=decide (x<0)||decide (arms<x)
theorem oC (x arms:Int) (b:Nat) (w:World) (h:w.cell? ⟨b,0,none⟩=some (.int .i64 arms)):Calls prog 111 #[.int .i64 x,.pointer (some ⟨b,0,none⟩)] w fun e w'=>e=.returned (.bool (uL arms x))∧w=w':=by
 unfold uL;by_cases h1:x<0<;>by_cases h2:arms<x;all_goals
  go_enter func111,ntmps111;go_wp2
  go_ret
  exact⟨aj (by simp[h1,h2]),rfl⟩
def oM (o:List Int) (arms:Int):Bool:=!o.any (uL arms)
theorem gF (v:Value) (o:List Int) (arms:Int) (w:World) (hv:KI.IsL w w.heap.size v o):Calls prog 59 #[v,.int .i64 arms] w fun e w'=>e=.returned (.bool (oM o arms))∧Below w.heap.size w w':=by
 obtain⟨w0,hw0⟩:∃w0,w0=w.alloc (.cells #[.int .i64 arms] 3):=⟨_,rfl⟩;have CG:=aH (cI hw0);have Ib:=aH (show w0.cell? ⟨w.heap.size,0,none⟩=some (.int .i64 arms)by rw[hw0,ah];rfl);have HF:=aH (kj v o 111 #[.pointer (some ⟨w.heap.size,0,none⟩)] (uL arms) w0 (hv.then CG.out) (enters_of func111 (by kernel_rfl) rfl) (fun w' hb x _=>(oC x arms _ w' (kK hb Ib.out)).mono fun _ _ q=>⟨q.1,by rw[←q.2];exact bR _ _⟩));clear hv;have e:oM o arms= !o.any (uL arms):=rfl;rw[e];generalize o.any (uL arms)=q at *;go_enter func59,ntmps59;go_wp2_with fail;rw[←hw0];refine HF.out.mono ?_;rintro e w2 ⟨rfl,hb⟩;go_wp2
 go_ret
 exact⟨rfl,bC CG.out hb⟩
theorem pY (l:List Q4) (h:∀p∈l,p.a=1∨p.a=2∨p.a=3):bZ 1 l+bZ 2 l+bZ 3 l=(l.length:Int):=by
 induction l with
 |nil=>rfl
 |cons p r ih=>
  have ih:=ih fun q hq=>h q (by simp[hq]);have hp:=h p (by simp);unfold bZ at ih⊢;rw[List.filter_cons,List.filter_cons,List.filter_cons,List.length_cons];rcases hp with e|e|e<;>simp[e]<;>omega
theorem kJ (k:Int) (l:List Q4):0≤bZ k l:=by unfold bZ;omega
theorem jx (d:Dk) (w:World) (hd:d.In w w.heap.size):Calls prog 53 #[d.v] w fun e w'=>e=.returned (.int .i64 ((ak d).length:Int))∧Below w.heap.size w w':=by
 have HC:=aH (fun w h=>eO d w h);have hl:=pY (ak d) (fun p hp=>(eA d p hp).1);have hn:=eg d;have c1:=kJ 1 (ak d);have c2:=kJ 2 (ak d);have c3:=kJ 3 (ak d);rw[tT]at HC;dsimp only at HC;generalize bZ 1 (ak d)=n1 at *;generalize bZ 2 (ak d)=n2 at *;generalize bZ 3 (ak d)=n3 at *;generalize (ak d).length=n at *;obtain⟨w0,hw0⟩:∃w0,w0=w.alloc d.ob:=⟨_,rfl⟩;have CG:=aH (cI hw0);have CR:=aH (hd.then CG.out);clear hd;go_enter func53,ntmps53;go_wp2_with fail;rw[←hw0];refine(HC.out w0 CR.out).mono ?_;rintro e w2 ⟨rfl,hb⟩;go_wp2
 go_ret
 exact⟨aS (by omega),bC CG.out hb⟩
noncomputable def fC (m:Md):Bool:=cE m.d m.s.ab&&(decide ((m.o.length:Int)=((ak m.d).length:Int))&&oM m.o m.d.arms)
theorem kr (m:Md) (w:World) (hm:m.In w w.heap.size):Calls prog 22 #[m.v] w fun e w'=>e=.returned (.bool (fC m))∧Below w.heap.size w w':=by
 obtain⟨w0,hw0⟩:∃w0,w0=w.alloc (.cells m.ob 43):=⟨_,rfl⟩;have CG:=aH (cI hw0);have EJ:=aH (hm.then CG.out);have DE:=aH (show ti w0 w.heap.size m by rw[hw0];exact Cells11.new w _ _ _ _ _ _ _ _ _ _ _ _);have EV:=aH (fun V (h:Below w0.heap.size w0 V)=>ks m.d m.s V (EJ.out.d.then h) (EJ.out.s.then h));have JX:=aH (fun V (h:Below w0.heap.size w0 V)=>jx m.d V (EJ.out.d.then h));have FF:=aH (fun V (h:Below w0.heap.size w0 V)=>gF (.slice m.oA m.o.length m.oc) m.o m.d.arms V (EJ.out.o.then h));have e:fC m=(cE m.d m.s.ab&&(decide ((m.o.length:Int)=((ak m.d).length:Int))&&oM m.o m.d.arms)):=rfl;rw[e];clear e hm;generalize cE m.d m.s.ab=b1 at *;generalize oM m.o m.d.arms=b3 at *;generalize ((ak m.d).length:Int)=n at *
 cases b1
 ·skip
  go_enter func22,ntmps22
  go_upto_region 1 with fail
  rw[←hw0];obtain⟨g0,g1,g2,g3,g4,g5,g6,g7,g8,g9,g10,-⟩:=DE.out;clear hw0;refine ju ⟨g0,g1,g2,g3,g4,g5,g6,g7,g8,g9,g10⟩ (by kernel_rfl) (fun CC=>?_);have CQ:=aH (show Below w0.heap.size w0 w0.drew from aa (bR _ _) 1);clear g0 g1 g2 g3 g4 g5 g6 g7 g8 g9 g10;generalize w0.drew=wv at *;refine wk [.k 0 3,.k 1 4,.k 2 5,.k 3 6] (fun _ _ _ _ _ h=>h) CC ?_ (by kernel_rfl);repeat (refine .k (v:=?_) rfl (by kernel_rfl) ?_ ?_;rotate_left 1;(intro w h;go_simp<;>try rfl);try simp only[sp])
  refine .nil ?_;refine wQ 4 (some 7) rfl (fun K hK=>?_) (by kernel_rfl);go_simp;(with_reducible refine(EV.out _ CQ.out).mono ?_);rintro e wv ⟨rfl,hb⟩;obtain⟨s0,s1,s2,s3,s4,s5,s6,s7,s8,s9,s10⟩:=CC;have CQ:=aH (bC CQ.out hb);replace s0:=kK hb s0;replace s1:=kK hb s1;replace s2:=kK hb s2;replace s3:=kK hb s3;replace s4:=kK hb s4;replace s5:=kK hb s5;replace s6:=kK hb s6;replace s7:=kK hb s7;replace s8:=kK hb s8;replace s9:=kK hb s9;replace s10:=kK hb s10;clear hb;go_wp2_with fail;refine hK.out _ _ ⟨s0,s1,s2,s3,s4,s5,s6,s7,s8,s9,s10⟩ (fun CC=>?_);clear hK K s0 s1 s2 s3 s4 s5 s6 s7 s8 s9 s10;try simp only[sp]
  refine wk [.k 5 8,.u 6 9,.u 7 10,.u 8 11,.u 9 12,.u 10 13,.u 11 14,.u 12 15,.k 13 16,.k 14 17,.u 15 18,.u 16 19,.u 17 20,.u 18 21,.u 19 22,.u 20 23,.k 21 24,.k 22 2] (fun _ _ _ _ _ h=>h) CC ?_ (by kernel_rfl);repeat (first|(refine .k (v:=?_) rfl (by kernel_rfl) ?_ ?_;rotate_left 1;(intro w h;go_simp<;>try rfl);try simp only[sp])|(refine .u rfl (by kernel_rfl) ?_;try simp only[sp]))
  refine .nil ?_;refine wD (by kernel_rfl) ?_;go_wp2
  go_ret
  exact⟨aj (by simp),bC CG.out CQ.out⟩
 by_cases hn:(m.o.length:Int)=n
 case neg=>
  rw[dF hn];go_enter func22,ntmps22
  go_upto_region 1 with fail
  rw[←hw0];obtain⟨g0,g1,g2,g3,g4,g5,g6,g7,g8,g9,g10,-⟩:=DE.out;clear hw0;refine ju ⟨g0,g1,g2,g3,g4,g5,g6,g7,g8,g9,g10⟩ (by kernel_rfl) (fun CC=>?_);have CQ:=aH (show Below w0.heap.size w0 w0.drew from aa (bR _ _) 1);clear g0 g1 g2 g3 g4 g5 g6 g7 g8 g9 g10;generalize w0.drew=wv at *;refine wk [.k 0 3,.k 1 4,.k 2 5,.k 3 6] (fun _ _ _ _ _ h=>h) CC ?_ (by kernel_rfl);repeat (refine .k (v:=?_) rfl (by kernel_rfl) ?_ ?_;rotate_left 1;(intro w h;go_simp<;>try rfl);try simp only[sp])
  refine .nil ?_;refine wQ 4 (some 7) rfl (fun K hK=>?_) (by kernel_rfl);go_simp;(with_reducible refine(EV.out _ CQ.out).mono ?_);rintro e wv ⟨rfl,hb⟩;obtain⟨s0,s1,s2,s3,s4,s5,s6,s7,s8,s9,s10⟩:=CC;have CQ:=aH (bC CQ.out hb);replace s0:=kK hb s0;replace s1:=kK hb s1;replace s2:=kK hb s2;replace s3:=kK hb s3;replace s4:=kK hb s4;replace s5:=kK hb s5;replace s6:=kK hb s6;replace s7:=kK hb s7;replace s8:=kK hb s8;replace s9:=kK hb s9;replace s10:=kK hb s10;clear hb;go_wp2_with fail;refine hK.out _ _ ⟨s0,s1,s2,s3,s4,s5,s6,s7,s8,s9,s10⟩ (fun CC=>?_);clear hK K s0 s1 s2 s3 s4 s5 s6 s7 s8 s9 s10;try simp only[sp]
  refine wk [.k 5 8,.k 6 9,.k 7 10,.k 8 11,.k 9 12,.k 10 13] (fun _ _ _ _ _ h=>h) CC ?_ (by kernel_rfl);repeat (refine .k (v:=?_) rfl (by kernel_rfl) ?_ ?_;rotate_left 1;(intro w h;go_simp<;>try rfl);try simp only[sp])
  refine .nil ?_;refine wQ 11 (some 14) rfl (fun K hK=>?_) (by kernel_rfl);go_simp;(with_reducible refine(JX.out _ CQ.out).mono ?_);rintro e wv ⟨rfl,hb⟩;obtain⟨s0,s1,s2,s3,s4,s5,s6,s7,s8,s9,s10⟩:=CC;have CQ:=aH (bC CQ.out hb);replace s0:=kK hb s0;replace s1:=kK hb s1;replace s2:=kK hb s2;replace s3:=kK hb s3;replace s4:=kK hb s4;replace s5:=kK hb s5;replace s6:=kK hb s6;replace s7:=kK hb s7;replace s8:=kK hb s8;replace s9:=kK hb s9;replace s10:=kK hb s10;clear hb;go_wp2_with fail;refine hK.out _ _ ⟨s0,s1,s2,s3,s4,s5,s6,s7,s8,s9,s10⟩ (fun CC=>?_);clear hK K s0 s1 s2 s3 s4 s5 s6 s7 s8 s9 s10;try simp only[sp]
  refine wk [.k 12 15] (fun _ _ _ _ _ h=>h) CC ?_ (by kernel_rfl);repeat (refine .k (v:=?_) rfl (by kernel_rfl) ?_ ?_;rotate_left 1;(intro w h;go_simp<;>try rfl);try simp only[sp])
  refine .nil ?_;simp only[beq_eq_false_iff_ne.2 hn];refine wk [.k 13 16,.k 14 17,.u 15 18,.u 16 19,.u 17 20,.u 18 21,.u 19 22,.u 20 23,.k 21 24,.k 22 2] (fun _ _ _ _ _ h=>h) CC ?_ (by kernel_rfl);repeat (first|(refine .k (v:=?_) rfl (by kernel_rfl) ?_ ?_;rotate_left 1;(intro w h;go_simp<;>try rfl);try simp only[sp])|(refine .u rfl (by kernel_rfl) ?_;try simp only[sp]))
  refine .nil ?_;refine wD (by kernel_rfl) ?_;go_wp2
  go_ret
  exact⟨aj (by simp),bC CG.out CQ.out⟩
 rw[dT hn];go_enter func22,ntmps22
 go_upto_region 1 with fail
 rw[←hw0];obtain⟨g0,g1,g2,g3,g4,g5,g6,g7,g8,g9,g10,-⟩:=DE.out;clear hw0;refine ju ⟨g0,g1,g2,g3,g4,g5,g6,g7,g8,g9,g10⟩ (by kernel_rfl) (fun CC=>?_);have CQ:=aH (show Below w0.heap.size w0 w0.drew from aa (bR _ _) 1);clear g0 g1 g2 g3 g4 g5 g6 g7 g8 g9 g10;generalize w0.drew=wv at *;refine wk [.k 0 3,.k 1 4,.k 2 5,.k 3 6] (fun _ _ _ _ _ h=>h) CC ?_ (by kernel_rfl);repeat (refine .k (v:=?_) rfl (by kernel_rfl) ?_ ?_;rotate_left 1;(intro w h;go_simp<;>try rfl);try simp only[sp])
 refine .nil ?_;refine wQ 4 (some 7) rfl (fun K hK=>?_) (by kernel_rfl);go_simp;(with_reducible refine(EV.out _ CQ.out).mono ?_);rintro e wv ⟨rfl,hb⟩;obtain⟨s0,s1,s2,s3,s4,s5,s6,s7,s8,s9,s10⟩:=CC;have CQ:=aH (bC CQ.out hb);replace s0:=kK hb s0;replace s1:=kK hb s1;replace s2:=kK hb s2;replace s3:=kK hb s3;replace s4:=kK hb s4;replace s5:=kK hb s5;replace s6:=kK hb s6;replace s7:=kK hb s7;replace s8:=kK hb s8;replace s9:=kK hb s9;replace s10:=kK hb s10;clear hb;go_wp2_with fail;refine hK.out _ _ ⟨s0,s1,s2,s3,s4,s5,s6,s7,s8,s9,s10⟩ (fun CC=>?_);clear hK K s0 s1 s2 s3 s4 s5 s6 s7 s8 s9 s10;try simp only[sp]
 refine wk [.k 5 8,.k 6 9,.k 7 10,.k 8 11,.k 9 12,.k 10 13] (fun _ _ _ _ _ h=>h) CC ?_ (by kernel_rfl);repeat (refine .k (v:=?_) rfl (by kernel_rfl) ?_ ?_;rotate_left 1;(intro w h;go_simp<;>try rfl);try simp only[sp])
 refine .nil ?_;refine wQ 11 (some 14) rfl (fun K hK=>?_) (by kernel_rfl);go_simp;(with_reducible refine(JX.out _ CQ.out).mono ?_);rintro e wv ⟨rfl,hb⟩;obtain⟨s0,s1,s2,s3,s4,s5,s6,s7,s8,s9,s10⟩:=CC;have CQ:=aH (bC CQ.out hb);replace s0:=kK hb s0;replace s1:=kK hb s1;replace s2:=kK hb s2;replace s3:=kK hb s3;replace s4:=kK hb s4;replace s5:=kK hb s5;replace s6:=kK hb s6;replace s7:=kK hb s7;replace s8:=kK hb s8;replace s9:=kK hb s9;replace s10:=kK hb s10;clear hb;go_wp2_with fail;refine hK.out _ _ ⟨s0,s1,s2,s3,s4,s5,s6,s7,s8,s9,s10⟩ (fun CC=>?_);clear hK K s0 s1 s2 s3 s4 s5 s6 s7 s8 s9 s10;try simp only[sp]
 refine wk [.k 12 15,.k 13 16,.k 14 17,.k 15 18,.k 16 19,.k 17 20,.k 18 21,.k 19 22] (fun _ _ _ _ _ h=>h) CC ?_ (by kernel_rfl);repeat (refine .k (v:=?_) rfl (by kernel_rfl) ?_ ?_;rotate_left 1;(intro w h;go_simp<;>try rfl);try simp only[sp])
 refine .nil ?_;refine wQ 20 (some 23) rfl (fun K hK=>?_) (by kernel_rfl);go_simp;(with_reducible refine(FF.out _ CQ.out).mono ?_);rintro e wv ⟨rfl,hb⟩;obtain⟨s0,s1,s2,s3,s4,s5,s6,s7,s8,s9,s10⟩:=CC;have CQ:=aH (bC CQ.out hb);replace s0:=kK hb s0;replace s1:=kK hb s1;replace s2:=kK hb s2;replace s3:=kK hb s3;replace s4:=kK hb s4;replace s5:=kK hb s5;replace s6:=kK hb s6;replace s7:=kK hb s7;replace s8:=kK hb s8;replace s9:=kK hb s9;replace s10:=kK hb s10;clear hb;go_wp2_with fail;refine hK.out _ _ ⟨s0,s1,s2,s3,s4,s5,s6,s7,s8,s9,s10⟩ (fun CC=>?_);clear hK K s0 s1 s2 s3 s4 s5 s6 s7 s8 s9 s10;try simp only[sp]
 refine wk [.k 21 24,.k 22 2] (fun _ _ _ _ _ h=>h) CC ?_ (by kernel_rfl);repeat (refine .k (v:=?_) rfl (by kernel_rfl) ?_ ?_;rotate_left 1;(intro w h;go_simp<;>try rfl);try simp only[sp])
 refine .nil ?_;refine wD (by kernel_rfl) ?_;go_wp2
 go_ret
 exact⟨aj (by simp),bC CG.out CQ.out⟩
structure DoP (c:Int×Int) (m t:Md) (x:Rs) (E I:Int) (A:Ab) (O:List Int) (X:Int×Int×Int×Int×List Ch):Prop where
 no:c≠(0,0)→t.s.ab=m.s.ab∧t.o=m.o∧x.ab=(c.1,c.2,0,0,[])
 ok:c=(0,0)→t.s.ab=A∧t.o=O∧(E=0→x.ab=X)∧(E≠0→x.ab=(E,I,0,0,[]))
end Go.Proofs.YtmecohdedghiaaaGreatDoor
