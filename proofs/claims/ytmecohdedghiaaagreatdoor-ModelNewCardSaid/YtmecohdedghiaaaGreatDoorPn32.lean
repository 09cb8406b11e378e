/- A request is done, by the program. -/
import Derived.Test.YtmecohdedghiaaaGreatDoorPn00
import Derived.Test.YtmecohdedghiaaaGreatDoorPn29
import Derived.Test.YtmecohdedghiaaaGreatDoorPn31
import Derived.Test.YtmecohdedghiaaaGreatDoorPn26
import Derived.Test.YtmecohdedghiaaaGreatDoorPn08
import Derived.Test.YtmecohdedghiaaaGreatDoorPn21
set_option maxRecDepth 100000
set_option maxHeartbeats 8000000
namespace Go.Proofs.YtmecohdedghiaaaGreatDoor
open Go.RowKit
theorem mb_fst0 (l:List Int):(mbV l).1=0→(mbV l).2=0:=by
 unfold mbV;by_cases h0:l=[]
 ·rw[if_pos h0];intro h;exact absurd h (by decide)
 rw[if_neg h0];by_cases h1:16<l.length
 ·rw[if_pos h1];intro h;exact absurd h (by decide)
 rw[if_neg h1];by_cases h2:0≤twV l
 ·rw[if_pos h2];intro h;exact absurd h (by show ¬(152:Int)=0;decide)
 ·rw[if_neg h2];intro _;rfl
theorem ref_fst0 (d:Dk) (r:Rq):(refV d r).1=0→(refV d r).2=0:=by
 unfold refV;by_cases hz:zchk d=0
 ·rw[if_neg (by simpa using hz)];by_cases hm:mfV r=(0,0)
  ·rw[if_neg (by simpa using hm)]
   cases nmF d r with
   |some x=>intro h;exact absurd h (by show ¬(3:Int)=0;decide)
   |none=>
    intro _;show(lastV r).2=0;unfold lastV
    repeat' split
    all_goals rfl
  ·rw[if_pos hm];unfold mfV
   repeat' split
   ·intro h;exact absurd h (by decide)
   ·intro h;exact absurd h (by decide)
   ·exact mb_fst0 _
   ·intro _;rfl
 ·rw[if_pos hz];intro h;exact absurd h hz
noncomputable def brV (d:Dk) (o:List Int) (who:Int) (r:Rq):Int×Int:=if who<1∨d.arms<who then(80,0)else if refV d r=(0,0)then(if (fstN (lkB o who) (muV d r)).2=true then(141,(fstN (lkB o who) (muV d r)).1)else(0,0))else refV d r
theorem barred_t (m:Md) (who:Int) (r:Rq) (x:Rs) (D:Nat) (w:World) (h:Tu w D m who r x) (hT:Nn.Tab w):Calls Tryz.prog 65 #[.pointer (some ⟨D,0,none⟩)] w fun e w'=>e=.returned (.agg #[.int .i64 (brV m.d m.o who r).1,.int .i64 (brV m.d m.o who r).2])∧Below w.heap.size w w':=by
 obtain⟨w0,hw0⟩:∃w0,w0=w.alloc (.cells #[.int .i64 0,.int .i64 0] 104):=⟨_,rfl⟩;have HB0:=aH (show Below w.heap.size w w0 by rw[hw0];exact bL (bR _ _) _);have HT0:=aH (h.then HB0.out);have HR:=aH (show Row w0 w.heap.size [.int .i64 0,.int .i64 0]by rw[hw0];exact Row.new _ _ _ _ rfl);have HG:=aH (aI (h.im.off (nR _)) (h.ix.offL (nR _)));have HL:=aH h.lt;have HTB:=aH (hT.below HB0.out);have HCK:=aH (fun V (hb:Below w0.heap.size w0 V)=>(checkW_any m.d r V (HT0.out.im.d.then hb) ((HT0.out.ir.more (Nat.le_of_lt HT0.out.lt)).then hb) (HTB.out.below hb)).mono (R':=fun e w'=>e=.returned (.agg #[.int .i64 (refV m.d r).1,.int .i64 (refV m.d r).2,.int .i64 0,.int .i64 0,.slice none 0 0])∧Below V.heap.size V w') fun e w' h=>h);have HMU:=aH (fun V (hb:Below w0.heap.size w0 V)=>Must_any m.d r V (HT0.out.im.d.then hb) ((HT0.out.ir.more (Nat.le_of_lt HT0.out.lt)).then hb) (HTB.out.below hb));have HLK:=aH (fun V (hb:Below w0.heap.size w0 V) u (hu:KI.IsL V V.heap.size u (muV m.d r))=>lacks_o (.slice m.oA m.o.length m.oc) u m.o (muV m.d r) who V (HT0.out.im.o.then hb) hu)
 have HS:=aH (show ∀W,Below w0.heap.size w0 W→W.cell? ⟨D,0,none⟩=some (.slice m.d.bA m.d.bn m.d.bc)∧W.cell? ⟨D,1,none⟩=some (.slice m.d.pA m.d.pn m.d.pc)∧W.cell? ⟨D,2,none⟩=some (.slice m.d.rA m.d.rn m.d.rc)∧W.cell? ⟨D,3,none⟩=some (.int .i64 m.d.arms)∧W.cell? ⟨D,12,none⟩=some (.int .i64 r.k)∧W.cell? ⟨D,13,none⟩=some (.slice r.iA r.il.length r.ic)∧W.cell? ⟨D,14,none⟩=some (.int .i64 r.a)∧W.cell? ⟨D,15,none⟩=some (.int .i64 r.b)∧W.cell? ⟨D,16,none⟩=some (.int .i64 r.u)∧W.cell? ⟨D,17,none⟩=some (.int .u64 r.v)from fun W hb=>⟨kK hb (HT0.out.row.g 0 rfl),kK hb (HT0.out.row.g 1 rfl),kK hb (HT0.out.row.g 2 rfl),kK hb (HT0.out.row.g 3 rfl),kK hb (HT0.out.row.g 12 rfl),kK hb (HT0.out.row.g 13 rfl),kK hb (HT0.out.row.g 14 rfl),kK hb (HT0.out.row.g 15 rfl),kK hb (HT0.out.row.g 16 rfl),kK hb (HT0.out.row.g 17 rfl)⟩);have HRF:=aH (ref_fst0 m.d r);have HV:=aH (show brV m.d m.o who r=if who<1∨m.d.arms<who then(80,0)else if refV m.d r=(0,0)then(if (fstN (lkB m.o who) (muV m.d r)).2=true then(141,(fstN (lkB m.o who) (muV m.d r)).1)else(0,0))else refV m.d r from rfl);generalize brV m.d m.o who r=B at *;obtain⟨B1,B2⟩:=B;dsimp only;generalize muV m.d r=mu at *;generalize fstN (lkB m.o who) mu=lk at *;obtain⟨l1,l2⟩:=lk;generalize refV m.d r=cc at *;obtain⟨c1,c2⟩:=cc;dsimp only at *;clear h hT;by_cases h1:who<1
 ·rw[if_pos (Or.inl h1)]at HV;have hv:=HV.out
  cases hv
  go_enter Tryz.func65,Tryz.ntmps65
  go_upto_region 1 with fail
  rw[←hw0];clear hw0;have g11:=HT0.out.row.g 11 rfl;have g3:=HT0.out.row.g 3 rfl
  go_region
  have HBD:=aH (show Below w0.heap.size w0 w0.drew from below_drewN (bR _ _) 1);have HRD:=aH (HR.out.below HBD.out);clear g11 g3;generalize w0.drew=w1 at *;have HBE:=aH (bC HB0.out HBD.out);have k0:=HRD.out.g 0 rfl;have k1:=HRD.out.g 1 rfl;have y0:=HRD.out.z 0 rfl;have y1:=HRD.out.z 1 rfl;go_wp2;have HF:=aH ((HRD.out.set 0 (.int .i64 80)).set 1 (.int .i64 0));have f0:=HF.out.g 0 rfl;have f1:=HF.out.g 1 rfl;clear k0 k1 y0 y1;refine bP (v:=.agg #[.int .i64 80,.int .i64 0]) ?_ rfl ?_
  ·simp[results,Tryz.results65,go_sem,f0,f1]
  ·exact⟨rfl,(HBE.out.setCell (p:=⟨w.heap.size,0,none⟩) (nR _) _).setCell (p:=⟨w.heap.size,1,none⟩) (nR _) _⟩
 by_cases h2:m.d.arms<who
 ·rw[if_pos (Or.inr h2)]at HV;have hv:=HV.out
  cases hv
  go_enter Tryz.func65,Tryz.ntmps65
  go_upto_region 1 with fail
  rw[←hw0];clear hw0;have g11:=HT0.out.row.g 11 rfl;have g3:=HT0.out.row.g 3 rfl
  go_region
  have HBD:=aH (show Below w0.heap.size w0 w0.drew from below_drewN (bR _ _) 1);have HRD:=aH (HR.out.below HBD.out);clear g11 g3;generalize w0.drew=w1 at *;have HBE:=aH (bC HB0.out HBD.out);have k0:=HRD.out.g 0 rfl;have k1:=HRD.out.g 1 rfl;have y0:=HRD.out.z 0 rfl;have y1:=HRD.out.z 1 rfl;go_wp2;have HF:=aH ((HRD.out.set 0 (.int .i64 80)).set 1 (.int .i64 0));have f0:=HF.out.g 0 rfl;have f1:=HF.out.g 1 rfl;clear k0 k1 y0 y1;refine bP (v:=.agg #[.int .i64 80,.int .i64 0]) ?_ rfl ?_
  ·simp[results,Tryz.results65,go_sem,f0,f1]
  ·exact⟨rfl,(HBE.out.setCell (p:=⟨w.heap.size,0,none⟩) (nR _) _).setCell (p:=⟨w.heap.size,1,none⟩) (nR _) _⟩
 rw[if_neg (by omega)]at HV;go_enter Tryz.func65,Tryz.ntmps65
 go_upto_region 1 with fail
 rw[←hw0];clear hw0;have g11:=HT0.out.row.g 11 rfl;have g3:=HT0.out.row.g 3 rfl
 go_region
 go_upto_region 3 with fail
 have HBv:=aH (show Below w0.heap.size w0 w0.drew from below_drewN (bR _ _) 1);clear g11 g3;generalize w0.drew=wv at *;go_cut [3]from 25 (fun t3 wx=>∃ga:Nat,t3=.pointer (some ⟨ga,0,none⟩)∧Hid (Row wx ga [.int .i64 c1,.int .i64 c2,.int .i64 0,.int .i64 0,.slice none 0 0])∧Hid (Below w0.heap.size w0 wx)∧Hid (w0.heap.size≤ga))
 case first=>
  refine wp_region_held_drew (S:=fun w'=>w'.cell? ⟨D,0,none⟩=some (.slice m.d.bA m.d.bn m.d.bc)∧w'.cell? ⟨D,1,none⟩=some (.slice m.d.pA m.d.pn m.d.pc)∧w'.cell? ⟨D,2,none⟩=some (.slice m.d.rA m.d.rn m.d.rc)∧w'.cell? ⟨D,3,none⟩=some (.int .i64 m.d.arms)∧w'.cell? ⟨D,12,none⟩=some (.int .i64 r.k)∧w'.cell? ⟨D,13,none⟩=some (.slice r.iA r.il.length r.ic)∧w'.cell? ⟨D,14,none⟩=some (.int .i64 r.a)∧w'.cell? ⟨D,15,none⟩=some (.int .i64 r.b)∧w'.cell? ⟨D,16,none⟩=some (.int .i64 r.u)∧w'.cell? ⟨D,17,none⟩=some (.int .u64 r.v)) (by kernel_rfl) ?_ (fun hHeld=>?_)
  ·exact HS.out _ HBv.out.drew
  have BB0:=aH HBv.out.drew;generalize wv.drew=p0 at *;refine wk [.k 0 25,.k 1 26,.k 2 27,.k 3 28,.k 4 29,.k 5 30,.k 6 31,.k 7 32,.k 8 33] (fun _ _ _ _ _ h=>h) hHeld ?_ (by kernel_rfl);repeat (refine .k (v:=?_) rfl (by kernel_rfl) ?_ ?_;rotate_left 1;((intro w hSw;(try dsimp only at hSw);go_simp)<;>(try with_reducible rfl));(try simp only[sp]))
  refine .nil ?_;refine wR 9 [10] (by kernel_rfl) ?_;refine rK (some 34) rfl (fun K hK=>?_) (rK (some 3) rfl (fun K hK=>?_) rN)
  skip
  go_simp;(with_reducible refine(HCK.out _ BB0.out).mono ?_);rintro e p1 ⟨rfl,hb⟩;have BB1:=aH (bC BB0.out hb);clear hb hHeld BB0;go_wp2_with fail;refine hK.out _ _ (HS.out _ BB1.out) (fun hHeld=>?_);clear hK K;try simp only[sp]
  refine wQ 10 (some 3) rfl (fun K hK=>?_) (by kernel_rfl);go_simp;have hb:=bL (bR _ p1) (.cells #[.int .i64 0,.int .i64 0,.int .i64 0,.int .i64 0,.slice none 0 0] 56);have BB2:=aH (bC BB1.out hb);have RA:=aH (show Row (p1.alloc (.cells #[.int .i64 0,.int .i64 0,.int .i64 0,.int .i64 0,.slice none 0 0] 56)) p1.heap.size [.int .i64 0,.int .i64 0,.int .i64 0,.int .i64 0,.slice none 0 0]from Row.new _ _ _ _ rfl);have GA:=aH (show _≤p1.heap.size from BB1.out.size);clear hb hHeld BB1;generalize p1.alloc (.cells #[.int .i64 0,.int .i64 0,.int .i64 0,.int .i64 0,.slice none 0 0] 56)=p2 at *;generalize p1.heap.size=ga at *;refine hK.out _ _ (HS.out _ BB2.out) (fun hHeld=>?_);clear hK K;try simp only[sp]
  rotate_left 1
  go_simp;have hb:=bL (bR _ p0) (.cells #[.int .i64 0,.int .i64 0,.int .i64 0,.int .i64 0,.slice none 0 0] 56);have BB1:=aH (bC BB0.out hb);have RA:=aH (show Row (p0.alloc (.cells #[.int .i64 0,.int .i64 0,.int .i64 0,.int .i64 0,.slice none 0 0] 56)) p0.heap.size [.int .i64 0,.int .i64 0,.int .i64 0,.int .i64 0,.slice none 0 0]from Row.new _ _ _ _ rfl);have GA:=aH (show _≤p0.heap.size from BB0.out.size);clear hb hHeld BB0;generalize p0.alloc (.cells #[.int .i64 0,.int .i64 0,.int .i64 0,.int .i64 0,.slice none 0 0] 56)=p1 at *;generalize p0.heap.size=ga at *;refine hK.out _ _ (HS.out _ BB1.out) (fun hHeld=>?_);clear hK K;try simp only[sp]
  refine wQ 9 (some 34) rfl (fun K hK=>?_) (by kernel_rfl);go_simp;(with_reducible refine(HCK.out _ BB1.out).mono ?_);rintro e p2 ⟨rfl,hb⟩;have BB2:=aH (bC BB1.out hb);replace RA:=aH (RA.out.below hb);clear hb hHeld BB1;go_wp2_with fail;refine hK.out _ _ (HS.out _ BB2.out) (fun hHeld=>?_);clear hK K;try simp only[sp]
  all_goals
   refine wQ 11 none rfl (fun K hK=>?_) (by kernel_rfl);rw[if_pos (by kernel_rfl)];refine wp_store_mid _ _ _ rfl ga 0 #[.int .i64 c1,.int .i64 c2,.int .i64 0,.int .i64 0,.slice none 0 0] (by kernel_rfl) (by kernel_rfl) (RA.out.there rfl) (by kernel_rfl) (by kernel_rfl) ?_;change K _ (p2.setCells ga 0 [.int .i64 c1,.int .i64 c2,.int .i64 0,.int .i64 0,.slice none 0 0]);have BB3:=aH (show Below _ _ (p2.setCells ga 0 [.int .i64 c1,.int .i64 c2,.int .i64 0,.int .i64 0,.slice none 0 0])from Below.fill GA.out _ _ 0 BB2.out);have RB:=aH (show Row (p2.setCells ga 0 [.int .i64 c1,.int .i64 c2,.int .i64 0,.int .i64 0,.slice none 0 0]) ga [.int .i64 c1,.int .i64 c2,.int .i64 0,.int .i64 0,.slice none 0 0]from RA.out.fill _ rfl);clear hHeld BB2 RA;generalize p2.setCells ga 0 [.int .i64 c1,.int .i64 c2,.int .i64 0,.int .i64 0,.slice none 0 0]=p3 at *;refine hK.out _ _ (HS.out _ BB3.out) (fun hHeld=>?_);clear hK K;(try simp only[Act.put]);refine wD (by kernel_rfl) ?_;go_wp2;go_meet;exact⟨ga,rfl,RB,BB3,GA⟩
 case rest=>
  obtain⟨ga,rfl,HX,HBX,HGA⟩:=hcut;rename World=>wx
  have x0:=HX.out.g 0 rfl;have x1:=HX.out.g 1 rfl;by_cases hc:c1=0
  case neg=>
   have hc':(c1 != 0)=true:=(by simpa using hc);rw[if_neg (by intro h;cases h;exact hc rfl)]at HV;have hv:=HV.out
   cases hv
   have HRD:=aH (HR.out.below HBX.out);have HBE:=aH (bC HB0.out HBX.out);have k0:=HRD.out.g 0 rfl;have k1:=HRD.out.g 1 rfl;have y0:=HRD.out.z 0 rfl;have y1:=HRD.out.z 1 rfl;go_wp2;have HF:=aH ((HRD.out.set 0 (.int .i64 B1)).set 1 (.int .i64 B2));have f0:=HF.out.g 0 rfl;have f1:=HF.out.g 1 rfl;clear k0 k1 y0 y1;refine bP (v:=.agg #[.int .i64 B1,.int .i64 B2]) ?_ rfl ?_
   ·simp[results,Tryz.results65,go_sem,f0,f1]
   ·exact⟨rfl,(HBE.out.setCell (p:=⟨w.heap.size,0,none⟩) (nR _) _).setCell (p:=⟨w.heap.size,1,none⟩) (nR _) _⟩
  case pos=>
   subst hc;obtain rfl:c2=0:=HRF.out rfl;rw[if_pos rfl]at HV
   go_upto_region 6 with fail
   clear x0 x1;have HTX:=aH (HT0.out.then HBX.out);have g10:=HTX.out.row.g 10 rfl;have g0:=HTX.out.row.g 0 rfl;have g1:=HTX.out.row.g 1 rfl;have g2:=HTX.out.row.g 2 rfl;have g3:=HTX.out.row.g 3 rfl;have g12:=HTX.out.row.g 12 rfl;have g13:=HTX.out.row.g 13 rfl;have g14:=HTX.out.row.g 14 rfl;have g15:=HTX.out.row.g 15 rfl;have g16:=HTX.out.row.g 16 rfl;have g17:=HTX.out.row.g 17 rfl;have g11:=HTX.out.row.g 11 rfl;refine wp_region_held_drew (S:=fun w'=>w'.cell? ⟨D,10,none⟩=some (.slice m.oA m.o.length m.oc)∧w'.cell? ⟨D,0,none⟩=some (.slice m.d.bA m.d.bn m.d.bc)∧w'.cell? ⟨D,1,none⟩=some (.slice m.d.pA m.d.pn m.d.pc)∧w'.cell? ⟨D,2,none⟩=some (.slice m.d.rA m.d.rn m.d.rc)∧w'.cell? ⟨D,3,none⟩=some (.int .i64 m.d.arms)∧w'.cell? ⟨D,12,none⟩=some (.int .i64 r.k)∧w'.cell? ⟨D,13,none⟩=some (.slice r.iA r.il.length r.ic)∧w'.cell? ⟨D,14,none⟩=some (.int .i64 r.a)∧w'.cell? ⟨D,15,none⟩=some (.int .i64 r.b)∧w'.cell? ⟨D,16,none⟩=some (.int .i64 r.u)∧w'.cell? ⟨D,17,none⟩=some (.int .u64 r.v)∧w'.cell? ⟨D,11,none⟩=some (.int .i64 who)) (by kernel_rfl) ?_ (fun hHeld=>?_)
   ·exact⟨g10,g0,g1,g2,g3,g12,g13,g14,g15,g16,g17,g11⟩
   have HBr:=aH (show Below w0.heap.size w0 wx.drew from HBX.out.drew);have HRX:=aH (HR.out.below HBr.out);clear g10 g0 g1 g2 g3 g12 g13 g14 g15 g16 g17 g11;generalize wx.drew=wy at *;refine wk [.k 0 44,.k 1 45,.k 2 46,.k 3 47,.k 4 48,.k 5 49,.k 6 50,.k 7 51,.k 8 52,.k 9 53,.k 10 54,.k 11 55,.k 12 56,.k 13 57,.k 15 59,.k 16 60,.k 17 61,.k 18 62] (fun _ _ _ _ _ h=>h) hHeld ?_ (by kernel_rfl);repeat (refine .k (v:=?_) rfl (by kernel_rfl) ?_ ?_;rotate_left 1;((intro w hSw;(try dsimp only at hSw);go_simp)<;>(try with_reducible rfl));(try simp only[sp]))
   refine .nil ?_;refine wQ 14 (some 58) rfl (fun K hK=>?_) (by kernel_rfl);go_simp;(with_reducible refine(HMU.out _ HBr.out).mono ?_);rintro e wv ⟨u,rfl,hu,hb⟩;obtain⟨s0,s1,s2,s3,s4,s5,s6,s7,s8,s9,s10,s11⟩:=hHeld;have HBr:=aH (bC HBr.out hb);have HU:=aH hu;replace s0:=kK hb s0;replace s1:=kK hb s1;replace s2:=kK hb s2;replace s3:=kK hb s3;replace s4:=kK hb s4;replace s5:=kK hb s5;replace s6:=kK hb s6;replace s7:=kK hb s7;replace s8:=kK hb s8;replace s9:=kK hb s9;replace s10:=kK hb s10;replace s11:=kK hb s11;clear hb hu;go_wp2_with fail;refine hK.out _ _ ⟨s0,s1,s2,s3,s4,s5,s6,s7,s8,s9,s10,s11⟩ (fun hHeld=>?_);clear hK K s0 s1 s2 s3 s4 s5 s6 s7 s8 s9 s10 s11;(try simp only[sp]);refine wQ 19 (some 63) rfl (fun K hK=>?_) (by kernel_rfl);go_simp;(with_reducible refine(HLK.out _ HBr.out u HU.out).mono ?_);rintro e wv ⟨rfl,hb⟩;obtain⟨s0,s1,s2,s3,s4,s5,s6,s7,s8,s9,s10,s11⟩:=hHeld;have HBr:=aH (bC HBr.out hb);have HU:=aH (HU.out.then hb);replace s0:=kK hb s0;replace s1:=kK hb s1;replace s2:=kK hb s2;replace s3:=kK hb s3;replace s4:=kK hb s4;replace s5:=kK hb s5;replace s6:=kK hb s6;replace s7:=kK hb s7;replace s8:=kK hb s8;replace s9:=kK hb s9;replace s10:=kK hb s10;replace s11:=kK hb s11;clear hb;go_wp2_with fail;refine hK.out _ _ ⟨s0,s1,s2,s3,s4,s5,s6,s7,s8,s9,s10,s11⟩ (fun hHeld=>?_);clear hK K s0 s1 s2 s3 s4 s5 s6 s7 s8 s9 s10 s11;(try simp only[sp]);refine wk [.k 20 43,.k 21 64,.k 22 65,.k 23 4,.k 24 5] (fun _ _ _ _ _ h=>h) hHeld ?_ (by kernel_rfl);repeat (refine .k (v:=?_) rfl (by kernel_rfl) ?_ ?_;rotate_left 1;((intro w hSw;(try dsimp only at hSw);go_simp)<;>(try with_reducible rfl));(try simp only[sp]))
   refine .nil ?_;refine wD (by kernel_rfl) ?_;have HBE:=aH (bC HB0.out HBr.out);have HRD:=aH (HR.out.below HBr.out);clear hHeld HRX
   cases l2
   ·rw[if_neg (by decide)]at HV;have hv:=HV.out
    cases hv
    have k0:=HRD.out.g 0 rfl;have k1:=HRD.out.g 1 rfl;have y0:=HRD.out.z 0 rfl;have y1:=HRD.out.z 1 rfl;go_wp2;have HF:=aH ((HRD.out.set 0 (.int .i64 0)).set 1 (.int .i64 0));have f0:=HF.out.g 0 rfl;have f1:=HF.out.g 1 rfl;clear k0 k1 y0 y1;refine bP (v:=.agg #[.int .i64 0,.int .i64 0]) ?_ rfl ?_
    ·simp[results,Tryz.results65,go_sem,f0,f1]
    ·exact⟨rfl,(HBE.out.setCell (p:=⟨w.heap.size,0,none⟩) (nR _) _).setCell (p:=⟨w.heap.size,1,none⟩) (nR _) _⟩
   ·rw[if_pos rfl]at HV;have hv:=HV.out
    cases hv
    have k0:=HRD.out.g 0 rfl;have k1:=HRD.out.g 1 rfl;have y0:=HRD.out.z 0 rfl;have y1:=HRD.out.z 1 rfl;go_wp2;have HF:=aH ((HRD.out.set 0 (.int .i64 141)).set 1 (.int .i64 B2));have f0:=HF.out.g 0 rfl;have f1:=HF.out.g 1 rfl;clear k0 k1 y0 y1;refine bP (v:=.agg #[.int .i64 141,.int .i64 B2]) ?_ rfl ?_
    ·simp[results,Tryz.results65,go_sem,f0,f1]
    ·exact⟨rfl,(HBE.out.setCell (p:=⟨w.heap.size,0,none⟩) (nR _) _).setCell (p:=⟨w.heap.size,1,none⟩) (nR _) _⟩
theorem index_any (v:Value) (xs:List Int) (k:Nat) (cap:Array Value) (p:Int→Bool) (w:World) (hv:KI.IsL w w.heap.size v xs) (hen:∀args w,(callFunc k args).run Tryz.prog w=.ok (.enter k args) w) (hp:Tells Tryz.prog w k cap xs p):Calls Tryz.prog 167 #[v,.func (.func k) #[] cap] w fun e w'=>∃n:Int,e=.returned (.int .i64 n)∧decide (0≤n)=xs.any p∧Below w.heap.size w w':=by
 have HV:=aH hv;have HP:=aH hp;obtain⟨⟨A,c,rfl,hc,_⟩,_,hl⟩:=hv;clear hp;go_enter Tryz.func167,Tryz.ntmps167;go_wp2
 go_loopw [8] (fun i wr=>∃k:Nat,i=.int .i64 k∧k≤xs.length∧(∀j,j<k→p (xs.getD j 0)=false)∧Below w.heap.size w wr) (fun i _=>xs.length-(intOf i).toNat)
 case atStart=>exact⟨0,rfl,Nat.zero_le _,fun j hj=>absurd hj (Nat.not_lt_zero _),bR _ _⟩
 case round=>
  obtain⟨i,rfl,hk,hkp,hbl⟩:=hrel;have HB:=aH hbl;have HK:=aH hkp;clear hkp hbl;by_cases hlt:i<xs.length
  ·obtain⟨b,off,cap',hs,_,hb,_,hcell,_⟩:=KI.cells (HV.out.below HB.out) (by omega);simp only[Value.slice.injEq]at hs;obtain⟨rfl,_,rfl⟩:=hs;have e1:=hcell i hlt;clear hcell;have HA:=aH (HP.out wr HB.out _ (getD_mem' xs i 0 hlt));have HMM:=aH (getD_mem' xs i 0 hlt);obtain⟨x,hx⟩:∃x,xs.getD i 0=x:=⟨_,rfl⟩;rw[hx]at HA e1 HMM;have HX:=aH hx;clear hx;obtain⟨q,hq⟩:∃q,p x=q:=⟨_,rfl⟩;rw[hq]at HA;have HQ:=aH hq;clear hq;have hbw:b<wr.heap.size:=nL hb HB.out.size;go_wp2_with fail;refine HA.out.mono ?_;rintro e w2 ⟨rfl,hb2⟩;have HB2:=aH (bC HB.out hb2);clear hb2 e1
   cases q
   ·go_wp2
    go_roundw
    case rel=>exact⟨i+1,num_i (by omega),by omega,fun j hj=>by
     by_cases h:j=i
     ·subst h;rw[HX.out];exact HQ.out
     ·exact HK.out j (by omega),HB2.out⟩
    case measure=>simp[intOf];omega
   ·go_wp2
    go_ret
    refine⟨_,rfl,?_,HB2.out⟩;rw[dT (by omega)];exact(List.any_eq_true.2 ⟨x,HMM.out,HQ.out⟩).symm
  ·go_wp2
   go_ret
   refine⟨_,rfl,?_,HB.out⟩;rw[dF (by decide)];symm;rw[List.any_eq_false];intro x hx;obtain⟨j,hj,rfl⟩:=List.getElem_of_mem hx;have h:=HK.out j (by omega);rw[List.getD_eq_getElem?_getD,List.getElem?_eq_getElem hj]at h;simpa using h
theorem contains_any (v:Value) (xs:List Int) (k:Nat) (cap:Array Value) (p:Int→Bool) (w:World) (hv:KI.IsL w w.heap.size v xs) (hen:∀args w,(callFunc k args).run Tryz.prog w=.ok (.enter k args) w) (hp:Tells Tryz.prog w k cap xs p):Calls Tryz.prog 110 #[v,.func (.func k) #[] cap] w fun e w'=>e=.returned (.bool (xs.any p))∧Below w.heap.size w w':=by
 have HI:=aH (index_any v xs k cap p w hv hen hp);clear hv hp;generalize xs.any p=q at *;go_enter Tryz.func110,Tryz.ntmps110;go_wp2_with fail;refine HI.out.mono ?_;rintro e w2 ⟨n,rfl,rfl,hb⟩;go_wp2
 go_ret
 exact⟨rfl,hb⟩
def owW (arms x:Int):Bool:=decide (x<0)||decide (arms<x)
theorem owner1_any (x arms:Int) (b:Nat) (w:World) (h:w.cell? ⟨b,0,none⟩=some (.int .i64 arms)):Calls Tryz.prog 111 #[.int .i64 x,.pointer (some ⟨b,0,none⟩)] w fun e w'=>e=.returned (.bool (owW arms x))∧w=w':=by
 unfold owW;by_cases h1:x<0<;>by_cases h2:arms<x;all_goals
  go_enter Tryz.func111,Tryz.ntmps111;go_wp2
  go_ret
  exact⟨ret_b (by simp[h1,h2]),rfl⟩
def owB (o:List Int) (arms:Int):Bool:=!o.any (owW arms)
theorem rightOwners_any (v:Value) (o:List Int) (arms:Int) (w:World) (hv:KI.IsL w w.heap.size v o):Calls Tryz.prog 59 #[v,.int .i64 arms] w fun e w'=>e=.returned (.bool (owB o arms))∧Below w.heap.size w w':=by
 obtain⟨w0,hw0⟩:∃w0,w0=w.alloc (.cells #[.int .i64 arms] 3):=⟨_,rfl⟩;have HB0:=aH (show Below w.heap.size w w0 by rw[hw0];exact bL (bR _ _) _);have HC0:=aH (show w0.cell? ⟨w.heap.size,0,none⟩=some (.int .i64 arms)by rw[hw0,alloc_at];rfl);have HF:=aH (contains_any v o 111 #[.pointer (some ⟨w.heap.size,0,none⟩)] (owW arms) w0 (hv.then HB0.out) (enters_of Tryz.func111 (by kernel_rfl) rfl) (fun w' hb x _=>(owner1_any x arms _ w' (kK hb HC0.out)).mono fun _ _ q=>⟨q.1,by rw[←q.2];exact bR _ _⟩));clear hv;have e:owB o arms= !o.any (owW arms):=rfl;rw[e];generalize o.any (owW arms)=q at *;go_enter Tryz.func59,Tryz.ntmps59;go_wp2_with fail;rw[←hw0];refine HF.out.mono ?_;rintro e w2 ⟨rfl,hb⟩;go_wp2
 go_ret
 exact⟨rfl,bC HB0.out hb⟩
theorem len_cnt (l:List Q4) (h:∀p∈l,p.a=1∨p.a=2∨p.a=3):cntK 1 l+cntK 2 l+cntK 3 l=(l.length:Int):=by
 induction l with
 |nil=>rfl
 |cons p r ih=>
  have ih:=ih fun q hq=>h q (by simp[hq]);have hp:=h p (by simp);unfold cntK at ih⊢;rw[List.filter_cons,List.filter_cons,List.filter_cons,List.length_cons];rcases hp with e|e|e<;>simp[e]<;>omega
theorem cntK_ge (k:Int) (l:List Q4):0≤cntK k l:=by unfold cntK;omega
theorem ids_any16 (d:Dk) (w:World) (hd:d.In w w.heap.size):Calls Tryz.prog 53 #[d.v] w fun e w'=>e=.returned (.int .i64 ((partsK d).length:Int))∧Below w.heap.size w w':=by
 have HC:=aH (fun w h=>counts_any d w h);have hl:=len_cnt (partsK d) (fun p hp=>(parts_okP d p hp).1);have hn:=parts_len d;have c1:=cntK_ge 1 (partsK d);have c2:=cntK_ge 2 (partsK d);have c3:=cntK_ge 3 (partsK d);rw[cnt_V]at HC;dsimp only at HC;generalize cntK 1 (partsK d)=n1 at *;generalize cntK 2 (partsK d)=n2 at *;generalize cntK 3 (partsK d)=n3 at *;generalize (partsK d).length=n at *;obtain⟨w0,hw0⟩:∃w0,w0=w.alloc d.ob:=⟨_,rfl⟩;have HB0:=aH (show Below w.heap.size w w0 by rw[hw0];exact bL (bR _ _) _);have HD0:=aH (hd.then HB0.out);clear hd;go_enter Tryz.func53,Tryz.ntmps53;go_wp2_with fail;rw[←hw0];refine(HC.out w0 HD0.out).mono ?_;rintro e w2 ⟨rfl,hb⟩;go_wp2
 go_ret
 exact⟨ret_i (by omega),bC HB0.out hb⟩
noncomputable def rgM (m:Md):Bool:=rgS m.d m.s.ab&&(decide ((m.o.length:Int)=((partsK m.d).length:Int))&&owB m.o m.d.arms)
theorem right_m (m:Md) (w:World) (hm:m.In w w.heap.size):Calls Tryz.prog 22 #[m.v] w fun e w'=>e=.returned (.bool (rgM m))∧Below w.heap.size w w':=by
 obtain⟨w0,hw0⟩:∃w0,w0=w.alloc (.cells m.ob 43):=⟨_,rfl⟩;have HB0:=aH (show Below w.heap.size w w0 by rw[hw0];exact bL (bR _ _) _);have HM0:=aH (hm.then HB0.out);have HA0:=aH (show MdAt w0 w.heap.size m by rw[hw0];exact Cells11.new w _ _ _ _ _ _ _ _ _ _ _ _);have HRG:=aH (fun V (h:Below w0.heap.size w0 V)=>right_s m.d m.s V (HM0.out.d.then h) (HM0.out.s.then h));have HID:=aH (fun V (h:Below w0.heap.size w0 V)=>ids_any16 m.d V (HM0.out.d.then h));have HOW:=aH (fun V (h:Below w0.heap.size w0 V)=>rightOwners_any (.slice m.oA m.o.length m.oc) m.o m.d.arms V (HM0.out.o.then h));have e:rgM m=(rgS m.d m.s.ab&&(decide ((m.o.length:Int)=((partsK m.d).length:Int))&&owB m.o m.d.arms)):=rfl;rw[e];clear e hm;generalize rgS m.d m.s.ab=b1 at *;generalize owB m.o m.d.arms=b3 at *;generalize ((partsK m.d).length:Int)=n at *
 cases b1
 ·skip
  go_enter Tryz.func22,Tryz.ntmps22
  go_upto_region 1 with fail
  rw[←hw0];obtain⟨g0,g1,g2,g3,g4,g5,g6,g7,g8,g9,g10,-⟩:=HA0.out;clear hw0;refine wp_region_held_drew (S:=fun w'=>w'.cell? ⟨w.heap.size,0,none⟩=some (.slice m.d.bA m.d.bn m.d.bc)∧w'.cell? ⟨w.heap.size,1,none⟩=some (.slice m.d.pA m.d.pn m.d.pc)∧w'.cell? ⟨w.heap.size,2,none⟩=some (.slice m.d.rA m.d.rn m.d.rc)∧w'.cell? ⟨w.heap.size,3,none⟩=some (.int .i64 m.d.arms)∧w'.cell? ⟨w.heap.size,4,none⟩=some (.slice m.s.cA m.s.cl.length m.s.cc)∧w'.cell? ⟨w.heap.size,5,none⟩=some (.slice m.s.lA m.s.ll.length m.s.lc)∧w'.cell? ⟨w.heap.size,6,none⟩=some (.slice m.s.tA m.s.tl.length m.s.tc)∧w'.cell? ⟨w.heap.size,7,none⟩=some (.int .i64 m.s.st)∧w'.cell? ⟨w.heap.size,8,none⟩=some (.int .i64 m.s.inn)∧w'.cell? ⟨w.heap.size,9,none⟩=some (.int .i64 m.s.out)∧w'.cell? ⟨w.heap.size,10,none⟩=some (.slice m.oA m.o.length m.oc)) (by kernel_rfl) ?_ (fun hHeld=>?_)
  ·exact⟨g0,g1,g2,g3,g4,g5,g6,g7,g8,g9,g10⟩
  have HBr:=aH (show Below w0.heap.size w0 w0.drew from below_drewN (bR _ _) 1);clear g0 g1 g2 g3 g4 g5 g6 g7 g8 g9 g10;generalize w0.drew=wv at *;refine wk [.k 0 3,.k 1 4,.k 2 5,.k 3 6] (fun _ _ _ _ _ h=>h) hHeld ?_ (by kernel_rfl);repeat (refine .k (v:=?_) rfl (by kernel_rfl) ?_ ?_;rotate_left 1;(intro w h;go_simp<;>try rfl);try simp only[sp])
  refine .nil ?_;refine wQ 4 (some 7) rfl (fun K hK=>?_) (by kernel_rfl);go_simp;(with_reducible refine(HRG.out _ HBr.out).mono ?_);rintro e wv ⟨rfl,hb⟩;obtain⟨s0,s1,s2,s3,s4,s5,s6,s7,s8,s9,s10⟩:=hHeld;have HBr:=aH (bC HBr.out hb);replace s0:=kK hb s0;replace s1:=kK hb s1;replace s2:=kK hb s2;replace s3:=kK hb s3;replace s4:=kK hb s4;replace s5:=kK hb s5;replace s6:=kK hb s6;replace s7:=kK hb s7;replace s8:=kK hb s8;replace s9:=kK hb s9;replace s10:=kK hb s10;clear hb;go_wp2_with fail;refine hK.out _ _ ⟨s0,s1,s2,s3,s4,s5,s6,s7,s8,s9,s10⟩ (fun hHeld=>?_);clear hK K s0 s1 s2 s3 s4 s5 s6 s7 s8 s9 s10;try simp only[sp]
  refine wk [.k 5 8,.u 6 9,.u 7 10,.u 8 11,.u 9 12,.u 10 13,.u 11 14,.u 12 15,.k 13 16,.k 14 17,.u 15 18,.u 16 19,.u 17 20,.u 18 21,.u 19 22,.u 20 23,.k 21 24,.k 22 2] (fun _ _ _ _ _ h=>h) hHeld ?_ (by kernel_rfl);repeat (first|(refine .k (v:=?_) rfl (by kernel_rfl) ?_ ?_;rotate_left 1;(intro w h;go_simp<;>try rfl);try simp only[sp])|(refine .u rfl (by kernel_rfl) ?_;try simp only[sp]))
  refine .nil ?_;refine wD (by kernel_rfl) ?_;go_wp2
  go_ret
  exact⟨ret_b (by simp),bC HB0.out HBr.out⟩
 by_cases hn:(m.o.length:Int)=n
 case neg=>
  rw[dF hn];go_enter Tryz.func22,Tryz.ntmps22
  go_upto_region 1 with fail
  rw[←hw0];obtain⟨g0,g1,g2,g3,g4,g5,g6,g7,g8,g9,g10,-⟩:=HA0.out;clear hw0;refine wp_region_held_drew (S:=fun w'=>w'.cell? ⟨w.heap.size,0,none⟩=some (.slice m.d.bA m.d.bn m.d.bc)∧w'.cell? ⟨w.heap.size,1,none⟩=some (.slice m.d.pA m.d.pn m.d.pc)∧w'.cell? ⟨w.heap.size,2,none⟩=some (.slice m.d.rA m.d.rn m.d.rc)∧w'.cell? ⟨w.heap.size,3,none⟩=some (.int .i64 m.d.arms)∧w'.cell? ⟨w.heap.size,4,none⟩=some (.slice m.s.cA m.s.cl.length m.s.cc)∧w'.cell? ⟨w.heap.size,5,none⟩=some (.slice m.s.lA m.s.ll.length m.s.lc)∧w'.cell? ⟨w.heap.size,6,none⟩=some (.slice m.s.tA m.s.tl.length m.s.tc)∧w'.cell? ⟨w.heap.size,7,none⟩=some (.int .i64 m.s.st)∧w'.cell? ⟨w.heap.size,8,none⟩=some (.int .i64 m.s.inn)∧w'.cell? ⟨w.heap.size,9,none⟩=some (.int .i64 m.s.out)∧w'.cell? ⟨w.heap.size,10,none⟩=some (.slice m.oA m.o.length m.oc)) (by kernel_rfl) ?_ (fun hHeld=>?_)
  ·exact⟨g0,g1,g2,g3,g4,g5,g6,g7,g8,g9,g10⟩
  have HBr:=aH (show Below w0.heap.size w0 w0.drew from below_drewN (bR _ _) 1);clear g0 g1 g2 g3 g4 g5 g6 g7 g8 g9 g10;generalize w0.drew=wv at *;refine wk [.k 0 3,.k 1 4,.k 2 5,.k 3 6] (fun _ _ _ _ _ h=>h) hHeld ?_ (by kernel_rfl);repeat (refine .k (v:=?_) rfl (by kernel_rfl) ?_ ?_;rotate_left 1;(intro w h;go_simp<;>try rfl);try simp only[sp])
  refine .nil ?_;refine wQ 4 (some 7) rfl (fun K hK=>?_) (by kernel_rfl);go_simp;(with_reducible refine(HRG.out _ HBr.out).mono ?_);rintro e wv ⟨rfl,hb⟩;obtain⟨s0,s1,s2,s3,s4,s5,s6,s7,s8,s9,s10⟩:=hHeld;have HBr:=aH (bC HBr.out hb);replace s0:=kK hb s0;replace s1:=kK hb s1;replace s2:=kK hb s2;replace s3:=kK hb s3;replace s4:=kK hb s4;replace s5:=kK hb s5;replace s6:=kK hb s6;replace s7:=kK hb s7;replace s8:=kK hb s8;replace s9:=kK hb s9;replace s10:=kK hb s10;clear hb;go_wp2_with fail;refine hK.out _ _ ⟨s0,s1,s2,s3,s4,s5,s6,s7,s8,s9,s10⟩ (fun hHeld=>?_);clear hK K s0 s1 s2 s3 s4 s5 s6 s7 s8 s9 s10;try simp only[sp]
  refine wk [.k 5 8,.k 6 9,.k 7 10,.k 8 11,.k 9 12,.k 10 13] (fun _ _ _ _ _ h=>h) hHeld ?_ (by kernel_rfl);repeat (refine .k (v:=?_) rfl (by kernel_rfl) ?_ ?_;rotate_left 1;(intro w h;go_simp<;>try rfl);try simp only[sp])
  refine .nil ?_;refine wQ 11 (some 14) rfl (fun K hK=>?_) (by kernel_rfl);go_simp;(with_reducible refine(HID.out _ HBr.out).mono ?_);rintro e wv ⟨rfl,hb⟩;obtain⟨s0,s1,s2,s3,s4,s5,s6,s7,s8,s9,s10⟩:=hHeld;have HBr:=aH (bC HBr.out hb);replace s0:=kK hb s0;replace s1:=kK hb s1;replace s2:=kK hb s2;replace s3:=kK hb s3;replace s4:=kK hb s4;replace s5:=kK hb s5;replace s6:=kK hb s6;replace s7:=kK hb s7;replace s8:=kK hb s8;replace s9:=kK hb s9;replace s10:=kK hb s10;clear hb;go_wp2_with fail;refine hK.out _ _ ⟨s0,s1,s2,s3,s4,s5,s6,s7,s8,s9,s10⟩ (fun hHeld=>?_);clear hK K s0 s1 s2 s3 s4 s5 s6 s7 s8 s9 s10;try simp only[sp]
  refine wk [.k 12 15] (fun _ _ _ _ _ h=>h) hHeld ?_ (by kernel_rfl);repeat (refine .k (v:=?_) rfl (by kernel_rfl) ?_ ?_;rotate_left 1;(intro w h;go_simp<;>try rfl);try simp only[sp])
  refine .nil ?_;simp only[beq_eq_false_iff_ne.2 hn];refine wk [.k 13 16,.k 14 17,.u 15 18,.u 16 19,.u 17 20,.u 18 21,.u 19 22,.u 20 23,.k 21 24,.k 22 2] (fun _ _ _ _ _ h=>h) hHeld ?_ (by kernel_rfl);repeat (first|(refine .k (v:=?_) rfl (by kernel_rfl) ?_ ?_;rotate_left 1;(intro w h;go_simp<;>try rfl);try simp only[sp])|(refine .u rfl (by kernel_rfl) ?_;try simp only[sp]))
  refine .nil ?_;refine wD (by kernel_rfl) ?_;go_wp2
  go_ret
  exact⟨ret_b (by simp),bC HB0.out HBr.out⟩
 rw[dT hn];go_enter Tryz.func22,Tryz.ntmps22
 go_upto_region 1 with fail
 rw[←hw0];obtain⟨g0,g1,g2,g3,g4,g5,g6,g7,g8,g9,g10,-⟩:=HA0.out;clear hw0;refine wp_region_held_drew (S:=fun w'=>w'.cell? ⟨w.heap.size,0,none⟩=some (.slice m.d.bA m.d.bn m.d.bc)∧w'.cell? ⟨w.heap.size,1,none⟩=some (.slice m.d.pA m.d.pn m.d.pc)∧w'.cell? ⟨w.heap.size,2,none⟩=some (.slice m.d.rA m.d.rn m.d.rc)∧w'.cell? ⟨w.heap.size,3,none⟩=some (.int .i64 m.d.arms)∧w'.cell? ⟨w.heap.size,4,none⟩=some (.slice m.s.cA m.s.cl.length m.s.cc)∧w'.cell? ⟨w.heap.size,5,none⟩=some (.slice m.s.lA m.s.ll.length m.s.lc)∧w'.cell? ⟨w.heap.size,6,none⟩=some (.slice m.s.tA m.s.tl.length m.s.tc)∧w'.cell? ⟨w.heap.size,7,none⟩=some (.int .i64 m.s.st)∧w'.cell? ⟨w.heap.size,8,none⟩=some (.int .i64 m.s.inn)∧w'.cell? ⟨w.heap.size,9,none⟩=some (.int .i64 m.s.out)∧w'.cell? ⟨w.heap.size,10,none⟩=some (.slice m.oA m.o.length m.oc)) (by kernel_rfl) ?_ (fun hHeld=>?_)
 ·exact⟨g0,g1,g2,g3,g4,g5,g6,g7,g8,g9,g10⟩
 have HBr:=aH (show Below w0.heap.size w0 w0.drew from below_drewN (bR _ _) 1);clear g0 g1 g2 g3 g4 g5 g6 g7 g8 g9 g10;generalize w0.drew=wv at *;refine wk [.k 0 3,.k 1 4,.k 2 5,.k 3 6] (fun _ _ _ _ _ h=>h) hHeld ?_ (by kernel_rfl);repeat (refine .k (v:=?_) rfl (by kernel_rfl) ?_ ?_;rotate_left 1;(intro w h;go_simp<;>try rfl);try simp only[sp])
 refine .nil ?_;refine wQ 4 (some 7) rfl (fun K hK=>?_) (by kernel_rfl);go_simp;(with_reducible refine(HRG.out _ HBr.out).mono ?_);rintro e wv ⟨rfl,hb⟩;obtain⟨s0,s1,s2,s3,s4,s5,s6,s7,s8,s9,s10⟩:=hHeld;have HBr:=aH (bC HBr.out hb);replace s0:=kK hb s0;replace s1:=kK hb s1;replace s2:=kK hb s2;replace s3:=kK hb s3;replace s4:=kK hb s4;replace s5:=kK hb s5;replace s6:=kK hb s6;replace s7:=kK hb s7;replace s8:=kK hb s8;replace s9:=kK hb s9;replace s10:=kK hb s10;clear hb;go_wp2_with fail;refine hK.out _ _ ⟨s0,s1,s2,s3,s4,s5,s6,s7,s8,s9,s10⟩ (fun hHeld=>?_);clear hK K s0 s1 s2 s3 s4 s5 s6 s7 s8 s9 s10;try simp only[sp]
 refine wk [.k 5 8,.k 6 9,.k 7 10,.k 8 11,.k 9 12,.k 10 13] (fun _ _ _ _ _ h=>h) hHeld ?_ (by kernel_rfl);repeat (refine .k (v:=?_) rfl (by kernel_rfl) ?_ ?_;rotate_left 1;(intro w h;go_simp<;>try rfl);try simp only[sp])
 refine .nil ?_;refine wQ 11 (some 14) rfl (fun K hK=>?_) (by kernel_rfl);go_simp;(with_reducible refine(HID.out _ HBr.out).mono ?_);rintro e wv ⟨rfl,hb⟩;obtain⟨s0,s1,s2,s3,s4,s5,s6,s7,s8,s9,s10⟩:=hHeld;have HBr:=aH (bC HBr.out hb);replace s0:=kK hb s0;replace s1:=kK hb s1;replace s2:=kK hb s2;replace s3:=kK hb s3;replace s4:=kK hb s4;replace s5:=kK hb s5;replace s6:=kK hb s6;replace s7:=kK hb s7;replace s8:=kK hb s8;replace s9:=kK hb s9;replace s10:=kK hb s10;clear hb;go_wp2_with fail;refine hK.out _ _ ⟨s0,s1,s2,s3,s4,s5,s6,s7,s8,s9,s10⟩ (fun hHeld=>?_);clear hK K s0 s1 s2 s3 s4 s5 s6 s7 s8 s9 s10;try simp only[sp]
 refine wk [.k 12 15,.k 13 16,.k 14 17,.k 15 18,.k 16 19,.k 17 20,.k 18 21,.k 19 22] (fun _ _ _ _ _ h=>h) hHeld ?_ (by kernel_rfl);repeat (refine .k (v:=?_) rfl (by kernel_rfl) ?_ ?_;rotate_left 1;(intro w h;go_simp<;>try rfl);try simp only[sp])
 refine .nil ?_;refine wQ 20 (some 23) rfl (fun K hK=>?_) (by kernel_rfl);go_simp;(with_reducible refine(HOW.out _ HBr.out).mono ?_);rintro e wv ⟨rfl,hb⟩;obtain⟨s0,s1,s2,s3,s4,s5,s6,s7,s8,s9,s10⟩:=hHeld;have HBr:=aH (bC HBr.out hb);replace s0:=kK hb s0;replace s1:=kK hb s1;replace s2:=kK hb s2;replace s3:=kK hb s3;replace s4:=kK hb s4;replace s5:=kK hb s5;replace s6:=kK hb s6;replace s7:=kK hb s7;replace s8:=kK hb s8;replace s9:=kK hb s9;replace s10:=kK hb s10;clear hb;go_wp2_with fail;refine hK.out _ _ ⟨s0,s1,s2,s3,s4,s5,s6,s7,s8,s9,s10⟩ (fun hHeld=>?_);clear hK K s0 s1 s2 s3 s4 s5 s6 s7 s8 s9 s10;try simp only[sp]
 refine wk [.k 21 24,.k 22 2] (fun _ _ _ _ _ h=>h) hHeld ?_ (by kernel_rfl);repeat (refine .k (v:=?_) rfl (by kernel_rfl) ?_ ?_;rotate_left 1;(intro w h;go_simp<;>try rfl);try simp only[sp])
 refine .nil ?_;refine wD (by kernel_rfl) ?_;go_wp2
 go_ret
 exact⟨ret_b (by simp),bC HB0.out HBr.out⟩
structure DoP (c:Int×Int) (m t:Md) (x:Rs) (E I:Int) (A:Ab) (O:List Int) (X:Int×Int×Int×Int×List Ch):Prop where
 no:c≠(0,0)→t.s.ab=m.s.ab∧t.o=m.o∧x.ab=(c.1,c.2,0,0,[])
 ok:c=(0,0)→t.s.ab=A∧t.o=O∧(E=0→x.ab=X)∧(E≠0→x.ab=(E,I,0,0,[]))
end Go.Proofs.YtmecohdedghiaaaGreatDoor
