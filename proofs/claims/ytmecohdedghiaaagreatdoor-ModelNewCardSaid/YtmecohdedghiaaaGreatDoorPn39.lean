/- The little deck of the example. -/
import Derived.Test.YtmecohdedghiaaaGreatDoorPn00
import Derived.Test.YtmecohdedghiaaaGreatDoorPn38
import Derived.Test.YtmecohdedghiaaaGreatDoorPn24
import Derived.Test.YtmecohdedghiaaaGreatDoorPn37
import Derived.Test.YtmecohdedghiaaaGreatDoorPn31
import Derived.Test.YtmecohdedghiaaaGreatDoorPn18
import Derived.Test.YtmecohdedghiaaaGreatDoorPn15
set_option maxRecDepth 100000
set_option maxHeartbeats 8000000
namespace Go.Proofs.YtmecohdedghiaaaGreatDoor
open Go.RowKit
theorem do_7 (m:Md) (who:Int) (r:Rq) (x:Rs) (D:Nat) (w:World) (h:Tu w D m who r x) (hk:r.k=7):Calls Tryz.prog 66 #[.pointer (some ⟨D,0,none⟩)] w fun e w'=>∃m' x',e=.returned (.agg #[.int .i64 (cgE m.d m.s.ab who (taE m.d m.s.ab who r.a)),.int .i64 0])∧Aft w w' D m m' who r x x'∧m'.o=m.o∧(cgE m.d m.s.ab who (taE m.d m.s.ab who r.a)=0→m'.s.ab=taA m.s.ab who r.a∧x'={x with i:=r.a})∧(cgE m.d m.s.ab who (taE m.d m.s.ab who r.a)≠0→m'=m):=by
 obtain⟨w0,hw0⟩:∃w0,w0=w.alloc (.cells #[.int .i64 0,.int .i64 0] 104):=⟨_,rfl⟩;have HB0:=aH (show Below w.heap.size w w0 by rw[hw0];exact bL (bR _ _) _);have HT0:=aH (h.then HB0.out);have HR:=aH (show Row w0 w.heap.size [.int .i64 0,.int .i64 0]by rw[hw0];exact Row.new _ _ _ _ rfl);have HG:=aH (aI (h.im.off (nR _)) (h.ix.offL (nR _)));have HL:=aH h.lt;have HC:=aH (fun V (hT:Tu V D m who r {x with i:=r.a})=>take_f m.d m.s who r.a V hT.im.d hT.im.s h.ir.a);generalize cgE m.d m.s.ab who (taE m.d m.s.ab who r.a)=E at *;generalize taA m.s.ab who r.a=A at *;clear h;go_enter Tryz.func66,Tryz.ntmps66
 go_upto_region 1 with fail
 rw[←hw0];clear hw0;have g12:=HT0.out.row.g 12 rfl;have g14:=HT0.out.row.g 14 rfl;have g19:=HT0.out.row.g 19 rfl;have z19:=HT0.out.row.z 19 rfl;rw[hk]at g12
 go_upto_region 14 with fail
 have HT1:=aH (HT0.out.setI r.a);have HB1:=aH (show But D w (w0.setCell ⟨D,19,none⟩ (.int .i64 r.a))from(But.of HB0.out).st _);have HR1:=aH (HR.out.off (D:=D) (o:=19) (Nat.ne_of_lt HL.out) (.int .i64 r.a));clear g12 g14 g19 z19 HT0 HR;generalize w0.setCell ⟨D,19,none⟩ (.int .i64 r.a)=w1 at *;have g0:=HT1.out.row.g 0 rfl;have g1:=HT1.out.row.g 1 rfl;have g2:=HT1.out.row.g 2 rfl;have g3:=HT1.out.row.g 3 rfl;have g11:=HT1.out.row.g 11 rfl;have g14:=HT1.out.row.g 14 rfl;refine wp_region_held_drew (S:=fun w'=>w'.cell? ⟨D,0,none⟩=some (.slice m.d.bA m.d.bn m.d.bc)∧w'.cell? ⟨D,1,none⟩=some (.slice m.d.pA m.d.pn m.d.pc)∧w'.cell? ⟨D,2,none⟩=some (.slice m.d.rA m.d.rn m.d.rc)∧w'.cell? ⟨D,3,none⟩=some (.int .i64 m.d.arms)∧w'.cell? ⟨D,11,none⟩=some (.int .i64 who)∧w'.cell? ⟨D,14,none⟩=some (.int .i64 r.a)) (by kernel_rfl) ?_ (fun hHeld=>?_)
 ·exact⟨g0,g1,g2,g3,g11,g14⟩
 have HV:=aH (HT1.out.then (show Below w1.heap.size w1 w1.drew from below_drewN (bR _ _) 1));have HBv:=aH (HB1.out.call (show Below w1.heap.size w1 w1.drew from below_drewN (bR _ _) 1));have HRv:=aH (HR1.out.below (show Below w1.heap.size w1 w1.drew from below_drewN (bR _ _) 1));clear g0 g1 g2 g3 g11 g14 HT1 HB1 HR1;generalize w1.drew=wv at *;refine wk [.k 0 43,.k 1 44,.k 2 45,.k 3 46,.k 4 47,.k 5 48,.k 6 49,.k 7 50,.k 8 51,.k 9 52,.k 11 54,.k 12 55,.k 13 56,.k 14 57,.k 15 58,.k 16 59,.k 17 60,.k 18 61,.k 19 62] (fun _ _ _ _ _ h=>h) hHeld ?_ (by kernel_rfl);repeat (refine .k (v:=?_) rfl (by kernel_rfl) ?_ ?_;rotate_left 1;((intro w hSw;(try dsimp only at hSw);go_simp)<;>(try with_reducible rfl));(try simp only[sp]))
 refine .nil ?_;refine wQ 10 (some 53) rfl (fun K hK=>?_) (by kernel_rfl);have c4:=HV.out.row.g 4 rfl;have c5:=HV.out.row.g 5 rfl;have c6:=HV.out.row.g 6 rfl;have c7:=HV.out.row.g 7 rfl;have c8:=HV.out.row.g 8 rfl;have c9:=HV.out.row.g 9 rfl;go_simp;clear c4 c5 c6 c7 c8 c9;refine hK.out _ _ hHeld (fun hHeld=>?_);clear hK K;try simp only[sp]
 refine wQ 20 (some 63) rfl (fun K hK=>?_) (by kernel_rfl);go_simp;(with_reducible refine(HC.out wv HV.out).mono ?_);rintro e w2 ⟨s,rfl,hs,hab,hb,hf⟩;have HV2:=aH (HV.out.then hb);have HBv2:=aH (HBv.out.call hb);have HRv2:=aH (HRv.out.below hb);have HSN:=aH hs;have HSA:=aH hab;have HSO:=aH (fun G (hG:G<w.heap.size+1)=>hf.off (nL hG (show w.heap.size+1≤wv.heap.size from HRv.out.1)));clear hs hab hf hb HV HBv HRv hHeld;have s0:=HV2.out.row.g 0 rfl;have s1:=HV2.out.row.g 1 rfl;have s2:=HV2.out.row.g 2 rfl;have s3:=HV2.out.row.g 3 rfl;have s11:=HV2.out.row.g 11 rfl;have s14:=HV2.out.row.g 14 rfl;go_wp2_with fail;refine hK.out _ _ ⟨s0,s1,s2,s3,s11,s14⟩ (fun hHeld=>?_);clear hK K s0 s1 s2 s3 s11 s14;try simp only[sp]
 refine wk [.k 21 64,.k 22 65] (fun _ _ _ _ _ h=>h) hHeld ?_ (by kernel_rfl);repeat (refine .k (v:=?_) rfl (by kernel_rfl) ?_ ?_;rotate_left 1;((intro w hSw;(try dsimp only at hSw);go_simp)<;>(try with_reducible rfl));(try simp only[sp]))
 refine .nil ?_;refine wQ 23 (some 66) rfl (fun K hK=>?_) (by kernel_rfl);go_simp;(with_reducible refine(handle_t m who r {x with i:=r.a} D w2 HV2.out s _ HSN.out (HSO.out D (Nat.lt_succ_of_lt HL.out))).mono ?_);rintro e w3 ⟨rfl,ht,hb⟩;obtain⟨m',hm'⟩:∃m',m'=(if E=0 then {m with s:=s}else m):=⟨_,rfl⟩;rw[←hm']at ht;have HMM:=aH hm';have HMD:=aH (show m'.d=m.d by rw[hm'];split<;>rfl);have HV3:=aH ht;have HBv3:=aH (HBv2.out.trans hb);have HRv3:=aH (hb.row HRv2.out (Nat.ne_of_gt HL.out));clear hm' ht hb HV2 HBv2 HRv2 hHeld HSN;have s0:w3.cell? ⟨D,0,none⟩=some (.slice m.d.bA m.d.bn m.d.bc):=by have h:=HV3.out.row.g 0 rfl;rw[HMD.out]at h;exact h
 have s1:w3.cell? ⟨D,1,none⟩=some (.slice m.d.pA m.d.pn m.d.pc):=by have h:=HV3.out.row.g 1 rfl;rw[HMD.out]at h;exact h
 have s2:w3.cell? ⟨D,2,none⟩=some (.slice m.d.rA m.d.rn m.d.rc):=by have h:=HV3.out.row.g 2 rfl;rw[HMD.out]at h;exact h
 have s3:w3.cell? ⟨D,3,none⟩=some (.int .i64 m.d.arms):=by have h:=HV3.out.row.g 3 rfl;rw[HMD.out]at h;exact h
 have s11:=HV3.out.row.g 11 rfl;have s14:=HV3.out.row.g 14 rfl;go_wp2_with fail;refine hK.out _ _ ⟨s0,s1,s2,s3,s11,s14⟩ (fun hHeld=>?_);clear hK K s0 s1 s2 s3 s11 s14;try simp only[sp]
 refine wQ 24 none rfl (fun K hK=>?_) (by kernel_rfl);have k0:=HRv3.out.g 0 rfl;have k1:=HRv3.out.g 1 rfl;have y0:=HRv3.out.z 0 rfl;have y1:=HRv3.out.z 1 rfl;go_simp;clear k0 k1 y0 y1 hHeld;have HMO:=aH (show m'.Off w.heap.size by
  rw[HMM.out]
  split
  ·exact⟨HG.out.1.1,HSO.out _ (Nat.lt_succ_self _),HG.out.1.2.2⟩
  ·exact HG.out.1)
 have HV4:=aH ((HV3.out.other (o:=0) HL.out HMO.out HG.out.2 (.int .i64 E)).other (o:=1) HL.out HMO.out HG.out.2 (.int .i64 0));have HB4:=aH ((HBv3.out.new (o:=0) (nR _) (.int .i64 E)).new (o:=1) (nR _) (.int .i64 0));have HF:=aH ((HRv3.out.set 0 (.int .i64 E)).set 1 (.int .i64 0));clear HV3 HBv3 HRv3;generalize (w3.setCell ⟨w.heap.size,0,none⟩ (.int .i64 E)).setCell ⟨w.heap.size,1,none⟩ (.int .i64 0)=w4 at *;have s0:w4.cell? ⟨D,0,none⟩=some (.slice m.d.bA m.d.bn m.d.bc):=by have h:=HV4.out.row.g 0 rfl;rw[HMD.out]at h;exact h
 have s1:w4.cell? ⟨D,1,none⟩=some (.slice m.d.pA m.d.pn m.d.pc):=by have h:=HV4.out.row.g 1 rfl;rw[HMD.out]at h;exact h
 have s2:w4.cell? ⟨D,2,none⟩=some (.slice m.d.rA m.d.rn m.d.rc):=by have h:=HV4.out.row.g 2 rfl;rw[HMD.out]at h;exact h
 have s3:w4.cell? ⟨D,3,none⟩=some (.int .i64 m.d.arms):=by have h:=HV4.out.row.g 3 rfl;rw[HMD.out]at h;exact h
 have s11:=HV4.out.row.g 11 rfl;have s14:=HV4.out.row.g 14 rfl;refine hK.out _ _ ⟨s0,s1,s2,s3,s11,s14⟩ (fun hHeld=>?_);clear hK K s0 s1 s2 s3 s11 s14 hHeld;try simp only[sp]
 refine wD (by kernel_rfl) ?_;go_wp2;have f0:=HF.out.g 0 rfl;have f1:=HF.out.g 1 rfl;refine bP (v:=.agg #[.int .i64 E,.int .i64 0]) ?_ rfl ?_
 ·simp[results,Tryz.results66,go_sem,f0,f1]
 ·refine⟨m',{x with i:=r.a},rfl,⟨HV4.out,HB4.out,fun G hG hm hx=>⟨?_,hx⟩,HMD.out⟩,?_,fun h0=>⟨?_,rfl⟩,fun h0=>?_⟩
  ·rw[HMM.out]
   split
   ·exact⟨hm.1,HSO.out G (Nat.lt_succ_of_lt hG),hm.2.2⟩
   ·exact hm
  ·rw[HMM.out];split<;>rfl
  ·rw[HMM.out,if_pos h0];have:=HSA.out;rw[if_pos h0]at this;exact this
  ·rw[HMM.out,if_neg h0]
theorem do_9 (m:Md) (who:Int) (r:Rq) (x:Rs) (D:Nat) (w:World) (h:Tu w D m who r x) (hk:r.k=9) (ha:0≤r.a∧r.a<m.s.cl.length):Calls Tryz.prog 66 #[.pointer (some ⟨D,0,none⟩)] w fun e w'=>e=.returned (.agg #[.int .i64 0,.int .i64 0])∧Aft w w' D m m who r x {x with n:=(m.s.cl.getD r.a.toNat ce0).b,u:=(m.s.cl.getD r.a.toNat ce0).c}:=by
 obtain⟨w0,hw0⟩:∃w0,w0=w.alloc (.cells #[.int .i64 0,.int .i64 0] 104):=⟨_,rfl⟩;have HB0:=aH (show Below w.heap.size w w0 by rw[hw0];exact bL (bR _ _) _);have HT0:=aH (h.then HB0.out);have HR:=aH (show Row w0 w.heap.size [.int .i64 0,.int .i64 0]by rw[hw0];exact Row.new _ _ _ _ rfl);have HG:=aH (aI (h.im.off (nR _)) (h.ix.offL (nR _)));have HL:=aH h.lt;obtain⟨k,hka⟩:∃k:Nat,r.a=(k:Int):=⟨r.a.toNat,by omega⟩;have hlt:k<m.s.cl.length:=by omega
 have hln:=h.im.s.c.2.2;have htn:r.a.toNat=k:=by omega
 rw[htn];obtain⟨b,off,hA,-,-,-⟩:=ce_cells h.im.s.c (by omega);have HCE:=aH (fun V (hT:KE.IsL V V.heap.size (.slice m.s.cA m.s.cl.length m.s.cc) m.s.cl)=>show V.cell? ⟨b,off+k*3+1,none⟩=some (.int .i64 (m.s.cl.getD k ce0).b)∧V.cell? ⟨b,off+k*3+2,none⟩=some (.int .i64 (m.s.cl.getD k ce0).c)from by
  obtain⟨b2,off2,hA2,-,-,hc⟩:=ce_cells hT (by omega);rw[hA]at hA2
  cases hA2
  have q:=hc k hlt;exact⟨q.2.1,q.2.2⟩)
 generalize m.s.cl.getD k ce0=q at *;obtain⟨qa,qb,qc⟩:=q;dsimp only at *;clear h ha htn;go_enter Tryz.func66,Tryz.ntmps66
 go_upto_region 1 with fail
 rw[←hw0];clear hw0;have g12:=HT0.out.row.g 12 rfl;have g14:=HT0.out.row.g 14 rfl;have g4:=HT0.out.row.g 4 rfl;have g20:=HT0.out.row.g 20 rfl;have z20:=HT0.out.row.z 20 rfl;have e1:=(HCE.out w0 HT0.out.im.s.c).1;rw[hk]at g12;rw[hka]at g14;rw[hA]at g4
 go_upto_region 19 with fail
 go_region
 have HT1:=aH ((HT0.out.setN qb).then (show Below (w0.setCell ⟨D,20,none⟩ (.int .i64 qb)).heap.size (w0.setCell ⟨D,20,none⟩ (.int .i64 qb)) (w0.setCell ⟨D,20,none⟩ (.int .i64 qb)).drew from below_drewN (bR _ _) 1));have HB1:=aH (((But.of (D:=D) HB0.out).st _).call (show Below (w0.setCell ⟨D,20,none⟩ (.int .i64 qb)).heap.size (w0.setCell ⟨D,20,none⟩ (.int .i64 qb)) (w0.setCell ⟨D,20,none⟩ (.int .i64 qb)).drew from below_drewN (bR _ _) 1));have HR1:=aH ((HR.out.off (D:=D) (o:=20) (Nat.ne_of_lt HL.out) (.int .i64 qb)).below (show Below (w0.setCell ⟨D,20,none⟩ (.int .i64 qb)).heap.size (w0.setCell ⟨D,20,none⟩ (.int .i64 qb)) (w0.setCell ⟨D,20,none⟩ (.int .i64 qb)).drew from below_drewN (bR _ _) 1));clear g12 g14 g4 g20 z20 e1 HT0 HR;generalize (w0.setCell ⟨D,20,none⟩ (.int .i64 qb)).drew=w1 at *;have g14:=HT1.out.row.g 14 rfl;have g4:=HT1.out.row.g 4 rfl;have g21:=HT1.out.row.g 21 rfl;have z21:=HT1.out.row.z 21 rfl;have e2:=(HCE.out w1 HT1.out.im.s.c).2;rw[hka]at g14;rw[hA]at g4
 go_upto_region 20 with fail
 go_region
 have HT2:=aH ((HT1.out.setU qc).then (show Below (w1.setCell ⟨D,21,none⟩ (.int .i64 qc)).heap.size (w1.setCell ⟨D,21,none⟩ (.int .i64 qc)) (w1.setCell ⟨D,21,none⟩ (.int .i64 qc)).drew from below_drewN (bR _ _) 1));have HB2:=aH ((HB1.out.st _).call (show Below (w1.setCell ⟨D,21,none⟩ (.int .i64 qc)).heap.size (w1.setCell ⟨D,21,none⟩ (.int .i64 qc)) (w1.setCell ⟨D,21,none⟩ (.int .i64 qc)).drew from below_drewN (bR _ _) 1));have HR2:=aH ((HR1.out.off (D:=D) (o:=21) (Nat.ne_of_lt HL.out) (.int .i64 qc)).below (show Below (w1.setCell ⟨D,21,none⟩ (.int .i64 qc)).heap.size (w1.setCell ⟨D,21,none⟩ (.int .i64 qc)) (w1.setCell ⟨D,21,none⟩ (.int .i64 qc)).drew from below_drewN (bR _ _) 1));clear g14 g4 g21 z21 e2 HT1 HR1 HB1;generalize (w1.setCell ⟨D,21,none⟩ (.int .i64 qc)).drew=w2 at *;have k0:=HR2.out.g 0 rfl;have k1:=HR2.out.g 1 rfl;have y0:=HR2.out.z 0 rfl;have y1:=HR2.out.z 1 rfl;go_wp2;have HF:=aH ((HR2.out.set 0 (.int .i64 0)).set 1 (.int .i64 0));have f0:=HF.out.g 0 rfl;have f1:=HF.out.g 1 rfl;clear k0 k1 y0 y1;refine bP (v:=.agg #[.int .i64 0,.int .i64 0]) ?_ rfl ?_
 ·simp[results,Tryz.results66,go_sem,f0,f1]
 ·have HA:Aft w w2 D m m who r x {x with n:=qb,u:=qc}:=⟨HT2.out,HB2.out,fun G hG hm hx=>⟨hm,hx⟩,rfl⟩;exact⟨rfl,(HA.other (nR _) HG.out.1 HG.out.2 HL.out _).other (nR _) HG.out.1 HG.out.2 HL.out _⟩
theorem br_ref {d:Dk} {o:List Int} {who:Int} {r:Rq} (h:brV d o who r=(0,0)):refV d r=(0,0):=by
 unfold brV at h
 split at h
 ·cases h
 ·split at h
  ·assumption
  ·exact h
theorem ps_0 {o ids:List Int} {who:Int} {q:Int→Bool} {nt:Int} (hn:nt≠0) (h:psE o ids who q nt=0):psI o ids who q=0:=by
 unfold psE at h;unfold psI
 split at h
 ·rename_i h1
  rw[if_pos h1]
  split at h
  ·cases h
  ·rename_i h2
   rw[if_neg h2]
   split at h
   ·exact absurd h hn
   ·rename_i h3
    have e:(fstN (fun x=>!q (o.getD x.toNat 0)) ids).2=false:=(by rw[fstN_snd];exact Bool.eq_false_iff.2 h3);have e2:fstN (fun x=>!q (o.getD x.toNat 0)) ids=((fstN (fun x=>!q (o.getD x.toNat 0)) ids).1,false):=(by rw[←e]);exact fstN_miss e2
 ·cases h
theorem rvEI_0 {o ids:List Int} {who:Int} (h:rvE o ids who=0):rvI o ids who=0:=by
 unfold rvE at h;unfold rvI
 split at h
 ·cases h
 ·rename_i h1
  rw[if_neg h1];exact ps_0 (by decide) h
theorem cg_ab {d t:Dk} (h:d.ab=t.ab) (a:Ab) (b E:Int):cgE d a b E=cgE t a b E:=by rw[←ab_cgE d,h,ab_cgE]
theorem ta_ab {d t:Dk} (h:d.ab=t.ab) (a:Ab) (b id:Int):taE d a b id=taE t a b id:=by rw[←ab_taE d,h,ab_taE]
theorem ref_a9 {d:Dk} {r:Rq} (hk:r.k=9∨r.k=10) (h:refV d r=(0,0)):isP d 1 r.a=true:=by
 unfold refV at h
 split at h
 ·rename_i hz;injection h with h1 h2;exact absurd h1 hz
 ·split at h
  ·rename_i hm;exact absurd h hm
  ·have hn:nmF d r=none:=by
    cases e:nmF d r with
    |none=>rfl
    |some x=>rw[e]at h;injection h with h1 h2;exact absurd h1 (by decide)
   unfold nmF nmL at hn;rw[if_neg (by omega),if_neg (by omega),if_pos (by omega),List.find?_eq_none]at hn;have q:=hn (1,r.a) (by simp);unfold iwP at q;unfold isP;simpa using q
theorem well_in {m:Md} (hg:rgM m=true) {id:Int} (h:isP m.d 1 id=true):0≤id∧id<m.s.cl.length:=by
 obtain⟨h1,_⟩:=rgM_parts hg;have hp:=rg_P _ _ h1;have hn:=newA_len m.d hp.z;have hw:=rw_parts hp.w;have hcl:m.s.ab.c.length=m.s.cl.length:=rfl;rw[(isP_eq m.d (zchk_d _ hp.z) id).1,decide_eq_true_eq]at h;omega
theorem do1_m (m:Md) (who:Int) (r:Rq) (w:World) (hm:m.In w w.heap.size) (hr:r.In w w.heap.size) (hT:Nn.Tab w) (hg:rgM m=true) (hfw:fits who) (hk:r.k=1):Calls Tryz.prog 28 #[m.v,.int .i64 who,r.val] w fun e w'=>∃(t:Md) (x:Rs),e=.returned (.tuple #[t.v,x.v])∧t.In w' w'.heap.size∧x.In w' w'.heap.size∧Below w.heap.size w w'∧(∀G,G<w.heap.size→t.Off G∧OffL G x.A x.xs.length)∧t.d.ab=m.d.ab∧DoP (brV m.d m.o who r) m t x (rvE m.o r.il who) (rvI m.o r.il who) (m.s.ab) (if rvE m.o r.il who=0 then setAll m.o (Two.mk r.il) who else m.o) (0,0,((ofL (setAll m.o (Two.mk r.il) who) who m.o.length).length:Int),0,[]):=by
 have hlm:=lim_m hg;refine do_m m who r w hm hr hT hg hlm.1 hfw (rvE m.o r.il who) (rvI m.o r.il who) (m.s.ab) (if rvE m.o r.il who=0 then setAll m.o (Two.mk r.il) who else m.o) (0,0,((ofL (setAll m.o (Two.mk r.il) who) who m.o.length).length:Int),0,[]) (rvEI_0) (fun hb V D t hu h1 h2 h3 hT=>?_);have hrf:=br_ref hb;have hml:=mf_len (mf_0 hrf);refine(do_1 t who r rs0 D V hu hk (by rw[h3];have:=hlm.2;omega) hml).mono ?_;rintro e w' ⟨t',x',he,ha,hs,h4,h5⟩;rw[h3]at he h4 h5;refine⟨t',x',he,ha,by rw[hs,h2],?_,fun h0=>?_⟩
 ·by_cases h0:rvE m.o r.il who=0
  ·rw[if_pos h0,(h4 h0).1]
  ·rw[if_neg h0,(h5 h0).1,h3]
 ·rw[(h4 h0).2,(h4 h0).1,setAll_len];rfl
theorem do3_m (m:Md) (who:Int) (r:Rq) (w:World) (hm:m.In w w.heap.size) (hr:r.In w w.heap.size) (hT:Nn.Tab w) (hg:rgM m=true) (hfw:fits who) (hk:r.k=3):Calls Tryz.prog 28 #[m.v,.int .i64 who,r.val] w fun e w'=>∃(t:Md) (x:Rs),e=.returned (.tuple #[t.v,x.v])∧t.In w' w'.heap.size∧x.In w' w'.heap.size∧Below w.heap.size w w'∧(∀G,G<w.heap.size→t.Off G∧OffL G x.A x.xs.length)∧t.d.ab=m.d.ab∧DoP (brV m.d m.o who r) m t x (psE m.o (ofL m.o who m.o.length) who (giveQ who) 141) (psI m.o (ofL m.o who m.o.length) who (giveQ who)) (m.s.ab) (if psE m.o (ofL m.o who m.o.length) who (giveQ who) 141=0 then setAll m.o (ofL m.o who m.o.length) 0 else m.o) (0,0,((ofL m.o who m.o.length).length:Int),0,[]):=by
 have hlm:=lim_m hg;refine do_m m who r w hm hr hT hg hlm.1 hfw (psE m.o (ofL m.o who m.o.length) who (giveQ who) 141) (psI m.o (ofL m.o who m.o.length) who (giveQ who)) (m.s.ab) (if psE m.o (ofL m.o who m.o.length) who (giveQ who) 141=0 then setAll m.o (ofL m.o who m.o.length) 0 else m.o) (0,0,((ofL m.o who m.o.length).length:Int),0,[]) (ps_0 (by decide)) (fun hb V D t hu h1 h2 h3 hT=>?_);have hrf:=br_ref hb;refine(do_3 t who r rs0 D V hu hk (by rw[h3];have:=hlm.2;omega)).mono ?_;rintro e w' ⟨t',x',he,ha,hs,h4,h5⟩;rw[h3]at he h4 h5;refine⟨t',x',he,ha,by rw[hs,h2],?_,fun h0=>?_⟩
 ·by_cases h0:psE m.o (ofL m.o who m.o.length) who (giveQ who) 141=0
  ·rw[if_pos h0,(h4 h0).1]
  ·rw[if_neg h0,h5 h0,h3]
 ·rw[(h4 h0).2];rfl
theorem do7_m (m:Md) (who:Int) (r:Rq) (w:World) (hm:m.In w w.heap.size) (hr:r.In w w.heap.size) (hT:Nn.Tab w) (hg:rgM m=true) (hfw:fits who) (hk:r.k=7):Calls Tryz.prog 28 #[m.v,.int .i64 who,r.val] w fun e w'=>∃(t:Md) (x:Rs),e=.returned (.tuple #[t.v,x.v])∧t.In w' w'.heap.size∧x.In w' w'.heap.size∧Below w.heap.size w w'∧(∀G,G<w.heap.size→t.Off G∧OffL G x.A x.xs.length)∧t.d.ab=m.d.ab∧DoP (brV m.d m.o who r) m t x (cgE m.d m.s.ab who (taE m.d m.s.ab who r.a)) (0) (if cgE m.d m.s.ab who (taE m.d m.s.ab who r.a)=0 then taA m.s.ab who r.a else m.s.ab) (m.o) (0,r.a,0,0,[]):=by
 have hlm:=lim_m hg;refine do_m m who r w hm hr hT hg hlm.1 hfw (cgE m.d m.s.ab who (taE m.d m.s.ab who r.a)) (0) (if cgE m.d m.s.ab who (taE m.d m.s.ab who r.a)=0 then taA m.s.ab who r.a else m.s.ab) (m.o) (0,r.a,0,0,[]) (fun _=>rfl) (fun hb V D t hu h1 h2 h3 hT=>?_);have hrf:=br_ref hb;refine(do_7 t who r rs0 D V hu hk).mono ?_;rintro e w' ⟨t',x',he,ha,hs,h4,h5⟩;rw[h2,ta_ab h1,cg_ab h1]at he h4 h5;refine⟨t',x',he,ha,?_,by rw[hs,h3],fun h0=>?_⟩
 ·by_cases h0:cgE m.d m.s.ab who (taE m.d m.s.ab who r.a)=0
  ·rw[if_pos h0,(h4 h0).1]
  ·rw[if_neg h0,h5 h0,h2]
 ·rw[(h4 h0).2];rfl
theorem do9_m (m:Md) (who:Int) (r:Rq) (w:World) (hm:m.In w w.heap.size) (hr:r.In w w.heap.size) (hT:Nn.Tab w) (hg:rgM m=true) (hfw:fits who) (hk:r.k=9):Calls Tryz.prog 28 #[m.v,.int .i64 who,r.val] w fun e w'=>∃(t:Md) (x:Rs),e=.returned (.tuple #[t.v,x.v])∧t.In w' w'.heap.size∧x.In w' w'.heap.size∧Below w.heap.size w w'∧(∀G,G<w.heap.size→t.Off G∧OffL G x.A x.xs.length)∧t.d.ab=m.d.ab∧DoP (brV m.d m.o who r) m t x (0) (0) (m.s.ab) (m.o) (0,0,(m.s.ab.c.getD r.a.toNat ce0).b,(m.s.ab.c.getD r.a.toNat ce0).c,[]):=by
 have hlm:=lim_m hg;refine do_m m who r w hm hr hT hg hlm.1 hfw (0) (0) (m.s.ab) (m.o) (0,0,(m.s.ab.c.getD r.a.toNat ce0).b,(m.s.ab.c.getD r.a.toNat ce0).c,[]) (fun _=>rfl) (fun hb V D t hu h1 h2 h3 hT=>?_);have hrf:=br_ref hb;have hw:=well_in hg (ref_a9 (.inl hk) hrf);have hc:t.s.cl=m.s.cl:=congrArg Ab.c h2;refine(do_9 t who r rs0 D V hu hk (by rw[hc];exact hw)).mono ?_;rintro e w' ⟨he,ha⟩;refine⟨t,_,he,ha,h2,h3,fun _=>?_⟩;rw[hc];rfl
def lwB:List Nat:=[0,4621256167635550208,4625759767262920704]
def lwP (S:Option Addr):Pl:=⟨1,2,4621256167635550208,4620693217682128896,4602678819172646912,100,S,1,1,[40]⟩
def lwR:Rk:=⟨1,1,4611686018427387904,0,0⟩
def lwD (A P R S:Option Addr):Dk:=⟨A,3,3,lwB,P,1,1,[lwP S],R,1,1,[lwR],2⟩
theorem lw_b:chkE lwB=0:=by decide+kernel
theorem lw_row1:rowV lwB ⟨1,2,4621256167635550208,4620693217682128896,4602678819172646912⟩=[(0,1,0),(1,1,0)]:=by decide+kernel
theorem lw_row2:rowV lwB ⟨1,1,4611686018427387904,0,0⟩=[(0,0,0)]:=by decide+kernel
theorem lw_chk (A P R S:Option Addr):dchk (lwD A P R S)=0:=by
  unfold dchk;rw[show(lwD A P R S).bl=lwB from rfl,if_neg (by rw[lw_b];simp)];kernel_rfl
theorem lw_racks (A P R S:Option Addr):racksL (lwD A P R S)=[⟨1,2,4621256167635550208,4620693217682128896,4602678819172646912⟩,⟨1,1,4611686018427387904,0,0⟩]:=rfl
theorem lw_z (A P R S:Option Addr):zchk (lwD A P R S)=0:=by
  unfold zchk zE;rw[if_pos (lw_chk A P R S),lw_racks,List.flatMap_cons,List.flatMap_cons,List.flatMap_nil,List.append_nil];show fstE (rowV lwB _++rowV lwB _)=0;rw[lw_row1,lw_row2];rfl
theorem lw_tab (A P R S:Option Addr):tabV (lwD A P R S)=[(0,1),(1,1),(0,0),(0,0),(1,1)]:=by
  unfold tabV;rw[if_pos (lw_z A P R S),tab_eq,lw_racks,List.flatMap_cons,List.flatMap_cons,List.flatMap_nil,List.append_nil];show pairs ((blkV lwB _++blkV lwB _)++_)=_;unfold blkV;rw[lw_row1,lw_row2];rfl
theorem lw_cnt (A P R S:Option Addr):frst (lwD A P R S)=3:=by
  unfold frst cntV;rw[if_pos (lw_chk A P R S)];kernel_rfl
theorem lw_in (A P R S:Option Addr) (id:Int):inR (lwD A P R S) id=decide (0≤id∧id<5):=by
  unfold inR;rw[lw_tab];rfl
theorem lw_sp (A P R S:Option Addr) (id:Int):spA (lwD A P R S) id=([(0,1),(1,1),(0,0),(0,0),(1,1)]:List (Int×Int)).getD id.toNat (0,0):=by
  unfold spA;rw[lw_tab]
theorem lw_e (A P R S:Option Addr) (ids:List Int) (h:ids.all (fun id=>decide (0≤id∧id<5))=true):spsE (lwD A P R S) ids=0:=by
  unfold spsE;rw[if_pos (lw_z A P R S),if_pos];rw[←h]
  congr 1
  funext id
  exact lw_in A P R S id
theorem lw_well (A P R S:Option Addr):wellN (lwD A P R S)=2:=by kernel_rfl
theorem lw_tip (A P R S:Option Addr):tipN (lwD A P R S)=1:=by kernel_rfl
theorem little_any (w:World):Calls Tryz.prog 37 #[] w fun e w'=>∃A P R S,e=.returned (lwD A P R S).v∧(lwD A P R S).In w' w'.heap.size∧Below w.heap.size w w':=by
  have hsf:=fun(w:World) (a:Addr) (m:Mode) (b:Nat)=>run_store_float (P:=Tryz.prog) (w:=w) (a:=a) (m:=m) .f64 b;obtain⟨w1,hw1⟩:∃w1,w1=w.alloc (.cells #[.slice (some ⟨w.heap.size+1,0,none⟩) 3 3,.slice (some ⟨w.heap.size+1+1+1,0,none⟩) 1 1,.slice (some ⟨w.heap.size+1+1+1+1,0,none⟩) 1 1,.int .i64 2] 26):=⟨_,rfl⟩;have hC1:Cells4 w1 w.heap.size (.slice (some ⟨w.heap.size+1,0,none⟩) 3 3) (.slice (some ⟨w.heap.size+1+1+1,0,none⟩) 1 1) (.slice (some ⟨w.heap.size+1+1+1+1,0,none⟩) 1 1) (.int .i64 2):=by rw[hw1];exact Cells4.new w _ _ _ _ _
  have hs1:w1.heap.size=w.heap.size+1:=by rw[hw1];simp
  have hb1:Below w.heap.size w w1:=by rw[hw1];exact bL (bR _ _) _
  obtain⟨w2,hw2⟩:∃w2,w2=w1.alloc (.cells #[.float .f64 0,.float .f64 4621256167635550208,.float .f64 4625759767262920704] 84):=⟨_,rfl⟩;have hA:=Lk.IsL.lits (K:=KF) w1 lwB #[.float .f64 0,.float .f64 4621256167635550208,.float .f64 4625759767262920704] (show ∀x∈lwB,x<18446744073709551616 by decide) rfl (by decide) (w.heap.size+1) hs1;rw[show w1.alloc (.cells #[.float .f64 0,.float .f64 4621256167635550208,.float .f64 4625759767262920704] KF.E)=w2 from hw2.symm]at hA;have hs2:w2.heap.size=w.heap.size+1+1:=by rw[hw2];simp[hs1]
  have hb2:Below w1.heap.size w1 w2:=by rw[hw2];exact bL (bR _ _) _
  obtain⟨w3,hw3⟩:∃w3,w3=w2.alloc (.cells #[.int .i64 40] 3):=⟨_,rfl⟩;have hS:=Lk.IsL.lits (K:=KI) w2 [40] #[.int .i64 40] (by intro x hx;simp at hx;subst hx;show fits 40;decide) rfl (by decide) (w.heap.size+1+1) hs2;rw[show w2.alloc (.cells #[.int .i64 40] KI.E)=w3 from hw3.symm]at hS;have hs3:w3.heap.size=w.heap.size+1+1+1:=by rw[hw3];simp[hs2]
  have hb3:Below w2.heap.size w2 w3:=by rw[hw3];exact bL (bR _ _) _
  obtain⟨w4,hw4⟩:∃w4,w4=w3.alloc (.cells #[.int .i64 1,.int .i64 2,.float .f64 4621256167635550208,.float .f64 4620693217682128896,.float .f64 4602678819172646912,.int .i64 100,.slice (some ⟨w.heap.size+1+1,0,none⟩) 1 1] 86):=⟨_,rfl⟩;have hP:=Lk.IsL.lits (K:=KP) w3 [lwP (some ⟨w.heap.size+1+1,0,none⟩)] #[.int .i64 1,.int .i64 2,.float .f64 4621256167635550208,.float .f64 4620693217682128896,.float .f64 4602678819172646912,.int .i64 100,.slice (some ⟨w.heap.size+1+1,0,none⟩) 1 1] (by
    intro x hx;simp at hx;subst hx;show fits 1∧fits 2∧(4621256167635550208:Nat)<18446744073709551616∧(4620693217682128896:Nat)<18446744073709551616∧(4602678819172646912:Nat)<18446744073709551616∧fits 100;decide) rfl (by simp) (w.heap.size+1+1+1) hs3
  rw[show w3.alloc (.cells #[.int .i64 1,.int .i64 2,.float .f64 4621256167635550208,.float .f64 4620693217682128896,.float .f64 4602678819172646912,.int .i64 100,.slice (some ⟨w.heap.size+1+1,0,none⟩) 1 1] KP.E)=w4 from hw4.symm]at hP;have hs4:w4.heap.size=w.heap.size+1+1+1+1:=by rw[hw4];simp[hs3]
  have hb4:Below w3.heap.size w3 w4:=by rw[hw4];exact bL (bR _ _) _
  obtain⟨w5,hw5⟩:∃w5,w5=w4.alloc (.cells #[.int .i64 1,.int .i64 1,.float .f64 4611686018427387904,.float .f64 0,.float .f64 0] 118):=⟨_,rfl⟩;have hR:=Lk.IsL.lits (K:=KR) w4 [lwR] #[.int .i64 1,.int .i64 1,.float .f64 4611686018427387904,.float .f64 0,.float .f64 0] (by
    intro x hx;simp at hx;subst hx;show fits 1∧fits 1∧(4611686018427387904:Nat)<18446744073709551616∧(0:Nat)<18446744073709551616∧(0:Nat)<18446744073709551616;decide) rfl (by simp) (w.heap.size+1+1+1+1) hs4
  rw[show w4.alloc (.cells #[.int .i64 1,.int .i64 1,.float .f64 4611686018427387904,.float .f64 0,.float .f64 0] KR.E)=w5 from hw5.symm]at hR;have hb5:Below w4.heap.size w4 w5:=by rw[hw5];exact bL (bR _ _) _
  have hs5:w5.heap.size=w.heap.size+1+1+1+1+1:=by rw[hw5];simp[hs4]
  have HIN:=aH (show(lwD (some ⟨w.heap.size+1,0,none⟩) (some ⟨w.heap.size+1+1+1,0,none⟩) (some ⟨w.heap.size+1+1+1+1,0,none⟩) (some ⟨w.heap.size+1+1,0,none⟩)).In w5 w5.heap.size by
    rw[hs2]at hb3;rw[hs3]at hb4;rw[hs4]at hb5;refine⟨(((hA.below hb3).below (hb4.mono (by omega))).below (hb5.mono (by omega))).more (by omega),((hP.below hb5).more (by omega)),hR.more (by omega),fun q hq=>?_,(by show fits 2;decide)⟩;have hq':q=lwP (some ⟨w.heap.size+1+1,0,none⟩):=(by simpa [lwD]using hq);subst hq';exact((hS.below hb4).below (hb5.mono (by omega))).more (by omega))
  have HBW:=aH (show Below w.heap.size w w5 from bC (bC (bC (bC hb1 hb2) hb3) hb4) hb5);have HC5:=aH ((((hC1.below hb2).below hb3).below hb4).below hb5);have hw5':w5=((((w.alloc (.cells #[.slice (some ⟨w.heap.size+1,0,none⟩) 3 3,.slice (some ⟨w.heap.size+1+1+1,0,none⟩) 1 1,.slice (some ⟨w.heap.size+1+1+1+1,0,none⟩) 1 1,.int .i64 2] 26)).alloc (.cells #[.float .f64 0,.float .f64 4621256167635550208,.float .f64 4625759767262920704] 84)).alloc (.cells #[.int .i64 40] 3)).alloc (.cells #[.int .i64 1,.int .i64 2,.float .f64 4621256167635550208,.float .f64 4620693217682128896,.float .f64 4602678819172646912,.int .i64 100,.slice (some ⟨w.heap.size+1+1,0,none⟩) 1 1] 86)).alloc (.cells #[.int .i64 1,.int .i64 1,.float .f64 4611686018427387904,.float .f64 0,.float .f64 0] 118):=by rw[hw5,hw4,hw3,hw2,hw1]
  clear hw1 hw2 hw3 hw4 hw5 hA hS hP hR hb1 hb2 hb3 hb4 hb5 hs1 hs2 hs3 hs4 hC1;go_enter Tryz.func37,Tryz.ntmps37;go_wp2;rw[←hw5'];obtain⟨c0,c1,c2,c3,y0,y1,y2,y3,-⟩:=HC5.out;refine bP (v:=(lwD (some ⟨w.heap.size+1,0,none⟩) (some ⟨w.heap.size+1+1+1,0,none⟩) (some ⟨w.heap.size+1+1+1+1,0,none⟩) (some ⟨w.heap.size+1+1,0,none⟩)).v) ?_ rfl ⟨_,_,_,_,rfl,?_,?_⟩
  · simp[results,Tryz.results37,go_sem,c0,c1,c2,c3,lwD]
  · exact HIN.out
  · exact HBW.out
end Go.Proofs.YtmecohdedghiaaaGreatDoor
