/- A turn is done: ask. -/
import Derived.Test.YtmecohdedghiaaaGreatDoorPo27
set_option maxRecDepth 100000
set_option maxHeartbeats 8000000
open Go.Proofs.Tryz
namespace Go.Proofs.YtmecohdedghiaaaGreatDoor
open Go.RowKit
theorem mz (o ids:List Int) (who:Int) (h:cM o ids who (bq who) 140=0):eP o ids who (bq who)=0∧li o ids who (bq who) who=aO o ids who:=by
 unfold cM at h;unfold eP li
 split at h
 ·rename_i h1
  rw[if_pos h1,if_pos h1]
  split at h
  ·cases h
  ·rename_i h2
   rw[if_neg h2,if_neg h2]
   split at h
   ·cases h
   ·rename_i h3
    rw[if_neg h3];refine⟨?_,rfl⟩;rw[←cV]at h3;have e:bX (fun x=>!bq who (o.getD x.toNat 0)) ids=((bX (fun x=>!bq who (o.getD x.toNat 0)) ids).1,false):=by
     rw[←Bool.eq_false_iff.2 h3]
    exact du e
 ·cases h
theorem qN (m:Md) (who:Int) (r:Rq) (x:Rs) (D:Nat) (w:World) (h:Tu w D m who r x) (u:Value) (ids:List Int) (hu:KI.IsL w w.heap.size u ids) (hl:m.o.length≤1000):Calls prog 121 #[.pointer (some ⟨D,0,none⟩),.func (.func 181) #[] #[],u] w fun e w'=>∃m' x',e=.returned (.agg #[.int .i64 (cM m.o ids who (bq who) 140),.int .i64 (eP m.o ids who (bq who))])∧Aft w w' D m m' who r x x'∧m'.s=m.s∧(cM m.o ids who (bq who) 140=0→m'.o=aO m.o ids who∧x'={x with n:=((b9 m'.o who m'.o.length).length:Int)})∧(cM m.o ids who (bq who) 140≠0→m'=m∧x'=x):=by
 obtain⟨w0,hw0⟩:∃w0,w0=w.alloc (.cells #[.int .i64 0,.int .i64 0] 104):=⟨_,rfl⟩;have CG:=aH (cI hw0);have CN:=aH (h.then CG.out);have HR:=aH (Row.n1 hw0 [.int .i64 0,.int .i64 0] rfl);have HG:=aH (aI (h.im.off (nR _)) (h.ix.offL (nR _)));have HL:=aH h.lt;have FU:=aH (fun V (hb:Below w0.heap.size w0 V)=>(zf (.slice m.oA m.o.length m.oc) u m.o ids who h.fw V (CN.out.im.o.then hb) ((hu.then CG.out).then hb) hl).mono (R':=fun e w'=>∃v,e=.returned (.tuple #[v,.int .i64 (eP m.o ids who (bq who)),.int .i64 (cM m.o ids who (bq who) 140)])∧KI.Own w' w0.heap.size v (li m.o ids who (bq who) who)∧Below V.heap.size V w') fun e w' ⟨v,h1,h2,h3⟩=>⟨v,h1,h2.mono hb.size,h3⟩);have HZ:=aH (mz m.o ids who);have CV:=aH (show(li m.o ids who (bq who) who).length≤1000 by
  unfold li
  split
  ·split
   ·simp
   ·split
    ·simp
    ·rw[cT];exact hl
  ·simp)
 generalize cM m.o ids who (bq who) 140=E at *;generalize eP m.o ids who (bq who)=I at *;generalize li m.o ids who (bq who) who=L at *;clear hu h hl;by_cases hE:E=0
 case neg=>
  have N6:(E != 0)=true:=by simpa using hE
  go_enter func121,ntmps121
  go_upto_region 1 with fail
  rw[←hw0];clear hw0;have g10:=CN.out.row.g 10 rfl;have g11:=CN.out.row.g 11 rfl;refine pE ⟨g10,g11⟩ (by kernel_rfl) (fun CC=>?_);have CQ:=aH (show Below w0.heap.size w0 w0.drew from aa (bR _ _) 1);clear g10 g11;generalize w0.drew=wv at *;refine wk [.k 0 11,.k 1 12,.k 2 13,.k 3 14,.k 4 15,.k 5 16,.k 6 17,.k 7 18,.k 8 19,.k 9 20,.k 10 21] (fun _ _ _ _ _ h=>h) CC ?_ (by kernel_rfl);repeat (refine .k (v:=?_) rfl (by kernel_rfl) ?_ ?_;rotate_left 1;((intro w CY;(try dsimp only at CY);go_simp)<;>(try with_reducible rfl));(try simp only[sp]))
  refine .nil ?_;refine wQ 11 (some 22) rfl (fun K hK=>?_) (by kernel_rfl);go_simp;(with_reducible refine(FU.out _ CQ.out).mono ?_);rintro e wv ⟨v,rfl,ho,hb⟩;obtain⟨s0,s1⟩:=CC;have CQ:=aH (bC CQ.out hb);have HO:=aH ho;replace s0:=kK hb s0;replace s1:=kK hb s1;clear hb ho;go_wp2_with fail;refine hK.out _ _ ⟨s0,s1⟩ (fun CC=>?_);clear hK K s0 s1;try simp only[sp]
  refine wk [.k 12 10,.k 13 23,.k 14 24,.k 15 25,.k 16 7,.k 17 8,.k 18 9] (fun _ _ _ _ _ h=>h) CC ?_ (by kernel_rfl);repeat (refine .k (v:=?_) rfl (by kernel_rfl) ?_ ?_;rotate_left 1;((intro w CY;(try dsimp only at CY);go_simp)<;>(try with_reducible rfl));(try simp only[sp]))
  refine .nil ?_;refine wD (by kernel_rfl) ?_;have HT:=aH (Aft.from (.of CN.out CQ.out) CG.out);have CU:=aH (HR.out.below CQ.out);have k0:=CU.out.g 0 rfl;have k1:=CU.out.g 1 rfl;have y0:=CU.out.z 0 rfl;have y1:=CU.out.z 1 rfl;clear CC;go_wp2;clear k0 k1 y0 y1;have HF:=aH ((CU.out.set 0 (.int .i64 E)).set 1 (.int .i64 I));have f0:=HF.out.g 0 rfl;have f1:=HF.out.g 1 rfl;refine bP (v:=.agg #[.int .i64 E,.int .i64 I]) ?_ rfl ?_
  ·simp[results,results121,go_sem,f0,f1]
  ·exact⟨m,x,rfl,(HT.out.other (nR _) HG.out.1 HG.out.2 HL.out _).other (nR _) HG.out.1 HG.out.2 HL.out _,rfl,fun h=>absurd h hE,fun _=>⟨rfl,rfl⟩⟩
 case pos=>
  subst hE;obtain⟨hI,FC⟩:=HZ.out rfl;subst hI;have DJ:=aH FC;clear FC HZ;go_enter func121,ntmps121
  go_upto_region 1 with fail
  rw[←hw0];clear hw0;have g10:=CN.out.row.g 10 rfl;have g11:=CN.out.row.g 11 rfl;refine pE ⟨g10,g11⟩ (by kernel_rfl) (fun CC=>?_);have CQ:=aH (show Below w0.heap.size w0 w0.drew from aa (bR _ _) 1);clear g10 g11;generalize w0.drew=wv at *;refine wk [.k 0 11,.k 1 12,.k 2 13,.k 3 14,.k 4 15,.k 5 16,.k 6 17,.k 7 18,.k 8 19,.k 9 20,.k 10 21] (fun _ _ _ _ _ h=>h) CC ?_ (by kernel_rfl);repeat (refine .k (v:=?_) rfl (by kernel_rfl) ?_ ?_;rotate_left 1;((intro w CY;(try dsimp only at CY);go_simp)<;>(try with_reducible rfl));(try simp only[sp]))
  refine .nil ?_;refine wQ 11 (some 22) rfl (fun K hK=>?_) (by kernel_rfl);go_simp;(with_reducible refine(FU.out _ CQ.out).mono ?_);rintro e wv ⟨v,rfl,ho,hb⟩;obtain⟨s0,s1⟩:=CC;have CQ:=aH (bC CQ.out hb);have HO:=aH ho;replace s0:=kK hb s0;replace s1:=kK hb s1;clear hb ho;go_wp2_with fail;refine hK.out _ _ ⟨s0,s1⟩ (fun CC=>?_);clear hK K s0 s1;try simp only[sp]
  refine wk [.k 12 10,.k 13 23,.k 14 24,.k 15 25,.k 16 7,.k 17 8,.k 18 9] (fun _ _ _ _ _ h=>h) CC ?_ (by kernel_rfl);repeat (refine .k (v:=?_) rfl (by kernel_rfl) ?_ ?_;rotate_left 1;((intro w CY;(try dsimp only at CY);go_simp)<;>(try with_reducible rfl));(try simp only[sp]))
  refine .nil ?_;refine wD (by kernel_rfl) ?_;have HT:=aH (CN.out.then CQ.out);have CU:=aH (HR.out.below CQ.out);have Gl:=aH (HO.out.isL (by have:=CV.out;omega));obtain⟨A,c,rfl,-⟩:=Gl.out.shape;have Dx:=aH (show ∀G,G<w0.heap.size→OffL G A L.length from fun G hG=>.inr fun a ha=>by
   have h1:=(HO.out.lt a.block (ax (by rw[ha];rfl))).1;omega)
  have CR:=aH (nL HL.out CG.out.size);have g10:=HT.out.row.g 10 rfl;have z10:=HT.out.row.z 10 rfl;clear CC
  go_upto_region 5 with fail
  have Er:=aH (HT.out.setO Gl.out (Dx.out D CR.out));have CL:=aH (show But D w0 (wv.setCell ⟨D,10,none⟩ (.slice A L.length c))from(But.of CQ.out).st _);have CT:=aH (CU.out.off (D:=D) (o:=10) (Nat.ne_of_lt HL.out) (.slice A L.length c));clear g10 z10 HT CU Gl CQ;generalize wv.setCell ⟨D,10,none⟩ (.slice A L.length c)=w2 at *;go_wp2_with fail;refine(gV _ who r x D w2 Er.out CV.out).mono ?_;rintro e w3 ⟨v3,rfl,ho3,CO⟩;have F9:=aH (Er.out.then CO);have CS:=aH (CL.out.call CO);have Di:=aH (CT.out.below CO);have E6:(b9 L who L.length).length≤1000:=Nat.le_trans (dM L who L.length) CV.out;obtain⟨A3,c3,rfl,-⟩:=(ho3.isL (by dsimp only;omega)).shape;have g20:=F9.out.row.g 20 rfl;have z20:=F9.out.row.z 20 rfl;clear Er CL CT ho3 CO;dsimp only at *;generalize hN:(b9 L who L.length).length=N at *;have HN:=aH hN;clear hN
  go_upto_region 6 with fail
  have Kv:=aH (F9.out.setN N);have CW:=aH (show But D w0 (w3.setCell ⟨D,20,none⟩ (.int .i64 N))from CS.out.st _);have Dp:=aH (Di.out.off (D:=D) (o:=20) (Nat.ne_of_lt HL.out) (.int .i64 N));clear g20 z20 F9 Di CS;generalize w3.setCell ⟨D,20,none⟩ (.int .i64 N)=w4 at *;have k0:=Dp.out.g 0 rfl;have k1:=Dp.out.g 1 rfl;have y0:=Dp.out.z 0 rfl;have y1:=Dp.out.z 1 rfl;go_wp2;have HF:=aH ((Dp.out.set 0 (.int .i64 0)).set 1 (.int .i64 0));have f0:=HF.out.g 0 rfl;have f1:=HF.out.g 1 rfl;clear k0 k1 y0 y1;refine bP (v:=.agg #[.int .i64 0,.int .i64 0]) ?_ rfl ?_
  ·simp[results,results121,go_sem,f0,f1]
  ·have HA:Aft w w4 D m {m with oA:=A,oc:=c,o:=L} who r x {x with n:=(N:Int)}:=⟨Kv.out,(But.of CG.out).trans CW.out,fun G hG hm hx=>⟨⟨hm.1,hm.2.1,Dx.out G (nL hG CG.out.size)⟩,hx⟩,rfl⟩;have Mn:OffL w.heap.size A L.length:=Dx.out _ HR.out.1;refine⟨{m with oA:=A,oc:=c,o:=L},{x with n:=(N:Int)},rfl,(HA.other (nR _) ⟨HG.out.1.1,HG.out.1.2.1,Mn⟩ HG.out.2 HL.out _).other (nR _) ⟨HG.out.1.1,HG.out.1.2.1,Mn⟩ HG.out.2 HL.out _,rfl,fun _=>⟨DJ.out,?_⟩,fun h=>absurd rfl h⟩;rw[show((b9 L who L.length).length:Int)=N by rw[HN.out]]
theorem lQ (o ids:List Int) (who:Int) (h:cM o ids who (ay who) 141=0):eP o ids who (ay who)=0∧li o ids who (ay who) 0=aO o ids 0:=by
 unfold cM at h;unfold eP li
 split at h
 ·rename_i h1
  rw[if_pos h1,if_pos h1]
  split at h
  ·cases h
  ·rename_i h2
   rw[if_neg h2,if_neg h2]
   split at h
   ·cases h
   ·rename_i h3
    rw[if_neg h3];refine⟨?_,rfl⟩;rw[←cV]at h3;have e:bX (fun x=>!ay who (o.getD x.toNat 0)) ids=((bX (fun x=>!ay who (o.getD x.toNat 0)) ids).1,false):=by
     rw[←Bool.eq_false_iff.2 h3]
    exact du e
 ·cases h
theorem jw (m:Md) (who:Int) (r:Rq) (x:Rs) (D:Nat) (w:World) (h:Tu w D m who r x) (u:Value) (ids:List Int) (hu:KI.IsL w w.heap.size u ids) (hl:m.o.length≤1000):Calls prog 121 #[.pointer (some ⟨D,0,none⟩),.func (.func 122) #[] #[],u] w fun e w'=>∃m' x',e=.returned (.agg #[.int .i64 (cM m.o ids who (ay who) 141),.int .i64 (eP m.o ids who (ay who))])∧Aft w w' D m m' who r x x'∧m'.s=m.s∧(cM m.o ids who (ay who) 141=0→m'.o=aO m.o ids 0∧x'={x with n:=((b9 m'.o who m'.o.length).length:Int)})∧(cM m.o ids who (ay who) 141≠0→m'=m∧x'=x):=by
 obtain⟨w0,hw0⟩:∃w0,w0=w.alloc (.cells #[.int .i64 0,.int .i64 0] 104):=⟨_,rfl⟩;have CG:=aH (cI hw0);have CN:=aH (h.then CG.out);have HR:=aH (Row.n1 hw0 [.int .i64 0,.int .i64 0] rfl);have HG:=aH (aI (h.im.off (nR _)) (h.ix.offL (nR _)));have HL:=aH h.lt;have FU:=aH (fun V (hb:Below w0.heap.size w0 V)=>(zI (.slice m.oA m.o.length m.oc) u m.o ids who V (CN.out.im.o.then hb) ((hu.then CG.out).then hb) hl).mono (R':=fun e w'=>∃v,e=.returned (.tuple #[v,.int .i64 (eP m.o ids who (ay who)),.int .i64 (cM m.o ids who (ay who) 141)])∧KI.Own w' w0.heap.size v (li m.o ids who (ay who) 0)∧Below V.heap.size V w') fun e w' ⟨v,h1,h2,h3⟩=>⟨v,h1,h2.mono hb.size,h3⟩);have HZ:=aH (lQ m.o ids who);have CV:=aH (show(li m.o ids who (ay who) 0).length≤1000 by
  unfold li
  split
  ·split
   ·simp
   ·split
    ·simp
    ·rw[cT];exact hl
  ·simp)
 generalize cM m.o ids who (ay who) 141=E at *;generalize eP m.o ids who (ay who)=I at *;generalize li m.o ids who (ay who) 0=L at *;clear hu h hl;by_cases hE:E=0
 case neg=>
  have N6:(E != 0)=true:=by simpa using hE
  go_enter func121,ntmps121
  go_upto_region 1 with fail
  rw[←hw0];clear hw0;have g10:=CN.out.row.g 10 rfl;have g11:=CN.out.row.g 11 rfl;refine pE ⟨g10,g11⟩ (by kernel_rfl) (fun CC=>?_);have CQ:=aH (show Below w0.heap.size w0 w0.drew from aa (bR _ _) 1);clear g10 g11;generalize w0.drew=wv at *;refine wk [.k 0 11,.k 1 12,.k 2 13,.k 3 14,.k 4 15,.k 5 16,.k 6 17,.k 7 18,.k 8 19,.k 9 20,.k 10 21] (fun _ _ _ _ _ h=>h) CC ?_ (by kernel_rfl);repeat (refine .k (v:=?_) rfl (by kernel_rfl) ?_ ?_;rotate_left 1;((intro w CY;(try dsimp only at CY);go_simp)<;>(try with_reducible rfl));(try simp only[sp]))
  refine .nil ?_;refine wQ 11 (some 22) rfl (fun K hK=>?_) (by kernel_rfl);go_simp;(with_reducible refine(FU.out _ CQ.out).mono ?_);rintro e wv ⟨v,rfl,ho,hb⟩;obtain⟨s0,s1⟩:=CC;have CQ:=aH (bC CQ.out hb);have HO:=aH ho;replace s0:=kK hb s0;replace s1:=kK hb s1;clear hb ho;go_wp2_with fail;refine hK.out _ _ ⟨s0,s1⟩ (fun CC=>?_);clear hK K s0 s1;try simp only[sp]
  refine wk [.k 12 10,.k 13 23,.k 14 24,.k 15 25,.k 16 7,.k 17 8,.k 18 9] (fun _ _ _ _ _ h=>h) CC ?_ (by kernel_rfl);repeat (refine .k (v:=?_) rfl (by kernel_rfl) ?_ ?_;rotate_left 1;((intro w CY;(try dsimp only at CY);go_simp)<;>(try with_reducible rfl));(try simp only[sp]))
  refine .nil ?_;refine wD (by kernel_rfl) ?_;have HT:=aH (Aft.from (.of CN.out CQ.out) CG.out);have CU:=aH (HR.out.below CQ.out);have k0:=CU.out.g 0 rfl;have k1:=CU.out.g 1 rfl;have y0:=CU.out.z 0 rfl;have y1:=CU.out.z 1 rfl;clear CC;go_wp2;clear k0 k1 y0 y1;have HF:=aH ((CU.out.set 0 (.int .i64 E)).set 1 (.int .i64 I));have f0:=HF.out.g 0 rfl;have f1:=HF.out.g 1 rfl;refine bP (v:=.agg #[.int .i64 E,.int .i64 I]) ?_ rfl ?_
  ·simp[results,results121,go_sem,f0,f1]
  ·exact⟨m,x,rfl,(HT.out.other (nR _) HG.out.1 HG.out.2 HL.out _).other (nR _) HG.out.1 HG.out.2 HL.out _,rfl,fun h=>absurd h hE,fun _=>⟨rfl,rfl⟩⟩
 case pos=>
  subst hE;obtain⟨hI,FC⟩:=HZ.out rfl;subst hI;have DJ:=aH FC;clear FC HZ;go_enter func121,ntmps121
  go_upto_region 1 with fail
  rw[←hw0];clear hw0;have g10:=CN.out.row.g 10 rfl;have g11:=CN.out.row.g 11 rfl;refine pE ⟨g10,g11⟩ (by kernel_rfl) (fun CC=>?_);have CQ:=aH (show Below w0.heap.size w0 w0.drew from aa (bR _ _) 1);clear g10 g11;generalize w0.drew=wv at *;refine wk [.k 0 11,.k 1 12,.k 2 13,.k 3 14,.k 4 15,.k 5 16,.k 6 17,.k 7 18,.k 8 19,.k 9 20,.k 10 21] (fun _ _ _ _ _ h=>h) CC ?_ (by kernel_rfl);repeat (refine .k (v:=?_) rfl (by kernel_rfl) ?_ ?_;rotate_left 1;((intro w CY;(try dsimp only at CY);go_simp)<;>(try with_reducible rfl));(try simp only[sp]))
  refine .nil ?_;refine wQ 11 (some 22) rfl (fun K hK=>?_) (by kernel_rfl);go_simp;(with_reducible refine(FU.out _ CQ.out).mono ?_);rintro e wv ⟨v,rfl,ho,hb⟩;obtain⟨s0,s1⟩:=CC;have CQ:=aH (bC CQ.out hb);have HO:=aH ho;replace s0:=kK hb s0;replace s1:=kK hb s1;clear hb ho;go_wp2_with fail;refine hK.out _ _ ⟨s0,s1⟩ (fun CC=>?_);clear hK K s0 s1;try simp only[sp]
  refine wk [.k 12 10,.k 13 23,.k 14 24,.k 15 25,.k 16 7,.k 17 8,.k 18 9] (fun _ _ _ _ _ h=>h) CC ?_ (by kernel_rfl);repeat (refine .k (v:=?_) rfl (by kernel_rfl) ?_ ?_;rotate_left 1;((intro w CY;(try dsimp only at CY);go_simp)<;>(try with_reducible rfl));(try simp only[sp]))
  refine .nil ?_;refine wD (by kernel_rfl) ?_;have HT:=aH (CN.out.then CQ.out);have CU:=aH (HR.out.below CQ.out);have Gl:=aH (HO.out.isL (by have:=CV.out;omega));obtain⟨A,c,rfl,-⟩:=Gl.out.shape;have Dx:=aH (show ∀G,G<w0.heap.size→OffL G A L.length from fun G hG=>.inr fun a ha=>by
   have h1:=(HO.out.lt a.block (ax (by rw[ha];rfl))).1;omega)
  have CR:=aH (nL HL.out CG.out.size);have g10:=HT.out.row.g 10 rfl;have z10:=HT.out.row.z 10 rfl;clear CC
  go_upto_region 5 with fail
  have Er:=aH (HT.out.setO Gl.out (Dx.out D CR.out));have CL:=aH (show But D w0 (wv.setCell ⟨D,10,none⟩ (.slice A L.length c))from(But.of CQ.out).st _);have CT:=aH (CU.out.off (D:=D) (o:=10) (Nat.ne_of_lt HL.out) (.slice A L.length c));clear g10 z10 HT CU Gl CQ;generalize wv.setCell ⟨D,10,none⟩ (.slice A L.length c)=w2 at *;go_wp2_with fail;refine(gV _ who r x D w2 Er.out CV.out).mono ?_;rintro e w3 ⟨v3,rfl,ho3,CO⟩;have F9:=aH (Er.out.then CO);have CS:=aH (CL.out.call CO);have Di:=aH (CT.out.below CO);have E6:(b9 L who L.length).length≤1000:=Nat.le_trans (dM L who L.length) CV.out;obtain⟨A3,c3,rfl,-⟩:=(ho3.isL (by dsimp only;omega)).shape;have g20:=F9.out.row.g 20 rfl;have z20:=F9.out.row.z 20 rfl;clear Er CL CT ho3 CO;dsimp only at *;generalize hN:(b9 L who L.length).length=N at *;have HN:=aH hN;clear hN
  go_upto_region 6 with fail
  have Kv:=aH (F9.out.setN N);have CW:=aH (show But D w0 (w3.setCell ⟨D,20,none⟩ (.int .i64 N))from CS.out.st _);have Dp:=aH (Di.out.off (D:=D) (o:=20) (Nat.ne_of_lt HL.out) (.int .i64 N));clear g20 z20 F9 Di CS;generalize w3.setCell ⟨D,20,none⟩ (.int .i64 N)=w4 at *;have k0:=Dp.out.g 0 rfl;have k1:=Dp.out.g 1 rfl;have y0:=Dp.out.z 0 rfl;have y1:=Dp.out.z 1 rfl;go_wp2;have HF:=aH ((Dp.out.set 0 (.int .i64 0)).set 1 (.int .i64 0));have f0:=HF.out.g 0 rfl;have f1:=HF.out.g 1 rfl;clear k0 k1 y0 y1;refine bP (v:=.agg #[.int .i64 0,.int .i64 0]) ?_ rfl ?_
  ·simp[results,results121,go_sem,f0,f1]
  ·have HA:Aft w w4 D m {m with oA:=A,oc:=c,o:=L} who r x {x with n:=(N:Int)}:=⟨Kv.out,(But.of CG.out).trans CW.out,fun G hG hm hx=>⟨⟨hm.1,hm.2.1,Dx.out G (nL hG CG.out.size)⟩,hx⟩,rfl⟩;have Mn:OffL w.heap.size A L.length:=Dx.out _ HR.out.1;refine⟨{m with oA:=A,oc:=c,o:=L},{x with n:=(N:Int)},rfl,(HA.other (nR _) ⟨HG.out.1.1,HG.out.1.2.1,Mn⟩ HG.out.2 HL.out _).other (nR _) ⟨HG.out.1.1,HG.out.1.2.1,Mn⟩ HG.out.2 HL.out _,rfl,fun _=>⟨DJ.out,?_⟩,fun h=>absurd rfl h⟩;rw[show((b9 L who L.length).length:Int)=N by rw[HN.out]]
theorem wH (o:List Int) (who:Int) (k:Nat):Two.Inc (b9 o who k):=by
 unfold b9 Two.Inc;rw[List.pairwise_map];exact(List.pairwise_lt_range.filter _).imp fun h=>by simpa using h
def zr (o ids:List Int) (who:Int):Nat:=(Two.mk (b9 o who o.length++Two.mk ids)).length
def kp (o ids:List Int) (who:Int):Int:=if 40<zr o ids who then 160 else cM o (Two.mk ids) who (bq who) 140
def uN (o ids:List Int) (who:Int):Int:=if 40<zr o ids who then 0 else eP o (Two.mk ids) who (bq who)
theorem qi (m:Md) (who:Int) (r:Rq) (x:Rs) (D:Nat) (w:World) (h:Tu w D m who r x) (hl:m.o.length≤900) (hr:r.il.length≤16):Calls prog 120 #[.pointer (some ⟨D,0,none⟩)] w fun e w'=>∃m' x',e=.returned (.agg #[.int .i64 (kp m.o r.il who),.int .i64 (uN m.o r.il who)])∧Aft w w' D m m' who r x x'∧m'.s=m.s∧(kp m.o r.il who=0→m'.o=aO m.o (Two.mk r.il) who∧x'={x with n:=((b9 m'.o who m'.o.length).length:Int)})∧(kp m.o r.il who≠0→m'=m∧x'=x):=by
 obtain⟨w0,hw0⟩:∃w0,w0=w.alloc (.cells #[.int .i64 0,.int .i64 0] 104):=⟨_,rfl⟩;have CG:=aH (cI hw0);have CN:=aH (h.then CG.out);have HR:=aH (Row.n1 hw0 [.int .i64 0,.int .i64 0] rfl);have HG:=aH (aI (h.im.off (nR _)) (h.ix.offL (nR _)));have HL:=aH h.lt;have JQ:=aH (fun V (hb:Below w0.heap.size w0 V)=>(Two.from_any (.slice r.iA r.il.length r.ic) r.il V (bo ((CN.out.ir.l.more (Nat.le_of_lt CN.out.lt)).then hb)) (by omega)).mono (R':=fun e w'=>∃v,e=.returned v∧KI.IsL w' w'.heap.size v (Two.mk r.il)∧Below V.heap.size V w') fun e w' ⟨v,h1,h2,h3⟩=>⟨v,h1,d9 h2,h3⟩);have J6:(Two.mk r.il).length≤16:=Nat.le_trans (Two.mk_len_le _) hr;have Mg:=aH (fun V u v (hu:KI.IsL V V.heap.size u (b9 m.o who m.o.length)) (hv:KI.IsL V V.heap.size v (Two.mk r.il))=>Two.either_any u v _ _ V (bo hu) (bo hv) (by have:=dM m.o who m.o.length;omega) (wH _ _ _) (Two.inc_mk _));have HE:=aH (show kp m.o r.il who=if 40<zr m.o r.il who then 160 else cM m.o (Two.mk r.il) who (bq who) 140 from rfl);have HI:=aH (show uN m.o r.il who=if 40<zr m.o r.il who then 0 else eP m.o (Two.mk r.il) who (bq who)from rfl);have HN:=aH (show(Two.mk (b9 m.o who m.o.length++Two.mk r.il)).length=zr m.o r.il who from rfl);have Qh:=aH (show zr m.o r.il who≤1000 from Nat.le_trans (Two.mk_len_le _) (by rw[List.length_append];have:=dM m.o who m.o.length;omega));have FF:=aH (fun V (hb:Below w0.heap.size w0 V)=>gV m who r x D V (CN.out.then hb) (by omega));have DW:=aH (show(b9 m.o who m.o.length).length≤1000 from Nat.le_trans (dM _ _ _) (by omega));have Ge:=aH (fun V (hb:Below w0.heap.size w0 V) u (hu:KI.IsL V V.heap.size u (Two.mk r.il))=>qN m who r x D V (CN.out.then hb) u _ hu (by omega));generalize kp m.o r.il who=E at *
 generalize uN m.o r.il who=I at *;generalize zr m.o r.il who=N at *;generalize cM m.o (Two.mk r.il) who (bq who) 140=E1 at *;generalize eP m.o (Two.mk r.il) who (bq who)=I1 at *;generalize Two.mk r.il=ids at *;have g13:=CN.out.row.g 13 rfl;rw[hw0]at g13;clear h hl hr J6;go_enter func120,ntmps120;go_wp2_with fail;rw[←hw0];clear hw0 g13;refine(JQ.out w0 (bR _ _)).mono ?_;rintro e w1 ⟨u,rfl,hu,hb⟩;have HU:=aH hu;have CH:=aH hb;clear hu hb;go_wp2_with fail;refine(FF.out w1 CH.out).mono ?_;rintro e w2 ⟨v,rfl,ho,hb⟩;have HO:=aH (ho.isL (by have:=DW.out;omega));have Qq:=aH (HU.out.then hb);have CL:=aH (bC CH.out hb);clear ho hb HU CH;go_wp2_with fail;refine(Mg.out w2 v u HO.out Qq.out).mono ?_;rintro e w3 ⟨z,rfl,hz,hb⟩;obtain⟨zA,zc,rfl,-⟩:=(d9 hz).shape;have Ts:=aH (Qq.out.then hb);have CS:=aH (bC CL.out hb);clear hz hb HO Qq CL;rw[HN.out];have UN:=Qh.out;by_cases hE:40<N
 ·have MI:=HE.out;have MV:=HI.out;rw[if_pos hE]at MI MV;subst MI MV;have Di:=aH (HR.out.below CS.out);have HA:=aH (Aft.from (.of CN.out CS.out) CG.out);have k0:=Di.out.g 0 rfl;have k1:=Di.out.g 1 rfl;have y0:=Di.out.z 0 rfl;have y1:=Di.out.z 1 rfl;go_wp2;have HF:=aH ((Di.out.set 0 (.int .i64 160)).set 1 (.int .i64 0));have f0:=HF.out.g 0 rfl;have f1:=HF.out.g 1 rfl;clear k0 k1 y0 y1;refine bP (v:=.agg #[.int .i64 160,.int .i64 0]) ?_ rfl ?_
  ·simp[results,results120,go_sem,f0,f1]
  ·exact⟨m,x,rfl,(HA.out.other (nR _) HG.out.1 HG.out.2 HL.out _).other (nR _) HG.out.1 HG.out.2 HL.out _,rfl,fun h=>(by cases h),fun _=>⟨rfl,rfl⟩⟩
 ·have MI:=HE.out;have MV:=HI.out;rw[if_neg hE]at MI MV;subst MI MV;go_wp2_with fail;refine(Ge.out w3 CS.out u Ts.out).mono ?_;rintro e w4 ⟨m',x',rfl,ha,hs,h0,h1⟩;have HA:=aH ha;have Dp:=aH (ha.but.row (HR.out.below CS.out) (Nat.ne_of_gt HL.out));have HK:=aH (ha.keep w.heap.size (nL HR.out.1 CS.out.size) HG.out.1 HG.out.2);have HP:=aH (aI hs (aI h0 h1));clear ha hs h0 h1;have k0:=Dp.out.g 0 rfl;have k1:=Dp.out.g 1 rfl;have y0:=Dp.out.z 0 rfl;have y1:=Dp.out.z 1 rfl;go_wp2;have HF:=aH ((Dp.out.set 0 (.int .i64 E)).set 1 (.int .i64 I));have f0:=HF.out.g 0 rfl;have f1:=HF.out.g 1 rfl;clear k0 k1 y0 y1;refine bP (v:=.agg #[.int .i64 E,.int .i64 I]) ?_ rfl ?_
  ·simp[results,results120,go_sem,f0,f1]
  ·exact⟨m',x',rfl,((HA.out.from (CG.out.trans (CS.out.mono CG.out.size))).other (nR _) HK.out.1 HK.out.2 HL.out _).other (nR _) HK.out.1 HK.out.2 HL.out _,HP.out.1,HP.out.2.1,HP.out.2.2⟩
theorem zD (m:Md) (who:Int) (r:Rq) (x:Rs) (D:Nat) (w:World) (h:Tu w D m who r x) (hl:m.o.length≤900):Calls prog 123 #[.pointer (some ⟨D,0,none⟩)] w fun e w'=>∃m' x',e=.returned (.agg #[.int .i64 (cM m.o (b9 m.o who m.o.length) who (ay who) 141),.int .i64 (eP m.o (b9 m.o who m.o.length) who (ay who))])∧Aft w w' D m m' who r x x'∧m'.s=m.s∧(cM m.o (b9 m.o who m.o.length) who (ay who) 141=0→m'.o=aO m.o (b9 m.o who m.o.length) 0∧x'={x with n:=((b9 m.o who m.o.length).length:Int)})∧(cM m.o (b9 m.o who m.o.length) who (ay who) 141≠0→m'=m):=by
 obtain⟨w0,hw0⟩:∃w0,w0=w.alloc (.cells #[.int .i64 0,.int .i64 0] 104):=⟨_,rfl⟩;have CG:=aH (cI hw0);have CN:=aH (h.then CG.out);have HR:=aH (Row.n1 hw0 [.int .i64 0,.int .i64 0] rfl);have HG:=aH (aI (h.im.off (nR _)) (h.ix.offL (nR _)));have HL:=aH h.lt;have FF:=aH (fun V (hb:Below w0.heap.size w0 V)=>gV m who r x D V (CN.out.then hb) (by omega));have DW:=aH (show(b9 m.o who m.o.length).length≤1000 from Nat.le_trans (dM _ _ _) (by omega));have Ge:=aH (fun V (hb:Below w0.heap.size w0 V) u (hu:KI.IsL V V.heap.size u (b9 m.o who m.o.length))=>jw m who r x D V (CN.out.then hb) u _ hu (by omega));generalize cM m.o (b9 m.o who m.o.length) who (ay who) 141=E at *;generalize eP m.o (b9 m.o who m.o.length) who (ay who)=I at *;generalize b9 m.o who m.o.length=ids at *;clear h hl;go_enter func123,ntmps123;go_wp2_with fail;rw[←hw0];clear hw0;refine(FF.out w0 (bR _ _)).mono ?_;rintro e w1 ⟨v,rfl,ho,hb⟩;have HO:=aH (ho.isL (by have:=DW.out;omega));have CH:=aH hb;obtain⟨A,c,rfl,-⟩:=HO.out.shape;clear ho hb;go_wp2_with fail;refine(Ge.out w1 CH.out _ HO.out).mono ?_;rintro e w2 ⟨m',x',rfl,ha,hs,h0,h1⟩;have HA:=aH ha;have CT:=aH (ha.but.row (HR.out.below CH.out) (Nat.ne_of_gt HL.out));have HK:=aH (ha.keep w.heap.size (nL HR.out.1 CH.out.size) HG.out.1 HG.out.2);have HP:=aH (aI hs (aI h0 h1));clear ha hs h0 h1
 go_upto_region 3 with fail
 have Dl:=aH (HA.out.from (CG.out.trans (CH.out.mono CG.out.size)));have I8:=aH HA.out.tu.lt;have Kv:=aH (show Tu (w2.alloc (.cells #[.int .i64 E,.int .i64 I] 104)) D m' who r x' from HA.out.tu.then (bL (bR _ _) _));have CW:=aH (show But D w (w2.alloc (.cells #[.int .i64 E,.int .i64 I] 104))from Dl.out.but.call (bL (bR _ _) _));have Dp:=aH (show Row (w2.alloc (.cells #[.int .i64 E,.int .i64 I] 104)) w.heap.size [.int .i64 0,.int .i64 0]from CT.out.below (bL (bR _ _) _));have HX:=aH (show Row (w2.alloc (.cells #[.int .i64 E,.int .i64 I] 104)) w2.heap.size [.int .i64 E,.int .i64 I]from Row.new w2 _ _ _ rfl);have QB:ids.length≤1000:=DW.out;clear CT HR FF Ge HO;generalize w2.alloc (.cells #[.int .i64 E,.int .i64 I] 104)=w4 at *;generalize w2.heap.size=ga at *;have g20:=Kv.out.row.g 20 rfl;have z20:=Kv.out.row.z 20 rfl
 go_upto_region 4 with fail
 have RZ:=aH (Kv.out.setN ids.length);have DH:=aH (show But D w (w4.setCell ⟨D,20,none⟩ (.int .i64 ids.length))from CW.out.st _);have Fv:=aH (Dp.out.off (D:=D) (o:=20) (Nat.ne_of_lt HL.out) (.int .i64 ids.length));have FB:=aH (HX.out.off (D:=D) (o:=20) (Nat.ne_of_lt I8.out) (.int .i64 ids.length));clear g20 z20 Kv Dp CW HX;generalize w4.setCell ⟨D,20,none⟩ (.int .i64 ids.length)=w5 at *;have x0:=FB.out.g 0 rfl;have x1:=FB.out.g 1 rfl;have k0:=Fv.out.g 0 rfl;have k1:=Fv.out.g 1 rfl;have y0:=Fv.out.z 0 rfl;have y1:=Fv.out.z 1 rfl;go_wp2;have HF:=aH ((Fv.out.set 0 (.int .i64 E)).set 1 (.int .i64 I));have f0:=HF.out.g 0 rfl;have f1:=HF.out.g 1 rfl;clear k0 k1 y0 y1;refine bP (v:=.agg #[.int .i64 E,.int .i64 I]) ?_ rfl ?_
 ·simp[results,results123,go_sem,f0,f1]
 ·have Jc:Aft w w5 D m m' who r x {x' with n:=(ids.length:Int)}:=⟨RZ.out,DH.out,fun G hG hm hx=>Dl.out.keep G hG hm hx,HA.out.dd⟩;exact⟨m',{x' with n:=(ids.length:Int)},rfl,(Jc.other (nR _) HK.out.1 HK.out.2 HL.out _).other (nR _) HK.out.1 HK.out.2 HL.out _,HP.out.1,fun h=>⟨(HP.out.2.1 h).1,by rw[(HP.out.2.1 h).2]⟩,fun h=>(HP.out.2.2 h).1⟩
theorem BK (m:Md) (who:Int) (r:Rq) (x:Rs) (D:Nat) (w:World) (h:Tu w D m who r x) (hk:r.k=1) (hl:m.o.length≤900) (hr:r.il.length≤16):Calls prog 66 #[.pointer (some ⟨D,0,none⟩)] w fun e w'=>∃m' x',e=.returned (.agg #[.int .i64 (kp m.o r.il who),.int .i64 (uN m.o r.il who)])∧Aft w w' D m m' who r x x'∧m'.s=m.s∧(kp m.o r.il who=0→m'.o=aO m.o (Two.mk r.il) who∧x'={x with n:=((b9 m'.o who m'.o.length).length:Int)})∧(kp m.o r.il who≠0→m'=m∧x'=x):=by
 obtain⟨w0,hw0⟩:∃w0,w0=w.alloc (.cells #[.int .i64 0,.int .i64 0] 104):=⟨_,rfl⟩;have CG:=aH (cI hw0);have CN:=aH (h.then CG.out);have HR:=aH (Row.n1 hw0 [.int .i64 0,.int .i64 0] rfl);have HG:=aH (aI (h.im.off (nR _)) (h.ix.offL (nR _)));have HL:=aH h.lt;have HC:=aH (fun V (hb:Below w0.heap.size w0 V)=>qi m who r x D V (CN.out.then hb) hl hr);generalize kp m.o r.il who=E at *;generalize uN m.o r.il who=I at *;have g12:=CN.out.row.g 12 rfl;rw[hw0,hk]at g12;clear h;go_enter func66,ntmps66;go_wp2_with fail;rw[←hw0];clear hw0 g12;refine(HC.out w0 (bR _ _)).mono ?_;rintro e w2 ⟨m',x',rfl,ha,hp⟩;have HA:=aH ha;have CT:=aH (ha.but.row HR.out (Nat.ne_of_gt HL.out));have HK:=aH (ha.keep w.heap.size HR.out.1 HG.out.1 HG.out.2);have HP:=aH hp;clear ha hp;have k0:=CT.out.g 0 rfl;have k1:=CT.out.g 1 rfl;have y0:=CT.out.z 0 rfl;have y1:=CT.out.z 1 rfl;go_wp2;have HF:=aH ((CT.out.set 0 (.int .i64 E)).set 1 (.int .i64 I));have f0:=HF.out.g 0 rfl;have f1:=HF.out.g 1 rfl;clear k0 k1 y0 y1;refine bP (v:=.agg #[.int .i64 E,.int .i64 I]) ?_ rfl ?_
 ·simp[results,results66,go_sem,f0,f1]
 ·exact⟨m',x',rfl,((HA.out.from CG.out).other (nR _) HK.out.1 HK.out.2 HL.out _).other (nR _) HK.out.1 HK.out.2 HL.out _,HP.out⟩
theorem BT (m:Md) (who:Int) (r:Rq) (x:Rs) (D:Nat) (w:World) (h:Tu w D m who r x) (hk:r.k=3) (hl:m.o.length≤900):Calls prog 66 #[.pointer (some ⟨D,0,none⟩)] w fun e w'=>∃m' x',e=.returned (.agg #[.int .i64 (cM m.o (b9 m.o who m.o.length) who (ay who) 141),.int .i64 (eP m.o (b9 m.o who m.o.length) who (ay who))])∧Aft w w' D m m' who r x x'∧m'.s=m.s∧(cM m.o (b9 m.o who m.o.length) who (ay who) 141=0→m'.o=aO m.o (b9 m.o who m.o.length) 0∧x'={x with n:=((b9 m.o who m.o.length).length:Int)})∧(cM m.o (b9 m.o who m.o.length) who (ay who) 141≠0→m'=m):=by
 obtain⟨w0,hw0⟩:∃w0,w0=w.alloc (.cells #[.int .i64 0,.int .i64 0] 104):=⟨_,rfl⟩;have CG:=aH (cI hw0);have CN:=aH (h.then CG.out);have HR:=aH (Row.n1 hw0 [.int .i64 0,.int .i64 0] rfl);have HG:=aH (aI (h.im.off (nR _)) (h.ix.offL (nR _)));have HL:=aH h.lt;have HC:=aH (fun V (hb:Below w0.heap.size w0 V)=>zD m who r x D V (CN.out.then hb) hl);generalize cM m.o (b9 m.o who m.o.length) who (ay who) 141=E at *;generalize eP m.o (b9 m.o who m.o.length) who (ay who)=I at *;have g12:=CN.out.row.g 12 rfl;rw[hw0,hk]at g12;clear h;go_enter func66,ntmps66;go_wp2_with fail;rw[←hw0];clear hw0 g12;refine(HC.out w0 (bR _ _)).mono ?_;rintro e w2 ⟨m',x',rfl,ha,hp⟩;have HA:=aH ha;have CT:=aH (ha.but.row HR.out (Nat.ne_of_gt HL.out));have HK:=aH (ha.keep w.heap.size HR.out.1 HG.out.1 HG.out.2);have HP:=aH hp;clear ha hp;have k0:=CT.out.g 0 rfl;have k1:=CT.out.g 1 rfl;have y0:=CT.out.z 0 rfl;have y1:=CT.out.z 1 rfl;go_wp2;have HF:=aH ((CT.out.set 0 (.int .i64 E)).set 1 (.int .i64 I));have f0:=HF.out.g 0 rfl;have f1:=HF.out.g 1 rfl;clear k0 k1 y0 y1;refine bP (v:=.agg #[.int .i64 E,.int .i64 I]) ?_ rfl ?_
 ·simp[results,results66,go_sem,f0,f1]
 ·exact⟨m',x',rfl,((HA.out.from CG.out).other (nR _) HK.out.1 HK.out.2 HL.out _).other (nR _) HK.out.1 HK.out.2 HL.out _,HP.out⟩
theorem BI (m:Md) (who:Int) (r:Rq) (x:Rs) (D:Nat) (w:World) (h:Tu w D m who r x) (hk:r.k=7):Calls prog 66 #[.pointer (some ⟨D,0,none⟩)] w fun e w'=>∃m' x',e=.returned (.agg #[.int .i64 (br m.d m.s.ab who (eL m.d m.s.ab who r.a)),.int .i64 0])∧Aft w w' D m m' who r x x'∧m'.o=m.o∧(br m.d m.s.ab who (eL m.d m.s.ab who r.a)=0→m'.s.ab=fY m.s.ab who r.a∧x'={x with i:=r.a})∧(br m.d m.s.ab who (eL m.d m.s.ab who r.a)≠0→m'=m):=by
 obtain⟨w0,hw0⟩:∃w0,w0=w.alloc (.cells #[.int .i64 0,.int .i64 0] 104):=⟨_,rfl⟩;have CG:=aH (cI hw0);have CN:=aH (h.then CG.out);have HR:=aH (Row.n1 hw0 [.int .i64 0,.int .i64 0] rfl);have HG:=aH (aI (h.im.off (nR _)) (h.ix.offL (nR _)));have HL:=aH h.lt;have HC:=aH (fun V (hT:Tu V D m who r {x with i:=r.a})=>zp m.d m.s who r.a V hT.im.d hT.im.s h.ir.a);generalize br m.d m.s.ab who (eL m.d m.s.ab who r.a)=E at *;generalize fY m.s.ab who r.a=A at *;clear h;go_enter func66,ntmps66
 go_upto_region 1 with fail
 rw[←hw0];clear hw0;have g12:=CN.out.row.g 12 rfl;have g14:=CN.out.row.g 14 rfl;have g19:=CN.out.row.g 19 rfl;have z19:=CN.out.row.z 19 rfl;rw[hk]at g12
 go_upto_region 14 with fail
 have DS:=aH (CN.out.setI r.a);have CH:=aH (show But D w (w0.setCell ⟨D,19,none⟩ (.int .i64 r.a))from(But.of CG.out).st _);have CU:=aH (HR.out.off (D:=D) (o:=19) (Nat.ne_of_lt HL.out) (.int .i64 r.a));clear g12 g14 g19 z19 CN HR;generalize w0.setCell ⟨D,19,none⟩ (.int .i64 r.a)=w1 at *;have g0:=DS.out.row.g 0 rfl;have g1:=DS.out.row.g 1 rfl;have g2:=DS.out.row.g 2 rfl;have g3:=DS.out.row.g 3 rfl;have g11:=DS.out.row.g 11 rfl;have g14:=DS.out.row.g 14 rfl;refine Bb ⟨g0,g1,g2,g3,g11,g14⟩ (by kernel_rfl) (fun CC=>?_);have HV:=aH (DS.out.then (show Below w1.heap.size w1 w1.drew from aa (bR _ _) 1));have F7:=aH (CH.out.call (show Below w1.heap.size w1 w1.drew from aa (bR _ _) 1));have Lr:=aH (CU.out.below (show Below w1.heap.size w1 w1.drew from aa (bR _ _) 1));clear g0 g1 g2 g3 g11 g14 DS CH CU;generalize w1.drew=wv at *;refine wk [.k 0 43,.k 1 44,.k 2 45,.k 3 46,.k 4 47,.k 5 48,.k 6 49,.k 7 50,.k 8 51,.k 9 52,.k 11 54,.k 12 55,.k 13 56,.k 14 57,.k 15 58,.k 16 59,.k 17 60,.k 18 61,.k 19 62] (fun _ _ _ _ _ h=>h) CC ?_ (by kernel_rfl);repeat (refine .k (v:=?_) rfl (by kernel_rfl) ?_ ?_;rotate_left 1;((intro w CY;(try dsimp only at CY);go_simp)<;>(try with_reducible rfl));(try simp only[sp]))
 refine .nil ?_;refine wQ 10 (some 53) rfl (fun K hK=>?_) (by kernel_rfl);have c4:=HV.out.row.g 4 rfl;have c5:=HV.out.row.g 5 rfl;have c6:=HV.out.row.g 6 rfl;have c7:=HV.out.row.g 7 rfl;have c8:=HV.out.row.g 8 rfl;have c9:=HV.out.row.g 9 rfl;go_simp;clear c4 c5 c6 c7 c8 c9;refine hK.out _ _ CC (fun CC=>?_);clear hK K;try simp only[sp]
 refine wQ 20 (some 63) rfl (fun K hK=>?_) (by kernel_rfl);go_simp;(with_reducible refine(HC.out wv HV.out).mono ?_);rintro e w2 ⟨s,rfl,hs,Dg,hb,hf⟩;have FV:=aH (HV.out.then hb);have IF:=aH (F7.out.call hb);have IY:=aH (Lr.out.below hb);have Ec:=aH hs;have Jd:=aH Dg;have Ho:=aH (fun G (hG:G<w.heap.size+1)=>hf.off (nL hG (show w.heap.size+1≤wv.heap.size from Lr.out.1)));clear hs Dg hf hb HV F7 Lr CC;have s0:=FV.out.row.g 0 rfl;have s1:=FV.out.row.g 1 rfl;have s2:=FV.out.row.g 2 rfl;have s3:=FV.out.row.g 3 rfl;have s11:=FV.out.row.g 11 rfl;have s14:=FV.out.row.g 14 rfl;go_wp2_with fail;refine hK.out _ _ ⟨s0,s1,s2,s3,s11,s14⟩ (fun CC=>?_);clear hK K s0 s1 s2 s3 s11 s14;try simp only[sp]
 refine wk [.k 21 64,.k 22 65] (fun _ _ _ _ _ h=>h) CC ?_ (by kernel_rfl);repeat (refine .k (v:=?_) rfl (by kernel_rfl) ?_ ?_;rotate_left 1;((intro w CY;(try dsimp only at CY);go_simp)<;>(try with_reducible rfl));(try simp only[sp]))
 refine .nil ?_;refine wQ 23 (some 66) rfl (fun K hK=>?_) (by kernel_rfl);go_simp;(with_reducible refine(iz m who r {x with i:=r.a} D w2 FV.out s _ Ec.out (Ho.out D (Nat.lt_succ_of_lt HL.out))).mono ?_);rintro e w3 ⟨rfl,ht,hb⟩;obtain⟨m',GY⟩:∃m',m'=(if E=0 then {m with s:=s}else m):=⟨_,rfl⟩;rw[←GY]at ht;have Fp:=aH GY;have FL:=aH (show m'.d=m.d by rw[GY];split<;>rfl);have Eb:=aH ht;have IW:=aH (IF.out.trans hb);have EH:=aH (hb.row IY.out (Nat.ne_of_gt HL.out));clear GY ht hb FV IF IY CC Ec;have s0:w3.cell? ⟨D,0,none⟩=some (.slice m.d.bA m.d.bn m.d.bc):=by have h:=Eb.out.row.g 0 rfl;rw[FL.out]at h;exact h
 have s1:w3.cell? ⟨D,1,none⟩=some (.slice m.d.pA m.d.pn m.d.pc):=by have h:=Eb.out.row.g 1 rfl;rw[FL.out]at h;exact h
 have s2:w3.cell? ⟨D,2,none⟩=some (.slice m.d.rA m.d.rn m.d.rc):=by have h:=Eb.out.row.g 2 rfl;rw[FL.out]at h;exact h
 have s3:w3.cell? ⟨D,3,none⟩=some (.int .i64 m.d.arms):=by have h:=Eb.out.row.g 3 rfl;rw[FL.out]at h;exact h
 have s11:=Eb.out.row.g 11 rfl;have s14:=Eb.out.row.g 14 rfl;go_wp2_with fail;refine hK.out _ _ ⟨s0,s1,s2,s3,s11,s14⟩ (fun CC=>?_);clear hK K s0 s1 s2 s3 s11 s14;try simp only[sp]
 refine wQ 24 none rfl (fun K hK=>?_) (by kernel_rfl);have k0:=EH.out.g 0 rfl;have k1:=EH.out.g 1 rfl;have y0:=EH.out.z 0 rfl;have y1:=EH.out.z 1 rfl;go_simp;clear k0 k1 y0 y1 CC;have Kp:=aH (show m'.Off w.heap.size by
  rw[Fp.out]
  split
  ·exact⟨HG.out.1.1,Ho.out _ (Nat.lt_succ_self _),HG.out.1.2.2⟩
  ·exact HG.out.1)
 have Hb:=aH ((Eb.out.other (o:=0) HL.out Kp.out HG.out.2 (.int .i64 E)).other (o:=1) HL.out Kp.out HG.out.2 (.int .i64 0));have CW:=aH ((IW.out.new (o:=0) (nR _) (.int .i64 E)).new (o:=1) (nR _) (.int .i64 0));have HF:=aH ((EH.out.set 0 (.int .i64 E)).set 1 (.int .i64 0));clear Eb IW EH;generalize (w3.setCell ⟨w.heap.size,0,none⟩ (.int .i64 E)).setCell ⟨w.heap.size,1,none⟩ (.int .i64 0)=w4 at *;have s0:w4.cell? ⟨D,0,none⟩=some (.slice m.d.bA m.d.bn m.d.bc):=by have h:=Hb.out.row.g 0 rfl;rw[FL.out]at h;exact h
 have s1:w4.cell? ⟨D,1,none⟩=some (.slice m.d.pA m.d.pn m.d.pc):=by have h:=Hb.out.row.g 1 rfl;rw[FL.out]at h;exact h
 have s2:w4.cell? ⟨D,2,none⟩=some (.slice m.d.rA m.d.rn m.d.rc):=by have h:=Hb.out.row.g 2 rfl;rw[FL.out]at h;exact h
 have s3:w4.cell? ⟨D,3,none⟩=some (.int .i64 m.d.arms):=by have h:=Hb.out.row.g 3 rfl;rw[FL.out]at h;exact h
 have s11:=Hb.out.row.g 11 rfl;have s14:=Hb.out.row.g 14 rfl;refine hK.out _ _ ⟨s0,s1,s2,s3,s11,s14⟩ (fun CC=>?_);clear hK K s0 s1 s2 s3 s11 s14 CC;try simp only[sp]
 refine wD (by kernel_rfl) ?_;go_wp2;have f0:=HF.out.g 0 rfl;have f1:=HF.out.g 1 rfl;refine bP (v:=.agg #[.int .i64 E,.int .i64 0]) ?_ rfl ?_
 ·simp[results,results66,go_sem,f0,f1]
 ·refine⟨m',{x with i:=r.a},rfl,⟨Hb.out,CW.out,fun G hG hm hx=>⟨?_,hx⟩,FL.out⟩,?_,fun h0=>⟨?_,rfl⟩,fun h0=>?_⟩
  ·rw[Fp.out]
   split
   ·exact⟨hm.1,Ho.out G (Nat.lt_succ_of_lt hG),hm.2.2⟩
   ·exact hm
  ·rw[Fp.out];split<;>rfl
  ·rw[Fp.out,if_pos h0];have:=Jd.out;rw[if_pos h0]at this;exact this
  ·rw[Fp.out,if_neg h0]
theorem BM (m:Md) (who:Int) (r:Rq) (x:Rs) (D:Nat) (w:World) (h:Tu w D m who r x) (hk:r.k=9) (ha:0≤r.a∧r.a<m.s.cl.length):Calls prog 66 #[.pointer (some ⟨D,0,none⟩)] w fun e w'=>e=.returned (.agg #[.int .i64 0,.int .i64 0])∧Aft w w' D m m who r x {x with n:=(m.s.cl.getD r.a.toNat aM).b,u:=(m.s.cl.getD r.a.toNat aM).c}:=by
 obtain⟨w0,hw0⟩:∃w0,w0=w.alloc (.cells #[.int .i64 0,.int .i64 0] 104):=⟨_,rfl⟩;have CG:=aH (cI hw0);have CN:=aH (h.then CG.out);have HR:=aH (Row.n1 hw0 [.int .i64 0,.int .i64 0] rfl);have HG:=aH (aI (h.im.off (nR _)) (h.ix.offL (nR _)));have HL:=aH h.lt;obtain⟨k,hka⟩:∃k:Nat,r.a=(k:Int):=⟨r.a.toNat,by omega⟩;have CI:k<m.s.cl.length:=by omega
 have FZ:=h.im.s.c.2.2;have Jr:r.a.toNat=k:=by omega
 rw[Jr];obtain⟨b,off,hA,-,-,-⟩:=bt h.im.s.c (by omega);have GU:=aH (fun V (hT:KE.IsL V V.heap.size (.slice m.s.cA m.s.cl.length m.s.cc) m.s.cl)=>show V.cell? ⟨b,off+k*3+1,none⟩=some (.int .i64 (m.s.cl.getD k aM).b)∧V.cell? ⟨b,off+k*3+2,none⟩=some (.int .i64 (m.s.cl.getD k aM).c)from by
  obtain⟨b2,off2,EX,-,-,hc⟩:=bt hT (by omega);rw[hA]at EX
  cases EX
  have q:=hc k CI;exact⟨q.2.1,q.2.2⟩)
 generalize m.s.cl.getD k aM=q at *;obtain⟨qa,qb,qc⟩:=q;dsimp only at *;clear h ha Jr;go_enter func66,ntmps66
 go_upto_region 1 with fail
 rw[←hw0];clear hw0;have g12:=CN.out.row.g 12 rfl;have g14:=CN.out.row.g 14 rfl;have g4:=CN.out.row.g 4 rfl;have g20:=CN.out.row.g 20 rfl;have z20:=CN.out.row.z 20 rfl;have e1:=(GU.out w0 CN.out.im.s.c).1;rw[hk]at g12;rw[hka]at g14;rw[hA]at g4
 go_upto_region 19 with fail
 go_region
 have DS:=aH ((CN.out.setN qb).then (show Below (w0.setCell ⟨D,20,none⟩ (.int .i64 qb)).heap.size (w0.setCell ⟨D,20,none⟩ (.int .i64 qb)) (w0.setCell ⟨D,20,none⟩ (.int .i64 qb)).drew from aa (bR _ _) 1));have CH:=aH (((But.of (D:=D) CG.out).st _).call (show Below (w0.setCell ⟨D,20,none⟩ (.int .i64 qb)).heap.size (w0.setCell ⟨D,20,none⟩ (.int .i64 qb)) (w0.setCell ⟨D,20,none⟩ (.int .i64 qb)).drew from aa (bR _ _) 1));have CU:=aH ((HR.out.off (D:=D) (o:=20) (Nat.ne_of_lt HL.out) (.int .i64 qb)).below (show Below (w0.setCell ⟨D,20,none⟩ (.int .i64 qb)).heap.size (w0.setCell ⟨D,20,none⟩ (.int .i64 qb)) (w0.setCell ⟨D,20,none⟩ (.int .i64 qb)).drew from aa (bR _ _) 1));clear g12 g14 g4 g20 z20 e1 CN HR;generalize (w0.setCell ⟨D,20,none⟩ (.int .i64 qb)).drew=w1 at *;have g14:=DS.out.row.g 14 rfl;have g4:=DS.out.row.g 4 rfl;have g21:=DS.out.row.g 21 rfl;have z21:=DS.out.row.z 21 rfl;have e2:=(GU.out w1 DS.out.im.s.c).2;rw[hka]at g14;rw[hA]at g4
 go_upto_region 20 with fail
 go_region
 have Er:=aH ((DS.out.setU qc).then (show Below (w1.setCell ⟨D,21,none⟩ (.int .i64 qc)).heap.size (w1.setCell ⟨D,21,none⟩ (.int .i64 qc)) (w1.setCell ⟨D,21,none⟩ (.int .i64 qc)).drew from aa (bR _ _) 1));have CL:=aH ((CH.out.st _).call (show Below (w1.setCell ⟨D,21,none⟩ (.int .i64 qc)).heap.size (w1.setCell ⟨D,21,none⟩ (.int .i64 qc)) (w1.setCell ⟨D,21,none⟩ (.int .i64 qc)).drew from aa (bR _ _) 1));have CT:=aH ((CU.out.off (D:=D) (o:=21) (Nat.ne_of_lt HL.out) (.int .i64 qc)).below (show Below (w1.setCell ⟨D,21,none⟩ (.int .i64 qc)).heap.size (w1.setCell ⟨D,21,none⟩ (.int .i64 qc)) (w1.setCell ⟨D,21,none⟩ (.int .i64 qc)).drew from aa (bR _ _) 1));clear g14 g4 g21 z21 e2 DS CU CH;generalize (w1.setCell ⟨D,21,none⟩ (.int .i64 qc)).drew=w2 at *;have k0:=CT.out.g 0 rfl;have k1:=CT.out.g 1 rfl;have y0:=CT.out.z 0 rfl;have y1:=CT.out.z 1 rfl;go_wp2;have HF:=aH ((CT.out.set 0 (.int .i64 0)).set 1 (.int .i64 0));have f0:=HF.out.g 0 rfl;have f1:=HF.out.g 1 rfl;clear k0 k1 y0 y1;refine bP (v:=.agg #[.int .i64 0,.int .i64 0]) ?_ rfl ?_
 ·simp[results,results66,go_sem,f0,f1]
 ·have HA:Aft w w2 D m m who r x {x with n:=qb,u:=qc}:=⟨Er.out,CL.out,fun G hG hm hx=>⟨hm,hx⟩,rfl⟩;exact⟨rfl,(HA.other (nR _) HG.out.1 HG.out.2 HL.out _).other (nR _) HG.out.1 HG.out.2 HL.out _⟩
end Go.Proofs.YtmecohdedghiaaaGreatDoor
