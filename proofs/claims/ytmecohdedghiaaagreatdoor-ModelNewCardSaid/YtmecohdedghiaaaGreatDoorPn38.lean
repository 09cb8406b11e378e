/- A turn is done: reserve, free. -/
import Derived.Test.YtmecohdedghiaaaGreatDoorPn00
import Derived.Test.YtmecohdedghiaaaGreatDoorPn32
import Derived.Test.YtmecohdedghiaaaGreatDoorPn23
import Derived.Test.YtmecohdedghiaaaGreatDoorPn29
import Derived.Test.YtmecohdedghiaaaGreatDoorPn27
import Derived.Test.YtmecohdedghiaaaGreatDoorPn12
set_option maxRecDepth 100000
set_option maxHeartbeats 8000000
namespace Go.Proofs.YtmecohdedghiaaaGreatDoor
open Go.RowKit
theorem lim_d {d:Dk} (hz:zchk d=0):d.bl.length≤25∧d.pl.length≤4∧d.rl.length≤4∧∀q∈d.pl,q.st.length≤1536:=by
 have ok:=dchk_ok d (zchk_d d hz);refine⟨ok.rise.most,ok.p4,ok.r4,fun q hq=>?_⟩;obtain⟨i,hi,rfl⟩:=List.getElem_of_mem hq;have h:=ok.pl i hi;rw[List.getD_eq_getElem?_getD,List.getElem?_eq_getElem hi,Option.getD_some]at h;generalize d.pl[i]=q at h;unfold plateB sizeB at h;simp only[Bool.and_eq_true,decide_eq_true_eq]at h;obtain⟨⟨⟨h1,h2,h3,h4⟩,h5,h6,h7⟩,-⟩:=h;have h8:q.rows*q.cols≤32*48:=Int.mul_le_mul h2 h4 (by omega) (by omega);omega
theorem parts_792 {d:Dk} (hz:zchk d=0):(partsK d).length≤792:=by
 have ok:=dchk_ok d (zchk_d d hz);have hl:=len_cnt (partsK d) (fun p hp=>(parts_okP d p hp).1);have hc:=cnt_V d;unfold cntV at hc;rw[if_pos (zchk_d d hz)]at hc;injection hc with h1 h2
 injection h2 with h2 h3
 have:=ok.wells;have:=ok.tips;have:=ok.rise.most;omega
theorem rgM_parts {m:Md} (h:rgM m=true):rgS m.d m.s.ab=true∧m.o.length=(partsK m.d).length∧owB m.o m.d.arms=true:=by
 unfold rgM at h;simp only[Bool.and_eq_true,decide_eq_true_eq]at h;exact⟨h.1,by omega,h.2.2⟩
theorem rgM_mk {m:Md} (h1:rgS m.d m.s.ab=true) (h2:m.o.length=(partsK m.d).length) (h3:owB m.o m.d.arms=true):rgM m=true:=by
 unfold rgM;rw[h1,h2,h3];simp
theorem lim_m {m:Md} (h:rgM m=true):m.Lim∧m.o.length≤792:=by
 obtain⟨h1,h2,_⟩:=rgM_parts h;have hp:=rg_P _ _ h1;have hd:=lim_d hp.z;have ho:=parts_792 hp.z;have hn:=newA_len m.d hp.z;have hw:=rw_parts hp.w;have hcl:m.s.ab.c.length=m.s.cl.length:=rfl;have hll:m.s.ab.l.length=m.s.ll.length:=by show(m.s.ll.map Lo.ab).length=_;rw[List.length_map]
 have htl:m.s.ab.t.length=m.s.tl.length:=rfl;have ht:=hp.t;refine⟨⟨by omega,by omega,by omega,fun q hq=>by have:=hd.2.2.2 q hq;omega,by omega,by omega,by omega,fun q hq=>?_,by omega⟩,by omega⟩;obtain⟨i,hi,rfl⟩:=List.getElem_of_mem hq;have hk:=(okW_parts (hw.2.2 i (by omega))).2.2.1;have e:m.s.ab.l.getD i (0,0,[])=(m.s.ll[i]).ab:=by
  show(m.s.ll.map Lo.ab).getD i (0,0,[])=_;rw[List.getD_eq_getElem?_getD,List.getElem?_map,List.getElem?_eq_getElem hi];rfl
 rw[e]at hk;have hr:=(Lg.rg_parts hk).1;have e2:(m.s.ll[i]).ab.2.2=(m.s.ll[i]).xs:=rfl;rw[e2]at hr;unfold Lg.rgC at hr;omega
theorem pass_take_z (o ids:List Int) (who:Int) (h:psE o ids who (takeQ who) 140=0):psI o ids who (takeQ who)=0∧psL o ids who (takeQ who) who=setAll o ids who:=by
 unfold psE at h;unfold psI psL
 split at h
 ·rename_i h1
  rw[if_pos h1,if_pos h1]
  split at h
  ·cases h
  ·rename_i h2
   rw[if_neg h2,if_neg h2]
   split at h
   ·cases h
   ·rename_i h3
    rw[if_neg h3];refine⟨?_,rfl⟩;rw[←fstN_snd]at h3;have e:fstN (fun x=>!takeQ who (o.getD x.toNat 0)) ids=((fstN (fun x=>!takeQ who (o.getD x.toNat 0)) ids).1,false):=by
     rw[←Bool.eq_false_iff.2 h3]
    exact fstN_miss e
 ·cases h
theorem pass_take (m:Md) (who:Int) (r:Rq) (x:Rs) (D:Nat) (w:World) (h:Tu w D m who r x) (u:Value) (ids:List Int) (hu:KI.IsL w w.heap.size u ids) (hl:m.o.length≤1000):Calls Tryz.prog 121 #[.pointer (some ⟨D,0,none⟩),.func (.func 181) #[] #[],u] w fun e w'=>∃m' x',e=.returned (.agg #[.int .i64 (psE m.o ids who (takeQ who) 140),.int .i64 (psI m.o ids who (takeQ who))])∧Aft w w' D m m' who r x x'∧m'.s=m.s∧(psE m.o ids who (takeQ who) 140=0→m'.o=setAll m.o ids who∧x'={x with n:=((ofL m'.o who m'.o.length).length:Int)})∧(psE m.o ids who (takeQ who) 140≠0→m'=m∧x'=x):=by
 obtain⟨w0,hw0⟩:∃w0,w0=w.alloc (.cells #[.int .i64 0,.int .i64 0] 104):=⟨_,rfl⟩;have HB0:=aH (show Below w.heap.size w w0 by rw[hw0];exact bL (bR _ _) _);have HT0:=aH (h.then HB0.out);have HR:=aH (show Row w0 w.heap.size [.int .i64 0,.int .i64 0]by rw[hw0];exact Row.new _ _ _ _ rfl);have HG:=aH (aI (h.im.off (nR _)) (h.ix.offL (nR _)));have HL:=aH h.lt;have HTK:=aH (fun V (hb:Below w0.heap.size w0 V)=>(take_o (.slice m.oA m.o.length m.oc) u m.o ids who h.fw V (HT0.out.im.o.then hb) ((hu.then HB0.out).then hb) hl).mono (R':=fun e w'=>∃v,e=.returned (.tuple #[v,.int .i64 (psI m.o ids who (takeQ who)),.int .i64 (psE m.o ids who (takeQ who) 140)])∧KI.Own w' w0.heap.size v (psL m.o ids who (takeQ who) who)∧Below V.heap.size V w') fun e w' ⟨v,h1,h2,h3⟩=>⟨v,h1,h2.mono hb.size,h3⟩);have HZ:=aH (pass_take_z m.o ids who);have HLN:=aH (show(psL m.o ids who (takeQ who) who).length≤1000 by
  unfold psL
  split
  ·split
   ·simp
   ·split
    ·simp
    ·rw[setAll_len];exact hl
  ·simp)
 generalize psE m.o ids who (takeQ who) 140=E at *;generalize psI m.o ids who (takeQ who)=I at *;generalize psL m.o ids who (takeQ who) who=L at *;clear hu h hl;by_cases hE:E=0
 case neg=>
  have hE':(E != 0)=true:=by simpa using hE
  go_enter Tryz.func121,Tryz.ntmps121
  go_upto_region 1 with fail
  rw[←hw0];clear hw0;have g10:=HT0.out.row.g 10 rfl;have g11:=HT0.out.row.g 11 rfl;refine wp_region_held_drew (S:=fun w'=>w'.cell? ⟨D,10,none⟩=some (.slice m.oA m.o.length m.oc)∧w'.cell? ⟨D,11,none⟩=some (.int .i64 who)) (by kernel_rfl) ?_ (fun hHeld=>?_)
  ·exact⟨g10,g11⟩
  have HBr:=aH (show Below w0.heap.size w0 w0.drew from below_drewN (bR _ _) 1);clear g10 g11;generalize w0.drew=wv at *;refine wk [.k 0 11,.k 1 12,.k 2 13,.k 3 14,.k 4 15,.k 5 16,.k 6 17,.k 7 18,.k 8 19,.k 9 20,.k 10 21] (fun _ _ _ _ _ h=>h) hHeld ?_ (by kernel_rfl);repeat (refine .k (v:=?_) rfl (by kernel_rfl) ?_ ?_;rotate_left 1;((intro w hSw;(try dsimp only at hSw);go_simp)<;>(try with_reducible rfl));(try simp only[sp]))
  refine .nil ?_;refine wQ 11 (some 22) rfl (fun K hK=>?_) (by kernel_rfl);go_simp;(with_reducible refine(HTK.out _ HBr.out).mono ?_);rintro e wv ⟨v,rfl,ho,hb⟩;obtain⟨s0,s1⟩:=hHeld;have HBr:=aH (bC HBr.out hb);have HO:=aH ho;replace s0:=kK hb s0;replace s1:=kK hb s1;clear hb ho;go_wp2_with fail;refine hK.out _ _ ⟨s0,s1⟩ (fun hHeld=>?_);clear hK K s0 s1;try simp only[sp]
  refine wk [.k 12 10,.k 13 23,.k 14 24,.k 15 25,.k 16 7,.k 17 8,.k 18 9] (fun _ _ _ _ _ h=>h) hHeld ?_ (by kernel_rfl);repeat (refine .k (v:=?_) rfl (by kernel_rfl) ?_ ?_;rotate_left 1;((intro w hSw;(try dsimp only at hSw);go_simp)<;>(try with_reducible rfl));(try simp only[sp]))
  refine .nil ?_;refine wD (by kernel_rfl) ?_;have HT:=aH (Aft.from (.of HT0.out HBr.out) HB0.out);have HR1:=aH (HR.out.below HBr.out);have k0:=HR1.out.g 0 rfl;have k1:=HR1.out.g 1 rfl;have y0:=HR1.out.z 0 rfl;have y1:=HR1.out.z 1 rfl;clear hHeld;go_wp2;clear k0 k1 y0 y1;have HF:=aH ((HR1.out.set 0 (.int .i64 E)).set 1 (.int .i64 I));have f0:=HF.out.g 0 rfl;have f1:=HF.out.g 1 rfl;refine bP (v:=.agg #[.int .i64 E,.int .i64 I]) ?_ rfl ?_
  ·simp[results,Tryz.results121,go_sem,f0,f1]
  ·exact⟨m,x,rfl,(HT.out.other (nR _) HG.out.1 HG.out.2 HL.out _).other (nR _) HG.out.1 HG.out.2 HL.out _,rfl,fun h=>absurd h hE,fun _=>⟨rfl,rfl⟩⟩
 case pos=>
  subst hE;obtain⟨hI,hLL⟩:=HZ.out rfl;subst hI;have HLL:=aH hLL;clear hLL HZ;go_enter Tryz.func121,Tryz.ntmps121
  go_upto_region 1 with fail
  rw[←hw0];clear hw0;have g10:=HT0.out.row.g 10 rfl;have g11:=HT0.out.row.g 11 rfl;refine wp_region_held_drew (S:=fun w'=>w'.cell? ⟨D,10,none⟩=some (.slice m.oA m.o.length m.oc)∧w'.cell? ⟨D,11,none⟩=some (.int .i64 who)) (by kernel_rfl) ?_ (fun hHeld=>?_)
  ·exact⟨g10,g11⟩
  have HBr:=aH (show Below w0.heap.size w0 w0.drew from below_drewN (bR _ _) 1);clear g10 g11;generalize w0.drew=wv at *;refine wk [.k 0 11,.k 1 12,.k 2 13,.k 3 14,.k 4 15,.k 5 16,.k 6 17,.k 7 18,.k 8 19,.k 9 20,.k 10 21] (fun _ _ _ _ _ h=>h) hHeld ?_ (by kernel_rfl);repeat (refine .k (v:=?_) rfl (by kernel_rfl) ?_ ?_;rotate_left 1;((intro w hSw;(try dsimp only at hSw);go_simp)<;>(try with_reducible rfl));(try simp only[sp]))
  refine .nil ?_;refine wQ 11 (some 22) rfl (fun K hK=>?_) (by kernel_rfl);go_simp;(with_reducible refine(HTK.out _ HBr.out).mono ?_);rintro e wv ⟨v,rfl,ho,hb⟩;obtain⟨s0,s1⟩:=hHeld;have HBr:=aH (bC HBr.out hb);have HO:=aH ho;replace s0:=kK hb s0;replace s1:=kK hb s1;clear hb ho;go_wp2_with fail;refine hK.out _ _ ⟨s0,s1⟩ (fun hHeld=>?_);clear hK K s0 s1;try simp only[sp]
  refine wk [.k 12 10,.k 13 23,.k 14 24,.k 15 25,.k 16 7,.k 17 8,.k 18 9] (fun _ _ _ _ _ h=>h) hHeld ?_ (by kernel_rfl);repeat (refine .k (v:=?_) rfl (by kernel_rfl) ?_ ?_;rotate_left 1;((intro w hSw;(try dsimp only at hSw);go_simp)<;>(try with_reducible rfl));(try simp only[sp]))
  refine .nil ?_;refine wD (by kernel_rfl) ?_;have HT:=aH (HT0.out.then HBr.out);have HR1:=aH (HR.out.below HBr.out);have HIL:=aH (HO.out.isL (by have:=HLN.out;omega));obtain⟨A,c,rfl,-⟩:=HIL.out.shape;have HOF:=aH (show ∀G,G<w0.heap.size→OffL G A L.length from fun G hG=>.inr fun a ha=>by
   have h1:=(HO.out.lt a.block (bk_own (by rw[ha];rfl))).1;omega)
  have HD0:=aH (nL HL.out HB0.out.size);have g10:=HT.out.row.g 10 rfl;have z10:=HT.out.row.z 10 rfl;clear hHeld
  go_upto_region 5 with fail
  have HT2:=aH (HT.out.setO HIL.out (HOF.out D HD0.out));have HB2:=aH (show But D w0 (wv.setCell ⟨D,10,none⟩ (.slice A L.length c))from(But.of HBr.out).st _);have HR2:=aH (HR1.out.off (D:=D) (o:=10) (Nat.ne_of_lt HL.out) (.slice A L.length c));clear g10 z10 HT HR1 HIL HBr;generalize wv.setCell ⟨D,10,none⟩ (.slice A L.length c)=w2 at *;go_wp2_with fail;refine(owned_t _ who r x D w2 HT2.out HLN.out).mono ?_;rintro e w3 ⟨v3,rfl,ho3,hb3⟩;have HT3:=aH (HT2.out.then hb3);have HB3:=aH (HB2.out.call hb3);have HR3:=aH (HR2.out.below hb3);have hl3:(ofL L who L.length).length≤1000:=Nat.le_trans (ofL_len L who L.length) HLN.out;obtain⟨A3,c3,rfl,-⟩:=(ho3.isL (by dsimp only;omega)).shape;have g20:=HT3.out.row.g 20 rfl;have z20:=HT3.out.row.z 20 rfl;clear HT2 HB2 HR2 ho3 hb3;dsimp only at *;generalize hN:(ofL L who L.length).length=N at *;have HN:=aH hN;clear hN
  go_upto_region 6 with fail
  have HT4:=aH (HT3.out.setN N);have HB4:=aH (show But D w0 (w3.setCell ⟨D,20,none⟩ (.int .i64 N))from HB3.out.st _);have HR4:=aH (HR3.out.off (D:=D) (o:=20) (Nat.ne_of_lt HL.out) (.int .i64 N));clear g20 z20 HT3 HR3 HB3;generalize w3.setCell ⟨D,20,none⟩ (.int .i64 N)=w4 at *;have k0:=HR4.out.g 0 rfl;have k1:=HR4.out.g 1 rfl;have y0:=HR4.out.z 0 rfl;have y1:=HR4.out.z 1 rfl;go_wp2;have HF:=aH ((HR4.out.set 0 (.int .i64 0)).set 1 (.int .i64 0));have f0:=HF.out.g 0 rfl;have f1:=HF.out.g 1 rfl;clear k0 k1 y0 y1;refine bP (v:=.agg #[.int .i64 0,.int .i64 0]) ?_ rfl ?_
  ·simp[results,Tryz.results121,go_sem,f0,f1]
  ·have HA:Aft w w4 D m {m with oA:=A,oc:=c,o:=L} who r x {x with n:=(N:Int)}:=⟨HT4.out,(But.of HB0.out).trans HB4.out,fun G hG hm hx=>⟨⟨hm.1,hm.2.1,HOF.out G (nL hG HB0.out.size)⟩,hx⟩,rfl⟩;have hGo:OffL w.heap.size A L.length:=HOF.out _ HR.out.1;refine⟨{m with oA:=A,oc:=c,o:=L},{x with n:=(N:Int)},rfl,(HA.other (nR _) ⟨HG.out.1.1,HG.out.1.2.1,hGo⟩ HG.out.2 HL.out _).other (nR _) ⟨HG.out.1.1,HG.out.1.2.1,hGo⟩ HG.out.2 HL.out _,rfl,fun _=>⟨HLL.out,?_⟩,fun h=>absurd rfl h⟩;rw[show((ofL L who L.length).length:Int)=N by rw[HN.out]]
theorem pass_give_z (o ids:List Int) (who:Int) (h:psE o ids who (giveQ who) 141=0):psI o ids who (giveQ who)=0∧psL o ids who (giveQ who) 0=setAll o ids 0:=by
 unfold psE at h;unfold psI psL
 split at h
 ·rename_i h1
  rw[if_pos h1,if_pos h1]
  split at h
  ·cases h
  ·rename_i h2
   rw[if_neg h2,if_neg h2]
   split at h
   ·cases h
   ·rename_i h3
    rw[if_neg h3];refine⟨?_,rfl⟩;rw[←fstN_snd]at h3;have e:fstN (fun x=>!giveQ who (o.getD x.toNat 0)) ids=((fstN (fun x=>!giveQ who (o.getD x.toNat 0)) ids).1,false):=by
     rw[←Bool.eq_false_iff.2 h3]
    exact fstN_miss e
 ·cases h
theorem pass_give (m:Md) (who:Int) (r:Rq) (x:Rs) (D:Nat) (w:World) (h:Tu w D m who r x) (u:Value) (ids:List Int) (hu:KI.IsL w w.heap.size u ids) (hl:m.o.length≤1000):Calls Tryz.prog 121 #[.pointer (some ⟨D,0,none⟩),.func (.func 122) #[] #[],u] w fun e w'=>∃m' x',e=.returned (.agg #[.int .i64 (psE m.o ids who (giveQ who) 141),.int .i64 (psI m.o ids who (giveQ who))])∧Aft w w' D m m' who r x x'∧m'.s=m.s∧(psE m.o ids who (giveQ who) 141=0→m'.o=setAll m.o ids 0∧x'={x with n:=((ofL m'.o who m'.o.length).length:Int)})∧(psE m.o ids who (giveQ who) 141≠0→m'=m∧x'=x):=by
 obtain⟨w0,hw0⟩:∃w0,w0=w.alloc (.cells #[.int .i64 0,.int .i64 0] 104):=⟨_,rfl⟩;have HB0:=aH (show Below w.heap.size w w0 by rw[hw0];exact bL (bR _ _) _);have HT0:=aH (h.then HB0.out);have HR:=aH (show Row w0 w.heap.size [.int .i64 0,.int .i64 0]by rw[hw0];exact Row.new _ _ _ _ rfl);have HG:=aH (aI (h.im.off (nR _)) (h.ix.offL (nR _)));have HL:=aH h.lt;have HTK:=aH (fun V (hb:Below w0.heap.size w0 V)=>(give_o (.slice m.oA m.o.length m.oc) u m.o ids who V (HT0.out.im.o.then hb) ((hu.then HB0.out).then hb) hl).mono (R':=fun e w'=>∃v,e=.returned (.tuple #[v,.int .i64 (psI m.o ids who (giveQ who)),.int .i64 (psE m.o ids who (giveQ who) 141)])∧KI.Own w' w0.heap.size v (psL m.o ids who (giveQ who) 0)∧Below V.heap.size V w') fun e w' ⟨v,h1,h2,h3⟩=>⟨v,h1,h2.mono hb.size,h3⟩);have HZ:=aH (pass_give_z m.o ids who);have HLN:=aH (show(psL m.o ids who (giveQ who) 0).length≤1000 by
  unfold psL
  split
  ·split
   ·simp
   ·split
    ·simp
    ·rw[setAll_len];exact hl
  ·simp)
 generalize psE m.o ids who (giveQ who) 141=E at *;generalize psI m.o ids who (giveQ who)=I at *;generalize psL m.o ids who (giveQ who) 0=L at *;clear hu h hl;by_cases hE:E=0
 case neg=>
  have hE':(E != 0)=true:=by simpa using hE
  go_enter Tryz.func121,Tryz.ntmps121
  go_upto_region 1 with fail
  rw[←hw0];clear hw0;have g10:=HT0.out.row.g 10 rfl;have g11:=HT0.out.row.g 11 rfl;refine wp_region_held_drew (S:=fun w'=>w'.cell? ⟨D,10,none⟩=some (.slice m.oA m.o.length m.oc)∧w'.cell? ⟨D,11,none⟩=some (.int .i64 who)) (by kernel_rfl) ?_ (fun hHeld=>?_)
  ·exact⟨g10,g11⟩
  have HBr:=aH (show Below w0.heap.size w0 w0.drew from below_drewN (bR _ _) 1);clear g10 g11;generalize w0.drew=wv at *;refine wk [.k 0 11,.k 1 12,.k 2 13,.k 3 14,.k 4 15,.k 5 16,.k 6 17,.k 7 18,.k 8 19,.k 9 20,.k 10 21] (fun _ _ _ _ _ h=>h) hHeld ?_ (by kernel_rfl);repeat (refine .k (v:=?_) rfl (by kernel_rfl) ?_ ?_;rotate_left 1;((intro w hSw;(try dsimp only at hSw);go_simp)<;>(try with_reducible rfl));(try simp only[sp]))
  refine .nil ?_;refine wQ 11 (some 22) rfl (fun K hK=>?_) (by kernel_rfl);go_simp;(with_reducible refine(HTK.out _ HBr.out).mono ?_);rintro e wv ⟨v,rfl,ho,hb⟩;obtain⟨s0,s1⟩:=hHeld;have HBr:=aH (bC HBr.out hb);have HO:=aH ho;replace s0:=kK hb s0;replace s1:=kK hb s1;clear hb ho;go_wp2_with fail;refine hK.out _ _ ⟨s0,s1⟩ (fun hHeld=>?_);clear hK K s0 s1;try simp only[sp]
  refine wk [.k 12 10,.k 13 23,.k 14 24,.k 15 25,.k 16 7,.k 17 8,.k 18 9] (fun _ _ _ _ _ h=>h) hHeld ?_ (by kernel_rfl);repeat (refine .k (v:=?_) rfl (by kernel_rfl) ?_ ?_;rotate_left 1;((intro w hSw;(try dsimp only at hSw);go_simp)<;>(try with_reducible rfl));(try simp only[sp]))
  refine .nil ?_;refine wD (by kernel_rfl) ?_;have HT:=aH (Aft.from (.of HT0.out HBr.out) HB0.out);have HR1:=aH (HR.out.below HBr.out);have k0:=HR1.out.g 0 rfl;have k1:=HR1.out.g 1 rfl;have y0:=HR1.out.z 0 rfl;have y1:=HR1.out.z 1 rfl;clear hHeld;go_wp2;clear k0 k1 y0 y1;have HF:=aH ((HR1.out.set 0 (.int .i64 E)).set 1 (.int .i64 I));have f0:=HF.out.g 0 rfl;have f1:=HF.out.g 1 rfl;refine bP (v:=.agg #[.int .i64 E,.int .i64 I]) ?_ rfl ?_
  ·simp[results,Tryz.results121,go_sem,f0,f1]
  ·exact⟨m,x,rfl,(HT.out.other (nR _) HG.out.1 HG.out.2 HL.out _).other (nR _) HG.out.1 HG.out.2 HL.out _,rfl,fun h=>absurd h hE,fun _=>⟨rfl,rfl⟩⟩
 case pos=>
  subst hE;obtain⟨hI,hLL⟩:=HZ.out rfl;subst hI;have HLL:=aH hLL;clear hLL HZ;go_enter Tryz.func121,Tryz.ntmps121
  go_upto_region 1 with fail
  rw[←hw0];clear hw0;have g10:=HT0.out.row.g 10 rfl;have g11:=HT0.out.row.g 11 rfl;refine wp_region_held_drew (S:=fun w'=>w'.cell? ⟨D,10,none⟩=some (.slice m.oA m.o.length m.oc)∧w'.cell? ⟨D,11,none⟩=some (.int .i64 who)) (by kernel_rfl) ?_ (fun hHeld=>?_)
  ·exact⟨g10,g11⟩
  have HBr:=aH (show Below w0.heap.size w0 w0.drew from below_drewN (bR _ _) 1);clear g10 g11;generalize w0.drew=wv at *;refine wk [.k 0 11,.k 1 12,.k 2 13,.k 3 14,.k 4 15,.k 5 16,.k 6 17,.k 7 18,.k 8 19,.k 9 20,.k 10 21] (fun _ _ _ _ _ h=>h) hHeld ?_ (by kernel_rfl);repeat (refine .k (v:=?_) rfl (by kernel_rfl) ?_ ?_;rotate_left 1;((intro w hSw;(try dsimp only at hSw);go_simp)<;>(try with_reducible rfl));(try simp only[sp]))
  refine .nil ?_;refine wQ 11 (some 22) rfl (fun K hK=>?_) (by kernel_rfl);go_simp;(with_reducible refine(HTK.out _ HBr.out).mono ?_);rintro e wv ⟨v,rfl,ho,hb⟩;obtain⟨s0,s1⟩:=hHeld;have HBr:=aH (bC HBr.out hb);have HO:=aH ho;replace s0:=kK hb s0;replace s1:=kK hb s1;clear hb ho;go_wp2_with fail;refine hK.out _ _ ⟨s0,s1⟩ (fun hHeld=>?_);clear hK K s0 s1;try simp only[sp]
  refine wk [.k 12 10,.k 13 23,.k 14 24,.k 15 25,.k 16 7,.k 17 8,.k 18 9] (fun _ _ _ _ _ h=>h) hHeld ?_ (by kernel_rfl);repeat (refine .k (v:=?_) rfl (by kernel_rfl) ?_ ?_;rotate_left 1;((intro w hSw;(try dsimp only at hSw);go_simp)<;>(try with_reducible rfl));(try simp only[sp]))
  refine .nil ?_;refine wD (by kernel_rfl) ?_;have HT:=aH (HT0.out.then HBr.out);have HR1:=aH (HR.out.below HBr.out);have HIL:=aH (HO.out.isL (by have:=HLN.out;omega));obtain⟨A,c,rfl,-⟩:=HIL.out.shape;have HOF:=aH (show ∀G,G<w0.heap.size→OffL G A L.length from fun G hG=>.inr fun a ha=>by
   have h1:=(HO.out.lt a.block (bk_own (by rw[ha];rfl))).1;omega)
  have HD0:=aH (nL HL.out HB0.out.size);have g10:=HT.out.row.g 10 rfl;have z10:=HT.out.row.z 10 rfl;clear hHeld
  go_upto_region 5 with fail
  have HT2:=aH (HT.out.setO HIL.out (HOF.out D HD0.out));have HB2:=aH (show But D w0 (wv.setCell ⟨D,10,none⟩ (.slice A L.length c))from(But.of HBr.out).st _);have HR2:=aH (HR1.out.off (D:=D) (o:=10) (Nat.ne_of_lt HL.out) (.slice A L.length c));clear g10 z10 HT HR1 HIL HBr;generalize wv.setCell ⟨D,10,none⟩ (.slice A L.length c)=w2 at *;go_wp2_with fail;refine(owned_t _ who r x D w2 HT2.out HLN.out).mono ?_;rintro e w3 ⟨v3,rfl,ho3,hb3⟩;have HT3:=aH (HT2.out.then hb3);have HB3:=aH (HB2.out.call hb3);have HR3:=aH (HR2.out.below hb3);have hl3:(ofL L who L.length).length≤1000:=Nat.le_trans (ofL_len L who L.length) HLN.out;obtain⟨A3,c3,rfl,-⟩:=(ho3.isL (by dsimp only;omega)).shape;have g20:=HT3.out.row.g 20 rfl;have z20:=HT3.out.row.z 20 rfl;clear HT2 HB2 HR2 ho3 hb3;dsimp only at *;generalize hN:(ofL L who L.length).length=N at *;have HN:=aH hN;clear hN
  go_upto_region 6 with fail
  have HT4:=aH (HT3.out.setN N);have HB4:=aH (show But D w0 (w3.setCell ⟨D,20,none⟩ (.int .i64 N))from HB3.out.st _);have HR4:=aH (HR3.out.off (D:=D) (o:=20) (Nat.ne_of_lt HL.out) (.int .i64 N));clear g20 z20 HT3 HR3 HB3;generalize w3.setCell ⟨D,20,none⟩ (.int .i64 N)=w4 at *;have k0:=HR4.out.g 0 rfl;have k1:=HR4.out.g 1 rfl;have y0:=HR4.out.z 0 rfl;have y1:=HR4.out.z 1 rfl;go_wp2;have HF:=aH ((HR4.out.set 0 (.int .i64 0)).set 1 (.int .i64 0));have f0:=HF.out.g 0 rfl;have f1:=HF.out.g 1 rfl;clear k0 k1 y0 y1;refine bP (v:=.agg #[.int .i64 0,.int .i64 0]) ?_ rfl ?_
  ·simp[results,Tryz.results121,go_sem,f0,f1]
  ·have HA:Aft w w4 D m {m with oA:=A,oc:=c,o:=L} who r x {x with n:=(N:Int)}:=⟨HT4.out,(But.of HB0.out).trans HB4.out,fun G hG hm hx=>⟨⟨hm.1,hm.2.1,HOF.out G (nL hG HB0.out.size)⟩,hx⟩,rfl⟩;have hGo:OffL w.heap.size A L.length:=HOF.out _ HR.out.1;refine⟨{m with oA:=A,oc:=c,o:=L},{x with n:=(N:Int)},rfl,(HA.other (nR _) ⟨HG.out.1.1,HG.out.1.2.1,hGo⟩ HG.out.2 HL.out _).other (nR _) ⟨HG.out.1.1,HG.out.1.2.1,hGo⟩ HG.out.2 HL.out _,rfl,fun _=>⟨HLL.out,?_⟩,fun h=>absurd rfl h⟩;rw[show((ofL L who L.length).length:Int)=N by rw[HN.out]]
theorem inc_ofL (o:List Int) (who:Int) (k:Nat):Two.Inc (ofL o who k):=by
 unfold ofL Two.Inc;rw[List.pairwise_map];exact(List.pairwise_lt_range.filter _).imp fun h=>by simpa using h
def rvN (o ids:List Int) (who:Int):Nat:=(Two.mk (ofL o who o.length++Two.mk ids)).length
def rvE (o ids:List Int) (who:Int):Int:=if 40<rvN o ids who then 160 else psE o (Two.mk ids) who (takeQ who) 140
def rvI (o ids:List Int) (who:Int):Int:=if 40<rvN o ids who then 0 else psI o (Two.mk ids) who (takeQ who)
theorem reserve_t (m:Md) (who:Int) (r:Rq) (x:Rs) (D:Nat) (w:World) (h:Tu w D m who r x) (hl:m.o.length≤900) (hr:r.il.length≤16):Calls Tryz.prog 120 #[.pointer (some ⟨D,0,none⟩)] w fun e w'=>∃m' x',e=.returned (.agg #[.int .i64 (rvE m.o r.il who),.int .i64 (rvI m.o r.il who)])∧Aft w w' D m m' who r x x'∧m'.s=m.s∧(rvE m.o r.il who=0→m'.o=setAll m.o (Two.mk r.il) who∧x'={x with n:=((ofL m'.o who m'.o.length).length:Int)})∧(rvE m.o r.il who≠0→m'=m∧x'=x):=by
 obtain⟨w0,hw0⟩:∃w0,w0=w.alloc (.cells #[.int .i64 0,.int .i64 0] 104):=⟨_,rfl⟩;have HB0:=aH (show Below w.heap.size w w0 by rw[hw0];exact bL (bR _ _) _);have HT0:=aH (h.then HB0.out);have HR:=aH (show Row w0 w.heap.size [.int .i64 0,.int .i64 0]by rw[hw0];exact Row.new _ _ _ _ rfl);have HG:=aH (aI (h.im.off (nR _)) (h.ix.offL (nR _)));have HL:=aH h.lt;have HFR:=aH (fun V (hb:Below w0.heap.size w0 V)=>(Two.from_any (.slice r.iA r.il.length r.ic) r.il V (two_of ((HT0.out.ir.l.more (Nat.le_of_lt HT0.out.lt)).then hb)) (by omega)).mono (R':=fun e w'=>∃v,e=.returned v∧KI.IsL w' w'.heap.size v (Two.mk r.il)∧Below V.heap.size V w') fun e w' ⟨v,h1,h2,h3⟩=>⟨v,h1,of_two h2,h3⟩);have hml:(Two.mk r.il).length≤16:=Nat.le_trans (Two.mk_len_le _) hr;have HEI:=aH (fun V u v (hu:KI.IsL V V.heap.size u (ofL m.o who m.o.length)) (hv:KI.IsL V V.heap.size v (Two.mk r.il))=>Two.either_any u v _ _ V (two_of hu) (two_of hv) (by have:=ofL_len m.o who m.o.length;omega) (inc_ofL _ _ _) (Two.inc_mk _));have HE:=aH (show rvE m.o r.il who=if 40<rvN m.o r.il who then 160 else psE m.o (Two.mk r.il) who (takeQ who) 140 from rfl);have HI:=aH (show rvI m.o r.il who=if 40<rvN m.o r.il who then 0 else psI m.o (Two.mk r.il) who (takeQ who)from rfl);have HN:=aH (show(Two.mk (ofL m.o who m.o.length++Two.mk r.il)).length=rvN m.o r.il who from rfl);have HNL:=aH (show rvN m.o r.il who≤1000 from Nat.le_trans (Two.mk_len_le _) (by rw[List.length_append];have:=ofL_len m.o who m.o.length;omega));have HOW:=aH (fun V (hb:Below w0.heap.size w0 V)=>owned_t m who r x D V (HT0.out.then hb) (by omega));have HOL:=aH (show(ofL m.o who m.o.length).length≤1000 from Nat.le_trans (ofL_len _ _ _) (by omega))
 have HPT:=aH (fun V (hb:Below w0.heap.size w0 V) u (hu:KI.IsL V V.heap.size u (Two.mk r.il))=>pass_take m who r x D V (HT0.out.then hb) u _ hu (by omega));generalize rvE m.o r.il who=E at *;generalize rvI m.o r.il who=I at *;generalize rvN m.o r.il who=N at *;generalize psE m.o (Two.mk r.il) who (takeQ who) 140=E1 at *;generalize psI m.o (Two.mk r.il) who (takeQ who)=I1 at *;generalize Two.mk r.il=ids at *;have g13:=HT0.out.row.g 13 rfl;rw[hw0]at g13;clear h hl hr hml;go_enter Tryz.func120,Tryz.ntmps120;go_wp2_with fail;rw[←hw0];clear hw0 g13;refine(HFR.out w0 (bR _ _)).mono ?_;rintro e w1 ⟨u,rfl,hu,hb⟩;have HU:=aH hu;have HB1:=aH hb;clear hu hb;go_wp2_with fail;refine(HOW.out w1 HB1.out).mono ?_;rintro e w2 ⟨v,rfl,ho,hb⟩;have HO:=aH (ho.isL (by have:=HOL.out;omega));have HU2:=aH (HU.out.then hb);have HB2:=aH (bC HB1.out hb);clear ho hb HU HB1;go_wp2_with fail;refine(HEI.out w2 v u HO.out HU2.out).mono ?_;rintro e w3 ⟨z,rfl,hz,hb⟩;obtain⟨zA,zc,rfl,-⟩:=(of_two hz).shape;have HU3:=aH (HU2.out.then hb);have HB3:=aH (bC HB2.out hb);clear hz hb HO HU2 HB2;rw[HN.out];have hnl:=HNL.out;by_cases hE:40<N
 ·have hE1:=HE.out;have hI1:=HI.out;rw[if_pos hE]at hE1 hI1;subst hE1 hI1;have HR3:=aH (HR.out.below HB3.out);have HA:=aH (Aft.from (.of HT0.out HB3.out) HB0.out);have k0:=HR3.out.g 0 rfl;have k1:=HR3.out.g 1 rfl;have y0:=HR3.out.z 0 rfl;have y1:=HR3.out.z 1 rfl;go_wp2;have HF:=aH ((HR3.out.set 0 (.int .i64 160)).set 1 (.int .i64 0));have f0:=HF.out.g 0 rfl;have f1:=HF.out.g 1 rfl;clear k0 k1 y0 y1;refine bP (v:=.agg #[.int .i64 160,.int .i64 0]) ?_ rfl ?_
  ·simp[results,Tryz.results120,go_sem,f0,f1]
  ·exact⟨m,x,rfl,(HA.out.other (nR _) HG.out.1 HG.out.2 HL.out _).other (nR _) HG.out.1 HG.out.2 HL.out _,rfl,fun h=>(by cases h),fun _=>⟨rfl,rfl⟩⟩
 ·have hE1:=HE.out;have hI1:=HI.out;rw[if_neg hE]at hE1 hI1;subst hE1 hI1;go_wp2_with fail;refine(HPT.out w3 HB3.out u HU3.out).mono ?_;rintro e w4 ⟨m',x',rfl,ha,hs,h0,h1⟩;have HA:=aH ha;have HR4:=aH (ha.but.row (HR.out.below HB3.out) (Nat.ne_of_gt HL.out));have HK:=aH (ha.keep w.heap.size (nL HR.out.1 HB3.out.size) HG.out.1 HG.out.2);have HP:=aH (aI hs (aI h0 h1));clear ha hs h0 h1;have k0:=HR4.out.g 0 rfl;have k1:=HR4.out.g 1 rfl;have y0:=HR4.out.z 0 rfl;have y1:=HR4.out.z 1 rfl;go_wp2;have HF:=aH ((HR4.out.set 0 (.int .i64 E)).set 1 (.int .i64 I));have f0:=HF.out.g 0 rfl;have f1:=HF.out.g 1 rfl;clear k0 k1 y0 y1;refine bP (v:=.agg #[.int .i64 E,.int .i64 I]) ?_ rfl ?_
  ·simp[results,Tryz.results120,go_sem,f0,f1]
  ·exact⟨m',x',rfl,((HA.out.from (HB0.out.trans (HB3.out.mono HB0.out.size))).other (nR _) HK.out.1 HK.out.2 HL.out _).other (nR _) HK.out.1 HK.out.2 HL.out _,HP.out.1,HP.out.2.1,HP.out.2.2⟩
theorem free_t (m:Md) (who:Int) (r:Rq) (x:Rs) (D:Nat) (w:World) (h:Tu w D m who r x) (hl:m.o.length≤900):Calls Tryz.prog 123 #[.pointer (some ⟨D,0,none⟩)] w fun e w'=>∃m' x',e=.returned (.agg #[.int .i64 (psE m.o (ofL m.o who m.o.length) who (giveQ who) 141),.int .i64 (psI m.o (ofL m.o who m.o.length) who (giveQ who))])∧Aft w w' D m m' who r x x'∧m'.s=m.s∧(psE m.o (ofL m.o who m.o.length) who (giveQ who) 141=0→m'.o=setAll m.o (ofL m.o who m.o.length) 0∧x'={x with n:=((ofL m.o who m.o.length).length:Int)})∧(psE m.o (ofL m.o who m.o.length) who (giveQ who) 141≠0→m'=m):=by
 obtain⟨w0,hw0⟩:∃w0,w0=w.alloc (.cells #[.int .i64 0,.int .i64 0] 104):=⟨_,rfl⟩;have HB0:=aH (show Below w.heap.size w w0 by rw[hw0];exact bL (bR _ _) _);have HT0:=aH (h.then HB0.out);have HR:=aH (show Row w0 w.heap.size [.int .i64 0,.int .i64 0]by rw[hw0];exact Row.new _ _ _ _ rfl);have HG:=aH (aI (h.im.off (nR _)) (h.ix.offL (nR _)));have HL:=aH h.lt;have HOW:=aH (fun V (hb:Below w0.heap.size w0 V)=>owned_t m who r x D V (HT0.out.then hb) (by omega));have HOL:=aH (show(ofL m.o who m.o.length).length≤1000 from Nat.le_trans (ofL_len _ _ _) (by omega));have HPT:=aH (fun V (hb:Below w0.heap.size w0 V) u (hu:KI.IsL V V.heap.size u (ofL m.o who m.o.length))=>pass_give m who r x D V (HT0.out.then hb) u _ hu (by omega));generalize psE m.o (ofL m.o who m.o.length) who (giveQ who) 141=E at *;generalize psI m.o (ofL m.o who m.o.length) who (giveQ who)=I at *;generalize ofL m.o who m.o.length=ids at *;clear h hl;go_enter Tryz.func123,Tryz.ntmps123;go_wp2_with fail;rw[←hw0];clear hw0;refine(HOW.out w0 (bR _ _)).mono ?_;rintro e w1 ⟨v,rfl,ho,hb⟩;have HO:=aH (ho.isL (by have:=HOL.out;omega));have HB1:=aH hb;obtain⟨A,c,rfl,-⟩:=HO.out.shape;clear ho hb;go_wp2_with fail;refine(HPT.out w1 HB1.out _ HO.out).mono ?_;rintro e w2 ⟨m',x',rfl,ha,hs,h0,h1⟩;have HA:=aH ha;have HR2:=aH (ha.but.row (HR.out.below HB1.out) (Nat.ne_of_gt HL.out));have HK:=aH (ha.keep w.heap.size (nL HR.out.1 HB1.out.size) HG.out.1 HG.out.2);have HP:=aH (aI hs (aI h0 h1));clear ha hs h0 h1
 go_upto_region 3 with fail
 have HA1:=aH (HA.out.from (HB0.out.trans (HB1.out.mono HB0.out.size)));have HD2:=aH HA.out.tu.lt;have HT4:=aH (show Tu (w2.alloc (.cells #[.int .i64 E,.int .i64 I] 104)) D m' who r x' from HA.out.tu.then (bL (bR _ _) _));have HB4:=aH (show But D w (w2.alloc (.cells #[.int .i64 E,.int .i64 I] 104))from HA1.out.but.call (bL (bR _ _) _));have HR4:=aH (show Row (w2.alloc (.cells #[.int .i64 E,.int .i64 I] 104)) w.heap.size [.int .i64 0,.int .i64 0]from HR2.out.below (bL (bR _ _) _));have HX:=aH (show Row (w2.alloc (.cells #[.int .i64 E,.int .i64 I] 104)) w2.heap.size [.int .i64 E,.int .i64 I]from Row.new w2 _ _ _ rfl);have hl9:ids.length≤1000:=HOL.out;clear HR2 HR HOW HPT HO;generalize w2.alloc (.cells #[.int .i64 E,.int .i64 I] 104)=w4 at *;generalize w2.heap.size=ga at *;have g20:=HT4.out.row.g 20 rfl;have z20:=HT4.out.row.z 20 rfl
 go_upto_region 4 with fail
 have HT5:=aH (HT4.out.setN ids.length);have HB5:=aH (show But D w (w4.setCell ⟨D,20,none⟩ (.int .i64 ids.length))from HB4.out.st _);have HR5:=aH (HR4.out.off (D:=D) (o:=20) (Nat.ne_of_lt HL.out) (.int .i64 ids.length));have HX5:=aH (HX.out.off (D:=D) (o:=20) (Nat.ne_of_lt HD2.out) (.int .i64 ids.length));clear g20 z20 HT4 HR4 HB4 HX;generalize w4.setCell ⟨D,20,none⟩ (.int .i64 ids.length)=w5 at *;have x0:=HX5.out.g 0 rfl;have x1:=HX5.out.g 1 rfl;have k0:=HR5.out.g 0 rfl;have k1:=HR5.out.g 1 rfl;have y0:=HR5.out.z 0 rfl;have y1:=HR5.out.z 1 rfl;go_wp2;have HF:=aH ((HR5.out.set 0 (.int .i64 E)).set 1 (.int .i64 I));have f0:=HF.out.g 0 rfl;have f1:=HF.out.g 1 rfl;clear k0 k1 y0 y1;refine bP (v:=.agg #[.int .i64 E,.int .i64 I]) ?_ rfl ?_
 ·simp[results,Tryz.results123,go_sem,f0,f1]
 ·have HA5:Aft w w5 D m m' who r x {x' with n:=(ids.length:Int)}:=⟨HT5.out,HB5.out,fun G hG hm hx=>HA1.out.keep G hG hm hx,HA.out.dd⟩;exact⟨m',{x' with n:=(ids.length:Int)},rfl,(HA5.other (nR _) HK.out.1 HK.out.2 HL.out _).other (nR _) HK.out.1 HK.out.2 HL.out _,HP.out.1,fun h=>⟨(HP.out.2.1 h).1,by rw[(HP.out.2.1 h).2]⟩,fun h=>(HP.out.2.2 h).1⟩
theorem do_1 (m:Md) (who:Int) (r:Rq) (x:Rs) (D:Nat) (w:World) (h:Tu w D m who r x) (hk:r.k=1) (hl:m.o.length≤900) (hr:r.il.length≤16):Calls Tryz.prog 66 #[.pointer (some ⟨D,0,none⟩)] w fun e w'=>∃m' x',e=.returned (.agg #[.int .i64 (rvE m.o r.il who),.int .i64 (rvI m.o r.il who)])∧Aft w w' D m m' who r x x'∧m'.s=m.s∧(rvE m.o r.il who=0→m'.o=setAll m.o (Two.mk r.il) who∧x'={x with n:=((ofL m'.o who m'.o.length).length:Int)})∧(rvE m.o r.il who≠0→m'=m∧x'=x):=by
 obtain⟨w0,hw0⟩:∃w0,w0=w.alloc (.cells #[.int .i64 0,.int .i64 0] 104):=⟨_,rfl⟩;have HB0:=aH (show Below w.heap.size w w0 by rw[hw0];exact bL (bR _ _) _);have HT0:=aH (h.then HB0.out);have HR:=aH (show Row w0 w.heap.size [.int .i64 0,.int .i64 0]by rw[hw0];exact Row.new _ _ _ _ rfl);have HG:=aH (aI (h.im.off (nR _)) (h.ix.offL (nR _)));have HL:=aH h.lt;have HC:=aH (fun V (hb:Below w0.heap.size w0 V)=>reserve_t m who r x D V (HT0.out.then hb) hl hr);generalize rvE m.o r.il who=E at *;generalize rvI m.o r.il who=I at *;have g12:=HT0.out.row.g 12 rfl;rw[hw0,hk]at g12;clear h;go_enter Tryz.func66,Tryz.ntmps66;go_wp2_with fail;rw[←hw0];clear hw0 g12;refine(HC.out w0 (bR _ _)).mono ?_;rintro e w2 ⟨m',x',rfl,ha,hp⟩;have HA:=aH ha;have HR2:=aH (ha.but.row HR.out (Nat.ne_of_gt HL.out));have HK:=aH (ha.keep w.heap.size HR.out.1 HG.out.1 HG.out.2);have HP:=aH hp;clear ha hp;have k0:=HR2.out.g 0 rfl;have k1:=HR2.out.g 1 rfl;have y0:=HR2.out.z 0 rfl;have y1:=HR2.out.z 1 rfl;go_wp2;have HF:=aH ((HR2.out.set 0 (.int .i64 E)).set 1 (.int .i64 I));have f0:=HF.out.g 0 rfl;have f1:=HF.out.g 1 rfl;clear k0 k1 y0 y1;refine bP (v:=.agg #[.int .i64 E,.int .i64 I]) ?_ rfl ?_
 ·simp[results,Tryz.results66,go_sem,f0,f1]
 ·exact⟨m',x',rfl,((HA.out.from HB0.out).other (nR _) HK.out.1 HK.out.2 HL.out _).other (nR _) HK.out.1 HK.out.2 HL.out _,HP.out⟩
theorem do_3 (m:Md) (who:Int) (r:Rq) (x:Rs) (D:Nat) (w:World) (h:Tu w D m who r x) (hk:r.k=3) (hl:m.o.length≤900):Calls Tryz.prog 66 #[.pointer (some ⟨D,0,none⟩)] w fun e w'=>∃m' x',e=.returned (.agg #[.int .i64 (psE m.o (ofL m.o who m.o.length) who (giveQ who) 141),.int .i64 (psI m.o (ofL m.o who m.o.length) who (giveQ who))])∧Aft w w' D m m' who r x x'∧m'.s=m.s∧(psE m.o (ofL m.o who m.o.length) who (giveQ who) 141=0→m'.o=setAll m.o (ofL m.o who m.o.length) 0∧x'={x with n:=((ofL m.o who m.o.length).length:Int)})∧(psE m.o (ofL m.o who m.o.length) who (giveQ who) 141≠0→m'=m):=by
 obtain⟨w0,hw0⟩:∃w0,w0=w.alloc (.cells #[.int .i64 0,.int .i64 0] 104):=⟨_,rfl⟩;have HB0:=aH (show Below w.heap.size w w0 by rw[hw0];exact bL (bR _ _) _);have HT0:=aH (h.then HB0.out);have HR:=aH (show Row w0 w.heap.size [.int .i64 0,.int .i64 0]by rw[hw0];exact Row.new _ _ _ _ rfl);have HG:=aH (aI (h.im.off (nR _)) (h.ix.offL (nR _)));have HL:=aH h.lt;have HC:=aH (fun V (hb:Below w0.heap.size w0 V)=>free_t m who r x D V (HT0.out.then hb) hl);generalize psE m.o (ofL m.o who m.o.length) who (giveQ who) 141=E at *;generalize psI m.o (ofL m.o who m.o.length) who (giveQ who)=I at *;have g12:=HT0.out.row.g 12 rfl;rw[hw0,hk]at g12;clear h;go_enter Tryz.func66,Tryz.ntmps66;go_wp2_with fail;rw[←hw0];clear hw0 g12;refine(HC.out w0 (bR _ _)).mono ?_;rintro e w2 ⟨m',x',rfl,ha,hp⟩;have HA:=aH ha;have HR2:=aH (ha.but.row HR.out (Nat.ne_of_gt HL.out));have HK:=aH (ha.keep w.heap.size HR.out.1 HG.out.1 HG.out.2);have HP:=aH hp;clear ha hp;have k0:=HR2.out.g 0 rfl;have k1:=HR2.out.g 1 rfl;have y0:=HR2.out.z 0 rfl;have y1:=HR2.out.z 1 rfl;go_wp2;have HF:=aH ((HR2.out.set 0 (.int .i64 E)).set 1 (.int .i64 I));have f0:=HF.out.g 0 rfl;have f1:=HF.out.g 1 rfl;clear k0 k1 y0 y1;refine bP (v:=.agg #[.int .i64 E,.int .i64 I]) ?_ rfl ?_
 ·simp[results,Tryz.results66,go_sem,f0,f1]
 ·exact⟨m',x',rfl,((HA.out.from HB0.out).other (nR _) HK.out.1 HK.out.2 HL.out _).other (nR _) HK.out.1 HK.out.2 HL.out _,HP.out⟩
end Go.Proofs.YtmecohdedghiaaaGreatDoor
