/- Stocks: Take, Drop. -/
import Derived.Test.YtacjonncakhhmaaGreatPy00
import Derived.Test.YtacjonncakhhmaaGreatPy32
set_option maxRecDepth 100000
set_option maxHeartbeats 8000000
namespace Go.Proofs.YtacjonncakhhmaaGreat
open Go.RowKit
def hdF (a:Ab) (b':Int):Int×Bool:=Tp.fstV (Tp.hdP a.t b' 0) a.t.length
theorem hdF_at (a:Ab) (b':Int) (h:(hdF a b').2=true):∃k:Nat,(hdF a b').1=k∧k<a.t.length:=by
 unfold hdF Tp.fstV at h⊢
 cases e:(List.range a.t.length).find? (Tp.hdP a.t b' 0)with
 | none=>rw[e]at h;cases h
 | some i=>exact⟨i,rfl,List.mem_range.1 (List.mem_of_find?_eq_some e)⟩
def tiK (a:Ab) (id:Int):Nat:=(id - a.c.length).toNat
noncomputable def taE (d:Dk) (a:Ab) (b' id:Int):Int:=if isP d 2 id=true then(if (hdF a b').2=true then 131 else Tp.tkE (a.t.getD (tiK a id) (0,0)).1 (a.t.getD (tiK a id) (0,0)).2 b')else 3
def taA (a:Ab) (b' id:Int):Ab:={a with t:=a.t.set (tiK a id) (Tp.tkV (a.t.getD (tiK a id) (0,0)).1 (a.t.getD (tiK a id) (0,0)).2 b')}
def drE (a:Ab) (b':Int):Int:=if (hdF a b').2=true then Tp.dpE (a.t.getD (hdF a b').1.toNat (0,0)).1 (a.t.getD (hdF a b').1.toNat (0,0)).2 b' else 131
def drA (a:Ab) (b':Int):Ab:={a with t:=a.t.set (hdF a b').1.toNat (Tp.dpV (a.t.getD (hdF a b').1.toNat (0,0)).1 (a.t.getD (hdF a b').1.toNat (0,0)).2 b')}
theorem tkV_fit (x y b':Int) (hb:fits b'):fits (Tp.tkV x y b').1∧fits (Tp.tkV x y b').2:=by
 unfold Tp.tkV
 split
 ·exact⟨by show fits 2;decide,hb⟩
 ·exact⟨by decide,by decide⟩
theorem dpV_fit (x y b':Int):fits (Tp.dpV x y b').1∧fits (Tp.dpV x y b').2:=by
 unfold Tp.dpV
 split
 ·exact⟨by decide,by decide⟩
 ·exact⟨by decide,by decide⟩
theorem take1_any (d:Dk) (t:Stk) (b':Int) (V:World) (B D pd pi pb:Nat) (id:Int) (hrg:rgS d t.ab=true) (hM:Mine V B D t) (hT:Tl V D d b') (hd:d.In V D) (hid:fits id) (hb':fits b') (hpd:DkAt V pd d) (hpi:V.cell? ⟨pi,0,none⟩=some (.int .i64 id)) (hpb:V.cell? ⟨pb,0,none⟩=some (.int .i64 b')) (hli:pi<D):
  Calls Tryz.prog 40 #[.pointer (some ⟨D,0,none⟩),.pointer (some ⟨pd,0,none⟩),.pointer (some ⟨pi,0,none⟩),.pointer (some ⟨pb,0,none⟩)] V fun e V'=>e=.returned (.int .i64 (taE d t.ab b' id))∧
   (taE d t.ab b' id=0→∃t':Stk,Mine V' B D t'∧t'.ab=taA t.ab b' id∧t'.cl.length≤100000∧t'.ll.length≤100000∧t'.tl.length≤100000)∧Below D V V':=by
 have hab:=rg_ab d t.ab hrg;have hlens:=rg_lens d t hrg;have hdc:=hab.2.2.2.1;have r5:=hab.2.2.2.2.1;have r7:=hab.2.2.2.2.2.2;have l1:=hlens.1;have l2:=hlens.2.1;have l3:=hlens.2.2.1;have hln:t.cl.length=wellN d:=r5;have hlt:t.tl.length=tipN d:=r7;have HDL:=aH (show D<V.heap.size from hT.2.2.2.2.2);have HL:=aH (aI l1 (aI l2 l3));have HM:=aH hM;have HT:=aH hT;have HIP:=aH (isPart_any d 2 id hid V (hd.more (Nat.le_of_lt HDL.out)));have HBX:=aH (aI hpi hpb);have HE:=aH (show taE d t.ab b' id=(if isP d 2 id=true then(if (hdF t.ab b').2=true then 131 else Tp.tkE (t.tl.getD (tiK t.ab id) (0,0)).1 (t.tl.getD (tiK t.ab id) (0,0)).2 b')else 3)from rfl);have HPI:=aH (isP_eq d hdc id).2;generalize taE d t.ab b' id=E at *;obtain⟨d0,d1,d2,d3,_⟩:=hpd;by_cases hP:isP d 2 id=true
 case neg=>
  have hEE:E=3:=by rw[HE.out,if_neg hP]
  subst hEE;have hP:isP d 2 id=false:=by simpa using hP
  rw[hP]at HIP;clear hrg hM hT hd hid hb' hli hpb l1 l2 l3 r5 r7 hln hlt hab hlens hdc;go_enter Tryz.func40,Tryz.ntmps40;go_wp2_with fail;refine HIP.out.mono ?_;rintro e w1 ⟨rfl,hb1⟩;have HB1:=aH (hb1.mono (Nat.le_of_lt HDL.out));clear hb1;go_wp2;refine bP (v:=.int .i64 3) ?_ rfl ⟨rfl,fun h=>absurd h (by decide),HB1.out⟩;simp[results,Tryz.results40,go_sem]
 rw[if_pos hP]at HE;have hin:(wellN d:Int)≤id∧id<wellN d+tipN d:=by
  have h:=HPI.out;rw[hP]at h;exact of_decide_eq_true h.symm
 obtain⟨k,hk⟩:∃k,tiK t.ab id=k:=⟨_,rfl⟩;have hkk:id - (t.cl.length:Int)=k:=by
  have e:tiK t.ab id=(id - (t.cl.length:Int)).toNat:=rfl;omega
 have hkl:k<t.tl.length:=by omega
 have HK:=aH (aI hk hkl);have HKK:=aH (show IntKind.i64.wrap (id - (t.cl.length:Int))=(k:Int)by rw[wrap_fits _ (by rw[hkk];unfold fits;omega)];exact hkk);have HV:=aH (tkV_fit (t.tl.getD k (0,0)).1 (t.tl.getD k (0,0)).2 b' hb');rw[hk]at HE;have HTA:=aH (show taA t.ab b' id={t.ab with t:=t.tl.set k (Tp.tkV (t.tl.getD k (0,0)).1 (t.tl.getD k (0,0)).2 b')}by unfold taA;rw[hk];rfl);have HLB:=aH hli;rw[hP]at HIP;have HHF:=aH (show Tp.fstV (Tp.hdP t.tl b' 0) t.tl.length=hdF t.ab b' from rfl);obtain⟨⟨f1,f2⟩,hf⟩:∃x,hdF t.ab b'=x:=⟨_,rfl⟩;rw[hf]at HE HHF;dsimp only at HE;clear hrg hM hT hd hid hb' hli l1 l2 l3 r5 r7 hln hlt hab hlens hdc hk hkk hkl hin hf;go_enter Tryz.func40,Tryz.ntmps40;go_wp2_with fail;refine HIP.out.mono ?_;rintro e w1 ⟨rfl,hb1⟩;have HB1:=aH (hb1.mono (Nat.le_of_lt HDL.out));have M1:=aH (HM.out.below hb1);have T1:=aH (HT.out.below hb1);have X1:=aH (aI (kK hb1 HBX.out.1) (kK hb1 HBX.out.2));clear hb1 d0 d1 d2 d3 hpi hpb
 go_upto_region 3 with fail
 obtain⟨e1,e2⟩:w1.drew.cell? ⟨D,2,none⟩=some (.slice t.tA t.tl.length t.tc)∧w1.drew.cell? ⟨pb,0,none⟩=some (.int .i64 b'):=⟨M1.out.at'.2.2.1,X1.out.2⟩;refine wp_region_held_drew (S:=fun w'=>w'.cell? ⟨D,2,none⟩=some (.slice t.tA t.tl.length t.tc)∧w'.cell? ⟨pb,0,none⟩=some (.int .i64 b')) (by kernel_rfl) ?_ (fun hHeld=>?_)
 ·exact⟨e1,e2⟩
 clear e1 e2;have bw:=(bR w1.heap.size w1).drew;have M2:=aH (M1.out.below bw);have T2:=aH (T1.out.below bw);have X2:=aH (aI (kK bw X1.out.1) (kK bw X1.out.2));have HB2:=aH (Below.drew HB1.out);clear bw M1 T1 X1 HB1;generalize w1.drew=w2 at *;refine wk [.k 0 13,.k 1 14,.k 2 15,.k 3 16,.k 4 17,.k 5 18,.k 6 19] (fun _ _ _ _ _ h=>h) hHeld ?_ (by kernel_rfl)
 repeat (first | (refine .k (v:=?_) rfl (by kernel_rfl) ?_ ?_;rotate_left 1;((intro w hSw;(try dsimp only at hSw);go_simp) <;> (try with_reducible rfl));(try simp only[sp])) | (refine .u rfl (by kernel_rfl) ?_;(try simp only[sp])))
 refine .nil ?_;refine wQ 7 (some 20) rfl (fun K hK=>?_) (by kernel_rfl);go_simp;refine(Tp.held_any (.slice t.tA t.tl.length t.tc) t.tl b' w2 (M2.out.inn (by have:=HL.out;omega) (by have:=HL.out;omega) (by have:=HL.out;omega)).t).mono ?_;rintro e w3 ⟨rfl,hb⟩;rw[HHF.out];have M3:=aH (M2.out.below hb);have T3:=aH (T2.out.below hb);have X3:=aH (aI (kK hb X2.out.1) (kK hb X2.out.2));have HB3:=aH (HB2.out.trans (hb.mono (by have:=T2.out.2.2.2.2.2;omega)));obtain⟨h1,h2⟩:=hHeld;have hH:=aI (kK hb h1) (kK hb h2);clear h1 h2 hb M2 T2 X2 HB2;go_wp2_with fail;refine hK.out _ _ hH (fun hHeld=>?_);clear hK K;clear hH
 try simp only[sp]
 refine wk [.k 8 12,.k 9 21,.k 10 22,.k 11 6,.k 12 7] (fun _ _ _ _ _ h=>h) hHeld ?_ (by kernel_rfl)
 repeat (first | (refine .k (v:=?_) rfl (by kernel_rfl) ?_ ?_;rotate_left 1;((intro w hSw;(try dsimp only at hSw);go_simp) <;> (try with_reducible rfl));(try simp only[sp])) | (refine .u rfl (by kernel_rfl) ?_;(try simp only[sp])))
 refine .nil ?_;refine wD (by kernel_rfl) ?_;clear hHeld
 cases f2
 case true=>
  have hEE:E=131:=by rw[HE.out];rfl
  subst hEE;go_wp2;refine bP (v:=.int .i64 131) ?_ rfl (by first | exact⟨rfl,HB3.out⟩ | exact⟨rfl,fun h=>absurd h (by decide),HB3.out⟩);simp[results,Tryz.results40,go_sem]
 have hEE:E=Tp.tkE (t.tl.getD k (0,0)).1 (t.tl.getD k (0,0)).2 b':=by rw[HE.out];rfl
 have HEE:=aH hEE;clear hEE
 go_upto_region 6 with fail
 obtain⟨e1,e2⟩:w3.drew.cell? ⟨D,0,none⟩=some (.slice t.cA t.cl.length t.cc)∧w3.drew.cell? ⟨pi,0,none⟩=some (.int .i64 id):=⟨M3.out.at'.1,X3.out.1⟩;refine wp_region_held_drew (S:=fun w'=>w'.cell? ⟨D,0,none⟩=some (.slice t.cA t.cl.length t.cc)∧w'.cell? ⟨pi,0,none⟩=some (.int .i64 id)) (by kernel_rfl) ?_ (fun hHeld=>?_)
 ·exact⟨e1,e2⟩
 clear e1 e2;have bw:=(bR w3.heap.size w3).drew;have M4:=aH (M3.out.below bw);have T4:=aH (T3.out.below bw);have HB4:=aH (Below.drew HB3.out);have hen:=enters_of (P:=Tryz.prog) (f:=43) Tryz.func43 (by kernel_rfl) rfl;have HH:=aH (handle_any t d b' w3.drew B D k 43 (Tp.tkV (t.tl.getD k (0,0)).1 (t.tl.getD k (0,0)).2 b') (Tp.tkE (t.tl.getD k (0,0)).1 (t.tl.getD k (0,0)).2 b') M4.out T4.out HK.out.2 HV.out (by have:=HL.out;omega) hen (fun W=>Tp.take_any _ _ b' W));clear bw M3 T3 HB3 hen;have hX:=X3.out.1;clear X3;rw[←HEE.out]at HH;generalize w3.drew=w4 at *;refine wk [.k 0 24,.k 1 25,.k 2 26,.k 3 27,.k 4 28,.k 5 29,.k 6 30,.k 7 31,.k 8 32,.k 9 33] (fun _ _ _ _ _ h=>h) hHeld ?_ (by kernel_rfl)
 repeat (first | (refine .k (v:=?_) rfl (by kernel_rfl) ?_ ?_;rotate_left 1;((intro w hSw;(try dsimp only at hSw);go_simp) <;> (try with_reducible rfl));(try simp only[sp])) | (refine .u rfl (by kernel_rfl) ?_;(try simp only[sp])))
 refine .nil ?_;rw[HKK.out];refine wQ 10 (some 34) rfl (fun K hK=>?_) (by kernel_rfl);go_simp;refine HH.out.mono ?_;rintro e w5 ⟨rfl,hM5,hT5,hb5⟩;have M7:=aH hM5;have HB7:=aH (HB4.out.trans hb5);obtain⟨h1,h2⟩:=hHeld;have hH:=aI (show w5.cell? ⟨D,0,none⟩=some (.slice t.cA t.cl.length t.cc)from hM5.at'.1) ((hb5.cell (p:=⟨pi,0,none⟩) HLB.out).trans h2);clear h1 h2 hM5 hT5 hb5 M4 T4 HB4;go_wp2_with fail;refine hK.out _ _ hH (fun hHeld=>?_);clear hK K;clear hH
 try simp only[sp]
 refine wk [.k 11 5] (fun _ _ _ _ _ h=>h) hHeld ?_ (by kernel_rfl)
 repeat (first | (refine .k (v:=?_) rfl (by kernel_rfl) ?_ ?_;rotate_left 1;((intro w hSw;(try dsimp only at hSw);go_simp) <;> (try with_reducible rfl));(try simp only[sp])) | (refine .u rfl (by kernel_rfl) ?_;(try simp only[sp])))
 refine .nil ?_;refine wD (by kernel_rfl) ?_;clear hHeld;go_wp2;refine bP (v:=.int .i64 E) ?_ rfl ⟨rfl,fun _=>⟨_,M7.out,?_,by show t.cl.length≤_;have:=HL.out;omega,by show t.ll.length≤_;have:=HL.out;omega,by show(t.tl.set _ _).length≤_;rw[List.length_set];have:=HL.out;omega⟩,HB7.out⟩
 ·simp[results,Tryz.results40,go_sem]
 ·rw[HTA.out];rfl
theorem drop1_any (d:Dk) (t:Stk) (b':Int) (V:World) (B D pb:Nat) (hrg:rgS d t.ab=true) (hM:Mine V B D t) (hT:Tl V D d b') (hpb:V.cell? ⟨pb,0,none⟩=some (.int .i64 b')):
  Calls Tryz.prog 49 #[.pointer (some ⟨D,0,none⟩),.pointer (some ⟨pb,0,none⟩)] V fun e V'=>e=.returned (.int .i64 (drE t.ab b'))∧
   (drE t.ab b'=0→∃t':Stk,Mine V' B D t'∧t'.ab=drA t.ab b'∧t'.cl.length≤100000∧t'.ll.length≤100000∧t'.tl.length≤100000)∧Below D V V':=by
 have hlens:=rg_lens d t hrg;have HDL:=aH (show D<V.heap.size from hT.2.2.2.2.2);have HL:=aH (aI hlens.1 (aI hlens.2.1 hlens.2.2.1));have HM:=aH hM;have HT:=aH hT;have HE:=aH (show drE t.ab b'=(if (hdF t.ab b').2=true then Tp.dpE (t.tl.getD (hdF t.ab b').1.toNat (0,0)).1 (t.tl.getD (hdF t.ab b').1.toNat (0,0)).2 b' else 131)from rfl);have HA:=aH (show drA t.ab b'={t.ab with t:=t.tl.set (hdF t.ab b').1.toNat (Tp.dpV (t.tl.getD (hdF t.ab b').1.toNat (0,0)).1 (t.tl.getD (hdF t.ab b').1.toNat (0,0)).2 b')}from rfl);have HAT:=aH (hdF_at t.ab b');generalize drE t.ab b'=E at *;have HHF:=aH (show Tp.fstV (Tp.hdP t.tl b' 0) t.tl.length=hdF t.ab b' from rfl);obtain⟨⟨f1,f2⟩,hf⟩:∃x,hdF t.ab b'=x:=⟨_,rfl⟩;rw[hf]at HE HHF HA HAT;dsimp only at HE HA HAT;have HPB:=aH hpb;clear hrg hM hT hpb hlens hf;go_enter Tryz.func49,Tryz.ntmps49
 go_upto_region 1 with fail
 obtain⟨e1,e2⟩:V.drew.cell? ⟨D,2,none⟩=some (.slice t.tA t.tl.length t.tc)∧V.drew.cell? ⟨pb,0,none⟩=some (.int .i64 b'):=⟨HM.out.at'.2.2.1,HPB.out⟩;refine wp_region_held_drew (S:=fun w'=>w'.cell? ⟨D,2,none⟩=some (.slice t.tA t.tl.length t.tc)∧w'.cell? ⟨pb,0,none⟩=some (.int .i64 b')) (by kernel_rfl) ?_ (fun hHeld=>?_)
 ·exact⟨e1,e2⟩
 clear e1 e2;have bw:=(bR V.heap.size V).drew;have M2:=aH (HM.out.below bw);have T2:=aH (HT.out.below bw);have HB2:=aH (Below.drew (bR D V));clear bw;generalize V.drew=w2 at *;refine wk [.k 0 7,.k 1 8,.k 2 9,.k 3 10,.k 4 11,.k 5 12,.k 6 13] (fun _ _ _ _ _ h=>h) hHeld ?_ (by kernel_rfl)
 repeat (first | (refine .k (v:=?_) rfl (by kernel_rfl) ?_ ?_;rotate_left 1;((intro w hSw;(try dsimp only at hSw);go_simp) <;> (try with_reducible rfl));(try simp only[sp])) | (refine .u rfl (by kernel_rfl) ?_;(try simp only[sp])))
 refine .nil ?_;refine wQ 7 (some 14) rfl (fun K hK=>?_) (by kernel_rfl);go_simp;refine(Tp.held_any (.slice t.tA t.tl.length t.tc) t.tl b' w2 (M2.out.inn (by have:=HL.out;omega) (by have:=HL.out;omega) (by have:=HL.out;omega)).t).mono ?_;rintro e w3 ⟨rfl,hb⟩;rw[HHF.out];have M3:=aH (M2.out.below hb);have T3:=aH (T2.out.below hb);have HB3:=aH (HB2.out.trans (hb.mono (by have:=T2.out.2.2.2.2.2;omega)));obtain⟨h1,h2⟩:=hHeld;have hH:=aI (kK hb h1) (kK hb h2);clear h1 h2 hb M2 T2 HB2;go_wp2_with fail;refine hK.out _ _ hH (fun hHeld=>?_);clear hK K;clear hH
 try simp only[sp]
 refine wk [.k 8 6,.k 9 15,.k 10 16,.k 11 4,.k 12 5] (fun _ _ _ _ _ h=>h) hHeld ?_ (by kernel_rfl)
 repeat (first | (refine .k (v:=?_) rfl (by kernel_rfl) ?_ ?_;rotate_left 1;((intro w hSw;(try dsimp only at hSw);go_simp) <;> (try with_reducible rfl));(try simp only[sp])) | (refine .u rfl (by kernel_rfl) ?_;(try simp only[sp])))
 refine .nil ?_;refine wD (by kernel_rfl) ?_;clear hHeld
 cases f2
 case false=>
  have hEE:E=131:=by rw[HE.out];rfl
  subst hEE;go_wp2;refine bP (v:=.int .i64 131) ?_ rfl (by first | exact⟨rfl,HB3.out⟩ | exact⟨rfl,fun h=>absurd h (by decide),HB3.out⟩);simp[results,Tryz.results49,go_sem]
 obtain⟨k,hk,hkl⟩:=HAT.out rfl;subst hk;have e2:(k:Int).toNat=k:=by omega
 rw[e2]at HE HA;have HKL:=aH (show k<t.tl.length from hkl);have hEE:Tp.dpE (t.tl.getD k (0,0)).1 (t.tl.getD k (0,0)).2 b'=E:=by rw[HE.out];rfl
 have HH:=aH (handle_any t d b' w3 B D k 50 (Tp.dpV (t.tl.getD k (0,0)).1 (t.tl.getD k (0,0)).2 b') (Tp.dpE (t.tl.getD k (0,0)).1 (t.tl.getD k (0,0)).2 b') M3.out T3.out HKL.out (dpV_fit _ _ _) (by have:=HL.out;omega) (enters_of Tryz.func50 (by kernel_rfl) rfl) (fun W=>Tp.drop_any _ _ b' W));rw[hEE]at HH;clear e2 hEE hkl;go_wp2_with fail;refine HH.out.mono ?_;rintro e w5 ⟨rfl,hM5,hT5,hb5⟩;have M7:=aH hM5;have HB7:=aH (HB3.out.trans hb5);clear hM5 hT5 hb5;go_wp2;refine bP (v:=.int .i64 E) ?_ rfl ⟨rfl,fun _=>⟨_,M7.out,?_,by show t.cl.length≤_;have:=HL.out;omega,by show t.ll.length≤_;have:=HL.out;omega,by show(t.tl.set _ _).length≤_;rw[List.length_set];have:=HL.out;omega⟩,HB7.out⟩
 ·simp[results,Tryz.results49,go_sem]
 ·rw[HA.out];rfl
theorem drop_any (d:Dk) (s:Stk) (b':Int) (w:World) (hd:d.In w w.heap.size) (hs:s.In w w.heap.size):
  Calls Tryz.prog 20 #[d.v,s.v,.int .i64 b'] w fun e w'=>∃t:Stk,e=.returned (.tuple #[t.v,.int .i64 (cgE d s.ab b' (drE s.ab b'))])∧t.In w' w'.heap.size∧t.ab=(if cgE d s.ab b' (drE s.ab b')=0 then drA s.ab b' else ab0)∧Below w.heap.size w w':=by
 obtain⟨w0,hw0⟩:∃w0,w0=((((w.alloc (.cells #[.slice d.bA d.bn d.bc,.slice d.pA d.pn d.pc,.slice d.rA d.rn d.rc,.int .i64 d.arms] 26)).alloc (.cells #[.slice s.cA s.cl.length s.cc,.slice s.lA s.ll.length s.lc,.slice s.tA s.tl.length s.tc,.int .i64 s.st,.int .i64 s.inn,.int .i64 s.out] 31)).alloc (.cells #[.int .i64 b'] 3)).alloc (.cells #[.slice none 0 0,.slice none 0 0,.slice none 0 0,.int .i64 0,.int .i64 0,.int .i64 0] 31)):=⟨_,rfl⟩;have HB0:=aH (show Below w.heap.size w w0 by rw[hw0];exact bL (bL (bL (bL (bR _ _) _) _) _) _);have HD0:=aH (hd.then HB0.out);have HS0:=aH (hs.then HB0.out);have HK0:=aH (show DkAt w0 w.heap.size d by rw[hw0];exact(((Cells4.new w _ _ _ _ _).below (bL (bR _ _) _)).below (bL (bR _ _) _)).below (bL (bR _ _) _));have HT0:=aH (show SkAt w0 (w.heap.size+1) s by
  have e:(w.alloc (.cells #[.slice d.bA d.bn d.bc,.slice d.pA d.pn d.pc,.slice d.rA d.rn d.rc,.int .i64 d.arms] 26)).heap.size=w.heap.size+1:=by simp
  rw[hw0,←e];exact((Cells6.new (w.alloc (.cells #[.slice d.bA d.bn d.bc,.slice d.pA d.pn d.pc,.slice d.rA d.rn d.rc,.int .i64 d.arms] 26)) 31 _ _ _ _ _ _).below (bL (bR _ _) _)).below (bL (bR _ _) _))
 have HI0:=aH (show w0.cell? ⟨w.heap.size+2,0,none⟩=some (.int .i64 b')∧w0.heap.size=w.heap.size+4 by
  rw[hw0];refine⟨?_,by simp⟩
  ·have h:((w.alloc (.cells #[.slice d.bA d.bn d.bc,.slice d.pA d.pn d.pc,.slice d.rA d.rn d.rc,.int .i64 d.arms] 26)).alloc (.cells #[.slice s.cA s.cl.length s.cc,.slice s.lA s.ll.length s.lc,.slice s.tA s.tl.length s.tc,.int .i64 s.st,.int .i64 s.inn,.int .i64 s.out] 31)).heap.size=w.heap.size+2:=by simp
   refine kK (bL (bR _ _) _) (?_);rw[←h,alloc_at];rfl)
 have HR0:=aH (show Cells6 w0 (w.heap.size+3) (.slice none 0 0) (.slice none 0 0) (.slice none 0 0) (.int .i64 0) (.int .i64 0) (.int .i64 0)by
  have h:=Cells6.new (((w.alloc (.cells #[.slice d.bA d.bn d.bc,.slice d.pA d.pn d.pc,.slice d.rA d.rn d.rc,.int .i64 d.arms] 26)).alloc (.cells #[.slice s.cA s.cl.length s.cc,.slice s.lA s.ll.length s.lc,.slice s.tA s.tl.length s.tc,.int .i64 s.st,.int .i64 s.inn,.int .i64 s.out] 31)).alloc (.cells #[.int .i64 b'] 3)) 31 (.slice none 0 0) (.slice none 0 0) (.slice none 0 0) (.int .i64 0) (.int .i64 0) (.int .i64 0);rw[←hw0,show(((w.alloc (.cells #[.slice d.bA d.bn d.bc,.slice d.pA d.pn d.pc,.slice d.rA d.rn d.rc,.int .i64 d.arms] 26)).alloc (.cells #[.slice s.cA s.cl.length s.cc,.slice s.lA s.ll.length s.lc,.slice s.tA s.tl.length s.tc,.int .i64 s.st,.int .i64 s.inn,.int .i64 s.out] 31)).alloc (.cells #[.int .i64 b'] 3)).heap.size=w.heap.size+3 by simp]at h;exact h)
 have HC:=aH (change_any d s b' 49 #[.pointer (some ⟨w.heap.size+2,0,none⟩)] (drE s.ab b') (drA s.ab b') w0 HD0.out HS0.out (enters_of Tryz.func49 (by kernel_rfl) rfl) (fun hrg hb1' hb2' V B D t hM hab hT hD hb hle=>by
  have hI:=HI0.out;have hsz:w0.heap.size=w.heap.size+4:=hI.2;have hfb:fits b':=by have h:=hd.a;unfold fits at h⊢;omega
  have e1:s.ab=t.ab:=hab.symm;rw[e1];rw[e1]at hrg;exact drop1_any d t b' V B D _ hrg hM hT (kK hb hI.1)))
 generalize drE s.ab b'=dE at *;generalize drA s.ab b'=dA at *;generalize cgE d s.ab b' dE=E at *;generalize (if E=0 then dA else ab0)=dR at *;have hmf:∀(fn:Fn) (first cap:Array Value) (w:World),(Instr.makeFunc fn first cap).run Tryz.prog w=.ok (.func fn first cap) w:=fun _ _ _ _=>rfl;obtain⟨t0,t1,t2,t3,t4,t5,_⟩:=HT0.out;obtain⟨d0,d1,d2,d3,_⟩:=HK0.out;obtain⟨i0,_⟩:=HI0.out;clear hd hs;go_enter Tryz.func20,Tryz.ntmps20;go_wp2_with fail;rw[←hw0];clear hw0;refine HC.out.mono ?_;rintro e w1 ⟨t,rfl,ht,hab,hfar,hb1⟩;have hR1:=HR0.out.below hb1;obtain⟨r0,r1,r2,r3,r4,r5,y0,y1,y2,y3,y4,y5,_⟩:=hR1;have HR1:=aH (HR0.out.below hb1);have HB1:=aH (bC HB0.out hb1);have HTT:=aH (aI ht (aI hab hfar));clear ht hab hfar hb1 t0 t1 t2 t3 t4 t5 d0 d1 d2 d3 hmf i0;go_wp2;have hset:=HR1.out.set (.slice t.cA t.cl.length t.cc) (.slice t.lA t.ll.length t.lc) (.slice t.tA t.tl.length t.tc) (.int .i64 t.st) (.int .i64 t.inn) (.int .i64 t.out);obtain⟨q0,q1,q2,q3,q4,q5,_⟩:=hset;have hsz:w0.heap.size=w.heap.size+4:=HI0.out.2;refine bP (v:=.tuple #[t.v,.int .i64 E]) ?_ rfl ?_
 ·simp[results,Tryz.results20,go_sem,q0,q1,q2,q3,q4,q5]
 ·refine⟨t,rfl,?_,HTT.out.2.1,below_set6 HB1.out (by omega) _ _ _ _ _ _⟩;have:=HTT.out.1.set6 HTT.out.2.2 (D:=w.heap.size+3) (by omega) (.slice t.cA t.cl.length t.cc) (.slice t.lA t.ll.length t.lc) (.slice t.tA t.tl.length t.tc) (.int .i64 t.st) (.int .i64 t.inn) (.int .i64 t.out);simpa using this
theorem take_any (d:Dk) (s:Stk) (b' id:Int) (w:World) (hd:d.In w w.heap.size) (hs:s.In w w.heap.size) (hid:fits id):
  Calls Tryz.prog 16 #[d.v,s.v,.int .i64 b',.int .i64 id] w fun e w'=>∃t:Stk,e=.returned (.tuple #[t.v,.int .i64 (cgE d s.ab b' (taE d s.ab b' id))])∧t.In w' w'.heap.size∧t.ab=(if cgE d s.ab b' (taE d s.ab b' id)=0 then taA s.ab b' id else ab0)∧Below w.heap.size w w':=by
 obtain⟨w0,hw0⟩:∃w0,w0=(((((w.alloc (.cells #[.slice d.bA d.bn d.bc,.slice d.pA d.pn d.pc,.slice d.rA d.rn d.rc,.int .i64 d.arms] 26)).alloc (.cells #[.slice s.cA s.cl.length s.cc,.slice s.lA s.ll.length s.lc,.slice s.tA s.tl.length s.tc,.int .i64 s.st,.int .i64 s.inn,.int .i64 s.out] 31)).alloc (.cells #[.int .i64 b'] 3)).alloc (.cells #[.int .i64 id] 3)).alloc (.cells #[.slice none 0 0,.slice none 0 0,.slice none 0 0,.int .i64 0,.int .i64 0,.int .i64 0] 31)):=⟨_,rfl⟩;have HB0:=aH (show Below w.heap.size w w0 by rw[hw0];exact bL (bL (bL (bL (bL (bR _ _) _) _) _) _) _);have HD0:=aH (hd.then HB0.out);have HS0:=aH (hs.then HB0.out);have HK0:=aH (show DkAt w0 w.heap.size d by rw[hw0];exact((((Cells4.new w _ _ _ _ _).below (bL (bR _ _) _)).below (bL (bR _ _) _)).below (bL (bR _ _) _)).below (bL (bR _ _) _));have HT0:=aH (show SkAt w0 (w.heap.size+1) s by
  have e:(w.alloc (.cells #[.slice d.bA d.bn d.bc,.slice d.pA d.pn d.pc,.slice d.rA d.rn d.rc,.int .i64 d.arms] 26)).heap.size=w.heap.size+1:=by simp
  rw[hw0,←e];exact(((Cells6.new (w.alloc (.cells #[.slice d.bA d.bn d.bc,.slice d.pA d.pn d.pc,.slice d.rA d.rn d.rc,.int .i64 d.arms] 26)) 31 _ _ _ _ _ _).below (bL (bR _ _) _)).below (bL (bR _ _) _)).below (bL (bR _ _) _))
 have HI0:=aH (show w0.cell? ⟨w.heap.size+2,0,none⟩=some (.int .i64 b')∧w0.cell? ⟨w.heap.size+3,0,none⟩=some (.int .i64 id)∧w0.heap.size=w.heap.size+5 by
  rw[hw0];refine⟨?_,?_,by simp⟩
  ·have h:((w.alloc (.cells #[.slice d.bA d.bn d.bc,.slice d.pA d.pn d.pc,.slice d.rA d.rn d.rc,.int .i64 d.arms] 26)).alloc (.cells #[.slice s.cA s.cl.length s.cc,.slice s.lA s.ll.length s.lc,.slice s.tA s.tl.length s.tc,.int .i64 s.st,.int .i64 s.inn,.int .i64 s.out] 31)).heap.size=w.heap.size+2:=by simp
   refine kK (bL (bR _ _) _) (kK (bL (bR _ _) _) (?_));rw[←h,alloc_at];rfl
  ·have h:(((w.alloc (.cells #[.slice d.bA d.bn d.bc,.slice d.pA d.pn d.pc,.slice d.rA d.rn d.rc,.int .i64 d.arms] 26)).alloc (.cells #[.slice s.cA s.cl.length s.cc,.slice s.lA s.ll.length s.lc,.slice s.tA s.tl.length s.tc,.int .i64 s.st,.int .i64 s.inn,.int .i64 s.out] 31)).alloc (.cells #[.int .i64 b'] 3)).heap.size=w.heap.size+3:=by simp
   refine kK (bL (bR _ _) _) (?_);rw[←h,alloc_at];rfl)
 have HR0:=aH (show Cells6 w0 (w.heap.size+4) (.slice none 0 0) (.slice none 0 0) (.slice none 0 0) (.int .i64 0) (.int .i64 0) (.int .i64 0)by
  have h:=Cells6.new ((((w.alloc (.cells #[.slice d.bA d.bn d.bc,.slice d.pA d.pn d.pc,.slice d.rA d.rn d.rc,.int .i64 d.arms] 26)).alloc (.cells #[.slice s.cA s.cl.length s.cc,.slice s.lA s.ll.length s.lc,.slice s.tA s.tl.length s.tc,.int .i64 s.st,.int .i64 s.inn,.int .i64 s.out] 31)).alloc (.cells #[.int .i64 b'] 3)).alloc (.cells #[.int .i64 id] 3)) 31 (.slice none 0 0) (.slice none 0 0) (.slice none 0 0) (.int .i64 0) (.int .i64 0) (.int .i64 0);rw[←hw0,show((((w.alloc (.cells #[.slice d.bA d.bn d.bc,.slice d.pA d.pn d.pc,.slice d.rA d.rn d.rc,.int .i64 d.arms] 26)).alloc (.cells #[.slice s.cA s.cl.length s.cc,.slice s.lA s.ll.length s.lc,.slice s.tA s.tl.length s.tc,.int .i64 s.st,.int .i64 s.inn,.int .i64 s.out] 31)).alloc (.cells #[.int .i64 b'] 3)).alloc (.cells #[.int .i64 id] 3)).heap.size=w.heap.size+4 by simp]at h;exact h)
 have HC:=aH (change_any d s b' 40 #[.pointer (some ⟨w.heap.size,0,none⟩),.pointer (some ⟨w.heap.size+3,0,none⟩),.pointer (some ⟨w.heap.size+2,0,none⟩)] (taE d s.ab b' id) (taA s.ab b' id) w0 HD0.out HS0.out (enters_of Tryz.func40 (by kernel_rfl) rfl) (fun hrg hb1' hb2' V B D t hM hab hT hD hb hle=>by
  have hI:=HI0.out;have hsz:w0.heap.size=w.heap.size+5:=hI.2.2;have hfb:fits b':=by have h:=hd.a;unfold fits at h⊢;omega
  have e1:s.ab=t.ab:=hab.symm;rw[e1];rw[e1]at hrg;exact take1_any d t b' V B D _ _ _ id hrg hM hT hD hid hfb (HK0.out.below hb) (kK hb hI.2.1) (kK hb hI.1) (by omega)))
 generalize taE d s.ab b' id=dE at *;generalize taA s.ab b' id=dA at *;generalize cgE d s.ab b' dE=E at *;generalize (if E=0 then dA else ab0)=dR at *;have hmf:∀(fn:Fn) (first cap:Array Value) (w:World),(Instr.makeFunc fn first cap).run Tryz.prog w=.ok (.func fn first cap) w:=fun _ _ _ _=>rfl;obtain⟨t0,t1,t2,t3,t4,t5,_⟩:=HT0.out;obtain⟨d0,d1,d2,d3,_⟩:=HK0.out;obtain⟨i0,i1,_⟩:=HI0.out;clear hd hs;go_enter Tryz.func16,Tryz.ntmps16;go_wp2_with fail;rw[←hw0];clear hw0;refine HC.out.mono ?_;rintro e w1 ⟨t,rfl,ht,hab,hfar,hb1⟩;have hR1:=HR0.out.below hb1;obtain⟨r0,r1,r2,r3,r4,r5,y0,y1,y2,y3,y4,y5,_⟩:=hR1;have HR1:=aH (HR0.out.below hb1);have HB1:=aH (bC HB0.out hb1);have HTT:=aH (aI ht (aI hab hfar));clear ht hab hfar hb1 t0 t1 t2 t3 t4 t5 d0 d1 d2 d3 hmf i0 i1;go_wp2;have hset:=HR1.out.set (.slice t.cA t.cl.length t.cc) (.slice t.lA t.ll.length t.lc) (.slice t.tA t.tl.length t.tc) (.int .i64 t.st) (.int .i64 t.inn) (.int .i64 t.out);obtain⟨q0,q1,q2,q3,q4,q5,_⟩:=hset;have hsz:w0.heap.size=w.heap.size+5:=HI0.out.2.2;refine bP (v:=.tuple #[t.v,.int .i64 E]) ?_ rfl ?_
 ·simp[results,Tryz.results16,go_sem,q0,q1,q2,q3,q4,q5]
 ·refine⟨t,rfl,?_,HTT.out.2.1,below_set6 HB1.out (by omega) _ _ _ _ _ _⟩;have:=HTT.out.1.set6 HTT.out.2.2 (D:=w.heap.size+4) (by omega) (.slice t.cA t.cl.length t.cc) (.slice t.lA t.ll.length t.lc) (.slice t.tA t.tl.length t.tc) (.int .i64 t.st) (.int .i64 t.inn) (.int .i64 t.out);simpa using this
end Go.Proofs.YtacjonncakhhmaaGreat
