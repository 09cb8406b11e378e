/- Two models that say the same: the reference calls them so. -/
import Derived.Test.YtmecohdedghiaaaGreatDoorPn00
import Derived.Test.YtmecohdedghiaaaGreatDoorPn19
import Derived.Test.YtmecohdedghiaaaGreatDoorPn15
import Derived.Test.YtmecohdedghiaaaGreatDoorPn32
import Derived.Test.YtmecohdedghiaaaGreatDoorPn43
import Derived.Test.YtmecohdedghiaaaGreatDoorPn13
set_option maxRecDepth 100000
set_option maxHeartbeats 8000000
namespace Go.Proofs.YtmecohdedghiaaaGreatDoor
open Go.RowKit
theorem same_s (s u:Stk) (h:s.ab=u.ab) (w:World) (hs:s.In w w.heap.size) (hu:u.In w w.heap.size):Calls Tryz.prog 56 #[s.v,u.v] w fun e w'=>e=.returned (.bool true)∧Below w.heap.size w w':=by
 obtain⟨w0,hw0⟩:∃w0,w0=(w.alloc s.ob).alloc u.ob:=⟨_,rfl⟩;have HB0:=aH (show Below w.heap.size w w0 by rw[hw0];exact bL (bL (bR _ _) _) _);have HS:=aH (hs.then HB0.out);have HU:=aH (hu.then HB0.out);have HS1:=aH (show SkAt w0 w.heap.size s by rw[hw0];exact(Cells6.new w _ _ _ _ _ _ _).below (bL (bR _ _) _));have HU1:=aH (show SkAt w0 (w.heap.size+1) u by
  have e:(w.alloc s.ob).heap.size=w.heap.size+1:=by simp
  rw[hw0,←e];exact Cells6.new _ _ _ _ _ _ _ _)
 have h1:s.cl=u.cl:=congrArg Ab.c h;have h2:s.ll.map Lo.ab=u.ll.map Lo.ab:=congrArg Ab.l h;have h3:s.tl=u.tl:=congrArg Ab.t h;have h4:s.st=u.st:=congrArg Ab.st h;have h5:s.inn=u.inn:=congrArg Ab.inn h;have h6:s.out=u.out:=congrArg Ab.out h;have hll:s.ll.length=u.ll.length:=by have:=congrArg List.length h2;simpa using this
 have HQ:=aH (show ∀k,k<s.ll.length→(s.ll.getD k lo0).r=(u.ll.getD k lo0).r∧(s.ll.getD k lo0).l=(u.ll.getD k lo0).l∧(s.ll.getD k lo0).xs=(u.ll.getD k lo0).xs from fun k hk=>by
  have e1:=ab_l s k hk;have e2:=ab_l u k (by omega);have e:s.ab.l=u.ab.l:=congrArg Ab.l h;rw[e,e2]at e1;have a1:=congrArg Prod.fst e1;have a2:=congrArg Prod.snd e1;exact⟨a1.symm,(congrArg Prod.fst a2).symm,(congrArg Prod.snd a2).symm⟩)
 clear hs hu h h2;obtain⟨cA,cc,cl,lA,lc,ll,tA,tc,tl,st,inn,out⟩:=s;obtain⟨cA2,cc2,cl2,lA2,lc2,ll2,tA2,tc2,tl2,st2,inn2,out2⟩:=u;dsimp only at *;subst h1 h3 h4 h5 h6;have HLL:=aH hll;have hli:((ll.length:Int) != (ll2.length:Int))=false:=by rw[hll];simp
 clear hll;obtain⟨g0,g1,g2,g3,g4,g5,-⟩:=HS1.out;obtain⟨f0,f1,f2,f3,f4,f5,-⟩:=HU1.out;dsimp only at g0 g1 g2 g3 g4 g5 f0 f1 f2 f3 f4 f5;rw[hw0]at g0 g1 g2 g3 g4 g5 f0 f1 f2 f3 f4 f5;have hl1:=HS.out.c.2.2;have hl2:=HS.out.l.2.2;have hl3:=HS.out.t.2.2;dsimp only at hl1 hl2 hl3;go_enter Tryz.func56,Tryz.ntmps56;go_wp2_with fail;rw[←hw0];clear hw0 g0 g1 g2 g3 g4 g5 f0 f1 f2 f3 f4 f5 hli
 go_loopw [5] (fun i wr=>∃k:Nat,k≤cl.length∧i=.int .i64 k∧Hid (Below w0.heap.size w0 wr)) (fun i _=>cl.length-(intOf i).toNat)
 case atStart=>exact⟨0,Nat.zero_le _,rfl,aH (bR _ _)⟩
 case round=>
  obtain⟨k,hk,rfl,hbl⟩:=hrel;have HB:=aH hbl.out;clear hbl;have G1:=(HS1.out.below HB.out).1;have G2:=(HU1.out.below HB.out).1;dsimp only at G1 G2;by_cases hlt:k<cl.length
  ·obtain⟨b1,o1,rfl,hb1,hc1,hcell1⟩:=ce_cells (HS.out.then HB.out).c (by dsimp only;omega);obtain⟨b2,o2,rfl,hb2,hc2,hcell2⟩:=ce_cells (HU.out.then HB.out).c (by dsimp only;omega);obtain⟨e1,e2,e3⟩:=hcell1 k hlt;obtain⟨f1,f2,f3⟩:=hcell2 k hlt;dsimp only at e1 e2 e3 f1 f2 f3;clear hcell1 hcell2;generalize cl.getD k ce0=q at *;obtain⟨qa,qb,qc⟩:=q;dsimp only at e1 e2 e3 f1 f2 f3;go_wp2_with fail;go_quiet (fail);go_wp2
   go_roundw
   case rel=>exact⟨k+1,by omega,num_i (by omega),aH (below_drewN HB.out _)⟩
   case measure=>simp[intOf];omega
  ·obtain rfl:k=cl.length:=(by omega);obtain⟨wA,hwA⟩:∃wA,wA=wr:=⟨_,rfl⟩;have HBA:=aH (show Below w0.heap.size w0 wA by rw[hwA];exact HB.out);go_wp2_with fail;rw[←hwA];clear hwA HB G1 G2
   go_loopw [6] (fun i wr=>∃k:Nat,k≤ll.length∧i=.int .i64 k∧Hid (Below w0.heap.size w0 wr)) (fun i _=>ll.length-(intOf i).toNat)
   case atStart=>exact⟨0,Nat.zero_le _,rfl,aH HBA.out⟩
   case round=>
    clear HBA;obtain⟨k,hk,rfl,hbl⟩:=hrel;have HB:=aH hbl.out;clear hbl;have G1:=(HS1.out.below HB.out).2.1;have G2:=(HU1.out.below HB.out).2.1;dsimp only at G1 G2;by_cases hlt:k<ll.length
    ·have hlt2:k<ll2.length:=(by have:=HLL.out;omega);obtain⟨b1,o1,rfl,hb1,hc1,hcell1⟩:=lo_cells (HS.out.then HB.out).l (by dsimp only;omega);obtain⟨b2,o2,rfl,hb2,hc2,hcell2⟩:=lo_cells (HU.out.then HB.out).l (by dsimp only;omega);obtain⟨e1,e2,e3⟩:=hcell1 k hlt;obtain⟨f1,f2,f3⟩:=hcell2 k hlt2;dsimp only at e1 e2 e3 f1 f2 f3 hc1 hc2;have HX1:=aH ((HS.out.then HB.out).x _ (getD_mem' ll k lo0 hlt));have HX2:=aH ((HU.out.then HB.out).x _ (getD_mem' ll2 k lo0 hlt2));obtain⟨p1,p2,p3⟩:=HQ.out k hlt;rw[←p1]at f1;rw[←p2]at f2;rw[←p3]at f3 HX2;clear hcell1 hcell2 p1 p2 p3;generalize (ll2.getD k lo0).A=pA at *;generalize (ll2.getD k lo0).c=pc at *;generalize ll.getD k lo0=q at *;obtain⟨qr,ql,qA,qc,qx⟩:=q;dsimp only at e1 e2 e3 f1 f2 f3 HX1 HX2;have hlt':(k:Int)<ll.length:=(by omega);have hlt2':(k:Int)<ll2.length:=(by omega)
     go_upto_region 11 with fail
     refine wp_region_held_drew (S:=fun w'=>w'.cell? ⟨w.heap.size,1,none⟩=some (Value.slice (some ⟨b1,o1,none⟩) ll.length lc)∧w'.cell? ⟨w.heap.size+1,1,none⟩=some (Value.slice (some ⟨b2,o2,none⟩) ll2.length lc2)∧w'.cell? ⟨b1,o1+k*3,none⟩=some (.int .i64 qr)∧w'.cell? ⟨b1,o1+k*3+1,none⟩=some (.int .i64 ql)∧w'.cell? ⟨b1,o1+k*3+2,none⟩=some (.slice qA qx.length qc)∧w'.cell? ⟨b2,o2+k*3,none⟩=some (.int .i64 qr)∧w'.cell? ⟨b2,o2+k*3+1,none⟩=some (.int .i64 ql)∧w'.cell? ⟨b2,o2+k*3+2,none⟩=some (.slice pA qx.length pc)) (by kernel_rfl) ?_ (fun hHeld=>?_)
     ·exact⟨G1,G2,e1,e2,e3,f1,f2,f3⟩
     have bw:=(bR wr.heap.size wr).drew;have X1:=aH (HX1.out.then bw);have X2:=aH (HX2.out.then bw);have B1:=aH (Below.drew HB.out);clear bw G1 G2 e1 e2 e3 f1 f2 f3 HX1 HX2;generalize wr.drew=v0 at *;refine wk [.k 0 79,.k 1 80,.k 2 81,.k 3 82,.k 4 83,.k 5 84,.k 6 85,.k 7 86,.k 8 87,.k 9 88] (fun _ _ _ _ _ h=>h) hHeld ?_ (by kernel_rfl);repeat (refine .k (v:=?_) rfl (by kernel_rfl) ?_ ?_;rotate_left 1;(intro w h;go_simp<;>try rfl);try simp only[sp])
     refine .nil ?_;refine wQ 10 (some 89) rfl (fun K hK=>?_) (by kernel_rfl);go_simp;refine(Lg.same_any qr ql qA pA qc pc qx v0 X1.out X2.out).mono ?_;rintro e v1 ⟨rfl,hb⟩;have B2:=aH (bC B1.out hb);obtain⟨k1,k2,k3,k4,k5,k6,k7,k8⟩:=hHeld;have hH:=aI (kK hb k1) (aI (kK hb k2) (aI (kK hb k3) (aI (kK hb k4) (aI (kK hb k5) (aI (kK hb k6) (aI (kK hb k7) (kK hb k8)))))));clear k1 k2 k3 k4 k5 k6 k7 k8 hb X1 X2 B1;go_wp2_with fail;refine hK.out _ _ hH (fun hHeld=>?_);clear hK K;clear hH;(try simp only[sp]);refine wk [.k 11 90] (fun _ _ _ _ _ h=>h) hHeld ?_ (by kernel_rfl);repeat (refine .k (v:=?_) rfl (by kernel_rfl) ?_ ?_;rotate_left 1;(intro w h;go_simp<;>try rfl);try simp only[sp])
     refine .nil ?_;refine wD (by kernel_rfl) ?_;clear hHeld;go_wp2
     go_roundw
     case rel=>exact⟨k+1,by omega,num_i (by omega),aH B2.out⟩
     case measure=>simp[intOf];omega
    ·obtain rfl:k=ll.length:=(by omega);obtain⟨wA,hwA⟩:∃wA,wA=wr:=⟨_,rfl⟩;have HBA:=aH (show Below w0.heap.size w0 wA by rw[hwA];exact HB.out);go_wp2_with fail;rw[←hwA];clear hwA HB G1 G2
     go_loopw [7] (fun i wr=>∃k:Nat,k≤tl.length∧i=.int .i64 k∧Hid (Below w0.heap.size w0 wr)) (fun i _=>tl.length-(intOf i).toNat)
     case atStart=>exact⟨0,Nat.zero_le _,rfl,aH HBA.out⟩
     case round=>
      clear HBA;obtain⟨k,hk,rfl,hbl⟩:=hrel;have HB:=aH hbl.out;clear hbl;have G1:=(HS1.out.below HB.out).2.2.1;have G2:=(HU1.out.below HB.out).2.2.1;dsimp only at G1 G2;by_cases hlt:k<tl.length
      ·obtain⟨b1,o1,rfl,hb1,hc1,hcell1⟩:=tip_cells (HS.out.then HB.out).t (by dsimp only;omega);obtain⟨b2,o2,rfl,hb2,hc2,hcell2⟩:=tip_cells (HU.out.then HB.out).t (by dsimp only;omega);obtain⟨e1,e2⟩:=hcell1 k hlt;obtain⟨f1,f2⟩:=hcell2 k hlt;dsimp only at e1 e2 f1 f2;clear hcell1 hcell2;generalize tl.getD k (0,0)=q at *;obtain⟨qa,qb⟩:=q;dsimp only at e1 e2 f1 f2;go_wp2_with fail;go_quiet (fail);go_wp2
       go_roundw
       case rel=>exact⟨k+1,by omega,num_i (by omega),aH (below_drewN HB.out _)⟩
       case measure=>simp[intOf];omega
      ·obtain rfl:k=tl.length:=(by omega);go_wp2
       go_ret
       exact⟨rfl,bC HB0.out HB.out⟩
theorem same16_m (m n:Md) (hd:m.d.ab=n.d.ab) (hs:m.s.ab=n.s.ab) (ho:m.o=n.o) (w:World) (hm:m.In w w.heap.size) (hn:n.In w w.heap.size):Calls Tryz.prog 21 #[m.v,n.v] w fun e w'=>e=.returned (.bool true)∧Below w.heap.size w w':=by
 obtain⟨w0,hw0⟩:∃w0,w0=(w.alloc (.cells m.ob 43)).alloc (.cells n.ob 43):=⟨_,rfl⟩;have z1:(w.alloc (.cells m.ob 43)).heap.size=w.heap.size+1:=by simp
 have HB0:=aH (show Below w.heap.size w w0 by rw[hw0];exact bL (bL (bR _ _) _) _);have HM:=aH (hm.then HB0.out);have HN:=aH (hn.then HB0.out);have HR1:=aH (show Row w0 w.heap.size [.slice m.d.bA m.d.bn m.d.bc,.slice m.d.pA m.d.pn m.d.pc,.slice m.d.rA m.d.rn m.d.rc,.int .i64 m.d.arms,.slice m.s.cA m.s.cl.length m.s.cc,.slice m.s.lA m.s.ll.length m.s.lc,.slice m.s.tA m.s.tl.length m.s.tc,.int .i64 m.s.st,.int .i64 m.s.inn,.int .i64 m.s.out,.slice m.oA m.o.length m.oc]by rw[hw0];exact(Row.new w _ _ _ rfl).below (bL (bR _ _) _));have HR2:=aH (show Row w0 (w.heap.size+1) [.slice n.d.bA n.d.bn n.d.bc,.slice n.d.pA n.d.pn n.d.pc,.slice n.d.rA n.d.rn n.d.rc,.int .i64 n.d.arms,.slice n.s.cA n.s.cl.length n.s.cc,.slice n.s.lA n.s.ll.length n.s.lc,.slice n.s.tA n.s.tl.length n.s.tc,.int .i64 n.s.st,.int .i64 n.s.inn,.int .i64 n.s.out,.slice n.oA n.o.length n.oc]by rw[hw0,←z1];exact Row.new (w.alloc (.cells m.ob 43)) _ _ _ rfl);have HS1:=aH (fun V (h:Below w0.heap.size w0 V)=>same_s m.s n.s hs V (HM.out.s.then h) (HN.out.s.then h));have HS2:=aH (fun V (h:Below w0.heap.size w0 V)=>(sameB _ _ m.o n.o V (two_of (HM.out.o.then h)) (two_of (HN.out.o.then h))).mono (R':=fun e w'=>e=.returned (.bool true)∧Below V.heap.size V w') fun e w' h=>⟨by rw[h.1,dT ho],h.2⟩);have HS3:=aH (fun V (h:Below w0.heap.size w0 V)=>sameDeck16 m.d n.d hd V (HM.out.d.then h) (HN.out.d.then h));clear z1 hm hn hd hs ho;go_enter Tryz.func21,Tryz.ntmps21
 go_upto_region 1 with fail
 rw[←hw0];clear hw0;have g0:=HR1.out.g 0 rfl;have g1:=HR1.out.g 1 rfl;have g2:=HR1.out.g 2 rfl;have g3:=HR1.out.g 3 rfl;have g4:=HR1.out.g 4 rfl;have g5:=HR1.out.g 5 rfl;have g6:=HR1.out.g 6 rfl;have g7:=HR1.out.g 7 rfl;have g8:=HR1.out.g 8 rfl;have g9:=HR1.out.g 9 rfl;have g10:=HR1.out.g 10 rfl;have f0:=HR2.out.g 0 rfl;have f1:=HR2.out.g 1 rfl;have f2:=HR2.out.g 2 rfl;have f3:=HR2.out.g 3 rfl;have f4:=HR2.out.g 4 rfl;have f5:=HR2.out.g 5 rfl;have f6:=HR2.out.g 6 rfl;have f7:=HR2.out.g 7 rfl;have f8:=HR2.out.g 8 rfl;have f9:=HR2.out.g 9 rfl;have f10:=HR2.out.g 10 rfl;go_wp2_with fail;refine(HS1.out w0 (bR _ _)).mono ?_;rintro e w1 ⟨rfl,hb⟩;have HB1:=aH hb;clear hb g0 g1 g2 g3 g4 g5 g6 g7 g8 g9 g10 f0 f1 f2 f3 f4 f5 f6 f7 f8 f9 f10;obtain HR11:=aH (HR1.out.below HB1.out);obtain HR21:=aH (HR2.out.below HB1.out);have g0:=HR11.out.g 0 rfl;have g1:=HR11.out.g 1 rfl;have g2:=HR11.out.g 2 rfl;have g3:=HR11.out.g 3 rfl;have g4:=HR11.out.g 4 rfl;have g5:=HR11.out.g 5 rfl;have g6:=HR11.out.g 6 rfl;have g7:=HR11.out.g 7 rfl;have g8:=HR11.out.g 8 rfl;have g9:=HR11.out.g 9 rfl;have g10:=HR11.out.g 10 rfl;have f0:=HR21.out.g 0 rfl;have f1:=HR21.out.g 1 rfl;have f2:=HR21.out.g 2 rfl;have f3:=HR21.out.g 3 rfl;have f4:=HR21.out.g 4 rfl;have f5:=HR21.out.g 5 rfl;have f6:=HR21.out.g 6 rfl;have f7:=HR21.out.g 7 rfl;have f8:=HR21.out.g 8 rfl;have f9:=HR21.out.g 9 rfl;have f10:=HR21.out.g 10 rfl;go_wp2_with fail;refine(HS2.out w1 HB1.out).mono ?_;rintro e w2 ⟨rfl,hb⟩;have HB2:=aH (bC HB1.out hb);clear hb g0 g1 g2 g3 g4 g5 g6 g7 g8 g9 g10 f0 f1 f2 f3 f4 f5 f6 f7 f8 f9 f10;obtain HR12:=aH (HR1.out.below HB2.out);obtain HR22:=aH (HR2.out.below HB2.out);have g0:=HR12.out.g 0 rfl;have g1:=HR12.out.g 1 rfl;have g2:=HR12.out.g 2 rfl;have g3:=HR12.out.g 3 rfl;have g4:=HR12.out.g 4 rfl
 have g5:=HR12.out.g 5 rfl;have g6:=HR12.out.g 6 rfl;have g7:=HR12.out.g 7 rfl;have g8:=HR12.out.g 8 rfl;have g9:=HR12.out.g 9 rfl;have g10:=HR12.out.g 10 rfl;have f0:=HR22.out.g 0 rfl;have f1:=HR22.out.g 1 rfl;have f2:=HR22.out.g 2 rfl;have f3:=HR22.out.g 3 rfl;have f4:=HR22.out.g 4 rfl;have f5:=HR22.out.g 5 rfl;have f6:=HR22.out.g 6 rfl;have f7:=HR22.out.g 7 rfl;have f8:=HR22.out.g 8 rfl;have f9:=HR22.out.g 9 rfl;have f10:=HR22.out.g 10 rfl;go_wp2_with fail;refine(HS3.out w2 HB2.out).mono ?_;rintro e w3 ⟨rfl,hb⟩;go_wp2
 go_ret
 exact⟨rfl,bC HB0.out (bC HB2.out hb)⟩
end Go.Proofs.YtmecohdedghiaaaGreatDoor
