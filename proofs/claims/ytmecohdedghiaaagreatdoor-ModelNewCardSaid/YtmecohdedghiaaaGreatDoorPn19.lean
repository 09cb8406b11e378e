/- Where the lists of a stock lie. -/
import Derived.Test.YtmecohdedghiaaaGreatDoorPn00
import Derived.Test.YtmecohdedghiaaaGreatDoorPn18
import Derived.Test.YtmecohdedghiaaaGreatDoorPn14
set_option maxRecDepth 100000
set_option maxHeartbeats 8000000
namespace Go.Proofs.YtmecohdedghiaaaGreatDoor
open Go.RowKit
def okW (a f:Ab) (i:Nat):Bool:=decide (a.c.getD i ce0).Right&&decide ((a.c.getD i ce0).a=(f.c.getD i ce0).a)&&(Lg.rgB (a.l.getD i (0,0,[])).1 (a.l.getD i (0,0,[])).2.1 (a.l.getD i (0,0,[])).2.2&&decide ((a.l.getD i (0,0,[])).1=(f.l.getD i (0,0,[])).1)&&decide ((a.l.getD i (0,0,[])).2.1=(a.c.getD i ce0).c))
def rwB (a f:Ab):Bool:=decide (a.c.length=f.c.length)&&decide (a.l.length=f.l.length)&&(List.range a.c.length).all (okW a f)
theorem all_no'' (n:Nat) (p:Nat→Bool) (k:Nat) (hk:k<n) (h:p k=false):(List.range n).all p=false:=by
 rw[←Bool.not_eq_true,List.all_eq_true];intro hh;rw[hh k (List.mem_range.2 hk)]at h
 cases h
theorem all_yes'' (n:Nat) (p:Nat→Bool) (h:∀k,k<n→p k=true):(List.range n).all p=true:=by
 rw[List.all_eq_true];exact fun k hk=>h k (List.mem_range.1 hk)
theorem ab_l (s:Stk) (i:Nat) (h:i<s.ll.length):s.ab.l.getD i (0,0,[])=((s.ll.getD i lo0).r,(s.ll.getD i lo0).l,(s.ll.getD i lo0).xs):=by
 show(s.ll.map Lo.ab).getD i (0,0,[])=_;rw[List.getD_eq_getElem?_getD,List.getElem?_map,List.getD_eq_getElem?_getD,List.getElem?_eq_getElem h];rfl
theorem rightWells_any (s f:Stk) (w:World) (hs:s.In w w.heap.size) (hf:f.In w w.heap.size) (hff:f.cl.length=f.ll.length):Calls Tryz.prog 107 #[s.v,f.v] w fun e w'=>e=.returned (.bool (rwB s.ab f.ab))∧Below w.heap.size w w':=by
 obtain⟨w0,hw0⟩:∃w0,w0=(w.alloc s.ob).alloc f.ob:=⟨_,rfl⟩;have HB0:=aH (show Below w.heap.size w w0 by rw[hw0];exact bL (bL (bR _ _) _) _);have HS0:=aH (hs.then HB0.out);have HS1:=aH (show SkAt w0 w.heap.size s by rw[hw0];exact(Cells6.new w _ _ _ _ _ _ _).below (bL (bR _ _) _));have HF1:=aH (show SkAt w0 (w.heap.size+1) f by
  have h:=Cells6.new (w.alloc s.ob) 41 (.slice f.cA f.cl.length f.cc) (.slice f.lA f.ll.length f.lc) (.slice f.tA f.tl.length f.tc) (.int .i64 f.st) (.int .i64 f.inn) (.int .i64 f.out);rw[←hw0,show(w.alloc s.ob).heap.size=w.heap.size+1 by simp]at h;exact h)
 have HT0:=aH (hf.then HB0.out);have hE:rwB s.ab f.ab=(decide (s.cl.length=f.cl.length)&&decide (s.ll.length=f.ll.length)&&(List.range s.cl.length).all (okW s.ab f.ab)):=by
  unfold rwB;show(decide (s.cl.length=f.cl.length)&&decide ((s.ll.map Lo.ab).length=(f.ll.map Lo.ab).length)&&_)=_;rw[List.length_map,List.length_map];rfl
 have HE:=aH hE;have HSZ:=aH (show w0.heap.size=w.heap.size+2 by rw[hw0];simp);obtain⟨g0,g1,g2,g3,g4,g5,_⟩:=HS1.out;obtain⟨f0,f1,f2,f3,f4,f5,_⟩:=HF1.out;rw[hw0]at g0 g1 g2 g3 g4 g5 f0 f1 f2 f3 f4 f5;generalize hr:rwB s.ab f.ab=r at *;clear hr hE hs hf;have HABL:=aH (ab_l s);have HABF:=aH (ab_l f);have HAC:=aH (show s.ab.c=s.cl from rfl);have HFC:=aH (show f.ab.c=f.cl from rfl);have HOW:=aH (fun i=>show okW s.ab f.ab i=(decide (s.ab.c.getD i ce0).Right&&decide ((s.ab.c.getD i ce0).a=(f.ab.c.getD i ce0).a)&&(Lg.rgB (s.ab.l.getD i (0,0,[])).1 (s.ab.l.getD i (0,0,[])).2.1 (s.ab.l.getD i (0,0,[])).2.2&&decide ((s.ab.l.getD i (0,0,[])).1=(f.ab.l.getD i (0,0,[])).1)&&decide ((s.ab.l.getD i (0,0,[])).2.1=(s.ab.c.getD i ce0).c)))from rfl);rw[HAC.out,HFC.out]at HOW;generalize okW s.ab f.ab=ok at *;generalize s.ab.l=abl at *;generalize f.ab.l=abf at *;clear HAC HFC;obtain⟨cA,cc,cl,lA,lc,ll,tA,tc,tl,st,inn,out⟩:=s;obtain⟨cA2,cc2,cl2,lA2,lc2,ll2,tA2,tc2,tl2,st2,inn2,out2⟩:=f;dsimp only at *;by_cases h1:cl.length=cl2.length
 case neg=>
  have hr:r=false:=by rw[HE.out,dF h1];rfl
  subst hr;have h1':((cl.length:Int) != (cl2.length:Int))=true:=by simp;omega
  clear h1 hff;go_enter Tryz.func107,Tryz.ntmps107;go_wp2
  go_ret
  exact⟨rfl,by rw[←hw0];exact HB0.out⟩
 by_cases h2:ll.length=ll2.length
 case neg=>
  have hr:r=false:=by rw[HE.out,dF h2,Bool.and_false];rfl
  subst hr;have h1':((cl.length:Int) != (cl2.length:Int))=false:=by simp;omega
  have h2':((ll.length:Int) != (ll2.length:Int))=true:=by simp;omega
  clear h1 h2 hff;go_enter Tryz.func107,Tryz.ntmps107;go_wp2
  go_ret
  exact⟨rfl,by rw[←hw0];exact HB0.out⟩
 rw[dT h1,dT h2,Bool.true_and,Bool.true_and]at HE;have HL1:=aH h1;have HL2:=aH h2;have HL3:=aH hff;have hfl1:((cl.length:Int) != (cl2.length:Int))=false:=by simp;omega
 have hfl2:((ll.length:Int) != (ll2.length:Int))=false:=by simp;omega
 have hcl9:=HS0.out.c.2.2;have HNO:=aH (fun k h=>all_no'' cl.length ok k h);have HYES:=aH (fun h=>all_yes'' cl.length ok h);clear h1 h2 hff;go_enter Tryz.func107,Tryz.ntmps107;go_wp2;rw[←hw0];clear hw0 hfl1 hfl2 g0 g1 g2 g3 g4 g5 f0 f1 f2 f3 f4 f5
 go_loopw [27] (fun i wr=>∃k:Nat,i=.int .i64 k∧k≤cl.length∧Hid (∀j,j<k→ok j=true)∧Hid (Below w0.heap.size w0 wr)) (fun i _=>cl.length-(intOf i).toNat)
 case atStart=>exact⟨0,rfl,Nat.zero_le _,aH (fun j hj=>absurd hj (Nat.not_lt_zero _)),aH (bR _ _)⟩
 case round=>
  obtain⟨k,rfl,hk,hok,hb⟩:=hrel;have HOK:=aH hok.out;have HBR:=aH hb.out;clear hok hb;by_cases hlt:k<cl.length
  ·obtain⟨b,off,rfl,hb,hbc,hcell⟩:=ce_cells (HS0.out.then HBR.out).c (by dsimp only;omega);obtain⟨c0,c1,c2⟩:=hcell k hlt;obtain⟨bf,of,rfl,hbf,hbcf,hcellf⟩:=ce_cells (HT0.out.then HBR.out).c (by have:=HL1.out;dsimp only;omega);obtain⟨cf,_,_⟩:=hcellf k (by have:=HL1.out;dsimp only;omega);obtain⟨bl,ol,rfl,hbl,hbcl,hcelll⟩:=lo_cells (HS0.out.then HBR.out).l (by have:=HL1.out;have:=HL2.out;have:=HL3.out;dsimp only;omega);obtain⟨l0,l1,l2⟩:=hcelll k (by have:=HL1.out;have:=HL2.out;have:=HL3.out;dsimp only;omega);obtain⟨bg,og,rfl,hbg,hbcg,hcellg⟩:=lo_cells (HT0.out.then HBR.out).l (by have:=HL1.out;have:=HL3.out;dsimp only;omega);obtain⟨m0,_,_⟩:=hcellg k (by have:=HL1.out;have:=HL3.out;dsimp only;omega);have HLX:=aH ((HS0.out.then HBR.out).x _ (getD_mem' ll k lo0 (by have:=HL1.out;have:=HL2.out;have:=HL3.out;omega)));have hab1:=HABL.out k (by have:=HL1.out;have:=HL2.out;have:=HL3.out;omega);have hab2:=HABF.out k (by have:=HL1.out;have:=HL3.out;omega);have hok:=HOW.out k;rw[hab1,hab2]at hok;dsimp only at c0 c1 c2 cf l0 l1 l2 m0 hok HLX;have hkl:k<ll.length:=(by have:=HL1.out;have:=HL2.out;have:=HL3.out;omega);have hkg:k<ll2.length:=(by have:=HL1.out;have:=HL3.out;omega);have hkf:k<cl2.length:=(by have:=HL1.out;omega);have hll9:=HS0.out.l.2.2;dsimp only at hll9;clear hcell hcellf hcelll hcellg hab1 hab2;generalize cl.getD k ce0=qc at *;generalize (cl2.getD k ce0).a=capf at *;generalize ll.getD k lo0=ql at *;generalize (ll2.getD k lo0).r=rf at *;obtain⟨qa,qb,qv⟩:=qc;obtain⟨qr,qll,qA,qlc,qx⟩:=ql;dsimp only at *;have hw0s:w.heap.size+1<w0.heap.size:=(by have:=HSZ.out;omega);have G1:=aH ((HS1.out.below HBR.out).2.1);have G2:=aH ((HF1.out.below HBR.out).1);have G3:=aH ((HF1.out.below HBR.out).2.1);have HNOk:=aH (HNO.out k hlt);have HOKk:=aH hok;clear hok
   have hCl:=aH (show wr.heap.size<(wr.alloc (.cells #[.int .i64 qa,.int .i64 qb,.int .i64 qv] 70)).heap.size by simp);have hba:=bL (bR wr.heap.size wr) (.cells #[.int .i64 qa,.int .i64 qb,.int .i64 qv] 70);have HX1:=aH (show ∀w1,Below (wr.alloc (.cells #[.int .i64 qa,.int .i64 qb,.int .i64 qv] 70)).heap.size (wr.alloc (.cells #[.int .i64 qa,.int .i64 qb,.int .i64 qv] 70)) w1→(w1.cell? ⟨wr.heap.size,0,none⟩=some (.int .i64 qa)∧w1.cell? ⟨wr.heap.size,1,none⟩=some (.int .i64 qb)∧w1.cell? ⟨wr.heap.size,2,none⟩=some (.int .i64 qv)∧w1.cell? ⟨w.heap.size+1,0,none⟩=some (.slice (some ⟨bf,of,none⟩) cl2.length cc2)∧w1.cell? ⟨bf,of+k*3,none⟩=some (.int .i64 capf))from by
    intro w1 hb;refine⟨kK hb ?_,kK hb ?_,kK hb ?_,kK hb (kK hba G2.out),kK hb (kK hba cf)⟩;all_goals simp[go_sem])
   have HM1:=aH (show ∀w1,Below (wr.alloc (.cells #[.int .i64 qa,.int .i64 qb,.int .i64 qv] 70)).heap.size (wr.alloc (.cells #[.int .i64 qa,.int .i64 qb,.int .i64 qv] 70)) w1→(w1.cell? ⟨w.heap.size,1,none⟩=some (.slice (some ⟨bl,ol,none⟩) ll.length lc)∧w1.cell? ⟨bl,ol+k*3,none⟩=some (.int .i64 qr)∧w1.cell? ⟨bl,ol+k*3+1,none⟩=some (.int .i64 qll)∧w1.cell? ⟨bl,ol+k*3+2,none⟩=some (.slice qA qx.length qlc)∧w1.cell? ⟨w.heap.size+1,1,none⟩=some (.slice (some ⟨bg,og,none⟩) ll2.length lc2)∧w1.cell? ⟨bg,og+k*3,none⟩=some (.int .i64 rf))from fun w1 hb=>⟨kK hb (kK hba G1.out),kK hb (kK hba l0),kK hb (kK hba l1),kK hb (kK hba l2),kK hb (kK hba G3.out),kK hb (kK hba m0)⟩);have g0:=(HS1.out.below HBR.out).1;have HLA:=aH (HLX.out.then hba);have HBA:=aH (bC HBR.out hba);obtain⟨Cb,hCb⟩:∃Cb,wr.heap.size=Cb:=⟨_,rfl⟩;clear l0 l1 l2 m0 cf G1 G2 G3 hw0s
   go_upto_region 6 with fail
   generalize wr.alloc (.cells #[.int .i64 qa,.int .i64 qb,.int .i64 qv] 70)=V at *;rw[hCb]at HX1 hCl;(try simp only[hCb]);clear hCb c0 c1 c2 hba g0;obtain⟨x0,x1,x2,x3,x4⟩:=HX1.out V.drew (bR _ _).drew;have hcfc:((k:Int))<(cl2.length:Int):=(by omega);by_cases hright:(Cel.Ce.mk qa qb qv).Right
   ·have HRT:=aH (fun w=>Cel.right_t hright w);rw[dT hright,Bool.true_and]at HOKk;clear hright;refine wp_region_held_drew (S:=fun w'=>w'.cell? ⟨Cb,0,none⟩=some (.int .i64 qa)∧w'.cell? ⟨Cb,1,none⟩=some (.int .i64 qb)∧w'.cell? ⟨Cb,2,none⟩=some (.int .i64 qv)∧w'.cell? ⟨w.heap.size+1,0,none⟩=some (.slice (some ⟨bf,of,none⟩) cl2.length cc2)∧w'.cell? ⟨bf,of+k*3,none⟩=some (.int .i64 capf)) (by kernel_rfl) ?_ (fun hHeld=>?_)
    ·exact⟨x0,x1,x2,x3,x4⟩
    have bw:=(bR V.heap.size V).drew;have HBA:=aH (bC HBA.out bw);have HLA:=aH (HLA.out.then bw);have BV:=aH bw;clear bw x0 x1 x2 x3 x4;generalize V.drew=v0 at *;refine wk [.k 0 32] (fun _ _ _ _ _ h=>h) hHeld ?_ (by kernel_rfl);repeat (refine .k (v:=?_) rfl (by kernel_rfl) ?_ ?_;rotate_left 1;(intro w h;go_simp<;>try rfl);try simp only[sp])
    refine .nil ?_;refine wQ 1 (some 33) rfl (fun K hK=>?_) (by kernel_rfl);go_simp;refine(HRT.out _).mono ?_;rintro e v1 ⟨rfl,hb⟩;have HBA:=aH (bC HBA.out hb);have HLA:=aH (HLA.out.then hb);have BV:=aH (bC BV.out hb);clear hb;go_wp2_with fail;refine hK.out _ _ (HX1.out v1 BV.out) (fun hHeld=>?_);clear hK K;(try simp only[sp]);refine wk [.k 2 34,.k 3 35,.k 4 36,.k 5 37,.k 6 38,.k 7 39,.k 8 40,.k 9 41,.k 10 42,.k 11 43,.k 12 44,.k 13 45] (fun _ _ _ _ _ h=>h) hHeld ?_ (by kernel_rfl);repeat (refine .k (v:=?_) rfl (by kernel_rfl) ?_ ?_;rotate_left 1;(intro w h;go_simp<;>try rfl);try simp only[sp])
    refine .nil ?_;refine wD (by kernel_rfl) ?_;clear hHeld;by_cases hcap:qa=capf
    ·rw[dT hcap,Bool.true_and]at HOKk;obtain⟨y1,y2,y3,y4,y5,y6⟩:=HM1.out v1 BV.out;obtain⟨z0,z1,z2,z3,z4⟩:=HX1.out v1 BV.out;have hba:=bL (bR v1.heap.size v1) (.cells #[.int .i64 qr,.int .i64 qll,.slice qA qx.length qlc] 115);have HX2:=aH (show ∀w1,Below (v1.alloc (.cells #[.int .i64 qr,.int .i64 qll,.slice qA qx.length qlc] 115)).heap.size (v1.alloc (.cells #[.int .i64 qr,.int .i64 qll,.slice qA qx.length qlc] 115)) w1→(w1.cell? ⟨v1.heap.size,0,none⟩=some (.int .i64 qr)∧w1.cell? ⟨v1.heap.size,1,none⟩=some (.int .i64 qll)∧w1.cell? ⟨v1.heap.size,2,none⟩=some (.slice qA qx.length qlc)∧w1.cell? ⟨w.heap.size+1,1,none⟩=some (.slice (some ⟨bg,og,none⟩) ll2.length lc2)∧w1.cell? ⟨bg,og+k*3,none⟩=some (.int .i64 rf)∧w1.cell? ⟨Cb,2,none⟩=some (.int .i64 qv))from by
      intro w1 hb;refine⟨kK hb ?_,kK hb ?_,kK hb ?_,kK hb (kK hba y5),kK hb (kK hba y6),kK hb (kK hba z2)⟩;all_goals simp[go_sem])
     have HLA:=aH (HLA.out.then hba);have HBA:=aH (bC HBA.out hba);have hlv:bl<v1.heap.size:=wB _ _ y2
     go_upto_region 9 with fail
     generalize hV3:v1.alloc (.cells #[.int .i64 qr,.int .i64 qll,.slice qA qx.length qlc] 115)=V3 at *;clear hV3;obtain⟨Lb,hLb⟩:∃Lb,v1.heap.size=Lb:=⟨_,rfl⟩;rw[hLb]at HX2;(try simp only[hLb]);clear hLb y1 y2 y3 y4 y5 y6 z0 z1 z2 z3 z4 hba hlv BV;have HRL:=aH (fun w h=>Lg.right_any' qr qll qA qlc qx w h);obtain⟨rg,hrg⟩:∃x,Lg.rgB qr qll qx=x:=⟨_,rfl⟩;rw[hrg]at HOKk HRL;clear hrg hcap
     cases rg
     case false=>
      have hr:r=false:=(by rw[HE.out,HNOk.out (by rw[HOKk.out];rfl)]);subst hr;obtain⟨x0,x1,x2,x3,x4,x5⟩:=HX2.out V3.drew (bR _ _).drew;refine wp_region_held_drew (S:=fun w'=>w'.cell? ⟨Lb,0,none⟩=some (.int .i64 qr)∧w'.cell? ⟨Lb,1,none⟩=some (.int .i64 qll)∧w'.cell? ⟨Lb,2,none⟩=some (.slice qA qx.length qlc)∧w'.cell? ⟨w.heap.size+1,1,none⟩=some (.slice (some ⟨bg,og,none⟩) ll2.length lc2)∧w'.cell? ⟨bg,og+k*3,none⟩=some (.int .i64 rf)∧w'.cell? ⟨Cb,2,none⟩=some (.int .i64 qv)) (by kernel_rfl) ?_ (fun hHeld=>?_)
      ·exact⟨x0,x1,x2,x3,x4,x5⟩
      have bw:=(bR V3.heap.size V3).drew;have HBA:=aH (bC HBA.out bw);have HLA:=aH (HLA.out.then bw);have BV:=aH bw;clear bw x0 x1 x2 x3 x4 x5;generalize V3.drew=v4 at *;refine wk [.k 0 51] (fun _ _ _ _ _ h=>h) hHeld ?_ (by kernel_rfl);repeat (refine .k (v:=?_) rfl (by kernel_rfl) ?_ ?_;rotate_left 1;(intro w h;go_simp<;>try rfl);try simp only[sp])
      refine .nil ?_;refine wQ 1 (some 52) rfl (fun K hK=>?_) (by kernel_rfl);go_simp;refine(HRL.out _ HLA.out).mono ?_;rintro e v5 ⟨rfl,hb⟩;have HBA:=aH (bC HBA.out hb);have BV:=aH (bC BV.out hb);clear hb HLA;go_wp2_with fail;refine hK.out _ _ (HX2.out v5 BV.out) (fun hHeld=>?_);clear hK K;(try simp only[sp]);refine wk [.k 2 53,.k 3 54,.u 4 55,.u 5 56,.u 6 57,.u 7 58,.u 8 59,.u 9 60,.u 10 61,.u 11 62,.u 12 63,.k 13 64,.k 14 65,.u 15 66,.u 16 67,.u 17 68,.u 18 69,.u 19 70,.k 20 71] (fun _ _ _ _ _ h=>h) hHeld ?_ (by kernel_rfl);repeat (first|(refine .k (v:=?_) rfl (by kernel_rfl) ?_ ?_;rotate_left 1;(intro w h;go_simp<;>try rfl);try simp only[sp])|(refine .u rfl (by kernel_rfl) ?_;try simp only[sp]))
      refine .nil ?_;refine wD (by kernel_rfl) ?_;clear hHeld;go_wp2
      go_ret
      exact⟨rfl,bC HB0.out HBA.out⟩
     case true=>
      by_cases hroom:qr=rf
      ·rw[dT hroom,Bool.true_and,Bool.true_and]at HOKk;have hroom':(qr != rf)=false:=(by simpa using hroom);clear hroom;obtain⟨x0,x1,x2,x3,x4,x5⟩:=HX2.out V3.drew (bR _ _).drew;refine wp_region_held_drew (S:=fun w'=>w'.cell? ⟨Lb,0,none⟩=some (.int .i64 qr)∧w'.cell? ⟨Lb,1,none⟩=some (.int .i64 qll)∧w'.cell? ⟨Lb,2,none⟩=some (.slice qA qx.length qlc)∧w'.cell? ⟨w.heap.size+1,1,none⟩=some (.slice (some ⟨bg,og,none⟩) ll2.length lc2)∧w'.cell? ⟨bg,og+k*3,none⟩=some (.int .i64 rf)∧w'.cell? ⟨Cb,2,none⟩=some (.int .i64 qv)) (by kernel_rfl) ?_ (fun hHeld=>?_)
       ·exact⟨x0,x1,x2,x3,x4,x5⟩
       have bw:=(bR V3.heap.size V3).drew;have HBA:=aH (bC HBA.out bw);have HLA:=aH (HLA.out.then bw);have BV:=aH bw;clear bw x0 x1 x2 x3 x4 x5;generalize V3.drew=v4 at *;refine wk [.k 0 51] (fun _ _ _ _ _ h=>h) hHeld ?_ (by kernel_rfl);repeat (refine .k (v:=?_) rfl (by kernel_rfl) ?_ ?_;rotate_left 1;(intro w h;go_simp<;>try rfl);try simp only[sp])
       refine .nil ?_;refine wQ 1 (some 52) rfl (fun K hK=>?_) (by kernel_rfl);go_simp;refine(HRL.out _ HLA.out).mono ?_;rintro e v5 ⟨rfl,hb⟩;have HBA:=aH (bC HBA.out hb);have BV:=aH (bC BV.out hb);clear hb HLA;go_wp2_with fail;refine hK.out _ _ (HX2.out v5 BV.out) (fun hHeld=>?_);clear hK K;(try simp only[sp]);refine wk [.k 2 53,.k 3 54,.k 4 55,.k 5 56,.k 6 57,.k 7 58,.k 8 59,.k 9 60,.k 10 61,.k 11 62,.k 12 63,.k 13 64,.k 14 65,.k 15 66,.k 16 67,.k 17 68,.k 18 69,.k 19 70,.k 20 71] (fun _ _ _ _ _ h=>h) hHeld ?_ (by kernel_rfl);repeat (refine .k (v:=?_) rfl (by kernel_rfl) ?_ ?_;rotate_left 1;(intro w h;go_simp<;>try rfl);try simp only[sp])
       refine .nil ?_;refine wD (by kernel_rfl) ?_;clear hHeld;by_cases hver:qll=qv
       ·have hv':(qll != qv)=false:=(by simpa using hver);have hyes:=aH (show ok k=true by rw[HOKk.out];exact dT hver);clear hver;go_wp2
        go_roundw
        case rel=>exact⟨k+1,num_i (by omega),by omega,aH (fun j hj=>by
         by_cases h:j=k
         ·subst h;exact hyes.out
         ·exact HOK.out j (by omega)),HBA⟩
        case measure=>simp[intOf];omega
       ·have hv':(qll != qv)=true:=(by simpa using hver);have hr:r=false:=(by rw[HE.out,HNOk.out (by rw[HOKk.out];exact dF hver)]);subst hr;clear hver;go_wp2
        go_ret
        exact⟨rfl,bC HB0.out HBA.out⟩
      ·have hr:r=false:=(by rw[HE.out,HNOk.out (by rw[HOKk.out,dF hroom];rfl)]);have hroom':(qr != rf)=true:=(by simpa using hroom);subst hr;clear hroom;obtain⟨x0,x1,x2,x3,x4,x5⟩:=HX2.out V3.drew (bR _ _).drew;refine wp_region_held_drew (S:=fun w'=>w'.cell? ⟨Lb,0,none⟩=some (.int .i64 qr)∧w'.cell? ⟨Lb,1,none⟩=some (.int .i64 qll)∧w'.cell? ⟨Lb,2,none⟩=some (.slice qA qx.length qlc)∧w'.cell? ⟨w.heap.size+1,1,none⟩=some (.slice (some ⟨bg,og,none⟩) ll2.length lc2)∧w'.cell? ⟨bg,og+k*3,none⟩=some (.int .i64 rf)∧w'.cell? ⟨Cb,2,none⟩=some (.int .i64 qv)) (by kernel_rfl) ?_ (fun hHeld=>?_)
       ·exact⟨x0,x1,x2,x3,x4,x5⟩
       have bw:=(bR V3.heap.size V3).drew;have HBA:=aH (bC HBA.out bw);have HLA:=aH (HLA.out.then bw);have BV:=aH bw;clear bw x0 x1 x2 x3 x4 x5;generalize V3.drew=v4 at *;refine wk [.k 0 51] (fun _ _ _ _ _ h=>h) hHeld ?_ (by kernel_rfl);repeat (refine .k (v:=?_) rfl (by kernel_rfl) ?_ ?_;rotate_left 1;(intro w h;go_simp<;>try rfl);try simp only[sp])
       refine .nil ?_;refine wQ 1 (some 52) rfl (fun K hK=>?_) (by kernel_rfl);go_simp;refine(HRL.out _ HLA.out).mono ?_;rintro e v5 ⟨rfl,hb⟩;have HBA:=aH (bC HBA.out hb);have BV:=aH (bC BV.out hb);clear hb HLA;go_wp2_with fail;refine hK.out _ _ (HX2.out v5 BV.out) (fun hHeld=>?_);clear hK K;(try simp only[sp]);refine wk [.k 2 53,.k 3 54,.k 4 55,.k 5 56,.k 6 57,.k 7 58,.k 8 59,.k 9 60,.k 10 61,.k 11 62,.k 12 63,.k 13 64,.k 14 65,.u 15 66,.u 16 67,.u 17 68,.u 18 69,.u 19 70,.k 20 71] (fun _ _ _ _ _ h=>h) hHeld ?_ (by kernel_rfl);repeat (first|(refine .k (v:=?_) rfl (by kernel_rfl) ?_ ?_;rotate_left 1;(intro w h;go_simp<;>try rfl);try simp only[sp])|(refine .u rfl (by kernel_rfl) ?_;try simp only[sp]))
       refine .nil ?_;refine wD (by kernel_rfl) ?_;clear hHeld;go_wp2
       go_ret
       exact⟨rfl,bC HB0.out HBA.out⟩
    ·have hcap':(qa != capf)=true:=(by simpa using hcap);rw[dF hcap,Bool.false_and]at HOKk;have hr:r=false:=(by rw[HE.out,HNOk.out HOKk.out]);subst hr;clear hcap;go_wp2
     go_ret
     exact⟨rfl,bC HB0.out HBA.out⟩
   ·have HRT:=aH (fun w=>Cel.right_f hright w);rw[dF hright,Bool.false_and,Bool.false_and]at HOKk;have hr:r=false:=(by rw[HE.out,HNOk.out HOKk.out]);subst hr;clear hright;refine wp_region_held_drew (S:=fun w'=>w'.cell? ⟨Cb,0,none⟩=some (.int .i64 qa)∧w'.cell? ⟨Cb,1,none⟩=some (.int .i64 qb)∧w'.cell? ⟨Cb,2,none⟩=some (.int .i64 qv)∧w'.cell? ⟨w.heap.size+1,0,none⟩=some (.slice (some ⟨bf,of,none⟩) cl2.length cc2)∧w'.cell? ⟨bf,of+k*3,none⟩=some (.int .i64 capf)) (by kernel_rfl) ?_ (fun hHeld=>?_)
    ·exact⟨x0,x1,x2,x3,x4⟩
    have bw:=(bR V.heap.size V).drew;have HBA:=aH (bC HBA.out bw);have HLA:=aH (HLA.out.then bw);have BV:=aH bw;clear bw x0 x1 x2 x3 x4;generalize V.drew=v0 at *;refine wk [.k 0 32] (fun _ _ _ _ _ h=>h) hHeld ?_ (by kernel_rfl);repeat (refine .k (v:=?_) rfl (by kernel_rfl) ?_ ?_;rotate_left 1;(intro w h;go_simp<;>try rfl);try simp only[sp])
    refine .nil ?_;refine wQ 1 (some 33) rfl (fun K hK=>?_) (by kernel_rfl);go_simp;refine(HRT.out _).mono ?_;rintro e v1 ⟨rfl,hb⟩;have HBA:=aH (bC HBA.out hb);have HLA:=aH (HLA.out.then hb);have BV:=aH (bC BV.out hb);clear hb;go_wp2_with fail;refine hK.out _ _ (HX1.out v1 BV.out) (fun hHeld=>?_);clear hK K;(try simp only[sp]);refine wk [.k 2 34,.k 3 35,.u 4 36,.u 5 37,.u 6 38,.u 7 39,.u 8 40,.u 9 41,.u 10 42,.u 11 43,.u 12 44,.k 13 45] (fun _ _ _ _ _ h=>h) hHeld ?_ (by kernel_rfl);repeat (first|(refine .k (v:=?_) rfl (by kernel_rfl) ?_ ?_;rotate_left 1;(intro w h;go_simp<;>try rfl);try simp only[sp])|(refine .u rfl (by kernel_rfl) ?_;try simp only[sp]))
    refine .nil ?_;refine wD (by kernel_rfl) ?_;clear hHeld;go_wp2
    go_ret
    exact⟨rfl,bC HB0.out HBA.out⟩
  ·obtain rfl:k=cl.length:=(by omega);have hr:r=true:=(by rw[HE.out,HYES.out HOK.out]);subst hr;go_wp2
   go_ret
   exact⟨rfl,bC HB0.out HBR.out⟩
def plF (q:Pl) (k:Nat):List Cel.Ce:=(List.range k).map (cellA q)++List.replicate (plN q-k) ce0
theorem plF_len (q:Pl) (k:Nat) (h:k≤plN q):(plF q k).length=plN q:=by unfold plF;rw[List.length_append,List.length_map,List.length_range,List.length_replicate];omega
theorem plF_set (q:Pl) (k:Nat) (h:k<plN q):(plF q k).set k (cellA q k)=plF q (k+1):=by
 unfold plF;have hk:((List.range k).map (cellA q)).length=k:=by simp
 rw[List.set_append,if_neg (by omega),hk,Nat.sub_self,show plN q-k=(plN q-(k+1))+1 by omega,List.replicate_succ,List.set_cons_zero,List.range_succ,List.map_append,List.append_assoc];rfl
theorem getD_past (l:List Int) (k:Nat) (h:¬k<l.length):l.getD k 0=0:=by rw[List.getD_eq_getElem?_getD,List.getElem?_eq_none (by omega)];rfl
theorem cellsOf_any (q:Pl) (hq:plateB q=true) (hok:KP.ok q) (w:World) (hs:KI.IsL w w.heap.size (.slice q.sA q.sn q.sc) q.st):Calls Tryz.prog 95 #[q.v] w fun e w'=>∃v,e=.returned v∧KE.Own w' w.heap.size v (plC q)∧Below w.heap.size w w':=by
 have HS:=aH hs;have hsn:=hs.len;obtain⟨hN,hN1,hN2,hN3⟩:=plN_eq hq;have HSET:=aH (plF_set q);have HLEN:=aH (plF_len q);have HA:=aH (fun i=>show cellA q i=⟨q.cap,q.st.getD i 0,0⟩from rfl);have HR:=aH (fun i=>cellA_right hq i);have HFL:=aH (show plF q (plN q)=plC q by unfold plF plC;rw[Nat.sub_self];simp);have H0:=aH (show plF q 0=List.replicate (plN q) ce0 by unfold plF;simp);have HNEW:=aH (fun(a b:Int) (h:(Cel.Ce.mk a b 0).Right) (w:World)=>(show Calls Tryz.prog 158 #[.int .i64 a,.int .i64 b] w fun e w'=>e=.returned (.tuple #[.agg #[.int .i64 a,.int .i64 b,.int .i64 0],.int .i64 0])∧Below w.heap.size w w' by
  have:=Cel.new_any a b w;unfold Cel.newV Cel.newE at this;rw[if_pos h,if_pos h]at this;exact this))
 generalize plF q=pf at *;generalize plN q=n at *;generalize plC q=pc at *;generalize hcA:cellA q=cA at *;clear hs hq hcA;obtain⟨rows,cols,X,P,R,cap,sA,sn,sc,st⟩:=q;dsimp only at *;subst hsn;have hcapf:=hok.2.2.2.2.2;obtain⟨f1,f2,f3,f4,f5,f6⟩:=hok;dsimp only at *;obtain⟨i0,hi,hz0,hz1,hz2⟩:=info_parts KE.info;have hsf:=fun(w:World) (a:Addr) (m:Mode) (b:Nat)=>run_store_float (P:=Tryz.prog) (w:=w) (a:=a) (m:=m) .f64 b;have hmul:IntKind.i64.wrap (rows*cols)=(n:Int):=by rw[wrap_fits _ (by unfold fits;omega)];exact hN.symm
 have hmul2:Go.RowKit.wrap64 (rows*cols)=(n:Int):=by rw[←w64];exact hmul
 obtain⟨w0,hw0⟩:∃w0,w0=w.alloc (.cells #[.int .i64 rows,.int .i64 cols,.float .f64 X,.float .f64 P,.float .f64 R,.int .i64 cap,.slice sA st.length sc] 86):=⟨_,rfl⟩;have HB0:=aH (show Below w.heap.size w w0 by rw[hw0];exact bL (bR _ _) _);have HF:=aH (show ∀w1,Below w0.heap.size w0 w1→(w1.cell? ⟨w.heap.size,0,none⟩=some (.int .i64 rows)∧w1.cell? ⟨w.heap.size,1,none⟩=some (.int .i64 cols)∧w1.cell? ⟨w.heap.size,5,none⟩=some (.int .i64 cap)∧w1.cell? ⟨w.heap.size,6,none⟩=some (.slice sA st.length sc))from by
   intro w1 hb;refine⟨kK hb ?_,kK hb ?_,kK hb ?_,kK hb ?_⟩;all_goals (rw[hw0];simp[go_sem]))
 have hsz:w0.heap.size=w.heap.size+1:=by rw[hw0];simp
 have HSZ:=aH hsz;have HN:=aH hN;clear hsz hN;go_enter Tryz.func95,Tryz.ntmps95;go_wp2_with (at_make;refine wpList_make_full _ rfl _ _ 37 rfl (w.heap.size+1) 70 i0 (.agg #[.int .i64 0,.int .i64 0,.int .i64 0]) 3 Tryz.underlying37 hi hz0 hz1 _ _ _ _ n rfl rfl rfl rfl ?bytes ?maxLen (by simp) ?_)
 case bytes=>rw[hz2,show KE.bytes=24 from rfl];omega
 case maxLen=>unfold maxLen;omega
 intro w1 hown hgrow;rw[←hw0]at hgrow;clear hw0;have ho:KE.Own w1 (w.heap.size+1) (.slice (some ⟨w.heap.size+1,0,none⟩) n n) (pf 0):=by
  refine⟨?_,fun x hx=>?_⟩
  ·have e:=Lk.flat_made KE ce0 rfl n;rw[H0.out,←e,List.length_replicate];exact hown
  ·rw[H0.out,List.mem_replicate]at hx;rw[hx.2];exact⟨by decide,by decide,by decide⟩
 have HB1':=aH ((bR w0.heap.size w0).grown hgrow (nR _) (fun _ h=>nomatch h));have HB1:=aH (bC HB0.out HB1'.out);have HO1:=aH ho;obtain⟨g0,g1,g5,g6⟩:=HF.out w1 HB1'.out;clear hown hgrow ho hi hz0 hz1 hz2;go_wp2
 go_loopw [14] (fun i wr=>∃k:Nat,k≤n∧i=.int .i64 k∧KE.Own wr (w.heap.size+1) (.slice (some ⟨w.heap.size+1,0,none⟩) n n) (pf k)∧Below w0.heap.size w0 wr) (fun i _=>n-(intOf i).toNat)
 case atStart=>exact⟨0,Nat.zero_le _,rfl,HO1.out,HB1'.out⟩
 case round=>
  clear g0 g1 g5 g6;obtain⟨k,hk,rfl,hown,hbl⟩:=hrel;have HO:=aH hown;have HB:=aH hbl;obtain⟨g0,g1,g5,g6⟩:=HF.out wr hbl;clear hown hbl;by_cases hlt:k<n
  ·have HVS:=aH (HSET.out k hlt);have hpl:=HLEN.out k (by omega);have HRk:=aH (HR.out k);have hAk:=HA.out k;by_cases hst:k<st.length
   ·obtain⟨b,off,cap',hs',_,hb,_,hcell,_⟩:=KI.cells ((HS.out.then HB0.out).then HB.out) (by omega);simp only[Value.slice.injEq]at hs';obtain⟨rfl,_,rfl⟩:=hs';have e1:=hcell k hst;clear hcell;rw[hAk]at HVS HRk;clear hAk;have hvf:=aH (HS.out.2.1 _ (getD_mem' st k 0 hst));generalize st.getD k 0=vol at *;go_wp2_with fail;refine(HNEW.out cap vol HRk.out _).mono ?_;rintro e w2 ⟨rfl,hb2⟩;have HB2:=aH (bC HB.out hb2);have HO2:=aH (HO.out.below hb2);have HFT:=aH (right_fit HRk.out);clear hb2 g0 g1 g5 g6;obtain⟨g0,g1,g5,g6⟩:=HF.out w2 HB2.out;obtain⟨q0,q1,q2,z0,z1,z2⟩:=KE.Own.at3 HO2.out hpl k hlt;generalize (pf k).getD k ce0=old at *;go_wp2
    go_roundw
    case rel=>
     have hp:=Lk.Own.put3 (K:=KE) rfl HO2.out hpl k hlt ⟨cap,vol,0⟩ _ _ _ rfl HFT.out;refine⟨k+1,by omega,num_i (by omega),by rw[←HVS.out];exact hp,?_⟩;have hge:=HSZ.out;exact((HB2.out.setCell (by show w0.heap.size≤w.heap.size+1;omega) _).setCell (by show w0.heap.size≤w.heap.size+1;omega) _).setCell (by show w0.heap.size≤w.heap.size+1;omega) _
    case measure=>simp[intOf];omega
   ·rw[hAk,getD_past st k hst]at HVS HRk;clear hAk;go_wp2_with fail;refine(HNEW.out cap 0 HRk.out _).mono ?_;rintro e w2 ⟨rfl,hb2⟩;have HB2:=aH (bC HB.out hb2);have HO2:=aH (HO.out.below hb2);have HFT:=aH (right_fit HRk.out);clear hb2 g0 g1 g5 g6;obtain⟨g0,g1,g5,g6⟩:=HF.out w2 HB2.out;obtain⟨q0,q1,q2,z0,z1,z2⟩:=KE.Own.at3 HO2.out hpl k hlt;generalize (pf k).getD k ce0=old at *;go_wp2
    go_roundw
    case rel=>
     have hp:=Lk.Own.put3 (K:=KE) rfl HO2.out hpl k hlt ⟨cap,0,0⟩ _ _ _ rfl HFT.out;refine⟨k+1,by omega,num_i (by omega),by rw[←HVS.out];exact hp,?_⟩;have hge:=HSZ.out;exact((HB2.out.setCell (by show w0.heap.size≤w.heap.size+1;omega) _).setCell (by show w0.heap.size≤w.heap.size+1;omega) _).setCell (by show w0.heap.size≤w.heap.size+1;omega) _
    case measure=>simp[intOf];omega
  ·obtain rfl:k=n:=(by omega);rw[HFL.out]at HO;go_wp2
   go_ret
   exact⟨_,rfl,HO.out.mono (by omega),bC HB0.out HB.out⟩
def bk (A:Option Addr):Option Nat:=A.map (·.block)
theorem bk_own {A:Option Addr} {n c b:Nat} (h:bk A=some b):(Value.slice A n c).ownBlock=some b:=by
 cases A with
 |none=>cases h
 |some a=>exact h
def Stk.Far (s:Stk) (B:Nat):Prop:=(∀a,s.cA=some a→B≤a.block)∧(∀a,s.lA=some a→B≤a.block)∧(∀a,s.tA=some a→B≤a.block)∧∀q∈s.ll,∀a,q.A=some a→B≤a.block
theorem stk0_far (B:Nat):stk0.Far B:=by
 unfold Stk.Far;refine⟨fun a h=>?_,fun a h=>?_,fun a h=>?_,fun q hq=>?_⟩
 ·simp[stk0]at h
 ·simp[stk0]at h
 ·simp[stk0]at h
 ·simp[stk0]at hq
end Go.Proofs.YtmecohdedghiaaaGreatDoor
