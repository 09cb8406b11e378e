/- Where the lists of a stock lie. -/
import Derived.Test.YtmecohdedghiaaaGreatDoorPo16
set_option maxRecDepth 100000
set_option maxHeartbeats 8000000
open Go.Proofs.Tryz
namespace Go.Proofs.YtmecohdedghiaaaGreatDoor
open Go.RowKit
def nF (a f:Ab) (i:Nat):Bool:=decide (a.c.getD i aM).Right&&decide ((a.c.getD i aM).a=(f.c.getD i aM).a)&&(Lg.rgB (a.l.getD i (0,0,[])).1 (a.l.getD i (0,0,[])).2.1 (a.l.getD i (0,0,[])).2.2&&decide ((a.l.getD i (0,0,[])).1=(f.l.getD i (0,0,[])).1)&&decide ((a.l.getD i (0,0,[])).2.1=(a.c.getD i aM).c))
def hJ (a f:Ab):Bool:=decide (a.c.length=f.c.length)&&decide (a.l.length=f.l.length)&&(List.range a.c.length).all (nF a f)
theorem lu (n:Nat) (p:Nat→Bool) (k:Nat) (hk:k<n) (h:p k=false):(List.range n).all p=false:=by
 rw[←Bool.not_eq_true,List.all_eq_true];intro hh;rw[hh k (List.mem_range.2 hk)]at h
 cases h
theorem qF (n:Nat) (p:Nat→Bool) (h:∀k,k<n→p k=true):(List.range n).all p=true:=by
 rw[List.all_eq_true];exact fun k hk=>h k (List.mem_range.1 hk)
theorem oz (s:Stk) (i:Nat) (h:i<s.ll.length):s.ab.l.getD i (0,0,[])=((s.ll.getD i av).r,(s.ll.getD i av).l,(s.ll.getD i av).xs):=by
 show(s.ll.map Lo.ab).getD i (0,0,[])=_;rw[List.getD_eq_getElem?_getD,List.getElem?_map,List.getD_eq_getElem?_getD,List.getElem?_eq_getElem h];rfl
theorem iV (s f:Stk) (w:World) (hs:s.In w w.heap.size) (hf:f.In w w.heap.size) (hff:f.cl.length=f.ll.length):Calls prog 107 #[s.v,f.v] w fun e w'=>e=.returned (.bool (hJ s.ab f.ab))∧Below w.heap.size w w':=by
 obtain⟨w0,hw0⟩:∃w0,w0=(w.alloc s.ob).alloc f.ob:=⟨_,rfl⟩;have CG:=aH (gj hw0);have Dq:=aH (hs.then CG.out);have Du:=aH (show cn w0 w.heap.size s by rw[hw0];exact(Cells6.new w _ _ _ _ _ _ _).below (bL (bR _ _) _));have EB:=aH (show cn w0 (w.heap.size+1) f by
  have h:=Cells6.new (w.alloc s.ob) 41 (.slice f.cA f.cl.length f.cc) (.slice f.lA f.ll.length f.lc) (.slice f.tA f.tl.length f.tc) (.int .i64 f.st) (.int .i64 f.inn) (.int .i64 f.out);rw[←hw0,show(w.alloc s.ob).heap.size=w.heap.size+1 by simp]at h;exact h)
 have CN:=aH (hf.then CG.out);have hE:hJ s.ab f.ab=(decide (s.cl.length=f.cl.length)&&decide (s.ll.length=f.ll.length)&&(List.range s.cl.length).all (nF s.ab f.ab)):=by
  unfold hJ;show(decide (s.cl.length=f.cl.length)&&decide ((s.ll.map Lo.ab).length=(f.ll.map Lo.ab).length)&&_)=_;rw[List.length_map,List.length_map];rfl
 have HE:=aH hE;have D7:=aH (show w0.heap.size=w.heap.size+2 by rw[hw0];simp);obtain⟨g0,g1,g2,g3,g4,g5,_⟩:=Du.out;obtain⟨f0,f1,f2,f3,f4,f5,_⟩:=EB.out;rw[hw0]at g0 g1 g2 g3 g4 g5 f0 f1 f2 f3 f4 f5;generalize hr:hJ s.ab f.ab=r at *;clear hr hE hs hf;have OD:=aH (oz s);have OI:=aH (oz f);have QR:=aH (show s.ab.c=s.cl from rfl);have Rc:=aH (show f.ab.c=f.cl from rfl);have FF:=aH (fun i=>show nF s.ab f.ab i=(decide (s.ab.c.getD i aM).Right&&decide ((s.ab.c.getD i aM).a=(f.ab.c.getD i aM).a)&&(Lg.rgB (s.ab.l.getD i (0,0,[])).1 (s.ab.l.getD i (0,0,[])).2.1 (s.ab.l.getD i (0,0,[])).2.2&&decide ((s.ab.l.getD i (0,0,[])).1=(f.ab.l.getD i (0,0,[])).1)&&decide ((s.ab.l.getD i (0,0,[])).2.1=(s.ab.c.getD i aM).c)))from rfl);rw[QR.out,Rc.out]at FF;generalize nF s.ab f.ab=ok at *;generalize s.ab.l=abl at *;generalize f.ab.l=abf at *;clear QR Rc;obtain⟨cA,cc,cl,lA,lc,ll,tA,tc,tl,st,inn,out⟩:=s;obtain⟨cA2,cc2,cl2,lA2,lc2,ll2,tA2,tc2,tl2,st2,inn2,out2⟩:=f;dsimp only at *;by_cases h1:cl.length=cl2.length
 case neg=>
  have hr:r=false:=by rw[HE.out,dF h1];rfl
  subst hr;have NP:((cl.length:Int) != (cl2.length:Int))=true:=by simp;omega
  clear h1 hff;go_enter func107,ntmps107;go_wp2
  go_ret
  exact⟨rfl,by rw[←hw0];exact CG.out⟩
 by_cases h2:ll.length=ll2.length
 case neg=>
  have hr:r=false:=by rw[HE.out,dF h2,Bool.and_false];rfl
  subst hr;have NP:((cl.length:Int) != (cl2.length:Int))=false:=by simp;omega
  have Lt:((ll.length:Int) != (ll2.length:Int))=true:=by simp;omega
  clear h1 h2 hff;go_enter func107,ntmps107;go_wp2
  go_ret
  exact⟨rfl,by rw[←hw0];exact CG.out⟩
 rw[dT h1,dT h2,Bool.true_and,Bool.true_and]at HE;have ES:=aH h1;have GM:=aH h2;have Ha:=aH hff;have Pc:((cl.length:Int) != (cl2.length:Int))=false:=by simp;omega
 have OR:((ll.length:Int) != (ll2.length:Int))=false:=by simp;omega
 have Sv:=Dq.out.c.2.2;have Ir:=aH (fun k h=>lu cl.length ok k h);have IJ:=aH (fun h=>qF cl.length ok h);clear h1 h2 hff;go_enter func107,ntmps107;go_wp2;rw[←hw0];clear hw0 Pc OR g0 g1 g2 g3 g4 g5 f0 f1 f2 f3 f4 f5
 go_loopw [27] (fun i wr=>∃k:Nat,i=.int .i64 k∧k≤cl.length∧Hid (∀j,j<k→ok j=true)∧Hid (Below w0.heap.size w0 wr)) (fun i _=>cl.length-(intOf i).toNat)
 case atStart=>exact⟨0,rfl,Nat.zero_le _,aH (fun j hj=>absurd hj (Nat.not_lt_zero _)),aH (bR _ _)⟩
 case round=>
  obtain⟨k,rfl,hk,Dj,hb⟩:=hrel;have Dh:=aH Dj.out;have Df:=aH hb.out;clear Dj hb;by_cases CI:k<cl.length
  ·obtain⟨b,off,rfl,hb,hbc,CD⟩:=bt (Dq.out.then Df.out).c (by dsimp only;omega);obtain⟨c0,c1,c2⟩:=CD k CI;obtain⟨bf,of,rfl,hbf,hbcf,hcellf⟩:=bt (CN.out.then Df.out).c (by have:=ES.out;dsimp only;omega);obtain⟨cf,_,_⟩:=hcellf k (by have:=ES.out;dsimp only;omega);obtain⟨bl,ol,rfl,CP,hbcl,hcelll⟩:=cD (Dq.out.then Df.out).l (by have:=ES.out;have:=GM.out;have:=Ha.out;dsimp only;omega);obtain⟨l0,l1,l2⟩:=hcelll k (by have:=ES.out;have:=GM.out;have:=Ha.out;dsimp only;omega);obtain⟨bg,og,rfl,Se,hbcg,hcellg⟩:=cD (CN.out.then Df.out).l (by have:=ES.out;have:=Ha.out;dsimp only;omega);obtain⟨m0,_,_⟩:=hcellg k (by have:=ES.out;have:=Ha.out;dsimp only;omega);have Jp:=aH ((Dq.out.then Df.out).x _ (af ll k av (by have:=ES.out;have:=GM.out;have:=Ha.out;omega)));have MP:=OD.out k (by have:=ES.out;have:=GM.out;have:=Ha.out;omega);have L7:=OI.out k (by have:=ES.out;have:=Ha.out;omega);have Dj:=FF.out k;rw[MP,L7]at Dj;dsimp only at c0 c1 c2 cf l0 l1 l2 m0 Dj Jp;have Ft:k<ll.length:=(by have:=ES.out;have:=GM.out;have:=Ha.out;omega);have TY:k<ll2.length:=(by have:=ES.out;have:=Ha.out;omega);have ST:k<cl2.length:=(by have:=ES.out;omega);have La:=Dq.out.l.2.2;dsimp only at La;clear CD hcellf hcelll hcellg MP L7;generalize cl.getD k aM=qc at *;generalize (cl2.getD k aM).a=capf at *;generalize ll.getD k av=ql at *;generalize (ll2.getD k av).r=rf at *;obtain⟨qa,qb,qv⟩:=qc;obtain⟨qr,qll,qA,qlc,qx⟩:=ql;dsimp only at *;have OA:w.heap.size+1<w0.heap.size:=(by have:=D7.out;omega);have G1:=aH ((Du.out.below Df.out).2.1);have G2:=aH ((EB.out.below Df.out).1);have G3:=aH ((EB.out.below Df.out).2.1);have FJ:=aH (Ir.out k CI);have En:=aH Dj;clear Dj
   have Tm:=aH (show wr.heap.size<(wr.alloc (.cells #[.int .i64 qa,.int .i64 qb,.int .i64 qv] 70)).heap.size by simp);have CZ:=bL (bR wr.heap.size wr) (.cells #[.int .i64 qa,.int .i64 qb,.int .i64 qv] 70);have EY:=aH (show ∀w1,Below (wr.alloc (.cells #[.int .i64 qa,.int .i64 qb,.int .i64 qv] 70)).heap.size (wr.alloc (.cells #[.int .i64 qa,.int .i64 qb,.int .i64 qv] 70)) w1→(w1.cell? ⟨wr.heap.size,0,none⟩=some (.int .i64 qa)∧w1.cell? ⟨wr.heap.size,1,none⟩=some (.int .i64 qb)∧w1.cell? ⟨wr.heap.size,2,none⟩=some (.int .i64 qv)∧w1.cell? ⟨w.heap.size+1,0,none⟩=some (.slice (some ⟨bf,of,none⟩) cl2.length cc2)∧w1.cell? ⟨bf,of+k*3,none⟩=some (.int .i64 capf))from by
    intro w1 hb;refine⟨kK hb ?_,kK hb ?_,kK hb ?_,kK hb (kK CZ G2.out),kK hb (kK CZ cf)⟩;all_goals simp[go_sem])
   have LG:=aH (show ∀w1,Below (wr.alloc (.cells #[.int .i64 qa,.int .i64 qb,.int .i64 qv] 70)).heap.size (wr.alloc (.cells #[.int .i64 qa,.int .i64 qb,.int .i64 qv] 70)) w1→(w1.cell? ⟨w.heap.size,1,none⟩=some (.slice (some ⟨bl,ol,none⟩) ll.length lc)∧w1.cell? ⟨bl,ol+k*3,none⟩=some (.int .i64 qr)∧w1.cell? ⟨bl,ol+k*3+1,none⟩=some (.int .i64 qll)∧w1.cell? ⟨bl,ol+k*3+2,none⟩=some (.slice qA qx.length qlc)∧w1.cell? ⟨w.heap.size+1,1,none⟩=some (.slice (some ⟨bg,og,none⟩) ll2.length lc2)∧w1.cell? ⟨bg,og+k*3,none⟩=some (.int .i64 rf))from fun w1 hb=>⟨kK hb (kK CZ G1.out),kK hb (kK CZ l0),kK hb (kK CZ l1),kK hb (kK CZ l2),kK hb (kK CZ G3.out),kK hb (kK CZ m0)⟩);have g0:=(Du.out.below Df.out).1;have Ej:=aH (Jp.out.then CZ);have Eh:=aH (bC Df.out CZ);obtain⟨Cb,hCb⟩:∃Cb,wr.heap.size=Cb:=⟨_,rfl⟩;clear l0 l1 l2 m0 cf G1 G2 G3 OA
   go_upto_region 6 with fail
   generalize wr.alloc (.cells #[.int .i64 qa,.int .i64 qb,.int .i64 qv] 70)=V at *;rw[hCb]at EY Tm;(try simp only[hCb]);clear hCb c0 c1 c2 CZ g0;obtain⟨x0,x1,x2,x3,x4⟩:=EY.out V.drew (bR _ _).drew;have TG:((k:Int))<(cl2.length:Int):=(by omega);by_cases hright:(Cel.Ce.mk qa qb qv).Right
   ·have G4:=aH (fun w=>Cel.right_t hright w);rw[dT hright,Bool.true_and]at En;clear hright;refine Ba ⟨x0,x1,x2,x3,x4⟩ (by kernel_rfl) (fun CC=>?_);have bw:=(bR V.heap.size V).drew;have Eh:=aH (bC Eh.out bw);have Ej:=aH (Ej.out.then bw);have BV:=aH bw;clear bw x0 x1 x2 x3 x4;generalize V.drew=v0 at *;refine wk [.k 0 32] (fun _ _ _ _ _ h=>h) CC ?_ (by kernel_rfl);repeat (refine .k (v:=?_) rfl (by kernel_rfl) ?_ ?_;rotate_left 1;(intro w h;go_simp<;>try rfl);try simp only[sp])
    refine .nil ?_;refine wQ 1 (some 33) rfl (fun K hK=>?_) (by kernel_rfl);go_simp;refine(G4.out _).mono ?_;rintro e v1 ⟨rfl,hb⟩;have Eh:=aH (bC Eh.out hb);have Ej:=aH (Ej.out.then hb);have BV:=aH (bC BV.out hb);clear hb;go_wp2_with fail;refine hK.out _ _ (EY.out v1 BV.out) (fun CC=>?_);clear hK K;(try simp only[sp]);refine wk [.k 2 34,.k 3 35,.k 4 36,.k 5 37,.k 6 38,.k 7 39,.k 8 40,.k 9 41,.k 10 42,.k 11 43,.k 12 44,.k 13 45] (fun _ _ _ _ _ h=>h) CC ?_ (by kernel_rfl);repeat (refine .k (v:=?_) rfl (by kernel_rfl) ?_ ?_;rotate_left 1;(intro w h;go_simp<;>try rfl);try simp only[sp])
    refine .nil ?_;refine wD (by kernel_rfl) ?_;clear CC;by_cases hcap:qa=capf
    ·rw[dT hcap,Bool.true_and]at En;obtain⟨y1,y2,y3,y4,y5,y6⟩:=LG.out v1 BV.out;obtain⟨z0,z1,z2,z3,z4⟩:=EY.out v1 BV.out;have CZ:=bL (bR v1.heap.size v1) (.cells #[.int .i64 qr,.int .i64 qll,.slice qA qx.length qlc] 115);have Et:=aH (show ∀w1,Below (v1.alloc (.cells #[.int .i64 qr,.int .i64 qll,.slice qA qx.length qlc] 115)).heap.size (v1.alloc (.cells #[.int .i64 qr,.int .i64 qll,.slice qA qx.length qlc] 115)) w1→(w1.cell? ⟨v1.heap.size,0,none⟩=some (.int .i64 qr)∧w1.cell? ⟨v1.heap.size,1,none⟩=some (.int .i64 qll)∧w1.cell? ⟨v1.heap.size,2,none⟩=some (.slice qA qx.length qlc)∧w1.cell? ⟨w.heap.size+1,1,none⟩=some (.slice (some ⟨bg,og,none⟩) ll2.length lc2)∧w1.cell? ⟨bg,og+k*3,none⟩=some (.int .i64 rf)∧w1.cell? ⟨Cb,2,none⟩=some (.int .i64 qv))from by
      intro w1 hb;refine⟨kK hb ?_,kK hb ?_,kK hb ?_,kK hb (kK CZ y5),kK hb (kK CZ y6),kK hb (kK CZ z2)⟩;all_goals simp[go_sem])
     have Ej:=aH (Ej.out.then CZ);have Eh:=aH (bC Eh.out CZ);have KW:bl<v1.heap.size:=wB _ _ y2
     go_upto_region 9 with fail
     generalize hV3:v1.alloc (.cells #[.int .i64 qr,.int .i64 qll,.slice qA qx.length qlc] 115)=V3 at *;clear hV3;obtain⟨Lb,hLb⟩:∃Lb,v1.heap.size=Lb:=⟨_,rfl⟩;rw[hLb]at Et;(try simp only[hLb]);clear hLb y1 y2 y3 y4 y5 y6 z0 z1 z2 z3 z4 CZ KW BV;have Kw:=aH (fun w h=>Lg.right_any' qr qll qA qlc qx w h);obtain⟨rg,hrg⟩:∃x,Lg.rgB qr qll qx=x:=⟨_,rfl⟩;rw[hrg]at En Kw;clear hrg hcap
     cases rg
     case false=>
      have hr:r=false:=(by rw[HE.out,FJ.out (by rw[En.out];rfl)]);subst hr;obtain⟨x0,x1,x2,x3,x4,x5⟩:=Et.out V3.drew (bR _ _).drew;refine Bb ⟨x0,x1,x2,x3,x4,x5⟩ (by kernel_rfl) (fun CC=>?_);have bw:=(bR V3.heap.size V3).drew;have Eh:=aH (bC Eh.out bw);have Ej:=aH (Ej.out.then bw);have BV:=aH bw;clear bw x0 x1 x2 x3 x4 x5;generalize V3.drew=v4 at *;refine wk [.k 0 51] (fun _ _ _ _ _ h=>h) CC ?_ (by kernel_rfl);repeat (refine .k (v:=?_) rfl (by kernel_rfl) ?_ ?_;rotate_left 1;(intro w h;go_simp<;>try rfl);try simp only[sp])
      refine .nil ?_;refine wQ 1 (some 52) rfl (fun K hK=>?_) (by kernel_rfl);go_simp;refine(Kw.out _ Ej.out).mono ?_;rintro e v5 ⟨rfl,hb⟩;have Eh:=aH (bC Eh.out hb);have BV:=aH (bC BV.out hb);clear hb Ej;go_wp2_with fail;refine hK.out _ _ (Et.out v5 BV.out) (fun CC=>?_);clear hK K;(try simp only[sp]);refine wk [.k 2 53,.k 3 54,.u 4 55,.u 5 56,.u 6 57,.u 7 58,.u 8 59,.u 9 60,.u 10 61,.u 11 62,.u 12 63,.k 13 64,.k 14 65,.u 15 66,.u 16 67,.u 17 68,.u 18 69,.u 19 70,.k 20 71] (fun _ _ _ _ _ h=>h) CC ?_ (by kernel_rfl);repeat (first|(refine .k (v:=?_) rfl (by kernel_rfl) ?_ ?_;rotate_left 1;(intro w h;go_simp<;>try rfl);try simp only[sp])|(refine .u rfl (by kernel_rfl) ?_;try simp only[sp]))
      refine .nil ?_;refine wD (by kernel_rfl) ?_;clear CC;go_wp2
      go_ret
      exact⟨rfl,bC CG.out Eh.out⟩
     case true=>
      by_cases hroom:qr=rf
      ·rw[dT hroom,Bool.true_and,Bool.true_and]at En;have LD:(qr != rf)=false:=(by simpa using hroom);clear hroom;obtain⟨x0,x1,x2,x3,x4,x5⟩:=Et.out V3.drew (bR _ _).drew;refine Bb ⟨x0,x1,x2,x3,x4,x5⟩ (by kernel_rfl) (fun CC=>?_);have bw:=(bR V3.heap.size V3).drew;have Eh:=aH (bC Eh.out bw);have Ej:=aH (Ej.out.then bw);have BV:=aH bw;clear bw x0 x1 x2 x3 x4 x5;generalize V3.drew=v4 at *;refine wk [.k 0 51] (fun _ _ _ _ _ h=>h) CC ?_ (by kernel_rfl);repeat (refine .k (v:=?_) rfl (by kernel_rfl) ?_ ?_;rotate_left 1;(intro w h;go_simp<;>try rfl);try simp only[sp])
       refine .nil ?_;refine wQ 1 (some 52) rfl (fun K hK=>?_) (by kernel_rfl);go_simp;refine(Kw.out _ Ej.out).mono ?_;rintro e v5 ⟨rfl,hb⟩;have Eh:=aH (bC Eh.out hb);have BV:=aH (bC BV.out hb);clear hb Ej;go_wp2_with fail;refine hK.out _ _ (Et.out v5 BV.out) (fun CC=>?_);clear hK K;(try simp only[sp]);refine wk [.k 2 53,.k 3 54,.k 4 55,.k 5 56,.k 6 57,.k 7 58,.k 8 59,.k 9 60,.k 10 61,.k 11 62,.k 12 63,.k 13 64,.k 14 65,.k 15 66,.k 16 67,.k 17 68,.k 18 69,.k 19 70,.k 20 71] (fun _ _ _ _ _ h=>h) CC ?_ (by kernel_rfl);repeat (refine .k (v:=?_) rfl (by kernel_rfl) ?_ ?_;rotate_left 1;(intro w h;go_simp<;>try rfl);try simp only[sp])
       refine .nil ?_;refine wD (by kernel_rfl) ?_;clear CC;by_cases hver:qll=qv
       ·have Ol:(qll != qv)=false:=(by simpa using hver);have J5:=aH (show ok k=true by rw[En.out];exact dT hver);clear hver;go_wp2
        go_roundw
        case rel=>exact⟨k+1,ai (by omega),by omega,aH (fun j hj=>by
         by_cases h:j=k
         ·subst h;exact J5.out
         ·exact Dh.out j (by omega)),Eh⟩
        case measure=>simp[intOf];omega
       ·have Ol:(qll != qv)=true:=(by simpa using hver);have hr:r=false:=(by rw[HE.out,FJ.out (by rw[En.out];exact dF hver)]);subst hr;clear hver;go_wp2
        go_ret
        exact⟨rfl,bC CG.out Eh.out⟩
      ·have hr:r=false:=(by rw[HE.out,FJ.out (by rw[En.out,dF hroom];rfl)]);have LD:(qr != rf)=true:=(by simpa using hroom);subst hr;clear hroom;obtain⟨x0,x1,x2,x3,x4,x5⟩:=Et.out V3.drew (bR _ _).drew;refine Bb ⟨x0,x1,x2,x3,x4,x5⟩ (by kernel_rfl) (fun CC=>?_);have bw:=(bR V3.heap.size V3).drew;have Eh:=aH (bC Eh.out bw);have Ej:=aH (Ej.out.then bw);have BV:=aH bw;clear bw x0 x1 x2 x3 x4 x5;generalize V3.drew=v4 at *;refine wk [.k 0 51] (fun _ _ _ _ _ h=>h) CC ?_ (by kernel_rfl);repeat (refine .k (v:=?_) rfl (by kernel_rfl) ?_ ?_;rotate_left 1;(intro w h;go_simp<;>try rfl);try simp only[sp])
       refine .nil ?_;refine wQ 1 (some 52) rfl (fun K hK=>?_) (by kernel_rfl);go_simp;refine(Kw.out _ Ej.out).mono ?_;rintro e v5 ⟨rfl,hb⟩;have Eh:=aH (bC Eh.out hb);have BV:=aH (bC BV.out hb);clear hb Ej;go_wp2_with fail;refine hK.out _ _ (Et.out v5 BV.out) (fun CC=>?_);clear hK K;(try simp only[sp]);refine wk [.k 2 53,.k 3 54,.k 4 55,.k 5 56,.k 6 57,.k 7 58,.k 8 59,.k 9 60,.k 10 61,.k 11 62,.k 12 63,.k 13 64,.k 14 65,.u 15 66,.u 16 67,.u 17 68,.u 18 69,.u 19 70,.k 20 71] (fun _ _ _ _ _ h=>h) CC ?_ (by kernel_rfl);repeat (first|(refine .k (v:=?_) rfl (by kernel_rfl) ?_ ?_;rotate_left 1;(intro w h;go_simp<;>try rfl);try simp only[sp])|(refine .u rfl (by kernel_rfl) ?_;try simp only[sp]))
       refine .nil ?_;refine wD (by kernel_rfl) ?_;clear CC;go_wp2
       go_ret
       exact⟨rfl,bC CG.out Eh.out⟩
    ·have Rh:(qa != capf)=true:=(by simpa using hcap);rw[dF hcap,Bool.false_and]at En;have hr:r=false:=(by rw[HE.out,FJ.out En.out]);subst hr;clear hcap;go_wp2
     go_ret
     exact⟨rfl,bC CG.out Eh.out⟩
   ·have G4:=aH (fun w=>Cel.right_f hright w);rw[dF hright,Bool.false_and,Bool.false_and]at En;have hr:r=false:=(by rw[HE.out,FJ.out En.out]);subst hr;clear hright;refine Ba ⟨x0,x1,x2,x3,x4⟩ (by kernel_rfl) (fun CC=>?_);have bw:=(bR V.heap.size V).drew;have Eh:=aH (bC Eh.out bw);have Ej:=aH (Ej.out.then bw);have BV:=aH bw;clear bw x0 x1 x2 x3 x4;generalize V.drew=v0 at *;refine wk [.k 0 32] (fun _ _ _ _ _ h=>h) CC ?_ (by kernel_rfl);repeat (refine .k (v:=?_) rfl (by kernel_rfl) ?_ ?_;rotate_left 1;(intro w h;go_simp<;>try rfl);try simp only[sp])
    refine .nil ?_;refine wQ 1 (some 33) rfl (fun K hK=>?_) (by kernel_rfl);go_simp;refine(G4.out _).mono ?_;rintro e v1 ⟨rfl,hb⟩;have Eh:=aH (bC Eh.out hb);have Ej:=aH (Ej.out.then hb);have BV:=aH (bC BV.out hb);clear hb;go_wp2_with fail;refine hK.out _ _ (EY.out v1 BV.out) (fun CC=>?_);clear hK K;(try simp only[sp]);refine wk [.k 2 34,.k 3 35,.u 4 36,.u 5 37,.u 6 38,.u 7 39,.u 8 40,.u 9 41,.u 10 42,.u 11 43,.u 12 44,.k 13 45] (fun _ _ _ _ _ h=>h) CC ?_ (by kernel_rfl);repeat (first|(refine .k (v:=?_) rfl (by kernel_rfl) ?_ ?_;rotate_left 1;(intro w h;go_simp<;>try rfl);try simp only[sp])|(refine .u rfl (by kernel_rfl) ?_;try simp only[sp]))
    refine .nil ?_;refine wD (by kernel_rfl) ?_;clear CC;go_wp2
    go_ret
    exact⟨rfl,bC CG.out Eh.out⟩
  ·obtain rfl:k=cl.length:=(by omega);have hr:r=true:=(by rw[HE.out,IJ.out Dh.out]);subst hr;go_wp2
   go_ret
   exact⟨rfl,bC CG.out Df.out⟩
def uI (q:Pl) (k:Nat):List Cel.Ce:=(List.range k).map (d8 q)++List.replicate (ko q-k) aM
theorem wO (q:Pl) (k:Nat) (h:k≤ko q):(uI q k).length=ko q:=by unfold uI;rw[List.length_append,List.length_map,List.length_range,List.length_replicate];omega
theorem vL (q:Pl) (k:Nat) (h:k<ko q):(uI q k).set k (d8 q k)=uI q (k+1):=by
 unfold uI;have hk:((List.range k).map (d8 q)).length=k:=by simp
 rw[List.set_append,if_neg (by omega),hk,Nat.sub_self,show ko q-k=(ko q-(k+1))+1 by omega,List.replicate_succ,List.set_cons_zero,List.range_succ,List.map_append,List.append_assoc];rfl
theorem jR (l:List Int) (k:Nat) (h:¬k<l.length):l.getD k 0=0:=by rw[List.getD_eq_getElem?_getD,List.getElem?_eq_none (by omega)];rfl
theorem lx (q:Pl) (hq:az q=true) (Dj:KP.ok q) (w:World) (hs:KI.IsL w w.heap.size (.slice q.sA q.sn q.sc) q.st):Calls prog 95 #[q.v] w fun e w'=>∃v,e=.returned v∧KE.Own w' w.heap.size v (nD q)∧Below w.heap.size w w':=by
 have HS:=aH hs;have NN:=hs.len;obtain⟨hN,hN1,hN2,hN3⟩:=fN hq;have Je:=aH (vL q);have ED:=aH (wO q);have HA:=aH (fun i=>show d8 q i=⟨q.cap,q.st.getD i 0,0⟩from rfl);have HR:=aH (fun i=>eb hq i);have K1:=aH (show uI q (ko q)=nD q by unfold uI nD;rw[Nat.sub_self];simp);have H0:=aH (show uI q 0=List.replicate (ko q) aM by unfold uI;simp);have Hm:=aH (fun(a b:Int) (h:(Cel.Ce.mk a b 0).Right) (w:World)=>(show Calls prog 158 #[.int .i64 a,.int .i64 b] w fun e w'=>e=.returned (.tuple #[.agg #[.int .i64 a,.int .i64 b,.int .i64 0],.int .i64 0])∧Below w.heap.size w w' by
  have:=Cel.new_any a b w;unfold Cel.newV Cel.newE at this;rw[if_pos h,if_pos h]at this;exact this))
 generalize uI q=pf at *;generalize ko q=n at *;generalize nD q=pc at *;generalize hcA:d8 q=cA at *;clear hs hq hcA;obtain⟨rows,cols,X,P,R,cap,sA,sn,sc,st⟩:=q;dsimp only at *;subst NN;have QE:=Dj.2.2.2.2.2;obtain⟨f1,f2,f3,f4,f5,f6⟩:=Dj;dsimp only at *;obtain⟨i0,hi,D9,DZ,hz2⟩:=info_parts KE.info;have G5:=fun(w:World) (a:Addr) (m:Mode) (b:Nat)=>aq (P:=prog) (w:=w) (a:=a) (m:=m) .f64 b;have PU:IntKind.i64.wrap (rows*cols)=(n:Int):=by rw[bE _ (by unfold ae;omega)];exact hN.symm
 have IO:Go.RowKit.wrap64 (rows*cols)=(n:Int):=by rw[←uM];exact PU
 obtain⟨w0,hw0⟩:∃w0,w0=w.alloc (.cells #[.int .i64 rows,.int .i64 cols,.float .f64 X,.float .f64 P,.float .f64 R,.int .i64 cap,.slice sA st.length sc] 86):=⟨_,rfl⟩;have CG:=aH (cI hw0);have HF:=aH (show ∀w1,Below w0.heap.size w0 w1→(w1.cell? ⟨w.heap.size,0,none⟩=some (.int .i64 rows)∧w1.cell? ⟨w.heap.size,1,none⟩=some (.int .i64 cols)∧w1.cell? ⟨w.heap.size,5,none⟩=some (.int .i64 cap)∧w1.cell? ⟨w.heap.size,6,none⟩=some (.slice sA st.length sc))from by
   intro w1 hb;refine⟨kK hb ?_,kK hb ?_,kK hb ?_,kK hb ?_⟩;all_goals (rw[hw0];simp[go_sem]))
 have D8:w0.heap.size=w.heap.size+1:=by rw[hw0];simp
 have D7:=aH D8;have HN:=aH hN;clear D8 hN;go_enter func95,ntmps95;go_wp2_with (at_make;refine wpList_make_full _ rfl _ _ 37 rfl (w.heap.size+1) 70 i0 (.agg #[.int .i64 0,.int .i64 0,.int .i64 0]) 3 underlying37 hi D9 DZ _ _ _ _ n rfl rfl rfl rfl ?bytes ?maxLen (by simp) ?_)
 case bytes=>rw[hz2,show KE.bytes=24 from rfl];omega
 case maxLen=>unfold maxLen;omega
 intro w1 CF hgrow;rw[←hw0]at hgrow;clear hw0;have ho:KE.Own w1 (w.heap.size+1) (.slice (some ⟨w.heap.size+1,0,none⟩) n n) (pf 0):=by
  refine⟨?_,fun x hx=>?_⟩
  ·have e:=Lk.flat_made KE aM rfl n;rw[H0.out,←e,List.length_replicate];exact CF
  ·rw[H0.out,List.mem_replicate]at hx;rw[hx.2];exact⟨by decide,by decide,by decide⟩
 have Fx:=aH ((bR w0.heap.size w0).grown hgrow (nR _) (fun _ h=>nomatch h));have CH:=aH (bC CG.out Fx.out);have Fy:=aH ho;obtain⟨g0,g1,g5,g6⟩:=HF.out w1 Fx.out;clear CF hgrow ho hi D9 DZ hz2;go_wp2
 go_loopw [14] (fun i wr=>∃k:Nat,k≤n∧i=.int .i64 k∧KE.Own wr (w.heap.size+1) (.slice (some ⟨w.heap.size+1,0,none⟩) n n) (pf k)∧Below w0.heap.size w0 wr) (fun i _=>n-(intOf i).toNat)
 case atStart=>exact⟨0,Nat.zero_le _,rfl,Fy.out,Fx.out⟩
 case round=>
  clear g0 g1 g5 g6;obtain⟨k,hk,rfl,CF,CP⟩:=hrel;have HO:=aH CF;have HB:=aH CP;obtain⟨g0,g1,g5,g6⟩:=HF.out wr CP;clear CF CP;by_cases CI:k<n
  ·have Jl:=aH (Je.out k CI);have FT:=ED.out k (by omega);have Fz:=aH (HR.out k);have JZ:=HA.out k;by_cases FI:k<st.length
   ·obtain⟨b,off,cap',hs',_,hb,_,CD,_⟩:=KI.cells ((HS.out.then CG.out).then HB.out) (by omega);simp only[Value.slice.injEq]at hs';obtain⟨rfl,_,rfl⟩:=hs';have e1:=CD k FI;clear CD;rw[JZ]at Jl Fz;clear JZ;have Ul:=aH (HS.out.2.1 _ (af st k 0 FI));generalize st.getD k 0=vol at *;go_wp2_with fail;refine(Hm.out cap vol Fz.out _).mono ?_;rintro e w2 ⟨rfl,CM⟩;have CL:=aH (bC HB.out CM);have F8:=aH (HO.out.below CM);have J0:=aH (eB Fz.out);clear CM g0 g1 g5 g6;obtain⟨g0,g1,g5,g6⟩:=HF.out w2 CL.out;obtain⟨q0,q1,q2,z0,z1,z2⟩:=KE.Own.at3 F8.out FT k CI;generalize (pf k).getD k aM=old at *;go_wp2
    go_roundw
    case rel=>
     have hp:=Lk.Own.put3 (K:=KE) rfl F8.out FT k CI ⟨cap,vol,0⟩ _ _ _ rfl J0.out;refine⟨k+1,by omega,ai (by omega),by rw[←Jl.out];exact hp,?_⟩;have DP:=D7.out;exact((CL.out.setCell (by show w0.heap.size≤w.heap.size+1;omega) _).setCell (by show w0.heap.size≤w.heap.size+1;omega) _).setCell (by show w0.heap.size≤w.heap.size+1;omega) _
    case measure=>simp[intOf];omega
   ·rw[JZ,jR st k FI]at Jl Fz;clear JZ;go_wp2_with fail;refine(Hm.out cap 0 Fz.out _).mono ?_;rintro e w2 ⟨rfl,CM⟩;have CL:=aH (bC HB.out CM);have F8:=aH (HO.out.below CM);have J0:=aH (eB Fz.out);clear CM g0 g1 g5 g6;obtain⟨g0,g1,g5,g6⟩:=HF.out w2 CL.out;obtain⟨q0,q1,q2,z0,z1,z2⟩:=KE.Own.at3 F8.out FT k CI;generalize (pf k).getD k aM=old at *;go_wp2
    go_roundw
    case rel=>
     have hp:=Lk.Own.put3 (K:=KE) rfl F8.out FT k CI ⟨cap,0,0⟩ _ _ _ rfl J0.out;refine⟨k+1,by omega,ai (by omega),by rw[←Jl.out];exact hp,?_⟩;have DP:=D7.out;exact((CL.out.setCell (by show w0.heap.size≤w.heap.size+1;omega) _).setCell (by show w0.heap.size≤w.heap.size+1;omega) _).setCell (by show w0.heap.size≤w.heap.size+1;omega) _
    case measure=>simp[intOf];omega
  ·obtain rfl:k=n:=(by omega);rw[K1.out]at HO;go_wp2
   go_ret
   exact⟨_,rfl,HO.out.mono (by omega),bC CG.out HB.out⟩
def bk (A:Option Addr):Option Nat:=A.map (·.block)
theorem ax {A:Option Addr} {n c b:Nat} (h:bk A=some b):(Value.slice A n c).ownBlock=some b:=by
 cases A with
 |none=>cases h
 |some a=>exact h
def Stk.Far (s:Stk) (B:Nat):Prop:=(∀a,s.cA=some a→B≤a.block)∧(∀a,s.lA=some a→B≤a.block)∧(∀a,s.tA=some a→B≤a.block)∧∀q∈s.ll,∀a,q.A=some a→B≤a.block
theorem ee (B:Nat):stk0.Far B:=by
 unfold Stk.Far;refine⟨fun a h=>?_,fun a h=>?_,fun a h=>?_,fun q hq=>?_⟩
 ·simp[stk0]at h
 ·simp[stk0]at h
 ·simp[stk0]at h
 ·simp[stk0]at hq
end Go.Proofs.YtmecohdedghiaaaGreatDoor
