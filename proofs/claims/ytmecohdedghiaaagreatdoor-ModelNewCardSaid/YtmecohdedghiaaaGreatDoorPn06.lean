/- Units: how many parts lie on one, and whether a part does. -/
import Derived.Test.YtmecohdedghiaaaGreatDoorPn00
import Derived.Test.YtmecohdedghiaaaGreatDoorPn05
set_option maxRecDepth 100000
set_option maxHeartbeats 8000000
namespace Go.Proofs.YtmecohdedghiaaaGreatDoor
open Go.RowKit
def rackB (q:Rk):Bool:=sizeB q.rows q.cols
def dchk (d:Dk):Int:=
 if chkE d.bl≠0 then chkE d.bl
 else if ¬(1≤d.arms∧d.arms≤8)then 80
 else if 4<d.pl.length∨4<d.rl.length then 2
 else if d.pl.all plateB=false then 81
 else if d.rl.all rackB=false then 82
 else if 384<wellsV d.pl∨384<tipsV d.rl then 2 else 0
theorem all_no' {α:Type} (l:List α) (z:α) (f:α→Bool) (k:Nat) (h:k<l.length) (hf:f (l.getD k z)=false):l.all f=false:=by
 rw[←Bool.not_eq_true,List.all_eq_true];intro hh;have:=hh _ (getD_mem' l k z h);rw[hf]at this
 cases this
theorem all_yes' {α:Type} (l:List α) (z:α) (f:α→Bool) (h:∀i,i<l.length→f (l.getD i z)=true):l.all f=true:=by
 rw[List.all_eq_true];intro x hx;obtain⟨i,hi,rfl⟩:=List.mem_iff_getElem.1 hx;have:=h i hi;rw[List.getD_eq_getElem?_getD,List.getElem?_eq_getElem hi]at this;exact this
theorem plate_size {q:Pl} (h:plateB q=true):sizeB q.rows q.cols=true:=by
 cases hs:sizeB q.rows q.cols
 ·rw[plate_no1 q hs]at h;cases h
 ·rfl
theorem dchk_b (d:Dk) (h:chkE d.bl≠0):dchk d=chkE d.bl:=by unfold dchk;rw[if_pos h]
theorem dchk_a (d:Dk) (h:chkE d.bl=0) (h1:¬(1≤d.arms∧d.arms≤8)):dchk d=80:=by unfold dchk;rw[if_neg (by simp[h]),if_pos h1]
theorem dchk_l (d:Dk) (h:chkE d.bl=0) (h1:1≤d.arms∧d.arms≤8) (h2:4<d.pl.length∨4<d.rl.length):dchk d=2:=by unfold dchk;rw[if_neg (by simp[h]),if_neg (by simp[h1]),if_pos h2]
theorem dchk_p (d:Dk) (h:chkE d.bl=0) (h1:1≤d.arms∧d.arms≤8) (h2:¬(4<d.pl.length∨4<d.rl.length)) (h3:d.pl.all plateB=false):dchk d=81:=by unfold dchk;rw[if_neg (by simp[h]),if_neg (by simp[h1]),if_neg h2,if_pos h3]
theorem dchk_r (d:Dk) (h:chkE d.bl=0) (h1:1≤d.arms∧d.arms≤8) (h2:¬(4<d.pl.length∨4<d.rl.length)) (h3:d.pl.all plateB=true) (h4:d.rl.all rackB=false):dchk d=82:=by unfold dchk;rw[if_neg (by simp[h]),if_neg (by simp[h1]),if_neg h2,if_neg (by simp[h3]),if_pos h4]
theorem dchk_n (d:Dk) (h:chkE d.bl=0) (h1:1≤d.arms∧d.arms≤8) (h2:¬(4<d.pl.length∨4<d.rl.length)) (h3:d.pl.all plateB=true) (h4:d.rl.all rackB=true):dchk d=if 384<wellsV d.pl∨384<tipsV d.rl then 2 else 0:=by unfold dchk;rw[if_neg (by simp[h]),if_neg (by simp[h1]),if_neg h2,if_neg (by simp[h3]),if_neg (by simp[h4])]
theorem dcheck_any (d:Dk) (w:World) (hd:d.In w w.heap.size):Calls Tryz.prog 154 #[d.v] w fun e w'=>e=.returned (.int .i64 (dchk d))∧Below w.heap.size w w':=by
 have HD:=aH hd;have B1:=aH (dchk_b d);have B2:=aH (dchk_a d);have B3:=aH (dchk_l d);have B4:=aH (dchk_p d);have B5:=aH (dchk_r d);have B6:=aH (dchk_n d);have HPN:=aH (all_no' d.pl KP.dflt plateB);have HPY:=aH (all_yes' d.pl KP.dflt plateB);have HRN:=aH (all_no' d.rl KR.dflt rackB);have HRY:=aH (all_yes' d.rl KR.dflt rackB);have e0:=hd.b.len;have e1:=hd.p.len;have e2:=hd.r.len;have ha:=hd.a;have HPL:=aH (fun w h=>places_any d w h);obtain⟨C,hC⟩:∃C,C=dchk d:=⟨_,rfl⟩;rw[←hC]at B1 B2 B3 B4 B5 B6⊢;clear hC;obtain⟨bA,bn,bc,bl,pA,pn,pc,pl,rA,rn,rc,rl,arms⟩:=d;dsimp only at *;subst e0 e1 e2;unfold fits at ha;clear hd;have hsf:=fun(w:World) (a:Addr) (m:Mode) (b:Nat)=>run_store_float (P:=Tryz.prog) (w:=w) (a:=a) (m:=m) .f64 b;obtain⟨w0,hw0⟩:∃w0,w0=w.alloc (.cells #[.slice bA bl.length bc,.slice pA pl.length pc,.slice rA rl.length rc,.int .i64 arms] 26):=⟨_,rfl⟩;have f0:w0.cell? ⟨w.heap.size,0,none⟩=some (.slice bA bl.length bc):=by rw[hw0];exact alloc_cell _ _ _ _ _ rfl
 have f1:w0.cell? ⟨w.heap.size,1,none⟩=some (.slice pA pl.length pc):=by rw[hw0];exact alloc_cell _ _ _ _ _ rfl
 have f2:w0.cell? ⟨w.heap.size,2,none⟩=some (.slice rA rl.length rc):=by rw[hw0];exact alloc_cell _ _ _ _ _ rfl
 have f3:w0.cell? ⟨w.heap.size,3,none⟩=some (.int .i64 arms):=by rw[hw0];exact alloc_cell _ _ _ _ _ rfl
 have HB0:=aH (show Below w.heap.size w w0 by rw[hw0];exact bL (bR _ _) _);have HD0:=aH (HD.out.then HB0.out);have HK:=aH (check_any _ bl w0 HD0.out.b);by_cases hz:chkE bl=0
 ·rw[hz]at HK;by_cases h1:1≤arms∧arms≤8
  ·obtain⟨a1,a2⟩:=h1;by_cases h2:4<pl.length∨4<rl.length
   ·obtain rfl:=B3.out hz ⟨a1,a2⟩ h2;clear B1 B2 B3 B4 B5 B6 hz;by_cases p4:4<pl.length
    ·clear h2;go_enter Tryz.func154,Tryz.ntmps154;go_wp2_with fail;rw[←hw0];clear hw0;refine HK.out.mono ?_;rintro e w' ⟨rfl,rfl⟩;go_wp2
     go_ret
     exact⟨rfl,HB0.out⟩
    ·have r4:4<rl.length:=(by omega);clear h2;go_enter Tryz.func154,Tryz.ntmps154;go_wp2_with fail;rw[←hw0];clear hw0;refine HK.out.mono ?_;rintro e w' ⟨rfl,rfl⟩;go_wp2
     go_ret
     exact⟨rfl,HB0.out⟩
   ·have p4:pl.length≤4:=(by omega);have r4:rl.length≤4:=(by omega);have C4:=aH (B4.out hz ⟨a1,a2⟩ h2);have C5:=aH (B5.out hz ⟨a1,a2⟩ h2);have C6:=aH (B6.out hz ⟨a1,a2⟩ h2);clear B1 B2 B3 B4 B5 B6 h2 hz;go_enter Tryz.func154,Tryz.ntmps154;go_wp2_with fail;rw[←hw0];clear hw0;refine HK.out.mono ?_;rintro e w' ⟨rfl,rfl⟩;have g0:=aH f0;have g1:=aH f1;have g3:=aH f3;go_wp2;clear f0 f1 f3;have F2:=aH f2;have F0:=aH (show ∀w1,Below w0.heap.size w0 w1→w1.cell? ⟨w.heap.size,0,none⟩=some (.slice bA bl.length bc)∧w1.cell? ⟨w.heap.size,1,none⟩=some (.slice pA pl.length pc)∧w1.cell? ⟨w.heap.size,2,none⟩=some (.slice rA rl.length rc)∧w1.cell? ⟨w.heap.size,3,none⟩=some (.int .i64 arms)from
     fun w1 hb=>⟨kK hb g0.out,kK hb g1.out,kK hb f2,kK hb g3.out⟩)
    clear f2
    go_loopw [39] (fun i wr=>∃k:Nat,k≤pl.length∧i=.int .i64 k∧(∀i,i<k→plateB (pl.getD i KP.dflt)=true)∧Below w0.heap.size w0 wr) (fun i _=>pl.length-(intOf i).toNat)
    case atStart=>exact⟨0,Nat.zero_le _,rfl,fun i hi=>by omega,bR _ _⟩
    case round=>
     obtain⟨k,hk,rfl,hall,hbl⟩:=hrel;have HB:=aH hbl;have HL:=aH hall;clear hbl hall;by_cases hlt:k<pl.length
     ·obtain⟨b,off,rfl,hb,hc,hcell⟩:=plate_cells (HD0.out.p.below HB.out) (by dsimp only;omega);obtain⟨c0,c1,c2,c3,c4,c5,c6⟩:=hcell k hlt;have HRP:=aH (fun w1 (hb1:Below w0.heap.size w0 w1)=>rightPlate_any (pl.getD k KP.dflt) w1 (((HD0.out.s _ (getD_mem' pl k KP.dflt hlt)).below hb1).more hb1.size) (HD0.out.p.okAt k hlt));have HPN':=aH (HPN.out k hlt);have HLS:=aH (show ∀(h:plateB (pl.getD k KP.dflt)=true) (i:Nat),i<k+1→plateB (pl.getD i KP.dflt)=true from fun h i hi=>by
       by_cases e:i=k
       ·rw[e];exact h
       ·exact HL.out i (by omega))
      clear hcell;dsimp only at *;generalize pl.getD k KP.dflt=q at *;rcases Bool.eq_false_or_eq_true (plateB q)with g|g
      ·have HR:=aH (HLS.out g);rw[g]at HRP;go_wp2_with fail;refine(HRP.out _ (bL HB.out _)).mono ?_;rintro e w2 ⟨rfl,hb2⟩;have HB2:=aH (bC (bL HB.out _) hb2);clear hb2;go_wp2
       go_roundw
       case rel=>exact⟨k+1,by omega,num_i (by omega),HR.out,HB2.out⟩
       case measure=>simp[intOf];omega
      ·have HR:=aH (C4.out (HPN'.out g));rw[g]at HRP;go_wp2_with fail;refine(HRP.out _ (bL HB.out _)).mono ?_;rintro e w2 ⟨rfl,hb2⟩;have HB2:=aH (bC (bL HB.out _) hb2);clear hb2;go_wp2
       go_ret
       exact⟨ret_i HR.out.symm,bC HB0.out HB2.out⟩
     ·obtain rfl:k=pl.length:=(by omega);have HPA:=aH (HPY.out HL.out);obtain⟨g0',g1',g2',g3'⟩:=F0.out wr HB.out;clear HPY HPN HL C4;go_wp2;obtain⟨w1,hw1⟩:∃w1,w1=wr:=⟨_,rfl⟩;subst hw1;have HD1:=aH (HD0.out.then HB.out);clear g0' g1' g2' g3'
      go_loopw [50] (fun i wr=>∃k:Nat,k≤rl.length∧i=.int .i64 k∧(∀i,i<k→rackB (rl.getD i KR.dflt)=true)∧Below w1.heap.size w1 wr) (fun i _=>rl.length-(intOf i).toNat)
      case atStart=>exact⟨0,Nat.zero_le _,rfl,fun i hi=>by omega,bR _ _⟩
      case round=>
       obtain⟨k,hk,rfl,hall,hbl⟩:=hrel;have HB2:=aH hbl;have HL:=aH hall;clear hbl hall;by_cases hlt:k<rl.length
       ·obtain⟨b,off,rfl,hb,hc,hcell⟩:=rack_cells (HD1.out.r.below HB2.out) (by dsimp only;omega);obtain⟨c0,c1,c2,c3,c4⟩:=hcell k hlt;have HRN':=aH (HRN.out k hlt);have HLS:=aH (show ∀(h:rackB (rl.getD k KR.dflt)=true) (i:Nat),i<k+1→rackB (rl.getD i KR.dflt)=true from fun h i hi=>by
         by_cases e:i=k
         ·rw[e];exact h
         ·exact HL.out i (by omega))
        clear hcell;dsimp only at *;generalize rl.getD k KR.dflt=q at *;rcases Bool.eq_false_or_eq_true (sizeB q.rows q.cols)with g|g
        ·have HR:=aH (HLS.out g);go_wp2_with fail;refine(rightSize_any _ _ _).mono ?_;rintro e w' ⟨rfl,rfl⟩;go_wp2
         go_roundw
         case rel=>exact⟨k+1,by omega,num_i (by omega),HR.out,bL HB2.out _⟩
         case measure=>simp[intOf];omega
        ·have HR:=aH (C5.out HPA.out (HRN'.out g));go_wp2_with fail;refine(rightSize_any _ _ _).mono ?_;rintro e w' ⟨rfl,rfl⟩;go_wp2
         go_ret
         exact⟨ret_i HR.out.symm,bC HB0.out (bC HB.out (bL HB2.out _))⟩
       ·obtain rfl:k=rl.length:=(by omega);have HRA:=aH (HRY.out HL.out);have HCC:=aH (C6.out HPA.out HRA.out);have HB3:=aH (HB.out.trans (HB2.out.mono HB.out.size));obtain⟨g0',g1',g2',g3'⟩:=F0.out wr HB3.out;have HPP:=aH (HPL.out wr (HD0.out.then HB3.out) p4 r4 (fun i hi=>plate_size (List.all_eq_true.1 HPA.out _ (getD_mem' pl i _ hi))) (fun i hi=>List.all_eq_true.1 HRA.out _ (getD_mem' rl i _ hi)));clear HRY HRN HL C5 C6 HPL;generalize wellsV pl=s at *;generalize tipsV rl=t at *;by_cases hs:384<s
        ·have HF:=aH (HCC.out.trans (if_pos (.inl hs)));clear HCC;go_wp2_with fail;refine HPP.out.mono ?_;rintro e w4 ⟨rfl,hb4⟩;have HB4:=aH hb4;clear hb4;go_wp2
         go_ret
         exact⟨ret_i HF.out.symm,bC HB0.out (bC HB3.out HB4.out)⟩
        ·by_cases ht:384<t
         ·have HF:=aH (HCC.out.trans (if_pos (.inr ht)));clear HCC;go_wp2_with fail;refine HPP.out.mono ?_;rintro e w4 ⟨rfl,hb4⟩;have HB4:=aH hb4;clear hb4;go_wp2
          go_ret
          exact⟨ret_i HF.out.symm,bC HB0.out (bC HB3.out HB4.out)⟩
         ·have HF:=aH (HCC.out.trans (if_neg (by omega)));clear HCC;go_wp2_with fail;refine HPP.out.mono ?_;rintro e w4 ⟨rfl,hb4⟩;have HB4:=aH hb4;clear hb4;go_wp2
          go_ret
          exact⟨ret_i HF.out.symm,bC HB0.out (bC HB3.out HB4.out)⟩
  ·obtain rfl:=B2.out hz h1;clear B1 B2 B3 B4 B5 B6 hz;by_cases a1:arms<1
   ·clear h1;go_enter Tryz.func154,Tryz.ntmps154;go_wp2_with fail;rw[←hw0];clear hw0;refine HK.out.mono ?_;rintro e w' ⟨rfl,rfl⟩;go_wp2
    go_ret
    exact⟨rfl,HB0.out⟩
   ·have a2:8<arms:=(by omega);clear h1;go_enter Tryz.func154,Tryz.ntmps154;go_wp2_with fail;rw[←hw0];clear hw0;refine HK.out.mono ?_;rintro e w' ⟨rfl,rfl⟩;go_wp2
    go_ret
    exact⟨rfl,HB0.out⟩
 ·obtain rfl:=B1.out hz;have hz':(chkE bl != 0)=true:=by rw[bne_iff_ne];exact hz
  clear B1 B2 B3 B4 B5 B6 hz;generalize chkE bl=c at *;go_enter Tryz.func154,Tryz.ntmps154;go_wp2_with fail;rw[←hw0];clear hw0;refine HK.out.mono ?_;rintro e w' ⟨rfl,rfl⟩;go_wp2
  go_ret
  exact⟨rfl,HB0.out⟩
theorem rdcheck_any (d:Dk) (w:World) (hd:d.In w w.heap.size):Calls Tryz.prog 103 #[d.v] w fun e w'=>e=.returned (.int .i64 (dchk d))∧Below w.heap.size w w':=by
 have HD:=aH hd;have B1:=aH (dchk_b d);have B2:=aH (dchk_a d);have B3:=aH (dchk_l d);have B4:=aH (dchk_p d);have B5:=aH (dchk_r d);have B6:=aH (dchk_n d);have HPN:=aH (all_no' d.pl KP.dflt plateB);have HPY:=aH (all_yes' d.pl KP.dflt plateB);have HRN:=aH (all_no' d.rl KR.dflt rackB);have HRY:=aH (all_yes' d.rl KR.dflt rackB);have HSW:=aH (wells_snoc d.pl);have HST:=aH (tips_snoc d.rl);have e0:=hd.b.len;have e1:=hd.p.len;have e2:=hd.r.len;have ha:=hd.a;obtain⟨C,hC⟩:∃C,C=dchk d:=⟨_,rfl⟩;rw[←hC]at B1 B2 B3 B4 B5 B6⊢;clear hC;obtain⟨bA,bn,bc,bl,pA,pn,pc,pl,rA,rn,rc,rl,arms⟩:=d;dsimp only at *;subst e0 e1 e2;unfold fits at ha;clear hd;obtain⟨w0,hw0⟩:∃w0,w0=w.alloc (.cells #[.slice bA bl.length bc,.slice pA pl.length pc,.slice rA rl.length rc,.int .i64 arms] 26):=⟨_,rfl⟩;have f0:w0.cell? ⟨w.heap.size,0,none⟩=some (.slice bA bl.length bc):=by rw[hw0];exact alloc_cell _ _ _ _ _ rfl
 have f1:w0.cell? ⟨w.heap.size,1,none⟩=some (.slice pA pl.length pc):=by rw[hw0];exact alloc_cell _ _ _ _ _ rfl
 have f2:w0.cell? ⟨w.heap.size,2,none⟩=some (.slice rA rl.length rc):=by rw[hw0];exact alloc_cell _ _ _ _ _ rfl
 have f3:w0.cell? ⟨w.heap.size,3,none⟩=some (.int .i64 arms):=by rw[hw0];exact alloc_cell _ _ _ _ _ rfl
 have HB0:=aH (show Below w.heap.size w w0 by rw[hw0];exact bL (bR _ _) _);have HD0:=aH (HD.out.then HB0.out);have HK:=aH (rcheck_any _ bl w0 HD0.out.b);by_cases hz:chkE bl=0
 ·rw[hz]at HK;by_cases h1:1≤arms∧arms≤8
  ·obtain⟨a1,a2⟩:=h1;by_cases h2:4<pl.length∨4<rl.length
   ·obtain rfl:=B3.out hz ⟨a1,a2⟩ h2;clear B1 B2 B3 B4 B5 B6 hz;by_cases p4:4<pl.length
    ·clear h2;go_enter Tryz.func103,Tryz.ntmps103;go_wp2_with fail;rw[←hw0];clear hw0;refine HK.out.mono ?_;rintro e w' ⟨rfl,d,rfl⟩;go_wp2
     go_ret
     exact⟨rfl,below_drewN HB0.out _⟩
    ·have r4:4<rl.length:=(by omega);clear h2;go_enter Tryz.func103,Tryz.ntmps103;go_wp2_with fail;rw[←hw0];clear hw0;refine HK.out.mono ?_;rintro e w' ⟨rfl,d,rfl⟩;go_wp2
     go_ret
     exact⟨rfl,below_drewN HB0.out _⟩
   ·have p4:pl.length≤4:=(by omega);have r4:rl.length≤4:=(by omega);have C4:=aH (B4.out hz ⟨a1,a2⟩ h2);have C5:=aH (B5.out hz ⟨a1,a2⟩ h2);have C6:=aH (B6.out hz ⟨a1,a2⟩ h2);clear B1 B2 B3 B4 B5 B6 h2 hz;have F0:=aH (show ∀w1,Below w0.heap.size w0 w1→w1.cell? ⟨w.heap.size,1,none⟩=some (.slice pA pl.length pc)∧w1.cell? ⟨w.heap.size,2,none⟩=some (.slice rA rl.length rc)from
     fun w1 hb=>⟨kK hb f1,kK hb f2⟩)
    go_enter Tryz.func103,Tryz.ntmps103;go_wp2_with fail;rw[←hw0];clear hw0;refine HK.out.mono ?_;rintro e wd ⟨rfl,dd,hwd⟩;have HBD:=aH (show Below w0.heap.size w0 wd by rw[hwd];exact below_drewN (bR _ _) _);have k0:=kK HBD.out f0;have k1:=kK HBD.out f1;have k2:=kK HBD.out f2;have k3:=kK HBD.out f3;clear hwd f0 f1 f2 f3;go_wp2;clear k0 k1 k2 k3
    go_loopw [4,6] (fun s i wr=>∃k:Nat,k≤pl.length∧i=.int .i64 k∧s=.int .i64 (wellsV (pl.take k))∧(k:Int)≤wellsV (pl.take k)∧wellsV (pl.take k)≤1536*k∧(∀i,i<k→plateB (pl.getD i KP.dflt)=true)∧Below w0.heap.size w0 wr) (fun _ i _=>pl.length-(intOf i).toNat)
    case atStart=>exact⟨0,Nat.zero_le _,rfl,rfl,by simp[wellsV],by simp[wellsV],fun i hi=>by omega,HBD.out⟩
    case round=>
     obtain⟨k,hk,rfl,rfl,b1,b2,hall,hbl⟩:=hrel;have HB:=aH hbl;have HL:=aH hall;clear hbl hall;obtain⟨q1,q2⟩:=F0.out wr HB.out;by_cases hlt:k<pl.length
     ·obtain⟨b,off,rfl,hb,hc,hcell⟩:=plate_cells (HD0.out.p.below HB.out) (by dsimp only;omega);obtain⟨c0,c1,c2,c3,c4,c5,c6⟩:=hcell k hlt;have HRP:=aH (rplate_any (pl.getD k KP.dflt) wr (((HD0.out.s _ (getD_mem' pl k KP.dflt hlt)).below HB.out).more HB.out.size) (HD0.out.p.okAt k hlt));have HPN':=aH (HPN.out k hlt);have HS:=aH (HSW.out k hlt);have HLS:=aH (show ∀(h:plateB (pl.getD k KP.dflt)=true) (i:Nat),i<k+1→plateB (pl.getD i KP.dflt)=true from fun h i hi=>by
       by_cases e:i=k
       ·rw[e];exact h
       ·exact HL.out i (by omega))
      have HPS:=aH (fun h=>plate_size (q:=pl.getD k KP.dflt) h);clear hcell;dsimp only at *;generalize pl.getD k KP.dflt=q at *;generalize wellsV (pl.take k)=s at *;rcases Bool.eq_false_or_eq_true (plateB q)with g|g
      ·have HR:=aH (HLS.out g);rw[g]at HRP;obtain⟨m1,m2⟩:=size_mul (HPS.out g);have hok:=HD0.out;go_wp2_with fail;refine HRP.out.mono ?_;rintro e w2 ⟨rfl,hb2⟩;have y1:=kK hb2 q1;have y2:=kK hb2 c0;have y3:=kK hb2 c1;have HB2:=aH (bC HB.out hb2);clear hb2 q1 q2 c0 c1 c2 c3 c4 c5 c6 hok;go_wp2_with fail;go_quiet (fail);go_wp2
       go_roundw
       case rel=>exact⟨k+1,by omega,num_i (by omega),num_i (by rw[HS.out]),by rw[HS.out];omega,by rw[HS.out];omega,HR.out,below_drewN HB2.out _⟩
       case measure=>simp[intOf];omega
      ·have HR:=aH (C4.out (HPN'.out g));rw[g]at HRP;go_wp2_with fail;refine HRP.out.mono ?_;rintro e w2 ⟨rfl,hb2⟩;have HB2:=aH (bC HB.out hb2);clear hb2;go_wp2
       go_ret
       exact⟨ret_i HR.out.symm,bC HB0.out HB2.out⟩
     ·obtain rfl:k=pl.length:=(by omega);have HPA:=aH (HPY.out HL.out);rw[List.take_length]at b1 b2⊢;generalize hs:wellsV pl=s at *;clear hs;clear HPY HPN HL C4 HSW;go_wp2;obtain⟨w1,hw1⟩:∃w1,w1=wr:=⟨_,rfl⟩;subst hw1;clear q1 q2
      go_loopw [5,7] (fun s i wr=>∃k:Nat,k≤rl.length∧i=.int .i64 k∧s=.int .i64 (tipsV (rl.take k))∧(k:Int)≤tipsV (rl.take k)∧tipsV (rl.take k)≤1536*k∧(∀i,i<k→rackB (rl.getD i KR.dflt)=true)∧Below w0.heap.size w0 wr) (fun _ i _=>rl.length-(intOf i).toNat)
      case atStart=>exact⟨0,Nat.zero_le _,rfl,rfl,by simp[tipsV],by simp[tipsV],fun i hi=>by omega,HB.out⟩
      case round=>
       obtain⟨k,hk,rfl,rfl,t1,t2,hall,hbl⟩:=hrel;have HB2:=aH hbl;have HL:=aH hall;clear hbl hall;obtain⟨q1,q2⟩:=F0.out wr HB2.out;by_cases hlt:k<rl.length
       ·obtain⟨b,off,rfl,hb,hc,hcell⟩:=rack_cells (HD0.out.r.below HB2.out) (by dsimp only;omega);obtain⟨c0,c1,c2,c3,c4⟩:=hcell k hlt;have HRN':=aH (HRN.out k hlt);have HS:=aH (HST.out k hlt);have HLS:=aH (show ∀(h:rackB (rl.getD k KR.dflt)=true) (i:Nat),i<k+1→rackB (rl.getD i KR.dflt)=true from fun h i hi=>by
         by_cases e:i=k
         ·rw[e];exact h
         ·exact HL.out i (by omega))
        clear hcell;dsimp only at *;generalize rl.getD k KR.dflt=q at *;generalize tipsV (rl.take k)=t at *;rcases Bool.eq_false_or_eq_true (sizeB q.rows q.cols)with g|g
        ·have HR:=aH (HLS.out g);obtain⟨m1,m2⟩:=size_mul g;have HBX:=aH (fun n=>show Calls Tryz.prog 163 #[.int .i64 q.rows,.int .i64 q.cols] (wr.drewN n) fun e w'=>e=.returned (.bool true)∧w'=wr.drewN n from(box_any q.rows q.cols (wr.drewN n)).mono fun _ _ x=>⟨by rw[x.1,g],x.2.symm⟩);go_wp2_with fail;go_quiet ((go_at_call 163;exact Calls.quiet_of_same (HBX.out _)));have y2:(wr.drewN nq).cell? ⟨w.heap.size,2,none⟩=some (.slice (some ⟨b,off,none⟩) rl.length rc):=q2;have y0:(wr.drewN nq).cell? ⟨b,off+k*5,none⟩=some (.int .i64 q.rows):=c0;have y1:(wr.drewN nq).cell? ⟨b,off+k*5+1,none⟩=some (.int .i64 q.cols):=c1;have HB3:=aH (below_drewN HB2.out nq);clear q1 q2 c0 c1 c2 c3 c4 HBX HB2;generalize wr.drewN nq=w3 at *;go_wp2_with fail;go_quiet (fail);go_wp2
         go_roundw
         case rel=>exact⟨k+1,by omega,num_i (by omega),num_i (by rw[HS.out]),by rw[HS.out];omega,by rw[HS.out];omega,HR.out,below_drewN HB3.out _⟩
         case measure=>simp[intOf];omega
        ·have HR:=aH (C5.out HPA.out (HRN'.out g));have HBX:=aH (fun n=>show Calls Tryz.prog 163 #[.int .i64 q.rows,.int .i64 q.cols] (wr.drewN n) fun e w'=>e=.returned (.bool false)∧w'=wr.drewN n from(box_any q.rows q.cols (wr.drewN n)).mono fun _ _ x=>⟨by rw[x.1,g],x.2.symm⟩);go_wp2_with fail;go_quiet ((go_at_call 163;exact Calls.quiet_of_same (HBX.out _)));go_wp2
         go_ret
         exact⟨ret_i HR.out.symm,bC HB0.out (below_drewN HB2.out _)⟩
       ·obtain rfl:k=rl.length:=(by omega);have HRA:=aH (HRY.out HL.out);have HCC:=aH (C6.out HPA.out HRA.out);rw[List.take_length]at t1 t2⊢;clear HRY HRN HL C5 C6 HST;generalize hs:tipsV rl=t at *;clear hs;by_cases hs:384<s
        ·have HF:=aH (HCC.out.trans (if_pos (.inl hs)));clear HCC;go_wp2
         go_ret
         exact⟨ret_i HF.out.symm,bC HB0.out HB2.out⟩
        ·by_cases ht:384<t
         ·have HF:=aH (HCC.out.trans (if_pos (.inr ht)));clear HCC;go_wp2
          go_ret
          exact⟨ret_i HF.out.symm,bC HB0.out HB2.out⟩
         ·have HF:=aH (HCC.out.trans (if_neg (by omega)));clear HCC;go_wp2
          go_ret
          exact⟨ret_i HF.out.symm,bC HB0.out HB2.out⟩
  ·obtain rfl:=B2.out hz h1;clear B1 B2 B3 B4 B5 B6 hz;by_cases a1:arms<1
   ·clear h1;go_enter Tryz.func103,Tryz.ntmps103;go_wp2_with fail;rw[←hw0];clear hw0;refine HK.out.mono ?_;rintro e w' ⟨rfl,d,rfl⟩;go_wp2
    go_ret
    exact⟨rfl,below_drewN HB0.out _⟩
   ·have a2:8<arms:=(by omega);clear h1;go_enter Tryz.func103,Tryz.ntmps103;go_wp2_with fail;rw[←hw0];clear hw0;refine HK.out.mono ?_;rintro e w' ⟨rfl,d,rfl⟩;go_wp2
    go_ret
    exact⟨rfl,below_drewN HB0.out _⟩
 ·obtain rfl:=B1.out hz;have hz':(chkE bl != 0)=true:=by rw[bne_iff_ne];exact hz
  clear B1 B2 B3 B4 B5 B6 hz;generalize chkE bl=c at *;go_enter Tryz.func103,Tryz.ntmps103;go_wp2_with fail;rw[←hw0];clear hw0;refine HK.out.mono ?_;rintro e w' ⟨rfl,d,rfl⟩;go_wp2
  go_ret
  exact⟨rfl,below_drewN HB0.out _⟩
def unitF (u:Q4) (i:Nat):Q4:=⟨u.a,u.b,((i/u.d.toNat:Nat):Int),((i%u.d.toNat:Nat):Int)⟩
def unitN (u:Q4):Nat:=u.c.toNat*u.d.toNat
def unitParts (u:Q4):List Q4:=(List.range (unitN u)).map (unitF u)
noncomputable def plateU (l:List Pl) (i:Nat):Q4:=⟨1,i,(l.getD i KP.dflt).rows,(l.getD i KP.dflt).cols⟩
noncomputable def rackU (l:List Rk) (i:Nat):Q4:=⟨2,i,(l.getD i KR.dflt).rows,(l.getD i KR.dflt).cols⟩
def laneU (i:Nat):Q4:=⟨3,i,1,1⟩
noncomputable def unitsL (d:Dk):List Q4:=(List.range d.pl.length).map (plateU d.pl)++(List.range d.rl.length).map (rackU d.rl)++(List.range (d.bl.length-1)).map laneU
def partsU (us:List Q4):List Q4:=us.flatMap unitParts
noncomputable def partsL (d:Dk):List Q4:=partsU (unitsL d)
def okU (u:Q4):Prop:=(u.a=1∨u.a=2∨u.a=3)∧0≤u.b∧u.b≤23∧sizeB u.c u.d=true
theorem okU_pos {u:Q4} (h:okU u):1≤u.c.toNat∧1≤u.d.toNat∧u.c=(u.c.toNat:Int)∧u.d=(u.d.toNat:Int)∧u.c*u.d=(unitN u:Int)∧1≤unitN u∧unitN u≤1536:=by
 obtain⟨h1,h2,h3,h4⟩:=size_of h.2.2.2;obtain⟨m1,m2⟩:=size_mul h.2.2.2;have e1:u.c=(u.c.toNat:Int):=by omega
 have e2:u.d=(u.d.toNat:Int):=by omega
 have e3:u.c*u.d=(unitN u:Int):=by
  unfold unitN;rw[Int.natCast_mul,←e1,←e2]
 refine⟨by omega,by omega,e1,e2,e3,by omega,by omega⟩
theorem unitParts_len (u:Q4):(unitParts u).length=unitN u:=by unfold unitParts;simp
theorem partsU_cons (u:Q4) (us:List Q4):partsU (u::us)=unitParts u++partsU us:=rfl
def partU:List Q4→Int→Q4×Int
 |[],_=>(⟨0,0,0,0⟩,3)
 |u::us,left=>if left<0 then(⟨0,0,0,0⟩,3)else if left<u.c*u.d then(⟨u.a,u.b,left/u.d,left%u.d⟩,0)else partU us (left-u.c*u.d)
def partR (l:List Q4) (id:Int):Q4×Int:=if id<0∨(l.length:Int)≤id then(⟨0,0,0,0⟩,3)else(l.getD id.toNat ⟨0,0,0,0⟩,0)
theorem partU_R (us:List Q4) (h:∀u∈us,okU u):∀id:Int,partU us id=partR (partsU us) id:=by
 induction us with
 |nil=>
  intro id;unfold partU partR partsU;rw[if_pos (by simp;omega)]
 |cons u us ih=>
  intro id;obtain⟨p1,p2,p3,p4,p5,p6,p7⟩:=okU_pos (h u (by simp));rw[partU];by_cases h0:id<0
  ·rw[if_pos h0];unfold partR;rw[if_pos (.inl h0)]
  rw[if_neg h0,p5,partsU_cons];have hl:(unitParts u++partsU us).length=unitN u+(partsU us).length:=by rw[List.length_append,unitParts_len]
  by_cases h1:id<(unitN u:Int)
  ·rw[if_pos h1];obtain⟨i,rfl⟩:∃i:Nat,id=(i:Int):=⟨id.toNat,by omega⟩;unfold partR;rw[hl,if_neg (by omega),Int.toNat_natCast,List.getD_eq_getElem?_getD,List.getElem?_append_left (by rw[unitParts_len];omega)];unfold unitParts;rw[List.getElem?_map,List.getElem?_range (by omega)];simp only[Option.map_some,Option.getD_some];unfold unitF;rw[Int.natCast_ediv,Int.natCast_emod,←p4]
  ·rw[if_neg h1,ih (fun u hu=>h u (by simp[hu]))];unfold partR;rw[hl];by_cases h2:((partsU us).length:Int)≤id-unitN u
   ·rw[if_pos (.inr h2),if_pos (.inr (by omega))]
   ·rw[if_neg (by omega),if_neg (by omega)]
    congr 1
    rw[List.getD_eq_getElem?_getD,List.getD_eq_getElem?_getD,List.getElem?_append_right (by rw[unitParts_len];omega),unitParts_len]
    congr 2
    omega
def cntK (k:Int) (l:List Q4):Int:=((l.filter fun p=>p.a==k).length:Int)
theorem cnt_append (k:Int) (l m:List Q4):cntK k (l++m)=cntK k l+cntK k m:=by
 unfold cntK;rw[List.filter_append,List.length_append,Int.natCast_add]
theorem cnt_unit (k:Int) (u:Q4):cntK k (unitParts u)=if u.a=k then(unitN u:Int)else 0:=by
 unfold cntK unitParts;rw[List.filter_map,List.length_map];by_cases h:u.a=k
 ·rw[if_pos h,List.filter_eq_self.2 (fun i _=>by simp[unitF,h]),List.length_range]
 ·rw[if_neg h,List.filter_eq_nil_iff.2 (fun i _=>by simp[unitF,h])];rfl
abbrev Q4.v (u:Q4):Value:=.agg #[.int .i64 u.a,.int .i64 u.b,.int .i64 u.c,.int .i64 u.d]
theorem parts_any (u:Q4) (hu:okU u) (w:World):Calls Tryz.prog 242 #[u.v] w fun e w'=>e=.returned (.int .i64 (u.c*u.d))∧Below w.heap.size w w':=by
 obtain⟨m1,m2⟩:=size_mul hu.2.2.2;clear hu;go_enter Tryz.func242,Tryz.ntmps242;go_wp2
 go_ret
 exact⟨ret_i (by first|rfl|omega),bL (bR _ _) _⟩
end Go.Proofs.YtmecohdedghiaaaGreatDoor
