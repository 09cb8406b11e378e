/- The units of a deck: what the program answers. -/
import Derived.Test.YtacjonncakhhmaaGreatPv00
import Derived.Test.YtacjonncakhhmaaGreatPv09
set_option maxRecDepth 100000
set_option maxHeartbeats 8000000
namespace Go.Proofs.YtacjonncakhhmaaGreat
open Go.RowKit
theorem rdcheck_any (d:Dk) (w:World) (hd:d.In w w.heap.size):Calls Tryz.prog 116 #[d.v] w fun e w'=>e=.returned (.int .i64 (dchk d))∧Below w.heap.size w w':=by
 have HD:=aH hd;have B1:=aH (dchk_b d);have B2:=aH (dchk_a d);have B3:=aH (dchk_l d);have B4:=aH (dchk_p d);have B5:=aH (dchk_r d);have B6:=aH (dchk_n d);have HPN:=aH (all_no' d.pl KP.dflt plateB);have HPY:=aH (all_yes' d.pl KP.dflt plateB);have HRN:=aH (all_no' d.rl KR.dflt rackB);have HRY:=aH (all_yes' d.rl KR.dflt rackB);have HSW:=aH (wells_snoc d.pl);have HST:=aH (tips_snoc d.rl);have e0:=hd.b.len;have e1:=hd.p.len;have e2:=hd.r.len;have ha:=hd.a;obtain⟨C,hC⟩:∃C,C=dchk d:=⟨_,rfl⟩;rw[←hC]at B1 B2 B3 B4 B5 B6⊢;clear hC;obtain⟨bA,bn,bc,bl,pA,pn,pc,pl,rA,rn,rc,rl,arms⟩:=d;dsimp only at *;subst e0 e1 e2;unfold fits at ha;clear hd;obtain⟨w0,hw0⟩:∃w0,w0=w.alloc (.cells #[.slice bA bl.length bc,.slice pA pl.length pc,.slice rA rl.length rc,.int .i64 arms] 26):=⟨_,rfl⟩;have f0:w0.cell? ⟨w.heap.size,0,none⟩=some (.slice bA bl.length bc):=by rw[hw0];exact alloc_cell _ _ _ _ _ rfl
 have f1:w0.cell? ⟨w.heap.size,1,none⟩=some (.slice pA pl.length pc):=by rw[hw0];exact alloc_cell _ _ _ _ _ rfl
 have f2:w0.cell? ⟨w.heap.size,2,none⟩=some (.slice rA rl.length rc):=by rw[hw0];exact alloc_cell _ _ _ _ _ rfl
 have f3:w0.cell? ⟨w.heap.size,3,none⟩=some (.int .i64 arms):=by rw[hw0];exact alloc_cell _ _ _ _ _ rfl
 have HB0:=aH (show Below w.heap.size w w0 by rw[hw0];exact bL (bR _ _) _);have HD0:=aH (HD.out.then HB0.out);have HK:=aH (rcheck_any _ bl w0 HD0.out.b);by_cases hz:chkE bl=0
 ·rw[hz]at HK;by_cases h1:1≤arms∧arms≤8
  ·obtain⟨a1,a2⟩:=h1;by_cases h2:4<pl.length∨4<rl.length
   ·obtain rfl:=B3.out hz ⟨a1,a2⟩ h2;clear B1 B2 B3 B4 B5 B6 hz;by_cases p4:4<pl.length
    ·clear h2;go_enter Tryz.func116,Tryz.ntmps116;go_wp2_with fail;rw[←hw0];clear hw0;refine HK.out.mono ?_;rintro e w' ⟨rfl,d,rfl⟩;go_wp2
     go_ret
     exact⟨rfl,below_drewN HB0.out _⟩
    ·have r4:4<rl.length:=(by omega);clear h2;go_enter Tryz.func116,Tryz.ntmps116;go_wp2_with fail;rw[←hw0];clear hw0;refine HK.out.mono ?_;rintro e w' ⟨rfl,d,rfl⟩;go_wp2
     go_ret
     exact⟨rfl,below_drewN HB0.out _⟩
   ·have p4:pl.length≤4:=(by omega);have r4:rl.length≤4:=(by omega);have C4:=aH (B4.out hz ⟨a1,a2⟩ h2);have C5:=aH (B5.out hz ⟨a1,a2⟩ h2);have C6:=aH (B6.out hz ⟨a1,a2⟩ h2);clear B1 B2 B3 B4 B5 B6 h2 hz;have F0:=aH (show ∀w1,Below w0.heap.size w0 w1→w1.cell? ⟨w.heap.size,1,none⟩=some (.slice pA pl.length pc)∧w1.cell? ⟨w.heap.size,2,none⟩=some (.slice rA rl.length rc)from
     fun w1 hb=>⟨kK hb f1,kK hb f2⟩)
    go_enter Tryz.func116,Tryz.ntmps116;go_wp2_with fail;rw[←hw0];clear hw0;refine HK.out.mono ?_;rintro e wd ⟨rfl,dd,hwd⟩;have HBD:=aH (show Below w0.heap.size w0 wd by rw[hwd];exact below_drewN (bR _ _) _);have k0:=kK HBD.out f0;have k1:=kK HBD.out f1;have k2:=kK HBD.out f2;have k3:=kK HBD.out f3;clear hwd f0 f1 f2 f3;go_wp2;clear k0 k1 k2 k3
    go_loopw [4,6] (fun s i wr=>∃k:Nat,k≤pl.length∧i=.int .i64 k∧s=.int .i64 (wellsV (pl.take k))∧(k:Int)≤wellsV (pl.take k)∧wellsV (pl.take k)≤1536*k∧(∀i,i<k→plateB (pl.getD i KP.dflt)=true)∧Below w0.heap.size w0 wr) (fun _ i _=>pl.length-(intOf i).toNat)
    case atStart=>exact⟨0,Nat.zero_le _,rfl,rfl,by simp[wellsV],by simp[wellsV],fun i hi=>by omega,HBD.out⟩
    case round=>
     obtain⟨k,hk,rfl,rfl,b1,b2,hall,hbl⟩:=hrel;have HB:=aH hbl;have HL:=aH hall;clear hbl hall;obtain⟨q1,q2⟩:=F0.out wr HB.out;by_cases hlt:k<pl.length
     ·obtain⟨b,off,rfl,hb,hc,hcell⟩:=plate_cells (HD0.out.p.below HB.out) (by dsimp only;omega);obtain⟨c0,c1,c2,c3,c4,c5,c6⟩:=hcell k hlt;have HRP:=aH (rplate_any (pl.getD k KP.dflt) wr (((HD0.out.s _ (getD_mem' pl k KP.dflt hlt)).below HB.out).more HB.out.size) (HD0.out.p.okAt k hlt));have HPN':=aH (HPN.out k hlt);have HS:=aH (HSW.out k hlt);have HLS:=aH (show ∀(h:plateB (pl.getD k KP.dflt)=true) (i:Nat),i<k+1→plateB (pl.getD i KP.dflt)=true from fun h i hi=>by
       by_cases e:i=k
       ·rw[e];exact h
       ·exact HL.out i (by omega))
      have HPS:=aH (fun h=>plate_size (q:=pl.getD k KP.dflt) h);clear hcell;dsimp only at *;generalize pl.getD k KP.dflt=q at *;generalize wellsV (pl.take k)=s at *;rcases Bool.eq_false_or_eq_true (plateB q)with g|g
      ·have HR:=aH (HLS.out g);rw[g]at HRP;obtain⟨m1,m2⟩:=size_mul (HPS.out g);have hok:=HD0.out;go_wp2_with fail;refine HRP.out.mono ?_;rintro e w2 ⟨rfl,hb2⟩;have y1:=kK hb2 q1;have y2:=kK hb2 c0;have y3:=kK hb2 c1;have HB2:=aH (bC HB.out hb2);clear hb2 q1 q2 c0 c1 c2 c3 c4 c5 c6 hok;go_wp2_with fail;go_quiet (fail);go_wp2
       go_roundw
       case rel=>exact⟨k+1,by omega,num_i (by omega),num_i (by rw[HS.out]),by rw[HS.out];omega,by rw[HS.out];omega,HR.out,below_drewN HB2.out _⟩
       case measure=>simp[intOf];omega
      ·have HR:=aH (C4.out (HPN'.out g));rw[g]at HRP;go_wp2_with fail;refine HRP.out.mono ?_;rintro e w2 ⟨rfl,hb2⟩;have HB2:=aH (bC HB.out hb2);clear hb2;go_wp2
       go_ret
       exact⟨ret_i HR.out.symm,bC HB0.out HB2.out⟩
     ·obtain rfl:k=pl.length:=(by omega);have HPA:=aH (HPY.out HL.out);rw[List.take_length]at b1 b2⊢;generalize hs:wellsV pl=s at *;clear hs;clear HPY HPN HL C4 HSW;go_wp2;obtain⟨w1,hw1⟩:∃w1,w1=wr:=⟨_,rfl⟩;subst hw1;clear q1 q2
      go_loopw [5,7] (fun s i wr=>∃k:Nat,k≤rl.length∧i=.int .i64 k∧s=.int .i64 (tipsV (rl.take k))∧(k:Int)≤tipsV (rl.take k)∧tipsV (rl.take k)≤1536*k∧(∀i,i<k→rackB (rl.getD i KR.dflt)=true)∧Below w0.heap.size w0 wr) (fun _ i _=>rl.length-(intOf i).toNat)
      case atStart=>exact⟨0,Nat.zero_le _,rfl,rfl,by simp[tipsV],by simp[tipsV],fun i hi=>by omega,HB.out⟩
      case round=>
       obtain⟨k,hk,rfl,rfl,t1,t2,hall,hbl⟩:=hrel;have HB2:=aH hbl;have HL:=aH hall;clear hbl hall;obtain⟨q1,q2⟩:=F0.out wr HB2.out;by_cases hlt:k<rl.length
       ·obtain⟨b,off,rfl,hb,hc,hcell⟩:=rack_cells (HD0.out.r.below HB2.out) (by dsimp only;omega);obtain⟨c0,c1,c2,c3,c4⟩:=hcell k hlt;have HRN':=aH (HRN.out k hlt);have HS:=aH (HST.out k hlt);have HLS:=aH (show ∀(h:rackB (rl.getD k KR.dflt)=true) (i:Nat),i<k+1→rackB (rl.getD i KR.dflt)=true from fun h i hi=>by
         by_cases e:i=k
         ·rw[e];exact h
         ·exact HL.out i (by omega))
        clear hcell;dsimp only at *;generalize rl.getD k KR.dflt=q at *;generalize tipsV (rl.take k)=t at *;rcases Bool.eq_false_or_eq_true (sizeB q.rows q.cols)with g|g
        ·have HR:=aH (HLS.out g);obtain⟨m1,m2⟩:=size_mul g;have HBX:=aH (fun n=>show Calls Tryz.prog 121 #[.int .i64 q.rows,.int .i64 q.cols] (wr.drewN n) fun e w'=>e=.returned (.bool true)∧w'=wr.drewN n from(box_any q.rows q.cols (wr.drewN n)).mono fun _ _ x=>⟨by rw[x.1,g],x.2.symm⟩);go_wp2_with fail;go_quiet ((go_at_call 121;exact Calls.quiet_of_same (HBX.out _)));have y2:(wr.drewN nq).cell? ⟨w.heap.size,2,none⟩=some (.slice (some ⟨b,off,none⟩) rl.length rc):=q2;have y0:(wr.drewN nq).cell? ⟨b,off+k*5,none⟩=some (.int .i64 q.rows):=c0;have y1:(wr.drewN nq).cell? ⟨b,off+k*5+1,none⟩=some (.int .i64 q.cols):=c1;have HB3:=aH (below_drewN HB2.out nq);clear q1 q2 c0 c1 c2 c3 c4 HBX HB2;generalize wr.drewN nq=w3 at *;go_wp2_with fail;go_quiet (fail);go_wp2
         go_roundw
         case rel=>exact⟨k+1,by omega,num_i (by omega),num_i (by rw[HS.out]),by rw[HS.out];omega,by rw[HS.out];omega,HR.out,below_drewN HB3.out _⟩
         case measure=>simp[intOf];omega
        ·have HR:=aH (C5.out HPA.out (HRN'.out g));have HBX:=aH (fun n=>show Calls Tryz.prog 121 #[.int .i64 q.rows,.int .i64 q.cols] (wr.drewN n) fun e w'=>e=.returned (.bool false)∧w'=wr.drewN n from(box_any q.rows q.cols (wr.drewN n)).mono fun _ _ x=>⟨by rw[x.1,g],x.2.symm⟩);go_wp2_with fail;go_quiet ((go_at_call 121;exact Calls.quiet_of_same (HBX.out _)));go_wp2
         go_ret
         exact⟨ret_i HR.out.symm,bC HB0.out (below_drewN HB2.out _)⟩
       ·obtain rfl:k=rl.length:=(by omega);have HRA:=aH (HRY.out HL.out);have HCC:=aH (C6.out HPA.out HRA.out);rw[List.take_length]at t1 t2⊢;clear HRY HRN HL C5 C6 HST;generalize hs:tipsV rl=t at *;clear hs;by_cases hs:384<s
        ·have HF:=aH (HCC.out.trans (if_pos (.inl hs)));clear HCC;go_wp2
         go_ret
         exact⟨ret_i HF.out.symm,bC HB0.out HB2.out⟩
        ·by_cases ht:384<t
         ·have HF:=aH (HCC.out.trans (if_pos (.inr ht)));clear HCC;go_wp2
          go_ret
          exact⟨ret_i HF.out.symm,bC HB0.out HB2.out⟩
         ·have HF:=aH (HCC.out.trans (if_neg (by omega)));clear HCC;go_wp2
          go_ret
          exact⟨ret_i HF.out.symm,bC HB0.out HB2.out⟩
  ·obtain rfl:=B2.out hz h1;clear B1 B2 B3 B4 B5 B6 hz;by_cases a1:arms<1
   ·clear h1;go_enter Tryz.func116,Tryz.ntmps116;go_wp2_with fail;rw[←hw0];clear hw0;refine HK.out.mono ?_;rintro e w' ⟨rfl,d,rfl⟩;go_wp2
    go_ret
    exact⟨rfl,below_drewN HB0.out _⟩
   ·have a2:8<arms:=(by omega);clear h1;go_enter Tryz.func116,Tryz.ntmps116;go_wp2_with fail;rw[←hw0];clear hw0;refine HK.out.mono ?_;rintro e w' ⟨rfl,d,rfl⟩;go_wp2
    go_ret
    exact⟨rfl,below_drewN HB0.out _⟩
 ·obtain rfl:=B1.out hz;have hz':(chkE bl != 0)=true:=by rw[bne_iff_ne];exact hz
  clear B1 B2 B3 B4 B5 B6 hz;generalize chkE bl=c at *;go_enter Tryz.func116,Tryz.ntmps116;go_wp2_with fail;rw[←hw0];clear hw0;refine HK.out.mono ?_;rintro e w' ⟨rfl,d,rfl⟩;go_wp2
  go_ret
  exact⟨rfl,below_drewN HB0.out _⟩
def unitF (u:Q4) (i:Nat):Q4:=⟨u.a,u.b,((i/u.d.toNat:Nat):Int),((i%u.d.toNat:Nat):Int)⟩
def unitN (u:Q4):Nat:=u.c.toNat*u.d.toNat
def unitParts (u:Q4):List Q4:=(List.range (unitN u)).map (unitF u)
noncomputable def plateU (l:List Pl) (i:Nat):Q4:=⟨1,i,(l.getD i KP.dflt).rows,(l.getD i KP.dflt).cols⟩
noncomputable def rackU (l:List Rk) (i:Nat):Q4:=⟨2,i,(l.getD i KR.dflt).rows,(l.getD i KR.dflt).cols⟩
def laneU (i:Nat):Q4:=⟨3,i,1,1⟩
noncomputable def unitsL (d:Dk):List Q4:=(List.range d.pl.length).map (plateU d.pl)++(List.range d.rl.length).map (rackU d.rl)++(List.range (d.bl.length-1)).map laneU
def partsU (us:List Q4):List Q4:=us.flatMap unitParts
noncomputable def partsL (d:Dk):List Q4:=partsU (unitsL d)
def okU (u:Q4):Prop:=(u.a=1∨u.a=2∨u.a=3)∧0≤u.b∧u.b≤23∧sizeB u.c u.d=true
theorem okU_pos {u:Q4} (h:okU u):1≤u.c.toNat∧1≤u.d.toNat∧u.c=(u.c.toNat:Int)∧u.d=(u.d.toNat:Int)∧u.c*u.d=(unitN u:Int)∧1≤unitN u∧unitN u≤1536:=by
 obtain⟨h1,h2,h3,h4⟩:=size_of h.2.2.2;obtain⟨m1,m2⟩:=size_mul h.2.2.2;have e1:u.c=(u.c.toNat:Int):=by omega
 have e2:u.d=(u.d.toNat:Int):=by omega
 have e3:u.c*u.d=(unitN u:Int):=by
  unfold unitN;rw[Int.natCast_mul,←e1,←e2]
 refine⟨by omega,by omega,e1,e2,e3,by omega,by omega⟩
theorem unitParts_len (u:Q4):(unitParts u).length=unitN u:=by unfold unitParts;simp
theorem partsU_cons (u:Q4) (us:List Q4):partsU (u::us)=unitParts u++partsU us:=rfl
def partU:List Q4→Int→Q4×Int
 |[],_=>(⟨0,0,0,0⟩,3)
 |u::us,left=>if left<0 then(⟨0,0,0,0⟩,3)else if left<u.c*u.d then(⟨u.a,u.b,left/u.d,left%u.d⟩,0)else partU us (left-u.c*u.d)
def partR (l:List Q4) (id:Int):Q4×Int:=if id<0∨(l.length:Int)≤id then(⟨0,0,0,0⟩,3)else(l.getD id.toNat ⟨0,0,0,0⟩,0)
theorem partU_R (us:List Q4) (h:∀u∈us,okU u):∀id:Int,partU us id=partR (partsU us) id:=by
 induction us with
 |nil=>
  intro id;unfold partU partR partsU;rw[if_pos (by simp;omega)]
 |cons u us ih=>
  intro id;obtain⟨p1,p2,p3,p4,p5,p6,p7⟩:=okU_pos (h u (by simp));rw[partU];by_cases h0:id<0
  ·rw[if_pos h0];unfold partR;rw[if_pos (.inl h0)]
  rw[if_neg h0,p5,partsU_cons];have hl:(unitParts u++partsU us).length=unitN u+(partsU us).length:=by rw[List.length_append,unitParts_len]
  by_cases h1:id<(unitN u:Int)
  ·rw[if_pos h1];obtain⟨i,rfl⟩:∃i:Nat,id=(i:Int):=⟨id.toNat,by omega⟩;unfold partR;rw[hl,if_neg (by omega),Int.toNat_natCast,List.getD_eq_getElem?_getD,List.getElem?_append_left (by rw[unitParts_len];omega)];unfold unitParts;rw[List.getElem?_map,List.getElem?_range (by omega)];simp only[Option.map_some,Option.getD_some];unfold unitF;rw[Int.natCast_ediv,Int.natCast_emod,←p4]
  ·rw[if_neg h1,ih (fun u hu=>h u (by simp[hu]))];unfold partR;rw[hl];by_cases h2:((partsU us).length:Int)≤id-unitN u
   ·rw[if_pos (.inr h2),if_pos (.inr (by omega))]
   ·rw[if_neg (by omega),if_neg (by omega)]
    congr 1
    rw[List.getD_eq_getElem?_getD,List.getD_eq_getElem?_getD,List.getElem?_append_right (by rw[unitParts_len];omega),unitParts_len]
    congr 2
    omega
def cntK (k:Int) (l:List Q4):Int:=((l.filter fun p=>p.a==k).length:Int)
theorem cnt_append (k:Int) (l m:List Q4):cntK k (l++m)=cntK k l+cntK k m:=by
 unfold cntK;rw[List.filter_append,List.length_append,Int.natCast_add]
theorem cnt_unit (k:Int) (u:Q4):cntK k (unitParts u)=if u.a=k then(unitN u:Int)else 0:=by
 unfold cntK unitParts;rw[List.filter_map,List.length_map];by_cases h:u.a=k
 ·rw[if_pos h,List.filter_eq_self.2 (fun i _=>by simp[unitF,h]),List.length_range]
 ·rw[if_neg h,List.filter_eq_nil_iff.2 (fun i _=>by simp[unitF,h])];rfl
abbrev Q4.v (u:Q4):Value:=.agg #[.int .i64 u.a,.int .i64 u.b,.int .i64 u.c,.int .i64 u.d]
theorem parts_any (u:Q4) (hu:okU u) (w:World):Calls Tryz.prog 97 #[u.v] w fun e w'=>e=.returned (.int .i64 (u.c*u.d))∧Below w.heap.size w w':=by
 obtain⟨m1,m2⟩:=size_mul hu.2.2.2;clear hu;go_enter Tryz.func97,Tryz.ntmps97;go_wp2
 go_ret
 exact⟨ret_i (by first|rfl|omega),bL (bR _ _) _⟩
theorem map_snoc {α:Type} (f:Nat→α) (k:Nat):(List.range (k+1)).map f=(List.range k).map f++[f k]:=by
 rw[List.range_succ,List.map_append];rfl
theorem units_any (d:Dk) (w:World) (hd:d.In w w.heap.size) (hp:d.pl.length≤4) (hr:d.rl.length≤4) (hb1:2≤d.bl.length) (hb2:d.bl.length≤25):
  Calls Tryz.prog 96 #[d.v] w fun e w'=>∃v,e=.returned v∧KU.Own w' w.heap.size v (unitsL d)∧Below w.heap.size w w':=by
 have HD:=aH hd;have e0:=hd.b.len;have e1:=hd.p.len;have e2:=hd.r.len;have HU:=aH (show unitsL d=(List.range d.pl.length).map (plateU d.pl)++(List.range d.rl.length).map (rackU d.rl)++(List.range (d.bl.length-1)).map laneU from rfl);obtain⟨U,hU⟩:∃U,U=unitsL d:=⟨_,rfl⟩;rw[←hU]at HU⊢;clear hU;obtain⟨bA,bn,bc,bl,pA,pn,pc,pl,rA,rn,rc,rl,arms⟩:=d;dsimp only at *;subst e0 e1 e2;clear hd;have hsf:=fun(w:World) (a:Addr) (m:Mode) (b:Nat)=>run_store_float (P:=Tryz.prog) (w:=w) (a:=a) (m:=m) .f64 b;obtain⟨w0,hw0⟩:∃w0,w0=w.alloc (.cells #[.slice bA bl.length bc,.slice pA pl.length pc,.slice rA rl.length rc,.int .i64 arms] 26):=⟨_,rfl⟩;have f0:w0.cell? ⟨w.heap.size,0,none⟩=some (.slice bA bl.length bc):=by rw[hw0];exact alloc_cell _ _ _ _ _ rfl
 have f1:w0.cell? ⟨w.heap.size,1,none⟩=some (.slice pA pl.length pc):=by rw[hw0];exact alloc_cell _ _ _ _ _ rfl
 have f2:w0.cell? ⟨w.heap.size,2,none⟩=some (.slice rA rl.length rc):=by rw[hw0];exact alloc_cell _ _ _ _ _ rfl
 have HB0:=aH (show Below w.heap.size w w0 by rw[hw0];exact bL (bR _ _) _);have HD0:=aH (HD.out.then HB0.out);obtain⟨i0,hi,hz0,hz1,hz2⟩:=info_parts KU.info;obtain⟨w1,hmk,hown,hgr⟩:=run_make_own (P:=Tryz.prog) w0 w0.heap.size 141 144 i0 _ 4 Tryz.underlying141 hi hz0 hz1 .i64 .i64 32 (by rw[hz2];decide) (by decide) (nR _);have hsz:w0.heap.size=w.heap.size+1:=by rw[hw0];simp
 rw[show(Value.slice (some ⟨w0.heap.size,0,none⟩) 0 32)=Value.slice (some ⟨w.heap.size+1,0,none⟩) 0 32 by rw[hsz]]at hown hmk;have HO1:=aH (show KU.Own w1 w0.heap.size (.slice (some ⟨w.heap.size+1,0,none⟩) 0 32) []from⟨hown,fun x hx=>by simp at hx⟩);have HB1:=aH (show Below w0.heap.size w0 w1 from(bR _ _).grown hgr (nR _) (fun k hk=>by cases hk));have HD1:=aH (HD0.out.then HB1.out);have HF:=aH (show ∀w2,Below w0.heap.size w0 w2→w2.cell? ⟨w.heap.size,0,none⟩=some (.slice bA bl.length bc)∧w2.cell? ⟨w.heap.size,1,none⟩=some (.slice pA pl.length pc)∧w2.cell? ⟨w.heap.size,2,none⟩=some (.slice rA rl.length rc)from
  fun w2 hb=>⟨kK hb f0,kK hb f1,kK hb f2⟩)
 clear hown hgr hi hz0 hz1 hz2 f0 f1 f2;obtain⟨h0,h1,h2⟩:=HF.out w1 HB1.out;rw[hw0]at hmk;have hmk':(Instr.makeSlice 141 (.int .i64 0) (.int .i64 32)).run Tryz.prog (w.alloc (.cells #[.slice bA bl.length bc,.slice pA pl.length pc,.slice rA rl.length rc,.int .i64 arms] 26))=.ok (.slice (some ⟨w.heap.size+1,0,none⟩) 0 32) w1:=hmk;clear hmk;go_enter Tryz.func96,Tryz.ntmps96;go_wp2;clear hmk' h0 h1 h2 hw0 hsz;obtain⟨v0,hv0⟩:∃v,v=Value.slice (some ⟨w.heap.size+1,0,none⟩) 0 32:=⟨_,rfl⟩;rw[←hv0]at HO1
 go_loopw [3,13] (fun v i wr=>∃k:Nat,k≤pl.length∧i=.int .i64 k∧KU.Own wr w0.heap.size v ((List.range k).map (plateU pl))∧Below w0.heap.size w0 wr) (fun _ i _=>pl.length-(intOf i).toNat)
 case atStart=>exact⟨0,Nat.zero_le _,rfl,by rw[←hv0];exact HO1.out,HB1.out⟩
 case round=>
  obtain⟨k,hk,rfl,hown,hbl⟩:=hrel;have HO:=aH hown;have HB:=aH hbl;clear hown hbl;by_cases hlt:k<pl.length
  ·obtain⟨b,off,rfl,hb,hc,hcell⟩:=plate_cells (HD0.out.p.below HB.out) (by dsimp only;omega);obtain⟨c0,c1,c2,c3,c4,c5,c6⟩:=hcell k hlt;have HS:=aH (map_snoc (plateU pl) k);obtain⟨o1,o2,_⟩:=HD0.out.p.okAt k hlt;have HOK:=aH (show KU.ok (plateU pl k)from⟨(by decide:fits 1),(show fits (k:Int)by unfold fits;omega),o1,o2⟩);have HLN:=aH (show((List.range k).map (plateU pl)).length=k by simp);have hu:plateU pl k=⟨1,k,(pl.getD k KP.dflt).rows,(pl.getD k KP.dflt).cols⟩:=rfl;rw[hu]at HS HOK;clear hcell hu o1 o2;dsimp only at *;generalize pl.getD k KP.dflt=q at *;generalize (List.range k).map (plateU pl)=L at *;go_wp2_with (at_builtin;refine Lk.wpList_app (K:=KU) _ rfl _ _ rfl rfl w0.heap.size (wr.heap.size+1+1) _ _ L [⟨1,k,q.rows,q.cols⟩] rfl rfl ((HO.out.alloc _).alloc _) (Lk.IsL.lit (K:=KU) _ ⟨1,k,q.rows,q.cols⟩ _ HOK.out rfl (wr.heap.size+1) (by simp)) ?c1 ?c2 ?_)
   case c1=>have:=HLN.out;simp;omega
   case c2=>have:=HB.out.size;simp;omega
   intro v1 w2 hown hgrow _;have HB2:=aH (Lk.Own.grow' ((HO.out.alloc _).alloc _) (bL (bL HB.out _) _) (by have:=HB.out.size;simp;omega) hgrow);have HO2:=aH hown;clear hown hgrow;go_wp2
   go_roundw
   case rel=>exact⟨k+1,by omega,num_i (by omega),by rw[HS.out];exact HO2.out,HB2.out⟩
   case measure=>simp[intOf];omega
  ·obtain rfl:k=pl.length:=(by omega);obtain⟨w2,hw2⟩:∃w2,w2=wr:=⟨_,rfl⟩;subst hw2;obtain⟨q0,q1,q2⟩:=HF.out w2 HB.out;obtain⟨L1,hL1⟩:∃L1,L1=(List.range pl.length).map (plateU pl):=⟨_,rfl⟩;have HLL:=aH (show L1.length=pl.length by rw[hL1];simp);rw[←hL1]at HO HU;clear hL1;go_wp2;clear q0 q1 q2;obtain⟨va,hva⟩:∃v,v=u3:=⟨_,rfl⟩;rw[←hva]at HO
   go_loopw [3,31] (fun v i wr=>∃k:Nat,k≤rl.length∧i=.int .i64 k∧KU.Own wr w0.heap.size v (L1++(List.range k).map (rackU rl))∧Below w0.heap.size w0 wr) (fun _ i _=>rl.length-(intOf i).toNat)
   case atStart=>exact⟨0,Nat.zero_le _,rfl,by rw[←hva];simpa using HO.out,HB.out⟩
   case round=>
    clear HO;obtain⟨k,hk,rfl,hown,hbl⟩:=hrel;have HO:=aH hown;have HB2:=aH hbl;clear hown hbl;by_cases hlt:k<rl.length
    ·obtain⟨b,off,rfl,hb,hc,hcell⟩:=rack_cells (HD0.out.r.below HB2.out) (by dsimp only;omega);obtain⟨c0,c1,c2,c3,c4⟩:=hcell k hlt;have HS:=aH (map_snoc (rackU rl) k);obtain⟨o1,o2,_⟩:=HD0.out.r.okAt k hlt;have HOK:=aH (show KU.ok (rackU rl k)from⟨(by decide:fits 2),(show fits (k:Int)by unfold fits;omega),o1,o2⟩);have HLN:=aH (show(L1++(List.range k).map (rackU rl)).length=pl.length+k by rw[List.length_append,HLL.out];simp);have hu:rackU rl k=⟨2,k,(rl.getD k KR.dflt).rows,(rl.getD k KR.dflt).cols⟩:=rfl;rw[hu]at HS HOK;clear hcell hu o1 o2;dsimp only at *;generalize rl.getD k KR.dflt=q at *;have HS2:=aH (show L1++(List.range (k+1)).map (rackU rl)=(L1++(List.range k).map (rackU rl))++[⟨2,k,q.rows,q.cols⟩]by rw[HS.out,List.append_assoc]);clear HS;generalize L1++(List.range k).map (rackU rl)=L at *;go_wp2_with (at_builtin;refine Lk.wpList_app (K:=KU) _ rfl _ _ rfl rfl w0.heap.size (wr.heap.size+1+1) _ _ L [⟨2,k,q.rows,q.cols⟩] rfl rfl ((HO.out.alloc _).alloc _) (Lk.IsL.lit (K:=KU) _ ⟨2,k,q.rows,q.cols⟩ _ HOK.out rfl (wr.heap.size+1) (by simp)) ?c1 ?c2 ?_)
     case c1=>have:=HLN.out;simp;omega
     case c2=>have:=HB2.out.size;simp;omega
     intro v1 w3 hown hgrow _;have HB3:=aH (Lk.Own.grow' ((HO.out.alloc _).alloc _) (bL (bL HB2.out _) _) (by have:=HB2.out.size;simp;omega) hgrow);have HO3:=aH hown;clear hown hgrow;go_wp2
     go_roundw
     case rel=>exact⟨k+1,by omega,num_i (by omega),by rw[HS2.out];exact HO3.out,HB3.out⟩
     case measure=>simp[intOf];omega
    ·obtain rfl:k=rl.length:=(by omega);obtain⟨w3,hw3⟩:∃w3,w3=wr:=⟨_,rfl⟩;subst hw3;obtain⟨q0,q1,q2⟩:=HF.out w3 HB2.out;obtain⟨L2,hL2⟩:∃L2,L2=L1++(List.range rl.length).map (rackU rl):=⟨_,rfl⟩;have HLL2:=aH (show L2.length=pl.length+rl.length by rw[hL2,List.length_append,HLL.out];simp);rw[←hL2]at HO HU;clear hL2;obtain⟨nb,hnb⟩:∃nb,bl.length=nb+1:=⟨bl.length-1,by omega⟩;rw[hnb]at q0 hb1 hb2;rw[show bl.length-1=nb by omega]at HU;clear hnb;go_wp2;clear q0 q1 q2;obtain⟨vb,hvb⟩:∃v,v=u3:=⟨_,rfl⟩;rw[←hvb]at HO
     go_loopw [3,50] (fun v i wr=>∃k:Nat,k≤nb∧i=.int .i64 k∧KU.Own wr w0.heap.size v (L2++(List.range k).map laneU)∧Below w0.heap.size w0 wr) (fun _ i _=>nb-(intOf i).toNat)
     case atStart=>exact⟨0,Nat.zero_le _,rfl,by rw[←hvb];simpa using HO.out,HB2.out⟩
     case round=>
      clear HO;obtain⟨k,hk,rfl,hown,hbl⟩:=hrel;have HO:=aH hown;have HB3:=aH hbl;clear hown hbl;by_cases hlt:k<nb
      ·have HS:=aH (map_snoc laneU k);have HOK:=aH (show KU.ok (laneU k)from⟨(by decide:fits 3),(show fits (k:Int)by unfold fits;omega),(by decide:fits 1),(by decide:fits 1)⟩);have HLN:=aH (show(L2++(List.range k).map laneU).length=pl.length+rl.length+k by rw[List.length_append,HLL2.out];simp);have hu:laneU k=⟨3,k,1,1⟩:=rfl;rw[hu]at HS HOK;clear hu;have HS2:=aH (show L2++(List.range (k+1)).map laneU=(L2++(List.range k).map laneU)++[⟨3,k,1,1⟩]by rw[HS.out,List.append_assoc]);clear HS;generalize L2++(List.range k).map laneU=L at *;go_wp2_with (at_builtin;refine Lk.wpList_app (K:=KU) _ rfl _ _ rfl rfl w0.heap.size (wr.heap.size+1) _ _ L [⟨3,k,1,1⟩] rfl rfl (HO.out.alloc _) (Lk.IsL.lit (K:=KU) _ ⟨3,k,1,1⟩ _ HOK.out rfl wr.heap.size rfl) ?c1 ?c2 ?_)
       case c1=>have:=HLN.out;simp;omega
       case c2=>have:=HB3.out.size;simp;omega
       intro v1 w4 hown hgrow _;have HB4:=aH (Lk.Own.grow' (HO.out.alloc _) (bL HB3.out _) (by have:=HB3.out.size;simp;omega) hgrow);have HO4:=aH hown;clear hown hgrow;go_wp2
       go_roundw
       case rel=>exact⟨k+1,by omega,num_i (by omega),by rw[HS2.out];exact HO4.out,HB4.out⟩
       case measure=>simp[intOf];omega
      ·obtain rfl:k=nb:=(by omega);go_wp2
       go_ret
       exact⟨_,rfl,by rw[HU.out];exact HO.out.mono HB0.out.size,bC HB0.out HB3.out⟩
end Go.Proofs.YtacjonncakhhmaaGreat
