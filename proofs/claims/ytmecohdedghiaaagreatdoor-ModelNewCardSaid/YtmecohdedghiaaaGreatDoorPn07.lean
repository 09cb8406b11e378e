/- The parts of a unit in a row: what the reference answers. -/
import Derived.Test.YtmecohdedghiaaaGreatDoorPn00
import Derived.Test.YtmecohdedghiaaaGreatDoorPn06
import Derived.RegionTactic
import Derived.ChangeAlike
set_option maxRecDepth 100000
set_option maxHeartbeats 8000000
namespace Go.Proofs.YtmecohdedghiaaaGreatDoor
open Go.RowKit
theorem map_snoc {α:Type} (f:Nat→α) (k:Nat):(List.range (k+1)).map f=(List.range k).map f++[f k]:=by
 rw[List.range_succ,List.map_append];rfl
theorem units_any (d:Dk) (w:World) (hd:d.In w w.heap.size) (hp:d.pl.length≤4) (hr:d.rl.length≤4) (hb1:2≤d.bl.length) (hb2:d.bl.length≤25):
  Calls Tryz.prog 241 #[d.v] w fun e w'=>∃v,e=.returned v∧KU.Own w' w.heap.size v (unitsL d)∧Below w.heap.size w w':=by
 have HD:=aH hd;have e0:=hd.b.len;have e1:=hd.p.len;have e2:=hd.r.len;have HU:=aH (show unitsL d=(List.range d.pl.length).map (plateU d.pl)++(List.range d.rl.length).map (rackU d.rl)++(List.range (d.bl.length-1)).map laneU from rfl);obtain⟨U,hU⟩:∃U,U=unitsL d:=⟨_,rfl⟩;rw[←hU]at HU⊢;clear hU;obtain⟨bA,bn,bc,bl,pA,pn,pc,pl,rA,rn,rc,rl,arms⟩:=d;dsimp only at *;subst e0 e1 e2;clear hd;have hsf:=fun(w:World) (a:Addr) (m:Mode) (b:Nat)=>run_store_float (P:=Tryz.prog) (w:=w) (a:=a) (m:=m) .f64 b;obtain⟨w0,hw0⟩:∃w0,w0=w.alloc (.cells #[.slice bA bl.length bc,.slice pA pl.length pc,.slice rA rl.length rc,.int .i64 arms] 26):=⟨_,rfl⟩;have f0:w0.cell? ⟨w.heap.size,0,none⟩=some (.slice bA bl.length bc):=by rw[hw0];exact alloc_cell _ _ _ _ _ rfl
 have f1:w0.cell? ⟨w.heap.size,1,none⟩=some (.slice pA pl.length pc):=by rw[hw0];exact alloc_cell _ _ _ _ _ rfl
 have f2:w0.cell? ⟨w.heap.size,2,none⟩=some (.slice rA rl.length rc):=by rw[hw0];exact alloc_cell _ _ _ _ _ rfl
 have HB0:=aH (show Below w.heap.size w w0 by rw[hw0];exact bL (bR _ _) _);have HD0:=aH (HD.out.then HB0.out);obtain⟨i0,hi,hz0,hz1,hz2⟩:=info_parts KU.info;obtain⟨w1,hmk,hown,hgr⟩:=run_make_own (P:=Tryz.prog) w0 w0.heap.size 255 258 i0 _ 4 Tryz.underlying255 hi hz0 hz1 .i64 .i64 32 (by rw[hz2];decide) (by decide) (nR _);have hsz:w0.heap.size=w.heap.size+1:=by rw[hw0];simp
 rw[show(Value.slice (some ⟨w0.heap.size,0,none⟩) 0 32)=Value.slice (some ⟨w.heap.size+1,0,none⟩) 0 32 by rw[hsz]]at hown hmk;have HO1:=aH (show KU.Own w1 w0.heap.size (.slice (some ⟨w.heap.size+1,0,none⟩) 0 32) []from⟨hown,fun x hx=>by simp at hx⟩);have HB1:=aH (show Below w0.heap.size w0 w1 from(bR _ _).grown hgr (nR _) (fun k hk=>by cases hk));have HD1:=aH (HD0.out.then HB1.out);have HF:=aH (show ∀w2,Below w0.heap.size w0 w2→w2.cell? ⟨w.heap.size,0,none⟩=some (.slice bA bl.length bc)∧w2.cell? ⟨w.heap.size,1,none⟩=some (.slice pA pl.length pc)∧w2.cell? ⟨w.heap.size,2,none⟩=some (.slice rA rl.length rc)from
  fun w2 hb=>⟨kK hb f0,kK hb f1,kK hb f2⟩)
 clear hown hgr hi hz0 hz1 hz2 f0 f1 f2;obtain⟨h0,h1,h2⟩:=HF.out w1 HB1.out;rw[hw0]at hmk;have hmk':(Instr.makeSlice 255 (.int .i64 0) (.int .i64 32)).run Tryz.prog (w.alloc (.cells #[.slice bA bl.length bc,.slice pA pl.length pc,.slice rA rl.length rc,.int .i64 arms] 26))=.ok (.slice (some ⟨w.heap.size+1,0,none⟩) 0 32) w1:=hmk;clear hmk;go_enter Tryz.func241,Tryz.ntmps241;go_wp2;clear hmk' h0 h1 h2 hw0 hsz;obtain⟨v0,hv0⟩:∃v,v=Value.slice (some ⟨w.heap.size+1,0,none⟩) 0 32:=⟨_,rfl⟩;rw[←hv0]at HO1
 go_loopw [3,13] (fun v i wr=>∃k:Nat,k≤pl.length∧i=.int .i64 k∧KU.Own wr w0.heap.size v ((List.range k).map (plateU pl))∧Below w0.heap.size w0 wr) (fun _ i _=>pl.length-(intOf i).toNat)
 case atStart=>exact⟨0,Nat.zero_le _,rfl,by rw[←hv0];exact HO1.out,HB1.out⟩
 case round=>
  obtain⟨k,hk,rfl,hown,hbl⟩:=hrel;have HO:=aH hown;have HB:=aH hbl;clear hown hbl;by_cases hlt:k<pl.length
  ·obtain⟨b,off,rfl,hb,hc,hcell⟩:=plate_cells (HD0.out.p.below HB.out) (by dsimp only;omega);obtain⟨c0,c1,c2,c3,c4,c5,c6⟩:=hcell k hlt;have HS:=aH (map_snoc (plateU pl) k);obtain⟨o1,o2,_⟩:=HD0.out.p.okAt k hlt;have HOK:=aH (show KU.ok (plateU pl k)from⟨(by decide:fits 1),(show fits (k:Int)by unfold fits;omega),o1,o2⟩);have HLN:=aH (show((List.range k).map (plateU pl)).length=k by simp);have hu:plateU pl k=⟨1,k,(pl.getD k KP.dflt).rows,(pl.getD k KP.dflt).cols⟩:=rfl;rw[hu]at HS HOK;clear hcell hu o1 o2;dsimp only at *;generalize pl.getD k KP.dflt=q at *;generalize (List.range k).map (plateU pl)=L at *;go_wp2_with (at_builtin;refine Lk.wpList_app (K:=KU) _ rfl _ _ rfl rfl w0.heap.size (wr.heap.size+1+1) _ _ L [⟨1,k,q.rows,q.cols⟩] rfl rfl ((HO.out.alloc _).alloc _) (Lk.IsL.lit (K:=KU) _ ⟨1,k,q.rows,q.cols⟩ _ HOK.out rfl (wr.heap.size+1) (by simp)) ?c1 ?c2 ?_)
   case c1=>have:=HLN.out;simp;omega
   case c2=>have:=HB.out.size;simp;omega
   intro v1 w2 hown hgrow _;have HB2:=aH (Lk.Own.grow' ((HO.out.alloc _).alloc _) (bL (bL HB.out _) _) (by have:=HB.out.size;simp;omega) hgrow);have HO2:=aH hown;clear hown hgrow;go_wp2
   go_roundw
   case rel=>exact⟨k+1,by omega,num_i (by omega),by rw[HS.out];exact HO2.out,HB2.out⟩
   case measure=>simp[intOf];omega
  ·obtain rfl:k=pl.length:=(by omega);obtain⟨w2,hw2⟩:∃w2,w2=wr:=⟨_,rfl⟩;subst hw2;obtain⟨q0,q1,q2⟩:=HF.out w2 HB.out;obtain⟨L1,hL1⟩:∃L1,L1=(List.range pl.length).map (plateU pl):=⟨_,rfl⟩;have HLL:=aH (show L1.length=pl.length by rw[hL1];simp);rw[←hL1]at HO HU;clear hL1;go_wp2;clear q0 q1 q2;obtain⟨va,hva⟩:∃v,v=u3:=⟨_,rfl⟩;rw[←hva]at HO
   go_loopw [3,31] (fun v i wr=>∃k:Nat,k≤rl.length∧i=.int .i64 k∧KU.Own wr w0.heap.size v (L1++(List.range k).map (rackU rl))∧Below w0.heap.size w0 wr) (fun _ i _=>rl.length-(intOf i).toNat)
   case atStart=>exact⟨0,Nat.zero_le _,rfl,by rw[←hva];simpa using HO.out,HB.out⟩
   case round=>
    clear HO;obtain⟨k,hk,rfl,hown,hbl⟩:=hrel;have HO:=aH hown;have HB2:=aH hbl;clear hown hbl;by_cases hlt:k<rl.length
    ·obtain⟨b,off,rfl,hb,hc,hcell⟩:=rack_cells (HD0.out.r.below HB2.out) (by dsimp only;omega);obtain⟨c0,c1,c2,c3,c4⟩:=hcell k hlt;have HS:=aH (map_snoc (rackU rl) k);obtain⟨o1,o2,_⟩:=HD0.out.r.okAt k hlt;have HOK:=aH (show KU.ok (rackU rl k)from⟨(by decide:fits 2),(show fits (k:Int)by unfold fits;omega),o1,o2⟩);have HLN:=aH (show(L1++(List.range k).map (rackU rl)).length=pl.length+k by rw[List.length_append,HLL.out];simp);have hu:rackU rl k=⟨2,k,(rl.getD k KR.dflt).rows,(rl.getD k KR.dflt).cols⟩:=rfl;rw[hu]at HS HOK;clear hcell hu o1 o2;dsimp only at *;generalize rl.getD k KR.dflt=q at *;have HS2:=aH (show L1++(List.range (k+1)).map (rackU rl)=(L1++(List.range k).map (rackU rl))++[⟨2,k,q.rows,q.cols⟩]by rw[HS.out,List.append_assoc]);clear HS;generalize L1++(List.range k).map (rackU rl)=L at *;go_wp2_with (at_builtin;refine Lk.wpList_app (K:=KU) _ rfl _ _ rfl rfl w0.heap.size (wr.heap.size+1+1) _ _ L [⟨2,k,q.rows,q.cols⟩] rfl rfl ((HO.out.alloc _).alloc _) (Lk.IsL.lit (K:=KU) _ ⟨2,k,q.rows,q.cols⟩ _ HOK.out rfl (wr.heap.size+1) (by simp)) ?c1 ?c2 ?_)
     case c1=>have:=HLN.out;simp;omega
     case c2=>have:=HB2.out.size;simp;omega
     intro v1 w3 hown hgrow _;have HB3:=aH (Lk.Own.grow' ((HO.out.alloc _).alloc _) (bL (bL HB2.out _) _) (by have:=HB2.out.size;simp;omega) hgrow);have HO3:=aH hown;clear hown hgrow;go_wp2
     go_roundw
     case rel=>exact⟨k+1,by omega,num_i (by omega),by rw[HS2.out];exact HO3.out,HB3.out⟩
     case measure=>simp[intOf];omega
    ·obtain rfl:k=rl.length:=(by omega);obtain⟨w3,hw3⟩:∃w3,w3=wr:=⟨_,rfl⟩;subst hw3;obtain⟨q0,q1,q2⟩:=HF.out w3 HB2.out;obtain⟨L2,hL2⟩:∃L2,L2=L1++(List.range rl.length).map (rackU rl):=⟨_,rfl⟩;have HLL2:=aH (show L2.length=pl.length+rl.length by rw[hL2,List.length_append,HLL.out];simp);rw[←hL2]at HO HU;clear hL2;obtain⟨nb,hnb⟩:∃nb,bl.length=nb+1:=⟨bl.length-1,by omega⟩;rw[hnb]at q0 hb1 hb2;rw[show bl.length-1=nb by omega]at HU;clear hnb;go_wp2;clear q0 q1 q2;obtain⟨vb,hvb⟩:∃v,v=u3:=⟨_,rfl⟩;rw[←hvb]at HO
     go_loopw [3,50] (fun v i wr=>∃k:Nat,k≤nb∧i=.int .i64 k∧KU.Own wr w0.heap.size v (L2++(List.range k).map laneU)∧Below w0.heap.size w0 wr) (fun _ i _=>nb-(intOf i).toNat)
     case atStart=>exact⟨0,Nat.zero_le _,rfl,by rw[←hvb];simpa using HO.out,HB2.out⟩
     case round=>
      clear HO;obtain⟨k,hk,rfl,hown,hbl⟩:=hrel;have HO:=aH hown;have HB3:=aH hbl;clear hown hbl;by_cases hlt:k<nb
      ·have HS:=aH (map_snoc laneU k);have HOK:=aH (show KU.ok (laneU k)from⟨(by decide:fits 3),(show fits (k:Int)by unfold fits;omega),(by decide:fits 1),(by decide:fits 1)⟩);have HLN:=aH (show(L2++(List.range k).map laneU).length=pl.length+rl.length+k by rw[List.length_append,HLL2.out];simp);have hu:laneU k=⟨3,k,1,1⟩:=rfl;rw[hu]at HS HOK;clear hu;have HS2:=aH (show L2++(List.range (k+1)).map laneU=(L2++(List.range k).map laneU)++[⟨3,k,1,1⟩]by rw[HS.out,List.append_assoc]);clear HS;generalize L2++(List.range k).map laneU=L at *;go_wp2_with (at_builtin;refine Lk.wpList_app (K:=KU) _ rfl _ _ rfl rfl w0.heap.size (wr.heap.size+1) _ _ L [⟨3,k,1,1⟩] rfl rfl (HO.out.alloc _) (Lk.IsL.lit (K:=KU) _ ⟨3,k,1,1⟩ _ HOK.out rfl wr.heap.size rfl) ?c1 ?c2 ?_)
       case c1=>have:=HLN.out;simp;omega
       case c2=>have:=HB3.out.size;simp;omega
       intro v1 w4 hown hgrow _;have HB4:=aH (Lk.Own.grow' (HO.out.alloc _) (bL HB3.out _) (by have:=HB3.out.size;simp;omega) hgrow);have HO4:=aH hown;clear hown hgrow;go_wp2
       go_roundw
       case rel=>exact⟨k+1,by omega,num_i (by omega),by rw[HS2.out];exact HO4.out,HB4.out⟩
       case measure=>simp[intOf];omega
      ·obtain rfl:k=nb:=(by omega);go_wp2
       go_ret
       exact⟨_,rfl,by rw[HU.out];exact HO.out.mono HB0.out.size,bC HB0.out HB3.out⟩
structure OkD (d:Dk):Prop where
 rise:Rise d.bl
 p4:d.pl.length≤4
 r4:d.rl.length≤4
 arm:1≤d.arms∧d.arms≤8
 pl:∀i,i<d.pl.length→plateB (d.pl.getD i KP.dflt)=true
 rl:∀i,i<d.rl.length→rackB (d.rl.getD i KR.dflt)=true
 wells:wellsV d.pl≤384
 tips:tipsV d.rl≤384
theorem dchk_ok (d:Dk) (h:dchk d=0):OkD d:=by
 by_cases hz:chkE d.bl=0
 ·by_cases h1:1≤d.arms∧d.arms≤8
  ·by_cases h2:4<d.pl.length∨4<d.rl.length
   ·rw[dchk_l d hz h1 h2]at h;cases h
   ·rcases h3:d.pl.all plateB with _|_
    ·rw[dchk_p d hz h1 h2 h3]at h;cases h
    ·rcases h4:d.rl.all rackB with _|_
     ·rw[dchk_r d hz h1 h2 h3 h4]at h;cases h
     ·rw[dchk_n d hz h1 h2 h3 h4]at h;have h5:¬(384<wellsV d.pl∨384<tipsV d.rl):=fun hh=>(by rw[if_pos hh]at h;cases h);exact⟨rise_of _ hz,by omega,by omega,h1,fun i hi=>List.all_eq_true.1 h3 _ (getD_mem' _ i _ hi),fun i hi=>List.all_eq_true.1 h4 _ (getD_mem' _ i _ hi),by omega,by omega⟩
  ·rw[dchk_a d hz h1]at h;cases h
 ·rw[dchk_b d hz]at h;exact absurd h hz
theorem units_ok (d:Dk) (h:OkD d):∀u∈unitsL d,okU u:=by
 intro u hu;have h2:=h.rise.most;have h3:=h.p4;have h4:=h.r4;unfold unitsL at hu;rcases List.mem_append.1 hu with hu|hu
 ·rcases List.mem_append.1 hu with hu|hu
  ·obtain⟨i,hi,rfl⟩:=List.mem_map.1 hu;have hi:=List.mem_range.1 hi;exact⟨.inl rfl,show(0:Int)≤(i:Int)by omega,show(i:Int)≤23 by omega,plate_size (h.pl i hi)⟩
  ·obtain⟨i,hi,rfl⟩:=List.mem_map.1 hu;have hi:=List.mem_range.1 hi;exact⟨.inr (.inl rfl),show(0:Int)≤(i:Int)by omega,show(i:Int)≤23 by omega,h.rl i hi⟩
 ·obtain⟨i,hi,rfl⟩:=List.mem_map.1 hu;have hi:=List.mem_range.1 hi;exact⟨.inr (.inr rfl),show(0:Int)≤(i:Int)by omega,show(i:Int)≤23 by omega,(by decide:sizeB 1 1=true)⟩
theorem units_len (d:Dk) (h:OkD d):(unitsL d).length≤32:=by
 have h2:=h.rise.most;have h3:=h.p4;have h4:=h.r4;unfold unitsL;simp;omega
noncomputable def partV (d:Dk) (id:Int):Q4×Int:=if dchk d=0 then partR (partsL d) id else(⟨0,0,0,0⟩,dchk d)
def partVal (t:Q4×Int):Value:=.tuple #[.agg #[.int .i64 t.1.a,.int .i64 t.1.b,.int .i64 t.1.c,.int .i64 t.1.d],.int .i64 t.2]
theorem st4 {w:World} {b:Nat} {u0 u1 u2 u3:Value} (x0 x1 x2 x3:Value) (h0:w.cell? ⟨b,0,none⟩=some u0) (h1:w.cell? ⟨b,1,none⟩=some u1) (h2:w.cell? ⟨b,2,none⟩=some u2) (h3:w.cell? ⟨b,3,none⟩=some u3):
  ((((w.setCell ⟨b,0,none⟩ x0).setCell ⟨b,1,none⟩ x1).setCell ⟨b,2,none⟩ x2).setCell ⟨b,3,none⟩ x3).cell? ⟨b,0,none⟩=some x0∧((((w.setCell ⟨b,0,none⟩ x0).setCell ⟨b,1,none⟩ x1).setCell ⟨b,2,none⟩ x2).setCell ⟨b,3,none⟩ x3).cell? ⟨b,1,none⟩=some x1∧
  ((((w.setCell ⟨b,0,none⟩ x0).setCell ⟨b,1,none⟩ x1).setCell ⟨b,2,none⟩ x2).setCell ⟨b,3,none⟩ x3).cell? ⟨b,2,none⟩=some x2∧((((w.setCell ⟨b,0,none⟩ x0).setCell ⟨b,1,none⟩ x1).setCell ⟨b,2,none⟩ x2).setCell ⟨b,3,none⟩ x3).cell? ⟨b,3,none⟩=some x3:=
 ⟨sO (sO (sO (st_same h0) (by simp)) (by simp)) (by simp),sO (sO (st_same (sO h1 (by simp))) (by simp)) (by simp),
  sO (st_same (sO (sO h2 (by simp)) (by simp))) (by simp),st_same (sO (sO (sO h3 (by simp)) (by simp)) (by simp))⟩
theorem below_st4 {W w:World} {b:Nat} (x0 x1 x2 x3:Value) (h:Below W.heap.size W w) (hb:W.heap.size≤b):Below W.heap.size W ((((w.setCell ⟨b,0,none⟩ x0).setCell ⟨b,1,none⟩ x1).setCell ⟨b,2,none⟩ x2).setCell ⟨b,3,none⟩ x3):=
 bS (bS (bS (bS h hb) hb) hb) hb
theorem st4_far {w:World} {b b2 i:Nat} {u x0 x1 x2 x3:Value} (h:w.cell? ⟨b2,i,none⟩=some u) (hne:b≠b2):((((w.setCell ⟨b,0,none⟩ x0).setCell ⟨b,1,none⟩ x1).setCell ⟨b,2,none⟩ x2).setCell ⟨b,3,none⟩ x3).cell? ⟨b2,i,none⟩=some u:=
 sO (sO (sO (sO h (fun e=>hne (by injection e))) (fun e=>hne (by injection e))) (fun e=>hne (by injection e))) (fun e=>hne (by injection e))
theorem st4_fz {w:World} {b b2 i:Nat} {x0 x1 x2 x3:Value} (h:w.frozen? ⟨b2,i,none⟩=false):((((w.setCell ⟨b,0,none⟩ x0).setCell ⟨b,1,none⟩ x1).setCell ⟨b,2,none⟩ x2).setCell ⟨b,3,none⟩ x3).frozen? ⟨b2,i,none⟩=false:=sF (sF (sF (sF h)))
theorem part_any (d:Dk) (id:Int) (hid:fits id) (w:World) (hd:d.In w w.heap.size):Calls Tryz.prog 205 #[d.v,.int .i64 id] w fun e w'=>e=.returned (partVal (partV d id))∧Below w.heap.size w w':=by
 have HC:=aH (fun w h=>dcheck_any d w h);have HD:=aH hd;have HU:=aH (fun w h a b c e=>units_any d w h a b c e);obtain⟨w0,hw0⟩:∃w0,w0=(w.alloc d.ob).alloc (.cells #[.int .i64 0,.int .i64 0,.int .i64 0,.int .i64 0] 153):=⟨_,rfl⟩;have HB0:=aH (show Below w.heap.size w w0 by rw[hw0];exact bL (bL (bR _ _) _) _);have HD0:=aH (HD.out.then HB0.out);have HSZ:=aH (show w.heap.size+1<w0.heap.size by rw[hw0];simp);have HF:=aH (show ∀w1,Below w0.heap.size w0 w1→(w1.cell? ⟨w.heap.size,0,none⟩=some (.slice d.bA d.bn d.bc)∧w1.cell? ⟨w.heap.size,1,none⟩=some (.slice d.pA d.pn d.pc)∧w1.cell? ⟨w.heap.size,2,none⟩=some (.slice d.rA d.rn d.rc)∧w1.cell? ⟨w.heap.size,3,none⟩=some (.int .i64 d.arms))∧
  (w1.cell? ⟨w.heap.size+1,0,none⟩=some (.int .i64 0)∧w1.cell? ⟨w.heap.size+1,1,none⟩=some (.int .i64 0)∧w1.cell? ⟨w.heap.size+1,2,none⟩=some (.int .i64 0)∧w1.cell? ⟨w.heap.size+1,3,none⟩=some (.int .i64 0))∧
  (w1.frozen? ⟨w.heap.size+1,0,none⟩=false∧w1.frozen? ⟨w.heap.size+1,1,none⟩=false∧w1.frozen? ⟨w.heap.size+1,2,none⟩=false∧w1.frozen? ⟨w.heap.size+1,3,none⟩=false)from by
   intro w1 hb;have hs:w.heap.size+1<w0.heap.size:=(by rw[hw0];simp);refine⟨⟨kK hb ?_,kK hb ?_,kK hb ?_,kK hb ?_⟩,⟨kK hb ?_,kK hb ?_,kK hb ?_,kK hb ?_⟩,(hb.frozen (p:=⟨_,0,none⟩) hs).trans ?_,(hb.frozen (p:=⟨_,1,none⟩) hs).trans ?_,(hb.frozen (p:=⟨_,2,none⟩) hs).trans ?_,(hb.frozen (p:=⟨_,3,none⟩) hs).trans ?_⟩;all_goals (rw[hw0];simp))
 by_cases hz:dchk d=0
 ·have hok:=dchk_ok d hz;have HP:=aH (show partV d id=partU (unitsL d) id by unfold partV partsL;rw[if_pos hz,partU_R _ (units_ok d hok)]);have HOK:=aH hok;have HUO:=aH (units_ok d hok);have HUL:=aH (units_len d hok);rw[HP.out];rw[hz]at HC;clear hz HP hok hd;obtain⟨us,hus⟩:∃us,us=unitsL d:=⟨_,rfl⟩;rw[←hus]at HUO HUL HU⊢;clear hus;go_enter Tryz.func205,Tryz.ntmps205;go_wp2_with fail
  go_step3
  go_wp2_with fail;rw[←hw0];clear hw0;refine(HC.out _ HD0.out).mono ?_;rintro e w1 ⟨rfl,hb1⟩;obtain⟨⟨d0,d1,d2,d3⟩,_,_⟩:=HF.out w1 hb1;have HB1:=aH hb1;have hz1:w.heap.size+1<w1.heap.size:=nL HSZ.out hb1.size;have hz0:w.heap.size<w1.heap.size:=by omega
  clear hb1;go_wp2_with fail
  go_step3
  go_wp2_with fail;clear d0 d1 d2 d3;have p0:(w1.alloc (.cells #[.int .i64 0,.int .i64 0,.int .i64 0,.int .i64 0] 153)).cell? ⟨w1.heap.size,0,none⟩=some (.int .i64 0):=alloc_cell _ _ _ _ _ rfl;have p1:(w1.alloc (.cells #[.int .i64 0,.int .i64 0,.int .i64 0,.int .i64 0] 153)).cell? ⟨w1.heap.size,1,none⟩=some (.int .i64 0):=alloc_cell _ _ _ _ _ rfl;have p2:(w1.alloc (.cells #[.int .i64 0,.int .i64 0,.int .i64 0,.int .i64 0] 153)).cell? ⟨w1.heap.size,2,none⟩=some (.int .i64 0):=alloc_cell _ _ _ _ _ rfl;have p3:(w1.alloc (.cells #[.int .i64 0,.int .i64 0,.int .i64 0,.int .i64 0] 153)).cell? ⟨w1.heap.size,3,none⟩=some (.int .i64 0):=alloc_cell _ _ _ _ _ rfl;have z0:(w1.alloc (.cells #[.int .i64 0,.int .i64 0,.int .i64 0,.int .i64 0] 153)).frozen? ⟨w1.heap.size,0,none⟩=false:=by simp
  have z1:(w1.alloc (.cells #[.int .i64 0,.int .i64 0,.int .i64 0,.int .i64 0] 153)).frozen? ⟨w1.heap.size,1,none⟩=false:=by simp
  have z2:(w1.alloc (.cells #[.int .i64 0,.int .i64 0,.int .i64 0,.int .i64 0] 153)).frozen? ⟨w1.heap.size,2,none⟩=false:=by simp
  have z3:(w1.alloc (.cells #[.int .i64 0,.int .i64 0,.int .i64 0,.int .i64 0] 153)).frozen? ⟨w1.heap.size,3,none⟩=false:=by simp
  have hB2:=bL HB1.out (.cells #[.int .i64 0,.int .i64 0,.int .i64 0,.int .i64 0] 153);have hs2:w1.heap.size<(w1.alloc (.cells #[.int .i64 0,.int .i64 0,.int .i64 0,.int .i64 0] 153)).heap.size:=by simp
  generalize w1.alloc (.cells #[.int .i64 0,.int .i64 0,.int .i64 0,.int .i64 0] 153)=w2 at p0 p1 p2 p3 z0 z1 z2 z3 hB2 hs2⊢;have hg:w0.heap.size≤w1.heap.size:=HB1.out.size;generalize w1.heap.size=g at p0 p1 p2 p3 z0 z1 z2 z3 hs2 hg hz0 hz1⊢;have HB2:=aH hB2;clear hB2 HB1;refine(HU.out w2 (HD0.out.then HB2.out) HOK.out.p4 HOK.out.r4 HOK.out.rise.two HOK.out.rise.most).mono ?_;rintro e w3 ⟨v,rfl,hown,hb3⟩;have HG:=aH (show ∀w4,Below w3.heap.size w3 w4→(w4.cell? ⟨g,0,none⟩=some (.int .i64 0)∧w4.cell? ⟨g,1,none⟩=some (.int .i64 0)∧w4.cell? ⟨g,2,none⟩=some (.int .i64 0)∧w4.cell? ⟨g,3,none⟩=some (.int .i64 0))∧
   (w4.frozen? ⟨g,0,none⟩=false∧w4.frozen? ⟨g,1,none⟩=false∧w4.frozen? ⟨g,2,none⟩=false∧w4.frozen? ⟨g,3,none⟩=false)from fun w4 hb=>
    have hb4:=bC hb3 hb
    ⟨⟨kK hb4 p0,kK hb4 p1,kK hb4 p2,kK hb4 p3⟩,(hb4.frozen (p:=⟨_,0,none⟩) hs2).trans z0,(hb4.frozen (p:=⟨_,1,none⟩) hs2).trans z1,(hb4.frozen (p:=⟨_,2,none⟩) hs2).trans z2,(hb4.frozen (p:=⟨_,3,none⟩) hs2).trans z3⟩)
  have HB3:=aH (bC HB2.out hb3);have hs3:g<w3.heap.size:=nL hs2 hb3.size;have HL:=aH (hown.isL (by have:=HUL.out;omega));obtain⟨⟨A,cap,rfl,hcap,_⟩,_,_⟩:=HL.out;have hul:us.length≤32:=HUL.out;clear p0 p1 p2 p3 z0 z1 z2 z3 hown hb3 hs2;go_wp2
  go_loopw [8,9,23] (fun e l i wr=>∃(k:Nat) (left:Int),k≤us.length∧i=.int .i64 k∧l=.int .i64 left∧e=.int .i64 3∧fits left∧partU (us.drop k) left=partU us id∧Below w3.heap.size w3 wr) (fun _ _ i _=>us.length-(intOf i).toNat)
  case atStart=>exact⟨0,id,Nat.zero_le _,rfl,rfl,rfl,hid,rfl,bR _ _⟩
  case round=>
   obtain⟨k,left,hk,rfl,rfl,rfl,hfl,hgo,hbl⟩:=hrel;have HB:=aH hbl;have HGO:=aH hgo;unfold fits at hfl;have hgr:g<wr.heap.size:=nL hs3 hbl.size;have hwr:w.heap.size+1<wr.heap.size:=(by omega);have HW:=aH (bC HB3.out hbl);clear hbl hgo;by_cases hlt:k<us.length
   ·obtain⟨b,off,rfl,hbB,_,hcell⟩:=q4_cells (K:=KU) rfl rfl rfl (HL.out.below HB.out) (by omega);obtain⟨c0,c1,c2,c3⟩:=hcell k hlt;have HU1:=aH (HUO.out _ (getD_mem' us k ⟨0,0,0,0⟩ hlt));have hgo:=HGO.out;rw[drop_snoc us k ⟨0,0,0,0⟩ hlt]at hgo;clear hcell;generalize us.getD k ⟨0,0,0,0⟩=u at *;obtain⟨o1,o2,o3,o4,o5,o6,o7⟩:=okU_pos HU1.out;have od:1≤u.d:=(by omega);have oc:u.c*u.d≤1536:=(by omega);have oc1:1≤u.c*u.d:=(by omega);have HPA:=aH (parts_any u HU1.out);clear o1 o2 o3 o4 o5 o6 o7;rw[partU]at hgo;by_cases l0:left<0
    ·rw[if_pos l0]at hgo;have HF1:=aH hgo;clear hgo;obtain⟨⟨r0,r1,r2,r3⟩,_⟩:=HG.out wr HB.out;obtain⟨_,⟨q0,q1,q2,q3⟩,⟨z0,z1,z2,z3⟩⟩:=HF.out wr HW.out;go_wp2;rw[Exit.noGoto_ret];obtain⟨y0,y1,y2,y3⟩:=st4 (.int .i64 0) (.int .i64 0) (.int .i64 0) (.int .i64 0) q0 q1 q2 q3;have hb:=below_st4 (.int .i64 0) (.int .i64 0) (.int .i64 0) (.int .i64 0) (bC HB0.out HW.out) (show w.heap.size≤w.heap.size+1 by omega);generalize (((wr.setCell ⟨w.heap.size+1,0,none⟩ (.int .i64 0)).setCell ⟨w.heap.size+1,1,none⟩ (.int .i64 0)).setCell ⟨w.heap.size+1,2,none⟩ (.int .i64 0)).setCell ⟨w.heap.size+1,3,none⟩ (.int .i64 0)=w5 at *;have y0':=kK (bL (bR _ _) (.cells #[.int .i64 u.a,.int .i64 u.b,.int .i64 u.c,.int .i64 u.d] 258)) y0;have y1':=kK (bL (bR _ _) (.cells #[.int .i64 u.a,.int .i64 u.b,.int .i64 u.c,.int .i64 u.d] 258)) y1;have y2':=kK (bL (bR _ _) (.cells #[.int .i64 u.a,.int .i64 u.b,.int .i64 u.c,.int .i64 u.d] 258)) y2;have y3':=kK (bL (bR _ _) (.cells #[.int .i64 u.a,.int .i64 u.b,.int .i64 u.c,.int .i64 u.d] 258)) y3;exact bP (v:=.tuple #[.agg #[.int .i64 0,.int .i64 0,.int .i64 0,.int .i64 0],.int .i64 3]) (by simp[results,Tryz.results205,go_sem,y0',y1',y2',y3']) rfl ⟨by rw[←HF1.out];rfl,bL hb _⟩
    ·rw[if_neg l0]at hgo;by_cases l1:left<u.c*u.d
     ·rw[if_pos l1]at hgo;have HF1:=aH hgo;clear hgo;go_wp2_with fail;refine(HPA.out _).mono ?_;rintro e w4 ⟨rfl,hb4⟩;have y0:w4.cell? ⟨wr.heap.size,0,none⟩=some (.int .i64 u.a):=kK hb4 (alloc_cell _ _ _ _ _ rfl);have y1:w4.cell? ⟨wr.heap.size,1,none⟩=some (.int .i64 u.b):=kK hb4 (alloc_cell _ _ _ _ _ rfl);have y3:w4.cell? ⟨wr.heap.size,3,none⟩=some (.int .i64 u.d):=kK hb4 (alloc_cell _ _ _ _ _ rfl);have HB4:=aH (bC (bL HB.out _) hb4);have HW4:=aH (bC (bL HW.out _) hb4);obtain⟨⟨r0,r1,r2,r3⟩,⟨x0,x1,x2,x3⟩⟩:=HG.out w4 HB4.out;obtain⟨_,⟨q0,q1,q2,q3⟩,⟨z0,z1,z2,z3⟩⟩:=HF.out w4 HW4.out;have hgw:g<w4.heap.size:=nL hs3 HB4.out.size;clear hb4;go_wp2
      go_region
      obtain⟨s0,s1,s2,s3⟩:=st4 (.int .i64 u.a) (.int .i64 u.b) (.int .i64 (left/u.d)) (.int .i64 (left%u.d)) r0 r1 r2 r3;have hne:g≠w.heap.size+1:=(by omega);have m0:=st4_far (b:=g) (x0:=.int .i64 u.a) (x1:=.int .i64 u.b) (x2:=.int .i64 (left/u.d)) (x3:=.int .i64 (left%u.d)) q0 hne;have m1:=st4_far (b:=g) (x0:=.int .i64 u.a) (x1:=.int .i64 u.b) (x2:=.int .i64 (left/u.d)) (x3:=.int .i64 (left%u.d)) q1 hne;have m2:=st4_far (b:=g) (x0:=.int .i64 u.a) (x1:=.int .i64 u.b) (x2:=.int .i64 (left/u.d)) (x3:=.int .i64 (left%u.d)) q2 hne;have m3:=st4_far (b:=g) (x0:=.int .i64 u.a) (x1:=.int .i64 u.b) (x2:=.int .i64 (left/u.d)) (x3:=.int .i64 (left%u.d)) q3 hne;have n0:=st4_fz (b:=g) (x0:=.int .i64 u.a) (x1:=.int .i64 u.b) (x2:=.int .i64 (left/u.d)) (x3:=.int .i64 (left%u.d)) z0;have n1:=st4_fz (b:=g) (x0:=.int .i64 u.a) (x1:=.int .i64 u.b) (x2:=.int .i64 (left/u.d)) (x3:=.int .i64 (left%u.d)) z1;have n2:=st4_fz (b:=g) (x0:=.int .i64 u.a) (x1:=.int .i64 u.b) (x2:=.int .i64 (left/u.d)) (x3:=.int .i64 (left%u.d)) z2;have n3:=st4_fz (b:=g) (x0:=.int .i64 u.a) (x1:=.int .i64 u.b) (x2:=.int .i64 (left/u.d)) (x3:=.int .i64 (left%u.d)) z3;have hb5:=below_st4 (.int .i64 u.a) (.int .i64 u.b) (.int .i64 (left/u.d)) (.int .i64 (left%u.d)) HW4.out hg;clear r0 r1 r2 r3 x0 x1 x2 x3 q0 q1 q2 q3 z0 z1 z2 z3 y0 y1 y3;generalize (((w4.setCell ⟨g,0,none⟩ (.int .i64 u.a)).setCell ⟨g,1,none⟩ (.int .i64 u.b)).setCell ⟨g,2,none⟩ (.int .i64 (left/u.d))).setCell ⟨g,3,none⟩ (.int .i64 (left%u.d))=w5 at *;have HB5:=aH hb5;clear hb5;go_wp2;rw[Exit.noGoto_ret];obtain⟨y0,y1,y2,y3⟩:=st4 (.int .i64 u.a) (.int .i64 u.b) (.int .i64 (left/u.d)) (.int .i64 (left%u.d)) m0 m1 m2 m3
      have hb:=below_st4 (.int .i64 u.a) (.int .i64 u.b) (.int .i64 (left/u.d)) (.int .i64 (left%u.d)) (bC HB0.out HB5.out) (show w.heap.size≤w.heap.size+1 by omega);exact bP (v:=.tuple #[.agg #[.int .i64 u.a,.int .i64 u.b,.int .i64 (left/u.d),.int .i64 (left%u.d)],.int .i64 0]) (by simp[results,Tryz.results205,go_sem,y0,y1,y2,y3]) rfl ⟨by rw[←HF1.out];rfl,Below.drew hb⟩
     ·rw[if_neg l1]at hgo;have HF1:=aH hgo;have l2:u.c*u.d≤left:=(by omega);clear hgo;go_wp2_with fail;refine(HPA.out _).mono ?_;rintro e w4 ⟨rfl,hb4⟩;have y0:w4.cell? ⟨wr.heap.size,0,none⟩=some (.int .i64 u.a):=kK hb4 (alloc_cell _ _ _ _ _ rfl);have y1:w4.cell? ⟨wr.heap.size,1,none⟩=some (.int .i64 u.b):=kK hb4 (alloc_cell _ _ _ _ _ rfl);have y2:w4.cell? ⟨wr.heap.size,2,none⟩=some (.int .i64 u.c):=kK hb4 (alloc_cell _ _ _ _ _ rfl);have y3:w4.cell? ⟨wr.heap.size,3,none⟩=some (.int .i64 u.d):=kK hb4 (alloc_cell _ _ _ _ _ rfl);have HB4:=aH (bC (bL HB.out _) hb4);clear hb4;go_wp2_with fail;refine(HPA.out _).mono ?_;rintro e w5 ⟨rfl,hb5⟩;have HB5:=aH (bC HB4.out hb5);clear hb5;go_wp2
      go_roundw
      case rel=>exact⟨k+1,left-u.c*u.d,by omega,num_i (by omega),num_i (by omega),rfl,by unfold fits;omega,HF1.out,HB5.out⟩
      case measure=>simp[intOf];omega
   ·obtain rfl:k=us.length:=(by omega);have HF1:=aH (show partU us id=(⟨0,0,0,0⟩,3)by rw[←HGO.out,List.drop_length];rfl);obtain⟨⟨r0,r1,r2,r3⟩,_⟩:=HG.out wr HB.out;obtain⟨_,⟨q0,q1,q2,q3⟩,⟨z0,z1,z2,z3⟩⟩:=HF.out wr HW.out;go_wp2;obtain⟨y0,y1,y2,y3⟩:=st4 (.int .i64 0) (.int .i64 0) (.int .i64 0) (.int .i64 0) q0 q1 q2 q3;have hb:=below_st4 (.int .i64 0) (.int .i64 0) (.int .i64 0) (.int .i64 0) (bC HB0.out HW.out) (show w.heap.size≤w.heap.size+1 by omega);rw[Exit.noGoto_ret];exact bP (v:=.tuple #[.agg #[.int .i64 0,.int .i64 0,.int .i64 0,.int .i64 0],.int .i64 3]) (by simp[results,Tryz.results205,go_sem,y0,y1,y2,y3]) rfl ⟨by rw[HF1.out];rfl,hb⟩
 ·have HP:=aH (show partVal (partV d id)=.tuple #[.agg #[.int .i64 0,.int .i64 0,.int .i64 0,.int .i64 0],.int .i64 (dchk d)]by unfold partV;rw[if_neg hz];rfl);have hz':(dchk d != 0)=true:=by rw[bne_iff_ne];exact hz
  rw[HP.out];clear hz HP;generalize dchk d=c at *;go_enter Tryz.func205,Tryz.ntmps205;go_wp2_with fail
  go_step3
  go_wp2_with fail;rw[←hw0];clear hw0;refine(HC.out _ HD0.out).mono ?_;rintro e w1 ⟨rfl,hb1⟩;obtain⟨_,⟨r0,r1,r2,r3⟩,⟨z0,z1,z2,z3⟩⟩:=HF.out w1 hb1;have HB1:=aH (bC HB0.out hb1);clear hb1;go_wp2;rw[Exit.noGoto_ret];obtain⟨y0,y1,y2,y3⟩:=st4 (.int .i64 0) (.int .i64 0) (.int .i64 0) (.int .i64 0) r0 r1 r2 r3;exact bP (v:=.tuple #[.agg #[.int .i64 0,.int .i64 0,.int .i64 0,.int .i64 0],.int .i64 c]) (by simp[results,Tryz.results205,go_sem,y0,y1,y2,y3]) rfl ⟨rfl,below_st4 _ _ _ _ HB1.out (by omega)⟩
noncomputable def cntV (d:Dk):Int×Int×Int:=if dchk d=0 then(wellsV d.pl,tipsV d.rl,(d.bl.length:Int)-1)else(0,0,0)
theorem counts_any (d:Dk) (w:World) (hd:d.In w w.heap.size):Calls Tryz.prog 94 #[d.v] w fun e w'=>e=.returned (.tuple #[.int .i64 (cntV d).1,.int .i64 (cntV d).2.1,.int .i64 (cntV d).2.2])∧Below w.heap.size w w':=by
 have HC:=aH (fun w h=>dcheck_any d w h);have HP:=aH (fun w h a b c e=>places_any d w h a b c e);have HD:=aH hd;have hbn:=hd.b.len;obtain⟨w0,hw0⟩:∃w0,w0=w.alloc d.ob:=⟨_,rfl⟩;have HB0:=aH (show Below w.heap.size w w0 by rw[hw0];exact bL (bR _ _) _);have HD0:=aH (HD.out.then HB0.out);have HF:=aH (show ∀w1,Below w0.heap.size w0 w1→(w1.cell? ⟨w.heap.size,0,none⟩=some (.slice d.bA d.bn d.bc)∧w1.cell? ⟨w.heap.size,1,none⟩=some (.slice d.pA d.pn d.pc)∧w1.cell? ⟨w.heap.size,2,none⟩=some (.slice d.rA d.rn d.rc)∧w1.cell? ⟨w.heap.size,3,none⟩=some (.int .i64 d.arms))from by
   intro w1 hb;refine⟨kK hb ?_,kK hb ?_,kK hb ?_,kK hb ?_⟩;all_goals (rw[hw0];simp))
 by_cases hz:dchk d=0
 ·have HOK:=aH (dchk_ok d hz);have T:cntV d=(wellsV d.pl,tipsV d.rl,(d.bl.length:Int)-1):=by unfold cntV;rw[if_pos hz]
  rw[T];rw[hz]at HC;have b2:=HOK.out.rise.two;have b3:=HOK.out.rise.most;clear hz T hd;dsimp only;rw[←hbn]at b2 b3⊢;clear hbn;generalize wellsV d.pl=s at *;generalize tipsV d.rl=t at *;go_enter Tryz.func94,Tryz.ntmps94;go_wp2_with fail;rw[←hw0];clear hw0;refine(HC.out _ HD0.out).mono ?_;rintro e w1 ⟨rfl,hb1⟩;obtain⟨d0,d1,d2,d3⟩:=HF.out w1 hb1;have HB1:=aH hb1;clear hb1;go_wp2_with fail;refine(HP.out w1 (HD0.out.then HB1.out) HOK.out.p4 HOK.out.r4 (fun i hi=>plate_size (HOK.out.pl i hi)) HOK.out.rl).mono ?_;rintro e w2 ⟨rfl,hb2⟩;have q0:=kK hb2 d0;have HB2:=aH (bC HB1.out hb2);clear hb2 d0 d1 d2 d3;go_wp2_with fail;go_quiet (fail);go_wp2
  go_ret3
  exact⟨rfl,below_drewN (bC HB0.out HB2.out) _⟩
 ·have T:cntV d=(0,0,0):=by unfold cntV;rw[if_neg hz]
  rw[T];have hz':(dchk d != 0)=true:=by rw[bne_iff_ne];exact hz
  clear T hz hd hbn;generalize dchk d=c at *;go_enter Tryz.func94,Tryz.ntmps94;go_wp2_with fail;rw[←hw0];clear hw0;refine(HC.out _ HD0.out).mono ?_;rintro e w1 ⟨rfl,hb1⟩;have HB1:=aH hb1;clear hb1;go_wp2
  go_ret3
  exact⟨rfl,bC HB0.out HB1.out⟩
theorem unitF_at (u:Q4) (r c:Nat) (hc:c<u.d.toNat):unitF u (r*u.d.toNat+c)=⟨u.a,u.b,r,c⟩:=by
 unfold unitF;have hd:(r*u.d.toNat+c)/u.d.toNat=r:=by
  rw[Nat.mul_comm,Nat.mul_add_div (by omega),Nat.div_eq_of_lt hc,Nat.add_zero]
 have hm:(r*u.d.toNat+c)%u.d.toNat=c:=by
  rw[Nat.mul_comm,Nat.mul_add_mod,Nat.mod_eq_of_lt hc]
 rw[hd,hm]
theorem rplaces_any (u:Q4) (hu:okU u) (w:World):Calls Tryz.prog 104 #[.int .i64 u.a,.int .i64 u.b,.int .i64 u.c,.int .i64 u.d] w fun e w'=>∃v,e=.returned v∧KQ.Own w' w.heap.size v (unitParts u)∧Below w.heap.size w w':=by
 obtain⟨o1,o2,o3,o4,o5,o6,o7⟩:=okU_pos hu;obtain⟨s1,s2,s3,s4⟩:=size_of hu.2.2.2;obtain⟨k1,k2,k3,_⟩:=hu;have fa:fits u.a:=by unfold fits;omega
 have fb:fits u.b:=by unfold fits;omega
 have HU:=aH (show unitParts u=(List.range (u.c.toNat*u.d.toNat)).map (unitF u)from rfl);have HAT:=aH (unitF_at u);have HFA:=aH fa;have HFB:=aH fb;obtain⟨P,hP⟩:∃P,P=unitParts u:=⟨_,rfl⟩;obtain⟨F,hF⟩:∃F,F=unitF u:=⟨_,rfl⟩;rw[←hP]at HU⊢;rw[←hF]at HU HAT;clear hP hF k1 k2 k3 fa fb o5 o6 o7;obtain⟨a,b,c,d⟩:=u;dsimp only at *;obtain⟨R,rfl⟩:∃R:Nat,c=(R:Int):=⟨c.toNat,by omega⟩;obtain⟨C,rfl⟩:∃C:Nat,d=(C:Int):=⟨d.toNat,by omega⟩;simp only[Int.toNat_natCast]at *;have hR:R≤32:=by omega
 have hC:C≤48:=by omega
 have HMX:=aH (show ∀r:Nat,r≤R→r*C≤1536 from fun r hr=>by
  have:=Nat.mul_le_mul (show r≤32 by omega) hC;omega)
 clear s1 s2 s3 s4 o1 o2 o3 o4;go_enter Tryz.func104,Tryz.ntmps104;go_wp2
 go_loopw [9,10] (fun v i wr=>∃r:Nat,r≤R∧i=.int .i64 r∧KQ.Own wr w.heap.size v ((List.range (r*C)).map F)∧Below w.heap.size w wr) (fun _ i _=>R-(intOf i).toNat)
 case atStart=>exact⟨0,Nat.zero_le _,rfl,by rw[Nat.zero_mul];exact Lk.Own.nil _ _,bR _ _⟩
 case round=>
  obtain⟨r,hr,rfl,hown,hbl⟩:=hrel;have HO:=aH hown;have HB:=aH hbl;clear hown hbl;by_cases hlt:r<R
  ·obtain⟨v1,hv1⟩:∃v,v=u9:=⟨_,rfl⟩;obtain⟨w1,hw1⟩:∃w1,w1=wr:=⟨_,rfl⟩;subst hw1;rw[←hv1]at HO;go_wp2
   go_loopw [9,11] (fun v i wr=>∃c:Nat,c≤C∧i=.int .i64 c∧KQ.Own wr w.heap.size v ((List.range (r*C+c)).map F)∧Below w.heap.size w wr) (fun _ i _=>C-(intOf i).toNat)
   case atStart=>exact⟨0,Nat.zero_le _,rfl,by rw[←hv1];exact HO.out,HB.out⟩
   case round=>
    clear HO;obtain⟨c,hc,rfl,hown,hbl⟩:=hrel;have HO:=aH hown;have HB2:=aH hbl;clear hown hbl;by_cases hlt2:c<C
    ·have HS:=aH (map_snoc F (r*C+c));rw[HAT.out r c hlt2]at HS;have HOK:=aH (show KQ.ok ⟨a,b,r,c⟩from⟨HFA.out,HFB.out,(show fits (r:Int)by unfold fits;omega),(show fits (c:Int)by unfold fits;omega)⟩);have HLN:=aH (show((List.range (r*C+c)).map F).length=r*C+c by simp);have hm:=HMX.out r hr;generalize (List.range (r*C+c)).map F=L at *;go_wp2_with (at_builtin;refine Lk.wpList_app (K:=KQ) _ rfl _ _ rfl rfl w.heap.size (wr.heap.size+1) _ _ L [⟨a,b,r,c⟩] rfl rfl (HO.out.alloc _) (Lk.IsL.lit (K:=KQ) _ ⟨a,b,r,c⟩ _ HOK.out rfl wr.heap.size rfl) ?c1 ?c2 ?_)
     case c1=>have:=HLN.out;simp;omega
     case c2=>have:=HB2.out.size;simp;omega
     intro v2 w3 hown hgrow _;have HB3:=aH (Lk.Own.grow' (HO.out.alloc _) (bL HB2.out _) (by have:=HB2.out.size;simp;omega) hgrow);have HO3:=aH hown;clear hown hgrow;go_wp2
     go_roundw
     case rel=>exact⟨c+1,by omega,num_i (by omega),by rw[←Nat.add_assoc,HS.out];exact HO3.out,HB3.out⟩
     case measure=>simp[intOf];omega
    ·obtain rfl:c=C:=(by omega);go_wp2
     go_roundw
     case rel=>exact⟨r+1,by omega,num_i (by omega),by rw[Nat.succ_mul];exact HO.out,HB2.out⟩
     case measure=>simp[intOf];omega
  ·obtain rfl:r=R:=(by omega);go_wp2
   go_ret
   exact⟨_,rfl,by rw[HU.out];exact HO.out,HB.out⟩
end Go.Proofs.YtmecohdedghiaaaGreatDoor
