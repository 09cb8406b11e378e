/- The table of all parts' lanes: what the program answers. -/
import Derived.Test.YtmecohdedghiaaaGreatDoorPn00
import Derived.Test.YtmecohdedghiaaaGreatDoorPn09
set_option maxRecDepth 100000
set_option maxHeartbeats 8000000
namespace Go.Proofs.YtmecohdedghiaaaGreatDoor
open Go.RowKit
def Part0 (d:Dk) (p:Q4):Prop:=(p.a=3∧0≤p.b)∨Lies d p
theorem rpartS_any (d:Dk) (p:Q4) (w:World) (hd:d.In w w.heap.size) (hp:Part0 d p):Calls Tryz.prog 210 #[d.v,p.v] w fun e w'=>e=.returned (rchVal (spnP d p))∧Below w.heap.size w w':=by
 have HD:=aH hd;rcases hp with ⟨h3,hb0⟩|hl
 ·have T:spnP d p=(p.b.toNat,p.b.toNat,0):=by unfold spnP;rw[if_pos h3]
  rw[T];have q3:(p.a==3)=true:=by rw[beq_iff_eq];exact h3
  have HB:=aH (show((p.b.toNat:Nat):Int)=p.b by omega);clear T h3 hd hb0;obtain⟨a,b,c,dd⟩:=p;dsimp only at *;unfold rchVal;dsimp only;rw[HB.out];go_enter Tryz.func210,Tryz.ntmps210;go_wp2;refine bP (v:=.tuple #[.agg #[.int .i64 b,.int .i64 b],.int .i64 0]) (by simp[results,Tryz.results210,go_sem]) rfl ⟨rfl,?_⟩;(repeat (first|exact bR _ _|(with_reducible refine bS ?_ (by simp<;>omega))|(with_reducible refine bL ?_ _)))
 ·have h3:p.a≠3:=by rcases hl with h|h<;>omega
  have T:spnP d p=covV d.bl (rkOf d p).x (rkOf d p).p (rkOf d p).r (cf p.d):=by unfold spnP;rw[if_neg h3]
  rw[T];have q3:(p.a==3)=false:=by rw[beq_eq_false_iff_ne];exact h3
  have HA:=aH (fun w h=>rat_any d p w h hl);have HC:=aH (fun(m:Nat) (hm:Mid (rkOf d p).x (rkOf d p).p (cf p.d) m) (w:World) (h:d.In w w.heap.size)=>show Calls Tryz.prog 246 #[.slice d.bA d.bn d.bc,.float .f64 m,.float .f64 (rkOf d p).r] w fun e w'=>e=.returned (rchVal (covV d.bl (rkOf d p).x (rkOf d p).p (rkOf d p).r (cf p.d)))∧Below w.heap.size w w' by
   have:=rreach_any (.slice d.bA d.bn d.bc) d.bl m (rkOf d p).r (rkOf_ok h p hl) w h.b
   rwa [cov_mid _ _ _ _ _ _ hm]at this)
  clear T h3 hd hl;generalize covV d.bl (rkOf d p).x (rkOf d p).p (rkOf d p).r (cf p.d)=t at *;generalize rkOf d p=q at *;obtain⟨t1,t2,t3⟩:=t;unfold rchVal at *;dsimp only at *;obtain⟨w0,hw0⟩:∃w0,w0=((w.alloc d.ob).alloc (.cells #[.int .i64 p.a,.int .i64 p.b,.int .i64 p.c,.int .i64 p.d] 153)).alloc (.cells #[.int .i64 0,.int .i64 0] 134):=⟨_,rfl⟩;have HB0:=aH (show Below w.heap.size w w0 by rw[hw0];exact bL (bL (bL (bR _ _) _) _) _);have HD0:=aH (HD.out.then HB0.out);have c0:w0.cell? ⟨w.heap.size,0,none⟩=some (.slice d.bA d.bn d.bc):=by rw[hw0];simp[go_sem]
  have r0:w0.cell? ⟨w.heap.size+1+1,0,none⟩=some (.int .i64 0):=by rw[hw0];simp[go_sem]
  have r1:w0.cell? ⟨w.heap.size+1+1,1,none⟩=some (.int .i64 0):=by rw[hw0];simp[go_sem]
  have z0:w0.frozen? ⟨w.heap.size+1+1,0,none⟩=false:=by rw[hw0];simp[go_sem]
  have z1:w0.frozen? ⟨w.heap.size+1+1,1,none⟩=false:=by rw[hw0];simp[go_sem]
  have F:=aH (aI c0 (aI r0 (aI r1 (aI z0 z1))));clear c0 r0 r1 z0 z1;go_enter Tryz.func210,Tryz.ntmps210;go_wp2_with fail;rw[←hw0];clear hw0;refine(HA.out _ HD0.out).mono ?_;rintro e w1 ⟨m,rfl,hm,hb1⟩;have HM:=aH hm;have HB1:=aH hb1;have HD1:=aH (HD0.out.then hb1);have c0:=kK hb1 F.out.1;clear hm hb1;go_wp2_with fail;refine(HC.out m HM.out _ HD1.out).mono ?_;rintro e w2 ⟨rfl,hb2⟩;have hb:=bC HB1.out hb2;have s0:=kK hb F.out.2.1;have s1:=kK hb F.out.2.2.1;have y0:=(hb.frozen (p:=⟨w.heap.size+1+1,0,none⟩) (wB _ _ F.out.2.1)).trans F.out.2.2.2.1;have y1:=(hb.frozen (p:=⟨w.heap.size+1+1,1,none⟩) (wB _ _ F.out.2.2.1)).trans F.out.2.2.2.2;have HB2:=aH (bC HB0.out hb);clear hb hb2 c0;go_wp2;exact bP (v:=.tuple #[.agg #[.int .i64 t1,.int .i64 t2],.int .i64 t3]) (by simp[results,Tryz.results210,go_sem,s0,s1]) rfl ⟨rfl,bS (bS HB2.out (by show w.heap.size≤w.heap.size+1+1;omega)) (by show w.heap.size≤w.heap.size+1+1;omega)⟩
abbrev T3:Type:=Nat×Nat×Int
def fstE:List T3→Int
 |[]=>0
 |t::ts=>if t.2.2=0 then fstE ts else t.2.2
theorem fst_append (a b:List T3):fstE (a++b)=if fstE a=0 then fstE b else fstE a:=by
 induction a with
 |nil=>rfl
 |cons t ts ih=>
  rw[List.cons_append,fstE,fstE,ih];by_cases h:t.2.2=0
  ·rw[if_pos h,if_pos h]
  ·rw[if_neg h,if_neg h,if_neg h]
theorem fst_all (l:List T3) (h:∀t∈l,t.2.2=0):fstE l=0:=by
 induction l with
 |nil=>rfl
 |cons t ts ih=>rw[fstE,if_pos (h t (by simp)),ih fun x hx=>h x (by simp[hx])]
theorem fst_0 (l:List T3) (h:fstE l=0):∀t∈l,t.2.2=0:=by
 induction l with
 |nil=>intro t ht;cases ht
 |cons t ts ih=>
  rw[fstE]at h;by_cases e:t.2.2=0
  ·rw[if_pos e]at h;intro x hx;rcases List.mem_cons.1 hx with rfl|hx
   ·exact e
   ·exact ih h x hx
  ·rw[if_neg e]at h;exact absurd h e
theorem fst_rep (L:List T3) (r:Nat):fstE (List.replicate (r+1) L).flatten=fstE L:=by
 induction r with
 |zero=>simp
 |succ r ih=>
  rw[List.replicate_succ,List.flatten_cons,fst_append,ih];by_cases h:fstE L=0
  ·rw[if_pos h]
  ·rw[if_neg h]
def pairs (l:List T3):List (Int×Int):=l.map fun t=>((t.1:Int),(t.2.1:Int))
noncomputable def racksL (d:Dk):List Rk:=d.pl.map rkPl++d.rl
def rowV (bl:List Nat) (q:Rk):List T3:=(List.range q.cols.toNat).map fun c:Nat=>covV bl q.x q.p q.r (cf ((c:Nat):Int))
def blkV (bl:List Nat) (q:Rk):List T3:=(List.replicate q.rows.toNat (rowV bl q)).flatten
def lanesV (n:Nat):List T3:=(List.range n).map fun i=>(i,i,0)
noncomputable def tabP (d:Dk):List T3:=(partsL d).map (spnP d)
theorem range_rows {α:Type} (f:Nat→α) (c r:Nat):(List.range (r*c)).map (fun j=>f (j%c))=(List.replicate r ((List.range c).map f)).flatten:=by
 induction r with
 |zero=>simp
 |succ r ih=>
  rw[Nat.succ_mul,List.range_add,List.map_append,ih,List.replicate_succ',List.flatten_append,List.map_map]
  congr 1
  rw[List.flatten_cons,List.flatten_nil,List.append_nil];apply List.map_congr_left;intro x hx;have hx:=List.mem_range.1 hx;show f ((r*c+x)%c)=f x;rw[Nat.mul_comm,Nat.mul_add_mod,Nat.mod_eq_of_lt hx]
theorem list_range {α:Type} (l:List α) (z:α):(List.range l.length).map (fun i=>l.getD i z)=l:=by
 apply List.ext_getElem
 ·simp
 ·intro i h1 h2;simp only[List.length_map,List.length_range]at h1;simp[List.getElem?_eq_getElem h1]
theorem flatMap_range {α β:Type} (l:List α) (z:α) (f:α→List β):l.flatMap f=(List.range l.length).flatMap fun i=>f (l.getD i z):=by
 have:=congrArg (fun x=>x.flatMap f) (list_range l z);rw[←this,List.flatMap_map]
theorem fm_congr {α β:Type} (l:List α) (f g:α→List β) (h:∀x∈l,f x=g x):l.flatMap f=l.flatMap g:=by
 induction l with
 |nil=>rfl
 |cons x l ih=>rw[List.flatMap_cons,List.flatMap_cons,h x (by simp),ih fun y hy=>h y (by simp[hy])]
theorem unit_tab (d:Dk) (u:Q4) (q:Rk) (ha:u.a≠3) (hc:u.c=q.rows) (hd:u.d=q.cols) (hq:∀j,rkOf d (unitF u j)=q):(unitParts u).map (spnP d)=blkV d.bl q:=by
 unfold unitParts unitN blkV rowV;rw[List.map_map,hc,hd,←range_rows];apply List.map_congr_left;intro j _;show spnP d (unitF u j)=_;unfold spnP;rw[if_neg (show ¬(unitF u j).a=3 from ha),hq j];unfold unitF;rw[hd]
theorem tab_eq (d:Dk):tabP d=(racksL d).flatMap (blkV d.bl)++lanesV (d.bl.length-1):=by
 unfold tabP partsL partsU unitsL racksL;rw[List.map_flatMap,List.flatMap_append,List.flatMap_append,List.flatMap_append]
 congr 1
 ·congr 1
  ·rw[List.flatMap_map,List.flatMap_map,flatMap_range d.pl KP.dflt];apply fm_congr;intro i hi;refine unit_tab d _ _ (by show(1:Int)≠3;decide) rfl rfl fun j=>?_;unfold rkOf;rw[if_pos (show(unitF (plateU d.pl i) j).a=1 from rfl)];show rkPl (d.pl.getD ((i:Nat):Int).toNat KP.dflt)=_;rw[Int.toNat_natCast]
  ·rw[List.flatMap_map,flatMap_range d.rl KR.dflt];apply fm_congr;intro i hi;refine unit_tab d _ _ (by show(2:Int)≠3;decide) rfl rfl fun j=>?_;unfold rkOf;rw[if_neg (show ¬(unitF (rackU d.rl i) j).a=1 from by show(2:Int)≠1;decide)];show d.rl.getD ((i:Nat):Int).toNat KR.dflt=_;rw[Int.toNat_natCast]
 ·unfold lanesV;rw[List.flatMap_map]
  induction (d.bl.length-1)with
  |zero=>rfl
  |succ n ih=>
   rw[List.range_succ,List.flatMap_append,List.map_append,ih]
   congr 1
noncomputable def zE (d:Dk):Int:=fstE ((racksL d).flatMap (rowV d.bl))
noncomputable def zchk (d:Dk):Int:=if dchk d=0 then zE d else dchk d
theorem racks_ok (d:Dk) (h:OkD d):∀q∈racksL d,1≤q.rows∧q.rows≤32∧1≤q.cols∧q.cols≤48:=by
 intro q hq;rcases List.mem_append.1 hq with hq|hq
 ·obtain⟨p,hp,rfl⟩:=List.mem_map.1 hq;obtain⟨i,hi,rfl⟩:=List.mem_iff_getElem.1 hp;have:=h.pl i hi;rw[List.getD_eq_getElem?_getD,List.getElem?_eq_getElem hi]at this;exact size_of (plate_size this)
 ·obtain⟨i,hi,rfl⟩:=List.mem_iff_getElem.1 hq;have:=h.rl i hi;rw[List.getD_eq_getElem?_getD,List.getElem?_eq_getElem hi]at this;exact size_of this
theorem fst_blk (bl:List Nat) (l:List Rk) (h:∀q∈l,1≤q.rows):fstE (l.flatMap (blkV bl))=fstE (l.flatMap (rowV bl)):=by
 induction l with
 |nil=>rfl
 |cons q l ih=>
  rw[List.flatMap_cons,List.flatMap_cons,fst_append,fst_append,ih fun x hx=>h x (by simp[hx])];have e:fstE (blkV bl q)=fstE (rowV bl q):=by
   unfold blkV;have:=h q (by simp);obtain⟨r,hr⟩:∃r,q.rows.toNat=r+1:=⟨q.rows.toNat-1,by omega⟩;rw[hr,fst_rep]
  rw[e]
theorem fst_tab (d:Dk) (h:OkD d):fstE (tabP d)=zE d:=by
 rw[tab_eq,fst_append,fst_blk _ _ fun q hq=>(racks_ok d h q hq).1,fst_all (lanesV _)]
 ·unfold zE;by_cases e:fstE ((racksL d).flatMap (rowV d.bl))=0
  ·rw[if_pos e,e]
  ·rw[if_neg e]
 ·intro t ht;unfold lanesV at ht;obtain⟨i,_,rfl⟩:=List.mem_map.1 ht;rfl
noncomputable def tabV (d:Dk):List (Int×Int):=if zchk d=0 then pairs (tabP d)else []
theorem pairs_append (a b:List T3):pairs (a++b)=pairs a++pairs b:=by unfold pairs;rw[List.map_append]
theorem row_len (bl:List Nat) (q:Rk):(rowV bl q).length=q.cols.toNat:=by unfold rowV;simp
theorem tab_len0 (d:Dk):(tabP d).length=(partsL d).length:=by unfold tabP;simp
def spCells (q:Int×Int):List Value:=[.int .i64 q.1,.int .i64 q.2]
noncomputable def KS:Lk Tryz.prog (Int×Int) where
 S:=130
 E:=134
 n:=2
 zero:=.agg #[.int .i64 0,.int .i64 0]
 bytes:=16
 cells:=spCells
 dflt:=(0,0)
 ok q:=fits q.1∧fits q.2
 und:=Tryz.underlying130
 info:=by kernel_rfl
 zs:=rfl
 pos:=by decide
 small:=by decide
 len _:=rfl
 one x u hu:=by
  simp only[spCells,List.mem_cons,List.not_mem_nil,or_false]at hu;rcases hu with rfl|rfl<;>rfl
theorem span_cells {w:World} {B:Nat} {A:Option Addr} {n c:Nat} {xs:List (Int×Int)} (h:KS.IsL w B (.slice A n c) xs) (h0:0<xs.length):∃b off,A=some ⟨b,off,none⟩∧b<B∧xs.length≤c∧
  ∀i,i<xs.length→w.cell? ⟨b,off+i*2,none⟩=some (.int .i64 (xs.getD i (0,0)).1)∧w.cell? ⟨b,off+i*2+1,none⟩=some (.int .i64 (xs.getD i (0,0)).2):=by
 obtain⟨b,off,e,hb,hc,hcell⟩:=h.elem h0;refine⟨b,off,e,hb,hc,fun i hi=>?_⟩;have q:=fun j u hu=>hcell i hi j u hu;have hn:KS.n=2:=rfl;simp only[hn,←Nat.add_assoc]at q;exact⟨q 0 _ rfl,q 1 _ rfl⟩
namespace Lk
variable {P:Program} {α:Type} {K:Lk P α}
end Lk
open Go.RowKit
theorem racks_any (d:Dk) (w:World) (hd:d.In w w.heap.size) (hp:d.pl.length≤4) (hr:d.rl.length≤4):
  Calls Tryz.prog 155 #[d.v] w fun e w'=>∃v,e=.returned v∧KR.Own w' w.heap.size v (racksL d)∧Below w.heap.size w w':=by
 have HD:=aH hd;have e0:=hd.b.len;have e1:=hd.p.len;have e2:=hd.r.len;have HU:=aH (show racksL d=d.pl.map rkPl++d.rl from rfl);obtain⟨U,hU⟩:∃U,U=racksL d:=⟨_,rfl⟩;rw[←hU]at HU⊢;clear hU;obtain⟨bA,bn,bc,bl,pA,pn,pc,pl,rA,rn,rc,rl,arms⟩:=d;dsimp only at *;subst e0 e1 e2;clear hd;have hsf:=fun(w:World) (a:Addr) (m:Mode) (b:Nat)=>run_store_float (P:=Tryz.prog) (w:=w) (a:=a) (m:=m) .f64 b;obtain⟨w0,hw0⟩:∃w0,w0=w.alloc (.cells #[.slice bA bl.length bc,.slice pA pl.length pc,.slice rA rl.length rc,.int .i64 arms] 26):=⟨_,rfl⟩;have f1:w0.cell? ⟨w.heap.size,1,none⟩=some (.slice pA pl.length pc):=by rw[hw0];exact alloc_cell _ _ _ _ _ rfl
 have f2:w0.cell? ⟨w.heap.size,2,none⟩=some (.slice rA rl.length rc):=by rw[hw0];exact alloc_cell _ _ _ _ _ rfl
 have HB0:=aH (show Below w.heap.size w w0 by rw[hw0];exact bL (bR _ _) _);have HD0:=aH (HD.out.then HB0.out);obtain⟨i0,hi,hz0,hz1,hz2⟩:=info_parts KR.info;obtain⟨w1,hmk,hown,hgr⟩:=run_make_own (P:=Tryz.prog) w0 w0.heap.size 24 118 i0 _ 5 Tryz.underlying24 hi hz0 hz1 .i64 .i64 8 (by rw[hz2];decide) (by decide) (nR _);have hsz:w0.heap.size=w.heap.size+1:=by rw[hw0];simp
 rw[show(Value.slice (some ⟨w0.heap.size,0,none⟩) 0 8)=Value.slice (some ⟨w.heap.size+1,0,none⟩) 0 8 by rw[hsz]]at hown hmk;have HO1:=aH (show KR.Own w1 w0.heap.size (.slice (some ⟨w.heap.size+1,0,none⟩) 0 8) []from⟨hown,fun x hx=>by simp at hx⟩);have HB1:=aH (show Below w0.heap.size w0 w1 from(bR _ _).grown hgr (nR _) (fun k hk=>by cases hk));have HD1:=aH (HD0.out.then HB1.out);have HF:=aH (show ∀w2,Below w0.heap.size w0 w2→w2.cell? ⟨w.heap.size,1,none⟩=some (.slice pA pl.length pc)∧w2.cell? ⟨w.heap.size,2,none⟩=some (.slice rA rl.length rc)from
  fun w2 hb=>⟨kK hb f1,kK hb f2⟩)
 clear hown hgr hi hz0 hz1 hz2 f1 f2;obtain⟨h1,h2⟩:=HF.out w1 HB1.out;rw[hw0]at hmk;have hmk':(Instr.makeSlice 24 (.int .i64 0) (.int .i64 8)).run Tryz.prog (w.alloc (.cells #[.slice bA bl.length bc,.slice pA pl.length pc,.slice rA rl.length rc,.int .i64 arms] 26))=.ok (.slice (some ⟨w.heap.size+1,0,none⟩) 0 8) w1:=hmk;clear hmk;go_enter Tryz.func155,Tryz.ntmps155;go_wp2;clear hmk' h1 h2 hw0 hsz;obtain⟨v0,hv0⟩:∃v,v=Value.slice (some ⟨w.heap.size+1,0,none⟩) 0 8:=⟨_,rfl⟩;rw[←hv0]at HO1
 go_loopw [3,10] (fun v i wr=>∃k:Nat,k≤pl.length∧i=.int .i64 k∧KR.Own wr w0.heap.size v ((pl.take k).map rkPl)∧Below w0.heap.size w0 wr) (fun _ i _=>pl.length-(intOf i).toNat)
 case atStart=>exact⟨0,Nat.zero_le _,rfl,by rw[←hv0];exact HO1.out,HB1.out⟩
 case round=>
  obtain⟨k,hk,rfl,hown,hbl⟩:=hrel;have HO:=aH hown;have HB:=aH hbl;clear hown hbl;by_cases hlt:k<pl.length
  ·obtain⟨b,off,rfl,hb,hc,hcell⟩:=plate_cells (HD0.out.p.below HB.out) (by dsimp only;omega);obtain⟨c0,c1,c2,c3,c4,c5,c6⟩:=hcell k hlt;have HS:=aH (show(pl.take (k+1)).map rkPl=(pl.take k).map rkPl++[rkPl (pl.getD k KP.dflt)]by rw[take_snoc pl k KP.dflt hlt,List.map_append];rfl);obtain⟨o1,o2,o3,o4,o5,_⟩:=HD0.out.p.okAt k hlt;have HOK:=aH (show KR.ok (rkPl (pl.getD k KP.dflt))from⟨o1,o2,o3,o4,o5⟩);have HLN:=aH (show((pl.take k).map rkPl).length=k by simp;omega);have HRK:=aH (fun w=>rackLike_any (pl.getD k KP.dflt) w);clear hcell o1 o2 o3 o4 o5;dsimp only at *;generalize pl.getD k KP.dflt=q at *;generalize (pl.take k).map rkPl=L at *;obtain⟨a1,a2,X,P,R,cap,sA,sn,sc,st⟩:=q;have HS:=aH (show(pl.take (k+1)).map rkPl=L++[⟨a1,a2,X,P,R⟩]from HS.out);have HOK:=aH (show KR.ok ⟨a1,a2,X,P,R⟩from HOK.out);go_wp2_with fail;refine(HRK.out _).mono ?_;rintro e w2 ⟨rfl,hb2⟩;have hb3:=bC (bL (bR _ _) _) hb2;have HB3:=aH (bC HB.out hb3);have HO3:=aH (HO.out.below hb3);clear hb2 hb3 HO c0 c1 c2 c3 c4 c5 c6;go_wp2_with (at_builtin;refine Lk.wpList_app (K:=KR) _ rfl _ _ rfl rfl w0.heap.size (w2.heap.size+1) _ _ L [⟨a1,a2,X,P,R⟩] rfl rfl (HO3.out.alloc _) (Lk.IsL.lit (K:=KR) _ ⟨a1,a2,X,P,R⟩ _ HOK.out rfl w2.heap.size rfl) ?c1 ?c2 ?_)
   case c1=>have:=HLN.out;simp;omega
   case c2=>have:=HB3.out.size;simp;omega
   intro v1 w4 hown hgrow _;have HB4:=aH (Lk.Own.grow' (HO3.out.alloc _) (bL HB3.out _) (by have:=HB3.out.size;simp;omega) hgrow);have HO4:=aH hown;clear hown hgrow;go_wp2
   go_roundw
   case rel=>exact⟨k+1,by omega,num_i (by omega),by rw[HS.out];exact HO4.out,HB4.out⟩
   case measure=>simp[intOf];omega
  ·obtain rfl:k=pl.length:=(by omega);rw[List.take_length]at HO;obtain⟨q1,q2⟩:=HF.out wr HB.out;have HLN:=aH (show(pl.map rkPl).length=pl.length by simp);generalize pl.map rkPl=L at *;go_wp2_with (at_builtin;refine Lk.wpList_app (K:=KR) _ rfl _ _ rfl rfl w0.heap.size wr.heap.size _ _ L rl rfl rfl HO.out ((HD0.out.then HB.out).r) ?c1 ?c2 ?_)
   case c1=>have:=HLN.out;omega
   case c2=>exact HB.out.size
   intro v1 w4 hown hgrow _;have HB4:=aH (Lk.Own.grow' HO.out HB.out HB.out.size hgrow);have HO4:=aH hown;clear hown hgrow;go_wp2
   go_ret
   exact⟨_,rfl,by rw[HU.out];exact HO4.out.mono HB0.out.size,bC HB0.out HB4.out⟩
theorem fst_idx (l:List T3) (z:T3) (e:Int) (he:e≠0):∀j,j<l.length→(∀i,i<j→(l.getD i z).2.2=0)→(l.getD j z).2.2=e→fstE l=e:=by
 induction l with
 |nil=>intro j hj;simp at hj
 |cons t ts ih=>
  intro j hj hp ht;rw[fstE]
  cases j with
  |zero=>
   have ht':t.2.2=e:=(by simpa using ht);rw[if_neg (by rw[ht'];exact he),ht']
  |succ j=>
   have h0:t.2.2=0:=(by simpa using hp 0 (by omega));rw[if_pos h0];exact ih j (by simpa using hj) (fun i hi=>by simpa using hp (i+1) (by omega)) (by simpa using ht)
theorem row_at (bl:List Nat) (q:Rk) (i:Nat) (hi:i<q.cols.toNat):(rowV bl q).getD i (0,0,0)=covV bl q.x q.p q.r (cf (i:Int)):=by
 rw[List.getD_eq_getElem?_getD];unfold rowV;rw[List.getElem?_map,List.getElem?_range hi];rfl
theorem row_0 (bl:List Nat) (q:Rk) (h:∀i,i<q.cols.toNat→(covV bl q.x q.p q.r (cf (i:Int))).2.2=0):fstE (rowV bl q)=0:=by
 apply fst_all;intro t ht;unfold rowV at ht;obtain⟨i,hi,rfl⟩:=List.mem_map.1 ht;exact h i (List.mem_range.1 hi)
theorem rows_next (bl:List Nat) (l:List Rk) (k:Nat) (hk:k<l.length) (h0:fstE ((l.take k).flatMap (rowV bl))=0) (h:∀i,i<(l.getD k KR.dflt).cols.toNat→(covV bl (l.getD k KR.dflt).x (l.getD k KR.dflt).p (l.getD k KR.dflt).r (cf (i:Int))).2.2=0):fstE ((l.take (k+1)).flatMap (rowV bl))=0:=by
 rw[take_snoc l k KR.dflt hk,List.flatMap_append,fst_append,if_pos h0,List.flatMap_cons,List.flatMap_nil,List.append_nil];exact row_0 bl _ h
theorem rows_hit (bl:List Nat) (l:List Rk) (k:Nat) (hk:k<l.length) (j:Nat) (hj:j<(l.getD k KR.dflt).cols.toNat) (e:Int) (he:e≠0) (h0:fstE ((l.take k).flatMap (rowV bl))=0)
  (hp:∀i,i<j→(covV bl (l.getD k KR.dflt).x (l.getD k KR.dflt).p (l.getD k KR.dflt).r (cf (i:Int))).2.2=0) (ht:(covV bl (l.getD k KR.dflt).x (l.getD k KR.dflt).p (l.getD k KR.dflt).r (cf (j:Int))).2.2=e):fstE (l.flatMap (rowV bl))=e:=by
 have hl:l=l.take k++(l.getD k KR.dflt::l.drop (k+1)):=by rw[←drop_snoc l k KR.dflt hk,List.take_append_drop]
 have hrow:fstE (rowV bl (l.getD k KR.dflt))=e:=by
  apply fst_idx _ (0,0,0) e he j
  ·rw[row_len];exact hj
  ·intro i hi;rw[row_at _ _ _ (by omega)];exact hp i hi
  ·rw[row_at _ _ _ hj];exact ht
 generalize l.getD k KR.dflt=q at *;rw[hl,List.flatMap_append,fst_append,if_pos h0,List.flatMap_cons,fst_append,hrow,if_neg he]
theorem zcheck_any (d:Dk) (w:World) (hd:d.In w w.heap.size):Calls Tryz.prog 93 #[d.v] w fun e w'=>e=.returned (.int .i64 (zchk d))∧Below w.heap.size w w':=by
 have HD:=aH hd;have HC:=aH (fun w h=>dcheck_any d w h);have hsf:=fun(w:World) (a:Addr) (m:Mode) (b:Nat)=>run_store_float (P:=Tryz.prog) (w:=w) (a:=a) (m:=m) .f64 b;obtain⟨w0,hw0⟩:∃w0,w0=w.alloc d.ob:=⟨_,rfl⟩;have HB0:=aH (show Below w.heap.size w w0 by rw[hw0];exact bL (bR _ _) _);have HD0:=aH (HD.out.then HB0.out);have HF:=aH (show ∀w1,Below w0.heap.size w0 w1→(w1.cell? ⟨w.heap.size,0,none⟩=some (.slice d.bA d.bn d.bc)∧w1.cell? ⟨w.heap.size,1,none⟩=some (.slice d.pA d.pn d.pc)∧w1.cell? ⟨w.heap.size,2,none⟩=some (.slice d.rA d.rn d.rc)∧w1.cell? ⟨w.heap.size,3,none⟩=some (.int .i64 d.arms))from by
   intro w1 hb;refine⟨kK hb ?_,kK hb ?_,kK hb ?_,kK hb ?_⟩;all_goals (rw[hw0];simp))
 by_cases hz:dchk d=0
 ·have T:zchk d=fstE ((racksL d).flatMap (rowV d.bl)):=by unfold zchk;rw[if_pos hz];rfl
  rw[T];have HOK:=aH (dchk_ok d hz);have HRS:=aH (racks_ok d HOK.out);have HRC:=aH (fun w h=>racks_any d w h HOK.out.p4 HOK.out.r4);have HRL:=aH (show(racksL d).length≤8 by unfold racksL;rw[List.length_append,List.length_map];have:=HOK.out.p4;have:=HOK.out.r4;omega);have HBL:=aH (fun(w:World) (h:d.In w w.heap.size)=>h.b);have HN:=aH (rows_next d.bl (racksL d));have HH:=aH (rows_hit d.bl (racksL d));have HCV:=aH (fun(w:World) (h:d.In w w.heap.size) (q:Rk) (c:Int) (hq:q.r<18446744073709551616)=>covered_any (.slice d.bA d.bn d.bc) d.bl q c w h.b hq);rw[hz]at HC;clear T hz hd;generalize racksL d=RS at *;go_enter Tryz.func93,Tryz.ntmps93;go_wp2_with fail
  go_step3
  go_wp2_with fail;rw[←hw0];clear hw0;refine(HC.out _ HD0.out).mono ?_;rintro e w1 ⟨rfl,hb1⟩;obtain⟨d0,d1,d2,d3⟩:=HF.out w1 hb1;have HB1:=aH hb1;clear hb1;go_wp2_with fail
  go_step3
  go_wp2_with fail;refine(HRC.out w1 (HD0.out.then HB1.out)).mono ?_;rintro e w2 ⟨v,rfl,hown,hb2⟩;have HB2:=aH (bC HB1.out hb2);have HIL:=aH (hown.isL (by have:=HRL.out;omega));clear hb2 hown d0 d1 d2 d3;obtain⟨A,cap,rfl⟩:∃A cap,v=.slice A RS.length cap:=by
   obtain⟨⟨A,cap,h,_⟩,_⟩:=HIL.out;exact⟨A,cap,h⟩
  go_wp2_with fail
  go_loopw [3,15] (fun e i wr=>∃k:Nat,k≤RS.length∧i=.int .i64 k∧e=.int .i64 0∧fstE ((RS.take k).flatMap (rowV d.bl))=0∧Below w2.heap.size w2 wr) (fun _ i _=>RS.length-(intOf i).toNat)
  case atStart=>exact⟨0,Nat.zero_le _,rfl,rfl,rfl,bR _ _⟩
  case round=>
   obtain⟨k,hk,rfl,rfl,hf,hbl⟩:=hrel;have HB:=aH hbl;have HZ:=aH hf;have h8:=HRL.out;clear hbl hf;by_cases hlt:k<RS.length
   ·obtain⟨b,off,rfl,hb,hc,hcell⟩:=rack_cells (HIL.out.below HB.out) (by omega);obtain⟨c0,c1,c2,c3,c4⟩:=hcell k hlt;have HQ:=aH (HIL.out.okAt k hlt);have HCO:=aH (HRS.out _ (getD_mem' RS k KR.dflt hlt));have HNK:=aH (HN.out k hlt HZ.out);have HHK:=aH (fun j hj e he hp ht=>HH.out k hlt j hj e he HZ.out hp ht);obtain⟨wo,hwo⟩:∃wo,wo=wr:=⟨_,rfl⟩;subst hwo;clear hcell;generalize RS.getD k KR.dflt=q at *;have hco:=HCO.out;obtain⟨a1,a2,X,P,R⟩:=q;dsimp only at *;obtain⟨_,_,hco1,hco2⟩:=hco;obtain⟨n,rfl⟩:∃n:Nat,a2=(n:Int):=⟨a2.toNat,by omega⟩;rw[Int.toNat_natCast]at HNK HHK;obtain⟨w5,hw5⟩:∃w5,w5=wo.alloc (.cells #[.int .i64 a1,.int .i64 n,.float .f64 X,.float .f64 P,.float .f64 R] 118):=⟨_,rfl⟩;have HB5:=aH (show Below w2.heap.size w2 w5 by rw[hw5];exact bL HB.out _);have HD5:=aH (HD0.out.then (bC HB2.out HB5.out));have HF5:=aH (show ∀w1,Below w5.heap.size w5 w1→w1.cell? ⟨wo.heap.size,0,none⟩=some (.int .i64 a1)∧w1.cell? ⟨wo.heap.size,1,none⟩=some (.int .i64 n)∧w1.cell? ⟨wo.heap.size,2,none⟩=some (.float .f64 X)∧w1.cell? ⟨wo.heap.size,3,none⟩=some (.float .f64 P)∧w1.cell? ⟨wo.heap.size,4,none⟩=some (.float .f64 R)from by
     intro w1 hb;refine⟨kK hb ?_,kK hb ?_,kK hb ?_,kK hb ?_,kK hb ?_⟩;all_goals (rw[hw5];simp))
    go_wp2_with fail;rw[←hw5];clear hw5 c0 c1 c2 c3 c4
    go_loopw [3,21] (fun e c wr=>∃j:Nat,j≤n∧c=.int .i64 j∧e=.int .i64 0∧(∀i,i<j→(covV d.bl X P R (cf (i:Int))).2.2=0)∧Below w5.heap.size w5 wr) (fun _ c _=>n-(intOf c).toNat)
    case atStart=>exact⟨0,Nat.zero_le _,rfl,rfl,fun i hi=>by omega,bR _ _⟩
    case round=>
     obtain⟨j,hj,rfl,rfl,hall,hbl⟩:=hrel;have HBi:=aH hbl;have HL:=aH hall;clear hbl hall;by_cases hlj:j<n
     ·obtain⟨e0,e1,e2,e3,e4⟩:=HF5.out wr HBi.out;obtain⟨d0,d1,d2,d3⟩:=HF.out wr (bC HB2.out (bC HB5.out HBi.out));have HCJ:=aH (HCV.out wr (HD5.out.then HBi.out) ⟨a1,n,X,P,R⟩ j HQ.out.2.2.2.2);have HHJ:=aH (HHK.out j hlj);have HLS:=aH (show(covV d.bl X P R (cf (j:Int))).2.2=0→∀i,i<j+1→(covV d.bl X P R (cf (i:Int))).2.2=0 from fun h i hi=>by
       by_cases e:i=j
       ·rw[e];exact h
       ·exact HL.out i (by omega))
      dsimp only at HCJ;generalize covV d.bl X P R (cf (j:Int))=t at *;obtain⟨t1,t2,t3⟩:=t;unfold rchVal at HCJ;dsimp only at *;by_cases ht:t3=0
      ·subst ht;have HLN:=aH (HLS.out rfl);go_wp2_with fail;refine HCJ.out.mono ?_;rintro e w6 ⟨rfl,hb6⟩;have HB6:=aH (bC HBi.out hb6);clear hb6;go_wp2
       go_roundw
       case rel=>exact⟨j+1,by omega,num_i (by omega),rfl,HLN.out,HB6.out⟩
       case measure=>simp[intOf];omega
      ·have HT:=aH (HHJ.out t3 ht HL.out rfl);have q1:(t3 != 0)=true:=(by rw[bne_iff_ne];exact ht);clear ht;go_wp2_with fail;refine HCJ.out.mono ?_;rintro e w6 ⟨rfl,hb6⟩;have HB6:=aH (bC HBi.out hb6);clear hb6 e0 e1 e2 e3 e4 d0 d1 d2 d3;go_wp2;rw[Exit.noGoto_ret]
       go_ret
       exact⟨ret_i HT.out.symm,bC HB0.out (bC HB2.out (bC HB5.out HB6.out))⟩
     ·obtain rfl:j=n:=(by omega);have HT:=aH (HNK.out HL.out);go_wp2
      go_roundw
      case rel=>exact⟨k+1,by omega,num_i (by omega),rfl,HT.out,bC HB5.out HBi.out⟩
      case measure=>simp[intOf];omega
   ·obtain rfl:k=RS.length:=(by omega);rw[List.take_length]at HZ;go_wp2;rw[Exit.noGoto_ret]
    go_ret
    exact⟨ret_i HZ.out.symm,bC HB0.out (bC HB2.out HB.out)⟩
 ·have T:zchk d=dchk d:=by unfold zchk;rw[if_neg hz]
  rw[T];have hz':(dchk d != 0)=true:=by rw[bne_iff_ne];exact hz
  clear T hz hd;generalize dchk d=c at *;go_enter Tryz.func93,Tryz.ntmps93;go_wp2_with fail
  go_step3
  go_wp2_with fail;rw[←hw0];clear hw0;refine(HC.out _ HD0.out).mono ?_;rintro e w1 ⟨rfl,hb1⟩;have HB1:=aH hb1;clear hb1;go_wp2;rw[Exit.noGoto_ret]
  go_ret
  exact⟨rfl,bC HB0.out HB1.out⟩
theorem rch_good (l:List Nat) (x r:Nat) (h64:r<18446744073709551616) (h:(rch l x r).2.2=0):(rch l x r).1≤(rch l x r).2.1∧(rch l x r).2.1+2≤l.length∧l.length≤25:=by
 by_cases hz:chkE l=0
 ·have hr:=rise_of l hz;have hm:=hr.most;rcases hx:nanb x with _|_
  ·rcases hy:nanb r with _|_
   ·rcases hl:ltb r 0 with _|_
    ·rcases es:Ieee.double.sub x r with _|a
     ·rw[rch_none l x r hz hx hy hl (.inl es)]at h;exact absurd h (by decide)
     ·rcases ea:Ieee.double.add x r with _|q
      ·rw[rch_none l x r hz hx hy hl (.inr ea)]at h;exact absurd h (by decide)
      ·rw[rch_some l x r a q hz hx hy hl es ea]at h⊢;obtain⟨na,nq,s1,s2⟩:=sub_le_add x r a q h64 (nanb_of hx) (nanb_of hy) (ltb_0 r (nanb_of hy) hl) es ea;dsimp only at h⊢;rcases ho:outB l a q with _|_
       ·obtain⟨p1,p2,_⟩:=lanes_spec l hr a q na nq (Int.le_trans s1 s2) ho;unfold tLo tHi;rw[ho,if_neg (by simp),if_neg (by simp)];exact⟨p1,p2,by omega⟩
       ·unfold tEr at h;rw[ho,if_pos rfl]at h;exact absurd h (by decide)
    ·rw[rch_neg l x r hz hx hy hl]at h;exact absurd h (by decide)
   ·rw[rch_nan l x r hz (.inr hy)]at h;exact absurd h (by decide)
  ·rw[rch_nan l x r hz (.inl hx)]at h;exact absurd h (by decide)
 ·rw[rch_bad l x r hz]at h;exact absurd h hz
theorem cov_good (l:List Nat) (X P R c:Nat) (h64:R<18446744073709551616) (h:(covV l X P R c).2.2=0):(covV l X P R c).1≤(covV l X P R c).2.1∧(covV l X P R c).2.1+2≤l.length∧l.length≤25:=rch_good l _ R h64 h
theorem gb_trans {W V U:World} {row:Option Nat} (h:W.grownBy V row) (k:V.grownBy U row):W.grownBy U row:=
 ⟨k.os.trans h.os,k.tape.trans h.tape,k.output.trans h.output,Nat.le_trans h.size k.size,fun i hi hne=>(k.block i (nL hi h.size) hne).trans (h.block i hi hne)⟩
theorem gb_cell {W V:World} {g:Nat} {a:Addr} {v:Value} (h:W.grownBy V (some g)) (hc:W.cell? a=some v) (hne:a.block≠g):V.cell? a=some v:=by
 rw[World.cell?_of_block (h.block a.block (wB W a hc) (fun e=>hne (Option.some.inj e)))];exact hc
theorem Lk.IsL.gb {P:Program} {α:Type} {K:Lk P α} {W V:World} {g b off n c:Nat} {xs:List α} (h:K.IsL W W.heap.size (.slice (some ⟨b,off,none⟩) n c) xs) (hg:W.grownBy V (some g)) (hne:b≠g):K.IsL V V.heap.size (.slice (some ⟨b,off,none⟩) n c) xs:=by
 obtain⟨⟨A,cap,hv,hc,hA⟩,hf,hl⟩:=h;refine⟨⟨A,cap,hv,hc,fun h0=>?_⟩,hf,hl⟩;obtain⟨b',off',hA',hb',hcell⟩:=hA h0;injection hv with e1 e2 e3
 rw[hA']at e1;injection e1 with e1
 injection e1 with e1 e4
 refine⟨b',off',hA',nL hb' hg.size,fun i hi j u hu=>?_⟩;exact gb_cell hg (hcell i hi j u hu) (by show b'≠g;omega)
theorem Lk.Own.part {P:Program} {α:Type} {K:Lk P α} {W:World} {base g n cap:Nat} {zs:List α} (xs ys us:List α) (h:K.Own W base (.slice (some ⟨g,0,none⟩) n cap) zs) (e:zs=xs++ys++us) (hl:zs.length≤9223372036854775807):K.IsL W W.heap.size (.slice (some ⟨g,xs.length*K.n,none⟩) ys.length ys.length) ys:=by
 obtain⟨⟨A,cap',hv,hc,hA⟩,hf,_⟩:=h.isL hl;subst e;refine⟨⟨_,_,rfl,nR _,fun h0=>?_⟩,fun x hx=>hf x (by simp[hx]),by simp at hl;omega⟩;obtain⟨b,off,hA',hb,hcell⟩:=hA (by simp;omega);injection hv with e1 e2 e3
 rw[hA']at e1;injection e1 with e1
 injection e1 with e1 e4
 subst e1;subst e4;refine⟨_,_,rfl,hb,fun i hi j u hu=>?_⟩;have q:=hcell (xs.length+i) (by simp;omega) j u (by
  rw[List.append_assoc,List.getD_eq_getElem?_getD,List.getElem?_append_right (by omega),List.getElem?_append_left (by omega),Nat.add_sub_cancel_left,←List.getD_eq_getElem?_getD];exact hu)
 rw[Nat.zero_add,Nat.add_mul,Nat.add_assoc]at q;exact q
theorem pairs_len (l:List T3):(pairs l).length=l.length:=by unfold pairs;simp
theorem sum_nn (l:List Int) (h:∀x∈l,0≤x):0≤l.sum:=by
 induction l with
 |nil=>simp
 |cons x l ih=>
  rw[List.sum_cons];have h1:=h x (by simp);have h2:=ih fun y hy=>h y (by simp[hy]);omega
theorem wells_nn (l:List Pl) (h:∀i,i<l.length→sizeB (l.getD i KP.dflt).rows (l.getD i KP.dflt).cols=true):0≤wellsV l:=by
 apply sum_nn;intro x hx;obtain⟨q,hq,rfl⟩:=List.mem_map.1 hx;obtain⟨i,hi,rfl⟩:=List.mem_iff_getElem.1 hq;have:=h i hi;rw[List.getD_eq_getElem?_getD,List.getElem?_eq_getElem hi]at this;have:=(size_mul this).1;simp only[Option.getD_some]at this;omega
theorem tips_nn (l:List Rk) (h:∀i,i<l.length→sizeB (l.getD i KR.dflt).rows (l.getD i KR.dflt).cols=true):0≤tipsV l:=by
 apply sum_nn;intro x hx;obtain⟨q,hq,rfl⟩:=List.mem_map.1 hx;obtain⟨i,hi,rfl⟩:=List.mem_iff_getElem.1 hq;have:=h i hi;rw[List.getD_eq_getElem?_getD,List.getElem?_eq_getElem hi]at this;have:=(size_mul this).1;simp only[Option.getD_some]at this;omega
end Go.Proofs.YtmecohdedghiaaaGreatDoor
