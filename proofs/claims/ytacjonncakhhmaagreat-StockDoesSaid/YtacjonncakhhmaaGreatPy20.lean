/- The table of all parts' lanes: what the program answers. -/
import Derived.Test.YtacjonncakhhmaaGreatPy00
import Derived.Test.YtacjonncakhhmaaGreatPy19
set_option maxRecDepth 100000
set_option maxHeartbeats 8000000
namespace Go.Proofs.YtacjonncakhhmaaGreat
open Go.RowKit
theorem fst_idx (l:List T3) (z:T3) (e:Int) (he:e≠0):∀j,j<l.length→(∀i,i<j→(l.getD i z).2.2=0)→(l.getD j z).2.2=e→fstE l=e:=by
 induction l with
 | nil=>intro j hj;simp at hj
 | cons t ts ih=>
  intro j hj hp ht;rw[fstE]
  cases j with
  | zero=>
   have ht':t.2.2=e:=by simpa using ht
   rw[if_neg (by rw[ht'];exact he),ht']
  | succ j=>
   have h0:t.2.2=0:=by simpa using hp 0 (by omega)
   rw[if_pos h0];exact ih j (by simpa using hj) (fun i hi=>by simpa using hp (i+1) (by omega)) (by simpa using ht)
theorem row_at (bl:List Nat) (q:Rk) (i:Nat) (hi:i<q.cols.toNat):(rowV bl q).getD i (0,0,0)=covV bl q.x q.p q.r (cf (i:Int)):=by
 rw[List.getD_eq_getElem?_getD];unfold rowV;rw[List.getElem?_map,List.getElem?_range hi];rfl
theorem row_0 (bl:List Nat) (q:Rk) (h:∀i,i<q.cols.toNat→(covV bl q.x q.p q.r (cf (i:Int))).2.2=0):fstE (rowV bl q)=0:=by
 apply fst_all;intro t ht;unfold rowV at ht;obtain⟨i,hi,rfl⟩:=List.mem_map.1 ht;exact h i (List.mem_range.1 hi)
theorem rows_next (bl:List Nat) (l:List Rk) (k:Nat) (hk:k<l.length) (h0:fstE ((l.take k).flatMap (rowV bl))=0) (h:∀i,i<(l.getD k KR.dflt).cols.toNat→(covV bl (l.getD k KR.dflt).x (l.getD k KR.dflt).p (l.getD k KR.dflt).r (cf (i:Int))).2.2=0):fstE ((l.take (k+1)).flatMap (rowV bl))=0:=by
 rw[take_snoc l k KR.dflt hk,List.flatMap_append,fst_append,if_pos h0,List.flatMap_cons,List.flatMap_nil,List.append_nil];exact row_0 bl _ h
theorem rows_hit (bl:List Nat) (l:List Rk) (k:Nat) (hk:k<l.length) (j:Nat) (hj:j<(l.getD k KR.dflt).cols.toNat) (e:Int) (he:e≠0) (h0:fstE ((l.take k).flatMap (rowV bl))=0)
  (hp:∀i,i<j→(covV bl (l.getD k KR.dflt).x (l.getD k KR.dflt).p (l.getD k KR.dflt).r (cf (i:Int))).2.2=0) (ht:(covV bl (l.getD k KR.dflt).x (l.getD k KR.dflt).p (l.getD k KR.dflt).r (cf (j:Int))).2.2=e):fstE (l.flatMap (rowV bl))=e:=by
 have hl:l=l.take k++(l.getD k KR.dflt::l.drop (k+1)):=by rw[←drop_snoc l k KR.dflt hk,List.take_append_drop]
 have hrow:fstE (rowV bl (l.getD k KR.dflt))=e:=by
  apply fst_idx _ (0,0,0) e he j
  ·rw[row_len];exact hj
  ·intro i hi;rw[row_at _ _ _ (by omega)];exact hp i hi
  ·rw[row_at _ _ _ hj];exact ht
 generalize l.getD k KR.dflt=q at *;rw[hl,List.flatMap_append,fst_append,if_pos h0,List.flatMap_cons,fst_append,hrow,if_neg he]
theorem zcheck_any (d:Dk) (w:World) (hd:d.In w w.heap.size):Calls Tryz.prog 30 #[d.v] w fun e w'=>e=.returned (.int .i64 (zchk d))∧Below w.heap.size w w':=by
 have HD:=aH hd;have HC:=aH (fun w h=>dcheck_any d w h);have hsf:=fun(w:World) (a:Addr) (m:Mode) (b:Nat)=>run_store_float (P:=Tryz.prog) (w:=w) (a:=a) (m:=m) .f64 b;obtain⟨w0,hw0⟩:∃w0,w0=w.alloc (.cells #[.slice d.bA d.bn d.bc,.slice d.pA d.pn d.pc,.slice d.rA d.rn d.rc,.int .i64 d.arms] 26):=⟨_,rfl⟩;have HB0:=aH (show Below w.heap.size w w0 by rw[hw0];exact bL (bR _ _) _);have HD0:=aH (HD.out.then HB0.out);have HF:=aH (show ∀w1,Below w0.heap.size w0 w1→(w1.cell? ⟨w.heap.size,0,none⟩=some (.slice d.bA d.bn d.bc)∧w1.cell? ⟨w.heap.size,1,none⟩=some (.slice d.pA d.pn d.pc)∧w1.cell? ⟨w.heap.size,2,none⟩=some (.slice d.rA d.rn d.rc)∧w1.cell? ⟨w.heap.size,3,none⟩=some (.int .i64 d.arms))from by
   intro w1 hb;refine⟨kK hb ?_,kK hb ?_,kK hb ?_,kK hb ?_⟩
   all_goals (rw[hw0];simp))
 by_cases hz:dchk d=0
 ·have T:zchk d=fstE ((racksL d).flatMap (rowV d.bl)):=by unfold zchk;rw[if_pos hz];rfl
  rw[T];have HOK:=aH (dchk_ok d hz);have HRS:=aH (racks_ok d HOK.out);have HRC:=aH (fun w h=>racks_any d w h HOK.out.p4 HOK.out.r4);have HRL:=aH (show(racksL d).length≤8 by unfold racksL;rw[List.length_append,List.length_map];have:=HOK.out.p4;have:=HOK.out.r4;omega);have HBL:=aH (fun(w:World) (h:d.In w w.heap.size)=>h.b);have HN:=aH (rows_next d.bl (racksL d));have HH:=aH (rows_hit d.bl (racksL d));have HCV:=aH (fun(w:World) (h:d.In w w.heap.size) (q:Rk) (c:Int) (hq:q.r<18446744073709551616)=>covered_any (.slice d.bA d.bn d.bc) d.bl q c w h.b hq);rw[hz]at HC;clear T hz hd;generalize racksL d=RS at *;go_enter Tryz.func30,Tryz.ntmps30;go_wp2_with fail
  go_step3
  go_wp2_with fail;rw[←hw0];clear hw0;refine(HC.out _ HD0.out).mono ?_;rintro e w1 ⟨rfl,hb1⟩;obtain⟨d0,d1,d2,d3⟩:=HF.out w1 hb1;have HB1:=aH hb1;clear hb1;go_wp2_with fail
  go_step3
  go_wp2_with fail;refine(HRC.out w1 (HD0.out.then HB1.out)).mono ?_;rintro e w2 ⟨v,rfl,hown,hb2⟩;have HB2:=aH (bC HB1.out hb2);have HIL:=aH (hown.isL (by have:=HRL.out;omega));clear hb2 hown d0 d1 d2 d3;obtain⟨A,cap,rfl⟩:∃A cap,v=.slice A RS.length cap:=by
   obtain⟨⟨A,cap,h,_⟩,_⟩:=HIL.out;exact⟨A,cap,h⟩
  go_wp2_with fail
  go_loopw [3,15] (fun e i wr=>∃k:Nat,k≤RS.length∧i=.int .i64 k∧e=.int .i64 0∧fstE ((RS.take k).flatMap (rowV d.bl))=0∧Below w2.heap.size w2 wr) (fun _ i _=>RS.length - (intOf i).toNat)
  case atStart=>exact⟨0,Nat.zero_le _,rfl,rfl,rfl,bR _ _⟩
  case round=>
   obtain⟨k,hk,rfl,rfl,hf,hbl⟩:=hrel;have HB:=aH hbl;have HZ:=aH hf;have h8:=HRL.out;clear hbl hf;by_cases hlt:k<RS.length
   ·obtain⟨b,off,rfl,hb,hc,hcell⟩:=rack_cells (HIL.out.below HB.out) (by omega);obtain⟨c0,c1,c2,c3,c4⟩:=hcell k hlt;have HQ:=aH (HIL.out.okAt k hlt);have HCO:=aH (HRS.out _ (getD_mem' RS k KR.dflt hlt));have HNK:=aH (HN.out k hlt HZ.out);have HHK:=aH (fun j hj e he hp ht=>HH.out k hlt j hj e he HZ.out hp ht);obtain⟨wo,hwo⟩:∃wo,wo=wr:=⟨_,rfl⟩;subst hwo;clear hcell;generalize RS.getD k KR.dflt=q at *;have hco:=HCO.out;obtain⟨a1,a2,X,P,R⟩:=q;dsimp only at *;obtain⟨_,_,hco1,hco2⟩:=hco;obtain⟨n,rfl⟩:∃n:Nat,a2=(n:Int):=⟨a2.toNat,by omega⟩;rw[Int.toNat_natCast]at HNK HHK;obtain⟨w5,hw5⟩:∃w5,w5=wo.alloc (.cells #[.int .i64 a1,.int .i64 n,.float .f64 X,.float .f64 P,.float .f64 R] 52):=⟨_,rfl⟩;have HB5:=aH (show Below w2.heap.size w2 w5 by rw[hw5];exact bL HB.out _);have HD5:=aH (HD0.out.then (bC HB2.out HB5.out));have HF5:=aH (show ∀w1,Below w5.heap.size w5 w1→w1.cell? ⟨wo.heap.size,0,none⟩=some (.int .i64 a1)∧w1.cell? ⟨wo.heap.size,1,none⟩=some (.int .i64 n)∧w1.cell? ⟨wo.heap.size,2,none⟩=some (.float .f64 X)∧w1.cell? ⟨wo.heap.size,3,none⟩=some (.float .f64 P)∧w1.cell? ⟨wo.heap.size,4,none⟩=some (.float .f64 R)from by
     intro w1 hb;refine⟨kK hb ?_,kK hb ?_,kK hb ?_,kK hb ?_,kK hb ?_⟩
     all_goals (rw[hw5];simp))
    go_wp2_with fail;rw[←hw5];clear hw5 c0 c1 c2 c3 c4
    go_loopw [3,21] (fun e c wr=>∃j:Nat,j≤n∧c=.int .i64 j∧e=.int .i64 0∧(∀i,i<j→(covV d.bl X P R (cf (i:Int))).2.2=0)∧Below w5.heap.size w5 wr) (fun _ c _=>n - (intOf c).toNat)
    case atStart=>exact⟨0,Nat.zero_le _,rfl,rfl,fun i hi=>by omega,bR _ _⟩
    case round=>
     obtain⟨j,hj,rfl,rfl,hall,hbl⟩:=hrel;have HBi:=aH hbl;have HL:=aH hall;clear hbl hall;by_cases hlj:j<n
     ·obtain⟨e0,e1,e2,e3,e4⟩:=HF5.out wr HBi.out;obtain⟨d0,d1,d2,d3⟩:=HF.out wr (bC HB2.out (bC HB5.out HBi.out));have HCJ:=aH (HCV.out wr (HD5.out.then HBi.out) ⟨a1,n,X,P,R⟩ j HQ.out.2.2.2.2);have HHJ:=aH (HHK.out j hlj);have HLS:=aH (show(covV d.bl X P R (cf (j:Int))).2.2=0→∀i,i<j+1→(covV d.bl X P R (cf (i:Int))).2.2=0 from fun h i hi=>by
       by_cases e:i=j
       ·rw[e];exact h
       ·exact HL.out i (by omega))
      dsimp only at HCJ;generalize covV d.bl X P R (cf (j:Int))=t at *;obtain⟨t1,t2,t3⟩:=t;unfold rchVal at HCJ;dsimp only at *;by_cases ht:t3=0
      ·subst ht;have HLN:=aH (HLS.out rfl);go_wp2_with fail;refine HCJ.out.mono ?_;rintro e w6 ⟨rfl,hb6⟩;have HB6:=aH (bC HBi.out hb6);clear hb6;go_wp2
       go_roundw
       case rel=>exact⟨j+1,by omega,num_i (by omega),rfl,HLN.out,HB6.out⟩
       case measure=>simp[intOf];omega
      ·have HT:=aH (HHJ.out t3 ht HL.out rfl);have q1:(t3 != 0)=true:=by rw[bne_iff_ne];exact ht
       clear ht;go_wp2_with fail;refine HCJ.out.mono ?_;rintro e w6 ⟨rfl,hb6⟩;have HB6:=aH (bC HBi.out hb6);clear hb6 e0 e1 e2 e3 e4 d0 d1 d2 d3;go_wp2;rw[Exit.noGoto_ret]
       go_ret
       exact⟨ret_i HT.out.symm,bC HB0.out (bC HB2.out (bC HB5.out HB6.out))⟩
     ·obtain rfl:j=n:=by omega
      have HT:=aH (HNK.out HL.out);go_wp2
      go_roundw
      case rel=>exact⟨k+1,by omega,num_i (by omega),rfl,HT.out,bC HB5.out HBi.out⟩
      case measure=>simp[intOf];omega
   ·obtain rfl:k=RS.length:=by omega
    rw[List.take_length]at HZ;go_wp2;rw[Exit.noGoto_ret]
    go_ret
    exact⟨ret_i HZ.out.symm,bC HB0.out (bC HB2.out HB.out)⟩
 ·have T:zchk d=dchk d:=by unfold zchk;rw[if_neg hz]
  rw[T];have hz':(dchk d != 0)=true:=by rw[bne_iff_ne];exact hz
  clear T hz hd;generalize dchk d=c at *;go_enter Tryz.func30,Tryz.ntmps30;go_wp2_with fail
  go_step3
  go_wp2_with fail;rw[←hw0];clear hw0;refine(HC.out _ HD0.out).mono ?_;rintro e w1 ⟨rfl,hb1⟩;have HB1:=aH hb1;clear hb1;go_wp2;rw[Exit.noGoto_ret]
  go_ret
  exact⟨rfl,bC HB0.out HB1.out⟩
theorem rch_good (l:List Nat) (x r:Nat) (h64:r<18446744073709551616) (h:(rch l x r).2.2=0):(rch l x r).1≤(rch l x r).2.1∧(rch l x r).2.1+2≤l.length∧l.length≤25:=by
 by_cases hz:chkE l=0
 ·have hr:=rise_of l hz;have hm:=hr.most;rcases hx:nanb x with _ | _
  ·rcases hy:nanb r with _ | _
   ·rcases hl:ltb r 0 with _ | _
    ·rcases es:Ieee.double.sub x r with _ | a
     ·rw[rch_none l x r hz hx hy hl (.inl es)]at h;exact absurd h (by decide)
     ·rcases ea:Ieee.double.add x r with _ | q
      ·rw[rch_none l x r hz hx hy hl (.inr ea)]at h;exact absurd h (by decide)
      ·rw[rch_some l x r a q hz hx hy hl es ea]at h⊢;obtain⟨na,nq,s1,s2⟩:=sub_le_add x r a q h64 (nanb_of hx) (nanb_of hy) (ltb_0 r (nanb_of hy) hl) es ea;dsimp only at h⊢;rcases ho:outB l a q with _ | _
       ·obtain⟨p1,p2,_⟩:=lanes_spec l hr a q na nq (Int.le_trans s1 s2) ho;unfold tLo tHi;rw[ho,if_neg (by simp),if_neg (by simp)];exact⟨p1,p2,by omega⟩
       ·unfold tEr at h;rw[ho,if_pos rfl]at h;exact absurd h (by decide)
    ·rw[rch_neg l x r hz hx hy hl]at h;exact absurd h (by decide)
   ·rw[rch_nan l x r hz (.inr hy)]at h;exact absurd h (by decide)
  ·rw[rch_nan l x r hz (.inl hx)]at h;exact absurd h (by decide)
 ·rw[rch_bad l x r hz]at h;exact absurd h hz
theorem cov_good (l:List Nat) (X P R c:Nat) (h64:R<18446744073709551616) (h:(covV l X P R c).2.2=0):(covV l X P R c).1≤(covV l X P R c).2.1∧(covV l X P R c).2.1+2≤l.length∧l.length≤25:=rch_good l _ R h64 h
theorem gb_trans {W V U:World} {row:Option Nat} (h:W.grownBy V row) (k:V.grownBy U row):W.grownBy U row:=
 ⟨k.os.trans h.os,k.tape.trans h.tape,k.output.trans h.output,Nat.le_trans h.size k.size,fun i hi hne=>(k.block i (nL hi h.size) hne).trans (h.block i hi hne)⟩
theorem gb_cell {W V:World} {g:Nat} {a:Addr} {v:Value} (h:W.grownBy V (some g)) (hc:W.cell? a=some v) (hne:a.block≠g):V.cell? a=some v:=by
 rw[World.cell?_of_block (h.block a.block (wB W a hc) (fun e=>hne (Option.some.inj e)))];exact hc
theorem Lk.IsL.gb {P:Program} {α:Type} {K:Lk P α} {W V:World} {g b off n c:Nat} {xs:List α} (h:K.IsL W W.heap.size (.slice (some ⟨b,off,none⟩) n c) xs) (hg:W.grownBy V (some g)) (hne:b≠g):K.IsL V V.heap.size (.slice (some ⟨b,off,none⟩) n c) xs:=by
 obtain⟨⟨A,cap,hv,hc,hA⟩,hf,hl⟩:=h;refine⟨⟨A,cap,hv,hc,fun h0=>?_⟩,hf,hl⟩;obtain⟨b',off',hA',hb',hcell⟩:=hA h0;injection hv with e1 e2 e3
 rw[hA']at e1;injection e1 with e1
 injection e1 with e1 e4
 refine⟨b',off',hA',nL hb' hg.size,fun i hi j u hu=>?_⟩;exact gb_cell hg (hcell i hi j u hu) (by show b'≠g;omega)
theorem Lk.Own.part {P:Program} {α:Type} {K:Lk P α} {W:World} {base g n cap:Nat} {zs:List α} (xs ys us:List α) (h:K.Own W base (.slice (some ⟨g,0,none⟩) n cap) zs) (e:zs=xs++ys++us) (hl:zs.length≤9223372036854775807):K.IsL W W.heap.size (.slice (some ⟨g,xs.length * K.n,none⟩) ys.length ys.length) ys:=by
 obtain⟨⟨A,cap',hv,hc,hA⟩,hf,_⟩:=h.isL hl;subst e;refine⟨⟨_,_,rfl,nR _,fun h0=>?_⟩,fun x hx=>hf x (by simp[hx]),by simp at hl;omega⟩;obtain⟨b,off,hA',hb,hcell⟩:=hA (by simp;omega);injection hv with e1 e2 e3
 rw[hA']at e1;injection e1 with e1
 injection e1 with e1 e4
 subst e1;subst e4;refine⟨_,_,rfl,hb,fun i hi j u hu=>?_⟩;have q:=hcell (xs.length+i) (by simp;omega) j u (by
  rw[List.append_assoc,List.getD_eq_getElem?_getD,List.getElem?_append_right (by omega),List.getElem?_append_left (by omega),Nat.add_sub_cancel_left,←List.getD_eq_getElem?_getD];exact hu)
 rw[Nat.zero_add,Nat.add_mul,Nat.add_assoc]at q;exact q
theorem pairs_len (l:List T3):(pairs l).length=l.length:=by unfold pairs;simp
end Go.Proofs.YtacjonncakhhmaaGreat
