/- How many places there are on plates and racks: what the program answers. -/
import Derived.Test.YtacjonncakhhmaaGreatPy00
import Derived.Test.YtacjonncakhhmaaGreatPy07
import Derived.Test.YtacjonncakhhmaaGreatPy12
import Derived.Test.YtacjonncakhhmaaGreatPy08
import Derived.Test.YtacjonncakhhmaaGreatPy05
set_option maxRecDepth 100000
set_option maxHeartbeats 8000000
namespace Go.Proofs.YtacjonncakhhmaaGreat
open Go.RowKit
def volS (l:List Cel.Ce):List Int:=l.map fun q=>q.b
theorem volS_take (l:List Cel.Ce) (k:Nat) (h:k<l.length):volS (l.take (k+1))=volS (l.take k)++[(l.getD k ce0).b]:=by
 rw[take_snoc l k ce0 h];simp[volS]
def volF (l:List Cel.Ce) (k:Nat):List Int:=volS (l.take k)++List.replicate (l.length - k) 0
theorem volF_set (l:List Cel.Ce) (k:Nat) (h:k<l.length):(volF l k).set k (l.getD k ce0).b=volF l (k+1):=by
 unfold volF;rw[volS_take l k h];have hk:(volS (l.take k)).length=k:=by unfold volS;rw[List.length_map,List.length_take];omega
 rw[List.set_append,if_neg (by omega),hk,Nat.sub_self,show l.length - k=(l.length - (k+1))+1 by omega,List.replicate_succ,List.set_cons_zero,List.append_assoc];rfl
theorem volF_len (l:List Cel.Ce) (k:Nat) (h:k≤l.length):(volF l k).length=l.length:=by
 unfold volF volS;rw[List.length_append,List.length_map,List.length_take,List.length_replicate];omega
abbrev totV (l:List Cel.Ce):Value:=.tuple #[.int .i64 (fitV (Two.sumL (volS l))),.int .i64 (fitE (Two.sumL (volS l)))]
theorem total_any (s:Stk) (w:World) (hs:s.In w w.heap.size) (hl:s.cl.length≤100000):Calls Tryz.prog 14 #[s.v] w fun e w'=>e=.returned (totV s.cl)∧Below w.heap.size w w':=by
 obtain⟨w0,hw0⟩:∃w0,w0=w.alloc (.cells #[.slice s.cA s.cl.length s.cc,.slice s.lA s.ll.length s.lc,.slice s.tA s.tl.length s.tc,.int .i64 s.st,.int .i64 s.inn,.int .i64 s.out] 31):=⟨_,rfl⟩;have HB0:=aH (show Below w.heap.size w w0 by rw[hw0];exact bL (bR _ _) _);have HC:=aH hs.c;have HS0:=aH (show SkAt w0 w.heap.size s by rw[hw0];exact Cells6.new w _ _ _ _ _ _ _);have hfit:=hs.c.2.1;have HSU:=aH (fun v w h=>Two.sum_any v (volS s.cl) w h);clear hs;obtain⟨cA,cc,cl,lA,lc,ll,tA,tc,tl,st,inn,out⟩:=s;dsimp only at *;have HFT:=aH hfit;obtain⟨i0,hi,hz0,hz1,_⟩:=info_parts KI.info;have hlI:(cl.length:Int)≤100000:=by omega
 clear hfit;obtain⟨g0,g1,g2,g3,g4,g5,_⟩:=HS0.out;rw[hw0]at g0 g1 g2 g3 g4 g5;go_enter Tryz.func14,Tryz.ntmps14;go_wp2_with (at_make;refine wpList_make_full _ rfl _ _ 45 rfl (w.heap.size+1) 3 i0 (.int .i64 0) 1 Tryz.underlying45 hi hz0 hz1 _ _ _ _ cl.length rfl rfl rfl rfl ?bytes ?maxLen (by simp) ?_)
 case bytes=>rw[show KI.bytes=8 from rfl];omega
 case maxLen=>unfold maxLen;omega
 clear g0 g1 g2 g3 g4 g5;intro w1 hown hgrow;rw[←hw0]at hgrow;have hsz:w0.heap.size=w.heap.size+1:=by rw[hw0];simp
 have HSZ:=aH hsz;clear hw0 hsz;have ho:KI.Own w1 (w.heap.size+1) (.slice (some ⟨w.heap.size+1,0,none⟩) cl.length cl.length) (volF cl 0):=by
  refine⟨?_,fun x hx=>?_⟩
  ·have e:=Lk.flat_made KI 0 rfl cl.length;have e2:volF cl 0=List.replicate cl.length 0:=by simp[volF,volS]
   rw[e2,←e,List.length_replicate,show cl.length * KI.n=cl.length from Nat.mul_one _];exact hown
  ·have hx':x∈List.replicate cl.length 0:=by simpa [volF,volS]using hx
   rw[List.mem_replicate]at hx';rw[hx'.2];show fits 0;decide
 have HB1':=aH ((bR w0.heap.size w0).grown hgrow (nR _) (fun _ h=>nomatch h));have HB1:=aH (bC HB0.out HB1'.out);have HO1:=aH ho;have HS1:=aH (HS0.out.below HB1'.out);have HW1:=aH (show w.heap.size≤w.heap.size+1 by omega);clear hown hgrow ho hi hz0 hz1;obtain⟨g0,g1,g2,g3,g4,g5,_⟩:=HS1.out;go_wp2
 go_loopw [14] (fun i wr=>∃k:Nat,k≤cl.length∧i=.int .i64 k∧KI.Own wr (w.heap.size+1) (.slice (some ⟨w.heap.size+1,0,none⟩) cl.length cl.length) (volF cl k)∧Below w.heap.size w wr) (fun i _=>cl.length - (intOf i).toNat)
 case atStart=>exact⟨0,Nat.zero_le _,rfl,HO1.out,HB1.out⟩
 case round=>
  clear g0 g1 g2 g3 g4 g5;obtain⟨k,hk,rfl,hown,hbl⟩:=hrel;have HO:=aH hown;have HB:=aH hbl;clear hown hbl;by_cases hlt:k<cl.length
  ·obtain⟨b,off,rfl,hb,hcc,hcell⟩:=ce_cells (HC.out.then HB.out) (by omega);obtain⟨c0,c1,c2⟩:=hcell k hlt;have HVS:=aH (volF_set cl k hlt);have hvl:=volF_len cl k (by omega);have hfk:=aH ((HFT.out _ (getD_mem' cl k ce0 hlt)).b);clear hcell;generalize cl.getD k ce0=q at *;obtain⟨qa,qb,qc⟩:=q;dsimp only at *;obtain⟨f1,f2⟩:=KI.Own.at HO.out hvl k hlt;generalize (volF cl k).getD k 0=old at *;have hlw:w.heap.size+1<wr.heap.size:=wB _ _ f1;have hbw:b<wr.heap.size:=hb;go_wp2
   go_roundw
   case rel=>
    have hp:=KI.Own.put HO.out hvl k qb hfk.out;exact⟨k+1,by omega,num_i (by omega),by rw[←HVS.out];exact hp.1.alloc _,bL (HB.out.setCell HW1.out _) _⟩
   case measure=>simp[intOf];omega
  ·obtain rfl:k=cl.length:=by omega
   have HI:=aH (show KI.IsL wr wr.heap.size (.slice (some ⟨w.heap.size+1,0,none⟩) cl.length cl.length) (volS cl)from by
    have h:=HO.out.isL (by rw[volF_len cl _ (nR _)];omega);unfold volF at h;rw[List.take_length,Nat.sub_self,List.replicate_zero,List.append_nil]at h;exact h)
   go_wp2_with fail;refine(HSU.out _ _ (two_of HI.out)).mono ?_;rintro e w4 ⟨rfl,hb4⟩;go_wp2
   go_ret2
   exact⟨rfl,bC HB.out hb4⟩
theorem rtotal_any (s:Stk) (w:World) (hs:s.In w w.heap.size) (hl:s.cl.length≤100000):Calls Tryz.prog 105 #[s.v] w fun e w'=>e=.returned (totV s.cl)∧Below w.heap.size w w':=by
 obtain⟨w0,hw0⟩:∃w0,w0=w.alloc (.cells #[.slice s.cA s.cl.length s.cc,.slice s.lA s.ll.length s.lc,.slice s.tA s.tl.length s.tc,.int .i64 s.st,.int .i64 s.inn,.int .i64 s.out] 31):=⟨_,rfl⟩;have HB0:=aH (show Below w.heap.size w w0 by rw[hw0];exact bL (bR _ _) _);have HC:=aH hs.c;have HS0:=aH (show SkAt w0 w.heap.size s by rw[hw0];exact Cells6.new w _ _ _ _ _ _ _);have hfit:=hs.c.2.1;have HSU:=aH (fun v w h=>Two.rsum_any v (volS s.cl) w h (by unfold volS;rw[List.length_map];omega));clear hs;obtain⟨cA,cc,cl,lA,lc,ll,tA,tc,tl,st,inn,out⟩:=s;dsimp only at *;have HFT:=aH hfit;have hlI:(cl.length:Int)≤100000:=by omega
 clear hfit;go_enter Tryz.func105,Tryz.ntmps105;go_wp2_with fail;rw[←hw0];clear hw0
 go_loopw [4,5] (fun u i wr=>∃k:Nat,k≤cl.length∧i=.int .i64 k∧KI.Own wr w0.heap.size u (volS (cl.take k))∧Below w0.heap.size w0 wr) (fun _ i _=>cl.length - (intOf i).toNat)
 case atStart=>exact⟨0,Nat.zero_le _,rfl,(show KI.Own w0 w0.heap.size (.slice none 0 0) []from Lk.Own.nil _ _),bR _ _⟩
 case round=>
  obtain⟨k,hk,rfl,hown,hbl⟩:=hrel;have HO:=aH hown;have HB:=aH hbl;obtain⟨g0,g1,g2,g3,g4,g5,z0,z1,z2,z3,z4,z5,hgs⟩:=HS0.out.below hbl;clear hown hbl g1 g2 g3 g4 g5 z0 z1 z2 z3 z4 z5;by_cases hlt:k<cl.length
  ·obtain⟨b,off,rfl,hb,hcc,hcell⟩:=ce_cells ((HC.out.then HB0.out).then HB.out) (by omega);obtain⟨c0,c1,c2⟩:=hcell k hlt;have HVS:=aH (volS_take cl k hlt);have hvl:(volS (cl.take k)).length=k:=by unfold volS;rw[List.length_map,List.length_take];omega
   have HVL:=aH hvl;have hfk:=aH ((HFT.out _ (getD_mem' cl k ce0 hlt)).b);clear hcell hvl;generalize cl.getD k ce0=q at *;obtain⟨qa,qb,qc⟩:=q;dsimp only at *;go_wp2_with (at_builtin;refine Lk.wpList_app (K:=KI) _ rfl _ _ rfl rfl w0.heap.size (wr.heap.size+1) _ _ (volS (cl.take k)) [qb] rfl rfl (HO.out.alloc _) (Lk.IsL.lit (K:=KI) _ qb _ hfk.out rfl wr.heap.size rfl) ?c1 ?c2 ?_)
   case c1=>have:=HVL.out;simp;omega
   case c2=>have:=HB.out.size;simp;omega
   intro v1 w4 hown hgrow _;have HB4:=aH (Lk.Own.grow' (HO.out.alloc _) (bL HB.out _) (by have:=HB.out.size;simp;omega) hgrow);have HO4:=aH hown;clear hown hgrow g0;go_wp2
   go_roundw
   case rel=>exact⟨k+1,by omega,num_i (by omega),by rw[HVS.out];exact HO4.out,HB4.out⟩
   case measure=>simp[intOf];omega
  ·obtain rfl:k=cl.length:=by omega
   rw[List.take_length]at HO;have HI:=aH (HO.out.isL (by unfold volS;rw[List.length_map];omega));go_wp2_with fail;refine(HSU.out _ _ (two_of HI.out)).mono ?_;rintro e w4 ⟨rfl,hb4⟩;go_wp2
   go_ret2
   exact⟨rfl,bC HB0.out (bC HB.out hb4)⟩
def okN (cap n:Int):Bool:=decide (0≤n∧n≤cap)
def plateB (q:Pl):Bool:=sizeB q.rows q.cols&&decide (1≤q.cap∧q.cap≤1099511627776∧(q.st.length:Int)≤q.rows * q.cols)&&q.st.all (okN q.cap)
abbrev Pl.v (q:Pl):Value:=.agg #[.int .i64 q.rows,.int .i64 q.cols,.float .f64 q.x,.float .f64 q.p,.float .f64 q.r,.int .i64 q.cap,.slice q.sA q.sn q.sc]
theorem plate_no1 (q:Pl) (h:sizeB q.rows q.cols=false):plateB q=false:=by unfold plateB;rw[h];rfl
theorem plate_no2 (q:Pl) (h:¬(1≤q.cap∧q.cap≤1099511627776∧(q.st.length:Int)≤q.rows * q.cols)):plateB q=false:=by unfold plateB;rw[dF h];simp
theorem plate_is (q:Pl) (h:sizeB q.rows q.cols=true) (h2:1≤q.cap∧q.cap≤1099511627776∧(q.st.length:Int)≤q.rows * q.cols):plateB q=q.st.all (okN q.cap):=by unfold plateB;rw[h,dT h2];simp
theorem all_no (l:List Int) (f:Int→Bool) (k:Nat) (h:k<l.length) (hf:f (l.getD k 0)=false):l.all f=false:=by
 rw[←Bool.not_eq_true,List.all_eq_true];intro hh;have:=hh _ (getD_mem' l k 0 h);rw[hf]at this
 cases this
theorem all_yes (l:List Int) (f:Int→Bool) (h:∀i,i<l.length→f (l.getD i 0)=true):l.all f=true:=by
 rw[List.all_eq_true];intro x hx;obtain⟨i,hi,rfl⟩:=List.mem_iff_getElem.1 hx;have:=h i hi;rw[List.getD_eq_getElem?_getD,List.getElem?_eq_getElem hi]at this;exact this
theorem rightPlate_any (q:Pl) (w:World) (hs:KI.IsL w w.heap.size (.slice q.sA q.sn q.sc) q.st) (hok:KP.ok q):Calls Tryz.prog 87 #[q.v] w fun e w'=>e=.returned (.bool (plateB q))∧Below w.heap.size w w':=by
 have N1:=aH (plate_no1 q);have N2:=aH (plate_no2 q);have N3:=aH (plate_is q);have hn:=hs.len;have hl:=hs.2.2;have HCL:=aH (fun h0:0<q.st.length=>KI.cells hs h0);obtain⟨_,_,_,_,_,hcap⟩:=hok;obtain⟨B,hB⟩:∃B,B=plateB q:=⟨_,rfl⟩;rw[←hB]at N1 N2 N3⊢;clear hB;obtain⟨rows,cols,x,p,r,cap,sA,sn,sc,st⟩:=q;dsimp only at *;subst hn;clear hs;unfold fits at hcap;rcases Bool.eq_false_or_eq_true (sizeB rows cols)with h1 | h1
 ·obtain⟨m1,m2⟩:=size_mul h1;by_cases hc:1≤cap∧cap≤1099511627776∧(st.length:Int)≤rows * cols
  ·have hB:=N3.out h1 hc;obtain⟨c1,c2,c3⟩:=hc;have HB:=aH hB;have HN:=aH (all_no st (okN cap));have HY:=aH (all_yes st (okN cap));clear N1 N2 N3 hB;go_enter Tryz.func87,Tryz.ntmps87;go_wp2_with fail;refine(rightSize_any _ _ _).mono ?_;rintro e w' ⟨rfl,rfl⟩;go_wp2
   go_loop [35] (fun i=>∃k:Nat,k≤st.length∧i=.int .i64 k∧∀i,i<k→okN cap (st.getD i 0)=true) (fun i=>st.length - (intOf i).toNat)
   case atStart=>exact⟨0,Nat.zero_le _,rfl,fun i hi=>by omega⟩
   case round=>
    obtain⟨k,hk,rfl,hall⟩:=hrel;have HL:=aH hall;clear hall;by_cases hlt:k<st.length
    ·obtain⟨b,off,cp,hv,hc2,hbB,_,hcell,_⟩:=HCL.out (by omega);injection hv with e1 e2 e3
     subst e1 e3;have hx:=hcell k hlt;have HN':=aH (HN.out k hlt);have HLS:=aH (show ∀(h:okN cap (st.getD k 0)=true) (i:Nat),i<k+1→okN cap (st.getD i 0)=true from fun h i hi=>by
      by_cases e:i=k
      ·rw[e];exact h
      ·exact HL.out i (by omega))
     clear hcell;generalize st.getD k 0=n at *;by_cases g:0≤n∧n≤cap
     ·have HR:=aH (HLS.out (dT g));obtain⟨g1,g2⟩:=g;go_wp2
      go_round
      case rel=>exact⟨k+1,by omega,num_i (by omega),HR.out⟩
      case measure=>simp[intOf];omega
     ·have HR:=aH (HN'.out (dF g));by_cases g1:n<0
      ·go_wp2
       go_ret
       exact⟨ret_b (by rw[HB.out,HR.out]),bL (bR _ _) _⟩
      ·have g2:cap<n:=by omega
       clear g;go_wp2
       go_ret
       exact⟨ret_b (by rw[HB.out,HR.out]),bL (bR _ _) _⟩
    ·obtain rfl:k=st.length:=by omega
     go_wp2
     go_ret
     exact⟨ret_b (by rw[HB.out,HY.out HL.out]),bL (bR _ _) _⟩
  ·obtain rfl:=N2.out hc;by_cases c1:cap<1
   ·clear hc;go_enter Tryz.func87,Tryz.ntmps87;go_wp2_with fail;refine(rightSize_any _ _ _).mono ?_;rintro e w' ⟨rfl,rfl⟩;go_wp2
    go_ret
    exact⟨rfl,bL (bR _ _) _⟩
   ·by_cases c2:1099511627776<cap
    ·clear hc;go_enter Tryz.func87,Tryz.ntmps87;go_wp2_with fail;refine(rightSize_any _ _ _).mono ?_;rintro e w' ⟨rfl,rfl⟩;go_wp2
     go_ret
     exact⟨rfl,bL (bR _ _) _⟩
    ·have c3:rows * cols<(st.length:Int):=by omega
     clear hc;go_enter Tryz.func87,Tryz.ntmps87;go_wp2_with fail;refine(rightSize_any _ _ _).mono ?_;rintro e w' ⟨rfl,rfl⟩;go_wp2
     go_ret
     exact⟨rfl,bL (bR _ _) _⟩
 ·obtain rfl:=N1.out h1;go_enter Tryz.func87,Tryz.ntmps87;go_wp2_with fail;refine(rightSize_any _ _ _).mono ?_;rintro e w' ⟨rfl,rfl⟩;go_wp2
  go_ret
  exact⟨rfl,bL (bR _ _) _⟩
theorem rplate_any (q:Pl) (w:World) (hs:KI.IsL w w.heap.size (.slice q.sA q.sn q.sc) q.st) (hok:KP.ok q):Calls Tryz.prog 120 #[q.v] w fun e w'=>e=.returned (.bool (plateB q))∧Below w.heap.size w w':=by
 have N1:=aH (plate_no1 q);have N2:=aH (plate_no2 q);have N3:=aH (plate_is q);have hn:=hs.len;have hl:=hs.2.2;have HCL:=aH (fun h0:0<q.st.length=>KI.cells hs h0);obtain⟨_,_,_,_,_,hcap⟩:=hok;obtain⟨B,hB⟩:∃B,B=plateB q:=⟨_,rfl⟩;rw[←hB]at N1 N2 N3⊢;clear hB;obtain⟨rows,cols,x,p,r,cap,sA,sn,sc,st⟩:=q;dsimp only at *;subst hn;clear hs;unfold fits at hcap;rcases Bool.eq_false_or_eq_true (sizeB rows cols)with h1 | h1
 ·obtain⟨m1,m2⟩:=size_mul h1;by_cases hc:1≤cap∧cap≤1099511627776∧(st.length:Int)≤rows * cols
  ·have hB:=N3.out h1 hc;obtain⟨c1,c2,c3⟩:=hc;have HB:=aH hB;have HN:=aH (all_no st (okN cap));have HY:=aH (all_yes st (okN cap));clear N1 N2 N3 hB;go_enter Tryz.func120,Tryz.ntmps120;go_wp2_with fail;refine(box_any _ _ _).mono ?_;rintro e w' ⟨rfl,rfl⟩;go_wp2;obtain⟨w0,hw0⟩:∃w0,w0=w.alloc (.cells #[.int .i64 rows,.int .i64 cols,.float .f64 x,.float .f64 p,.float .f64 r,.int .i64 cap,.slice sA st.length sc] 47):=⟨_,rfl⟩;rw[←hw0];have f5:w0.cell? ⟨w.heap.size,5,none⟩=some (.int .i64 cap):=by rw[hw0];simp
   have f6:w0.cell? ⟨w.heap.size,6,none⟩=some (.slice sA st.length sc):=by rw[hw0];simp
   have HB0:=aH (show Below w.heap.size w w0 by rw[hw0];exact bL (bR _ _) _);clear hw0
   go_loopw [3] (fun i wr=>∃k d:Nat,k≤st.length∧i=.int .i64 k∧wr=w0.drewN d∧∀i,i<k→okN cap (st.getD i 0)=true) (fun i _=>st.length - (intOf i).toNat)
   case atStart=>exact⟨0,0,Nat.zero_le _,rfl,rfl,fun i hi=>by omega⟩
   case round=>
    obtain⟨k,d,hk,rfl,hw,hall⟩:=hrel;have HL:=aH hall;have HW:=aH hw;have g5:wr.cell? ⟨w.heap.size,5,none⟩=some (.int .i64 cap):=by rw[hw];exact f5
    have g6:wr.cell? ⟨w.heap.size,6,none⟩=some (.slice sA st.length sc):=by rw[hw];exact f6
    have HBW:=aH (show Below w.heap.size w wr by rw[hw];exact below_drewN HB0.out _);clear hall hw;by_cases hlt:k<st.length
    ·obtain⟨b,off,cp,hv,hc2,hbB,_,hcell,_⟩:=HCL.out (by omega);injection hv with e1 e2 e3
     subst e1 e3;have hx:=(HBW.out.cell (p:=⟨b,off+k,none⟩) hbB).trans (hcell k hlt);have HN':=aH (HN.out k hlt);have HLS:=aH (show ∀(h:okN cap (st.getD k 0)=true) (i:Nat),i<k+1→okN cap (st.getD i 0)=true from fun h i hi=>by
      by_cases e:i=k
      ·rw[e];exact h
      ·exact HL.out i (by omega))
     clear hcell f5 f6;generalize st.getD k 0=n at *;by_cases g:0≤n∧n≤cap
     ·have HR:=aH (HLS.out (dT g));obtain⟨g1,g2⟩:=g;have d1:decide (n<0)=false:=dF (by omega);have d2:decide (cap<n)=false:=dF (by omega);go_wp2_with fail;go_quiet (fail);go_wp2
      go_roundw
      case rel=>obtain⟨d2,hd2⟩:=drewN_two w0 d nq;exact⟨k+1,d2,by omega,num_i (by omega),by rw[HW.out];exact hd2,HR.out⟩
      case measure=>simp[intOf];omega
     ·have HR:=aH (HN'.out (dF g));by_cases g1:n<0
      ·have d1:decide (n<0)=true:=dT g1;go_wp2_with fail;go_quiet (fail);go_wp2
       go_ret
       exact⟨ret_b (by rw[HB.out,HR.out]),below_drewN HBW.out _⟩
      ·have d1:decide (n<0)=false:=dF (by omega);have d2:decide (cap<n)=true:=dT (by omega);clear g;go_wp2_with fail;go_quiet (fail);go_wp2
       go_ret
       exact⟨ret_b (by rw[HB.out,HR.out]),below_drewN HBW.out _⟩
    ·obtain rfl:k=st.length:=by omega
     go_wp2
     go_ret
     exact⟨ret_b (by rw[HB.out,HY.out HL.out]),HBW.out⟩
  ·obtain rfl:=N2.out hc;by_cases c1:cap<1
   ·clear hc;go_enter Tryz.func120,Tryz.ntmps120;go_wp2_with fail;refine(box_any _ _ _).mono ?_;rintro e w' ⟨rfl,rfl⟩;go_wp2
    go_ret
    exact⟨rfl,bL (bR _ _) _⟩
   ·by_cases c2:1099511627776<cap
    ·clear hc;go_enter Tryz.func120,Tryz.ntmps120;go_wp2_with fail;refine(box_any _ _ _).mono ?_;rintro e w' ⟨rfl,rfl⟩;go_wp2
     go_ret
     exact⟨rfl,bL (bR _ _) _⟩
    ·have c3:rows * cols<(st.length:Int):=by omega
     clear hc;go_enter Tryz.func120,Tryz.ntmps120;go_wp2_with fail;refine(box_any _ _ _).mono ?_;rintro e w' ⟨rfl,rfl⟩;go_wp2
     go_ret
     exact⟨rfl,bL (bR _ _) _⟩
 ·obtain rfl:=N1.out h1;go_enter Tryz.func120,Tryz.ntmps120;go_wp2_with fail;refine(box_any _ _ _).mono ?_;rintro e w' ⟨rfl,rfl⟩;go_wp2
  go_ret
  exact⟨rfl,bL (bR _ _) _⟩
theorem plate_cells {w:World} {B:Nat} {A:Option Addr} {n c:Nat} {xs:List Pl} (h:KP.IsL w B (.slice A n c) xs) (h0:0<xs.length):∃b off,A=some ⟨b,off,none⟩∧b<B∧xs.length≤c∧
  ∀i,i<xs.length→w.cell? ⟨b,off+i * 7,none⟩=some (.int .i64 (xs.getD i KP.dflt).rows)∧w.cell? ⟨b,off+i * 7+1,none⟩=some (.int .i64 (xs.getD i KP.dflt).cols)∧w.cell? ⟨b,off+i * 7+2,none⟩=some (.float .f64 (xs.getD i KP.dflt).x)∧
   w.cell? ⟨b,off+i * 7+3,none⟩=some (.float .f64 (xs.getD i KP.dflt).p)∧w.cell? ⟨b,off+i * 7+4,none⟩=some (.float .f64 (xs.getD i KP.dflt).r)∧w.cell? ⟨b,off+i * 7+5,none⟩=some (.int .i64 (xs.getD i KP.dflt).cap)∧
   w.cell? ⟨b,off+i * 7+6,none⟩=some (.slice (xs.getD i KP.dflt).sA (xs.getD i KP.dflt).sn (xs.getD i KP.dflt).sc):=by
 obtain⟨b,off,e,hb,hc,hcell⟩:=h.elem h0;refine⟨b,off,e,hb,hc,fun i hi=>?_⟩;have q:=fun j u hu=>hcell i hi j u hu;have hn:KP.n=7:=rfl;simp only[hn,←Nat.add_assoc]at q;exact⟨q 0 _ rfl,q 1 _ rfl,q 2 _ rfl,q 3 _ rfl,q 4 _ rfl,q 5 _ rfl,q 6 _ rfl⟩
theorem rack_cells {w:World} {B:Nat} {A:Option Addr} {n c:Nat} {xs:List Rk} (h:KR.IsL w B (.slice A n c) xs) (h0:0<xs.length):∃b off,A=some ⟨b,off,none⟩∧b<B∧xs.length≤c∧
  ∀i,i<xs.length→w.cell? ⟨b,off+i * 5,none⟩=some (.int .i64 (xs.getD i KR.dflt).rows)∧w.cell? ⟨b,off+i * 5+1,none⟩=some (.int .i64 (xs.getD i KR.dflt).cols)∧w.cell? ⟨b,off+i * 5+2,none⟩=some (.float .f64 (xs.getD i KR.dflt).x)∧
   w.cell? ⟨b,off+i * 5+3,none⟩=some (.float .f64 (xs.getD i KR.dflt).p)∧w.cell? ⟨b,off+i * 5+4,none⟩=some (.float .f64 (xs.getD i KR.dflt).r):=by
 obtain⟨b,off,e,hb,hc,hcell⟩:=h.elem h0;refine⟨b,off,e,hb,hc,fun i hi=>?_⟩;have q:=fun j u hu=>hcell i hi j u hu;have hn:KR.n=5:=rfl;simp only[hn,←Nat.add_assoc]at q;exact⟨q 0 _ rfl,q 1 _ rfl,q 2 _ rfl,q 3 _ rfl,q 4 _ rfl⟩
theorem q4_cells {K:Lk Tryz.prog Q4} (hK:K.n=4) (hC:K.cells=q4Cells) (hD:K.dflt=⟨0,0,0,0⟩) {w:World} {B:Nat} {A:Option Addr} {n c:Nat} {xs:List Q4} (h:K.IsL w B (.slice A n c) xs) (h0:0<xs.length):∃b off,A=some ⟨b,off,none⟩∧b<B∧xs.length≤c∧
  ∀i,i<xs.length→w.cell? ⟨b,off+i * 4,none⟩=some (.int .i64 (xs.getD i ⟨0,0,0,0⟩).a)∧w.cell? ⟨b,off+i * 4+1,none⟩=some (.int .i64 (xs.getD i ⟨0,0,0,0⟩).b)∧
   w.cell? ⟨b,off+i * 4+2,none⟩=some (.int .i64 (xs.getD i ⟨0,0,0,0⟩).c)∧w.cell? ⟨b,off+i * 4+3,none⟩=some (.int .i64 (xs.getD i ⟨0,0,0,0⟩).d):=by
 obtain⟨b,off,e,hb,hc,hcell⟩:=h.elem h0;refine⟨b,off,e,hb,hc,fun i hi=>?_⟩;have q:=fun j u hu=>hcell i hi j u hu;rw[hK,hC,hD]at q;simp only[←Nat.add_assoc]at q;exact⟨q 0 _ rfl,q 1 _ rfl,q 2 _ rfl,q 3 _ rfl⟩
def wellsV (l:List Pl):Int:=(l.map fun q=>q.rows * q.cols).sum
def tipsV (l:List Rk):Int:=(l.map fun q=>q.rows * q.cols).sum
theorem wells_snoc (l:List Pl) (k:Nat) (h:k<l.length):wellsV (l.take (k+1))=wellsV (l.take k)+(l.getD k KP.dflt).rows * (l.getD k KP.dflt).cols:=by
 rw[take_snoc l k KP.dflt h];unfold wellsV;rw[List.map_append,List.sum_append];simp
theorem tips_snoc (l:List Rk) (k:Nat) (h:k<l.length):tipsV (l.take (k+1))=tipsV (l.take k)+(l.getD k KR.dflt).rows * (l.getD k KR.dflt).cols:=by
 rw[take_snoc l k KR.dflt h];unfold tipsV;rw[List.map_append,List.sum_append];simp
theorem wells_bd (l:List Pl) (h:∀i,i<l.length→sizeB (l.getD i KP.dflt).rows (l.getD i KP.dflt).cols=true):∀k,k≤l.length→(k:Int)≤wellsV (l.take k)∧wellsV (l.take k)≤1536 * k:=by
 intro k
 induction k with
 | zero=>intro _;simp[wellsV]
 | succ k ih=>
  intro hk;obtain⟨i1,i2⟩:=ih (by omega);rw[wells_snoc l k (by omega)];obtain⟨m1,m2⟩:=size_mul (h k (by omega));omega
theorem tips_bd (l:List Rk) (h:∀i,i<l.length→sizeB (l.getD i KR.dflt).rows (l.getD i KR.dflt).cols=true):∀k,k≤l.length→(k:Int)≤tipsV (l.take k)∧tipsV (l.take k)≤1536 * k:=by
 intro k
 induction k with
 | zero=>intro _;simp[tipsV]
 | succ k ih=>
  intro hk;obtain⟨i1,i2⟩:=ih (by omega);rw[tips_snoc l k (by omega)];obtain⟨m1,m2⟩:=size_mul (h k (by omega));omega
theorem alloc_cell (w:World) (c:Array Value) (t:TypeId) (i:Nat) (v:Value) (h:c[i]? =some v):(w.alloc (.cells c t)).cell? ⟨w.heap.size,i,none⟩=some v:=by rw[World.cell?_alloc_at (hn:=rfl),h]
theorem run_store_float {P:Program} {w:World} {a:Addr} {m:Mode} (k:FloatKind) (b:Nat):(store a (.float k b) m).run P w=stored P w a (.float k b) m:=run_store P w a _ m rfl
theorem places_any (d:Dk) (w:World) (hd:d.In w w.heap.size) (hp:d.pl.length≤4) (hr:d.rl.length≤4) (h1:∀i,i<d.pl.length→sizeB (d.pl.getD i KP.dflt).rows (d.pl.getD i KP.dflt).cols=true)
  (h2:∀i,i<d.rl.length→sizeB (d.rl.getD i KR.dflt).rows (d.rl.getD i KR.dflt).cols=true):
  Calls Tryz.prog 67 #[d.v] w fun e w'=>e=.returned (.tuple #[.int .i64 (wellsV d.pl),.int .i64 (tipsV d.rl)])∧Below w.heap.size w w':=by
 have HW:=aH (wells_bd d.pl h1);have HT:=aH (tips_bd d.rl h2);have H1:=aH h1;have H2:=aH h2;have HD:=aH hd;have HSW:=aH (wells_snoc d.pl);have HST:=aH (tips_snoc d.rl);have e1:=hd.p.len;have e2:=hd.r.len;obtain⟨bA,bn,bc,bl,pA,pn,pc,pl,rA,rn,rc,rl,arms⟩:=d;dsimp only at *;subst e1 e2;clear h1 h2 hd;have hsf:=fun(w:World) (a:Addr) (m:Mode) (b:Nat)=>run_store_float (P:=Tryz.prog) (w:=w) (a:=a) (m:=m) .f64 b;go_enter Tryz.func67,Tryz.ntmps67;go_wp2;obtain⟨w0,hw0⟩:∃w0,w0=w.alloc (.cells #[.slice bA bn bc,.slice pA pl.length pc,.slice rA rl.length rc,.int .i64 arms] 26):=⟨_,rfl⟩;rw[←hw0];have f2:w0.cell? ⟨w.heap.size,2,none⟩=some (.slice rA rl.length rc):=by rw[hw0];exact alloc_cell _ _ _ _ _ rfl
 have HB0:=aH (show Below w.heap.size w w0 by rw[hw0];exact bL (bR _ _) _);have HD0:=aH (HD.out.then HB0.out);have F2:=aH f2;clear hw0 f2
 go_loopw [2,11] (fun s i wr=>∃k:Nat,k≤pl.length∧i=.int .i64 k∧s=.int .i64 (wellsV (pl.take k))∧Below w0.heap.size w0 wr) (fun _ i _=>pl.length - (intOf i).toNat)
 case atStart=>exact⟨0,Nat.zero_le _,rfl,rfl,bR _ _⟩
 case round=>
  obtain⟨k,hk,rfl,rfl,hbl⟩:=hrel;have HB:=aH hbl;clear hbl;obtain⟨b1,b2⟩:=HW.out k hk;by_cases hlt:k<pl.length
  ·obtain⟨b,off,rfl,hb,hc,hcell⟩:=plate_cells (HD0.out.p.below HB.out) (by dsimp only;omega);obtain⟨c0,c1,c2,c3,c4,c5,c6⟩:=hcell k hlt;have HS:=aH (HSW.out k hlt);obtain⟨m1,m2⟩:=size_mul (H1.out k hlt);clear hcell;dsimp only at *;generalize pl.getD k KP.dflt=q at *;generalize wellsV (pl.take k)=s at *;go_wp2
   go_roundw
   case rel=>exact⟨k+1,by omega,num_i (by omega),num_i (by rw[HS.out]),bL HB.out _⟩
   case measure=>simp[intOf];omega
  ·obtain rfl:k=pl.length:=by omega
   rw[List.take_length];rw[List.take_length]at b1 b2;have g2:=kK HB.out F2.out;generalize hs:wellsV pl=s at *;have HSS:=aH hs;clear hs;go_wp2;obtain⟨w1,hw1⟩:∃w1,w1=wr:=⟨_,rfl⟩;subst hw1;have HD1:=aH (HD0.out.then HB.out);clear g2
   go_loopw [3,26] (fun s i wr=>∃k:Nat,k≤rl.length∧i=.int .i64 k∧s=.int .i64 (tipsV (rl.take k))∧Below w1.heap.size w1 wr) (fun _ i _=>rl.length - (intOf i).toNat)
   case atStart=>exact⟨0,Nat.zero_le _,rfl,rfl,bR _ _⟩
   case round=>
    obtain⟨k,hk,rfl,rfl,hbl⟩:=hrel;have HB2:=aH hbl;clear hbl;obtain⟨t1,t2⟩:=HT.out k hk;by_cases hlt:k<rl.length
    ·obtain⟨b,off,rfl,hb,hc,hcell⟩:=rack_cells (HD1.out.r.below HB2.out) (by dsimp only;omega);obtain⟨c0,c1,c2,c3,c4⟩:=hcell k hlt;have HS:=aH (HST.out k hlt);obtain⟨m1,m2⟩:=size_mul (H2.out k hlt);clear hcell;dsimp only at *;generalize rl.getD k KR.dflt=q at *;generalize tipsV (rl.take k)=t at *;go_wp2
     go_roundw
     case rel=>exact⟨k+1,by omega,num_i (by omega),num_i (by rw[HS.out]),bL HB2.out _⟩
     case measure=>simp[intOf];omega
    ·obtain rfl:k=rl.length:=by omega
     rw[List.take_length];generalize hs:tipsV rl=t at *;have HTT:=aH hs;clear hs;go_wp2
     go_ret2
     exact⟨by rw[HSS.out,HTT.out];rfl,bC HB0.out (bC HB.out HB2.out)⟩
end Go.Proofs.YtacjonncakhhmaaGreat
