/- What is wrong with a deck: what the program answers. -/
import Derived.Test.YtacjonncakhhmaaGreatPv00
import Derived.Test.YtacjonncakhhmaaGreatPv02
set_option maxRecDepth 100000
set_option maxHeartbeats 8000000
namespace Go.Proofs.YtacjonncakhhmaaGreat
open Go.RowKit
def okN (cap n:Int):Bool:=decide (0≤n∧n≤cap)
def plateB (q:Pl):Bool:=sizeB q.rows q.cols&&decide (1≤q.cap∧q.cap≤1099511627776∧(q.st.length:Int)≤q.rows*q.cols)&&q.st.all (okN q.cap)
abbrev Pl.v (q:Pl):Value:=.agg #[.int .i64 q.rows,.int .i64 q.cols,.float .f64 q.x,.float .f64 q.p,.float .f64 q.r,.int .i64 q.cap,.slice q.sA q.sn q.sc]
theorem plate_no1 (q:Pl) (h:sizeB q.rows q.cols=false):plateB q=false:=by unfold plateB;rw[h];rfl
theorem plate_no2 (q:Pl) (h:¬(1≤q.cap∧q.cap≤1099511627776∧(q.st.length:Int)≤q.rows*q.cols)):plateB q=false:=by unfold plateB;rw[dF h];simp
theorem plate_is (q:Pl) (h:sizeB q.rows q.cols=true) (h2:1≤q.cap∧q.cap≤1099511627776∧(q.st.length:Int)≤q.rows*q.cols):plateB q=q.st.all (okN q.cap):=by unfold plateB;rw[h,dT h2];simp
theorem all_no (l:List Int) (f:Int→Bool) (k:Nat) (h:k<l.length) (hf:f (l.getD k 0)=false):l.all f=false:=by
 rw[←Bool.not_eq_true,List.all_eq_true];intro hh;have:=hh _ (getD_mem' l k 0 h);rw[hf]at this
 cases this
theorem all_yes (l:List Int) (f:Int→Bool) (h:∀i,i<l.length→f (l.getD i 0)=true):l.all f=true:=by
 rw[List.all_eq_true];intro x hx;obtain⟨i,hi,rfl⟩:=List.mem_iff_getElem.1 hx;have:=h i hi;rw[List.getD_eq_getElem?_getD,List.getElem?_eq_getElem hi]at this;exact this
theorem rightPlate_any (q:Pl) (w:World) (hs:KI.IsL w w.heap.size (.slice q.sA q.sn q.sc) q.st) (hok:KP.ok q):Calls Tryz.prog 87 #[q.v] w fun e w'=>e=.returned (.bool (plateB q))∧Below w.heap.size w w':=by
 have N1:=aH (plate_no1 q);have N2:=aH (plate_no2 q);have N3:=aH (plate_is q);have hn:=hs.len;have hl:=hs.2.2;have HCL:=aH (fun h0:0<q.st.length=>KI.cells hs h0);obtain⟨_,_,_,_,_,hcap⟩:=hok;obtain⟨B,hB⟩:∃B,B=plateB q:=⟨_,rfl⟩;rw[←hB]at N1 N2 N3⊢;clear hB;obtain⟨rows,cols,x,p,r,cap,sA,sn,sc,st⟩:=q;dsimp only at *;subst hn;clear hs;unfold fits at hcap;rcases Bool.eq_false_or_eq_true (sizeB rows cols)with h1|h1
 ·obtain⟨m1,m2⟩:=size_mul h1;by_cases hc:1≤cap∧cap≤1099511627776∧(st.length:Int)≤rows*cols
  ·have hB:=N3.out h1 hc;obtain⟨c1,c2,c3⟩:=hc;have HB:=aH hB;have HN:=aH (all_no st (okN cap));have HY:=aH (all_yes st (okN cap));clear N1 N2 N3 hB;go_enter Tryz.func87,Tryz.ntmps87;go_wp2_with fail;refine(rightSize_any _ _ _).mono ?_;rintro e w' ⟨rfl,rfl⟩;go_wp2
   go_loop [35] (fun i=>∃k:Nat,k≤st.length∧i=.int .i64 k∧∀i,i<k→okN cap (st.getD i 0)=true) (fun i=>st.length-(intOf i).toNat)
   case atStart=>exact⟨0,Nat.zero_le _,rfl,fun i hi=>by omega⟩
   case round=>
    obtain⟨k,hk,rfl,hall⟩:=hrel;have HL:=aH hall;clear hall;by_cases hlt:k<st.length
    ·obtain⟨b,off,cp,hv,hc2,hbB,_,hcell,_⟩:=HCL.out (by omega);injection hv with e1 e2 e3
     subst e1 e3;have hx:=hcell k hlt;have HN':=aH (HN.out k hlt);have HLS:=aH (show ∀(h:okN cap (st.getD k 0)=true) (i:Nat),i<k+1→okN cap (st.getD i 0)=true from fun h i hi=>by
      by_cases e:i=k
      ·rw[e];exact h
      ·exact HL.out i (by omega))
     clear hcell;generalize st.getD k 0=n at *;by_cases g:0≤n∧n≤cap
     ·have HR:=aH (HLS.out (dT g));obtain⟨g1,g2⟩:=g;go_wp2
      go_round
      case rel=>exact⟨k+1,by omega,num_i (by omega),HR.out⟩
      case measure=>simp[intOf];omega
     ·have HR:=aH (HN'.out (dF g));by_cases g1:n<0
      ·go_wp2
       go_ret
       exact⟨ret_b (by rw[HB.out,HR.out]),bL (bR _ _) _⟩
      ·have g2:cap<n:=(by omega);clear g;go_wp2
       go_ret
       exact⟨ret_b (by rw[HB.out,HR.out]),bL (bR _ _) _⟩
    ·obtain rfl:k=st.length:=(by omega);go_wp2
     go_ret
     exact⟨ret_b (by rw[HB.out,HY.out HL.out]),bL (bR _ _) _⟩
  ·obtain rfl:=N2.out hc;by_cases c1:cap<1
   ·clear hc;go_enter Tryz.func87,Tryz.ntmps87;go_wp2_with fail;refine(rightSize_any _ _ _).mono ?_;rintro e w' ⟨rfl,rfl⟩;go_wp2
    go_ret
    exact⟨rfl,bL (bR _ _) _⟩
   ·by_cases c2:1099511627776<cap
    ·clear hc;go_enter Tryz.func87,Tryz.ntmps87;go_wp2_with fail;refine(rightSize_any _ _ _).mono ?_;rintro e w' ⟨rfl,rfl⟩;go_wp2
     go_ret
     exact⟨rfl,bL (bR _ _) _⟩
    ·have c3:rows*cols<(st.length:Int):=(by omega);clear hc;go_enter Tryz.func87,Tryz.ntmps87;go_wp2_with fail;refine(rightSize_any _ _ _).mono ?_;rintro e w' ⟨rfl,rfl⟩;go_wp2
     go_ret
     exact⟨rfl,bL (bR _ _) _⟩
 ·obtain rfl:=N1.out h1;go_enter Tryz.func87,Tryz.ntmps87;go_wp2_with fail;refine(rightSize_any _ _ _).mono ?_;rintro e w' ⟨rfl,rfl⟩;go_wp2
  go_ret
  exact⟨rfl,bL (bR _ _) _⟩
theorem rplate_any (q:Pl) (w:World) (hs:KI.IsL w w.heap.size (.slice q.sA q.sn q.sc) q.st) (hok:KP.ok q):Calls Tryz.prog 120 #[q.v] w fun e w'=>e=.returned (.bool (plateB q))∧Below w.heap.size w w':=by
 have N1:=aH (plate_no1 q);have N2:=aH (plate_no2 q);have N3:=aH (plate_is q);have hn:=hs.len;have hl:=hs.2.2;have HCL:=aH (fun h0:0<q.st.length=>KI.cells hs h0);obtain⟨_,_,_,_,_,hcap⟩:=hok;obtain⟨B,hB⟩:∃B,B=plateB q:=⟨_,rfl⟩;rw[←hB]at N1 N2 N3⊢;clear hB;obtain⟨rows,cols,x,p,r,cap,sA,sn,sc,st⟩:=q;dsimp only at *;subst hn;clear hs;unfold fits at hcap;rcases Bool.eq_false_or_eq_true (sizeB rows cols)with h1|h1
 ·obtain⟨m1,m2⟩:=size_mul h1;by_cases hc:1≤cap∧cap≤1099511627776∧(st.length:Int)≤rows*cols
  ·have hB:=N3.out h1 hc;obtain⟨c1,c2,c3⟩:=hc;have HB:=aH hB;have HN:=aH (all_no st (okN cap));have HY:=aH (all_yes st (okN cap));clear N1 N2 N3 hB;go_enter Tryz.func120,Tryz.ntmps120;go_wp2_with fail;refine(box_any _ _ _).mono ?_;rintro e w' ⟨rfl,rfl⟩;go_wp2;obtain⟨w0,hw0⟩:∃w0,w0=w.alloc (.cells #[.int .i64 rows,.int .i64 cols,.float .f64 x,.float .f64 p,.float .f64 r,.int .i64 cap,.slice sA st.length sc] 47):=⟨_,rfl⟩;rw[←hw0];have f5:w0.cell? ⟨w.heap.size,5,none⟩=some (.int .i64 cap):=(by rw[hw0];simp);have f6:w0.cell? ⟨w.heap.size,6,none⟩=some (.slice sA st.length sc):=(by rw[hw0];simp);have HB0:=aH (show Below w.heap.size w w0 by rw[hw0];exact bL (bR _ _) _);clear hw0
   go_loopw [3] (fun i wr=>∃k d:Nat,k≤st.length∧i=.int .i64 k∧wr=w0.drewN d∧∀i,i<k→okN cap (st.getD i 0)=true) (fun i _=>st.length-(intOf i).toNat)
   case atStart=>exact⟨0,0,Nat.zero_le _,rfl,rfl,fun i hi=>by omega⟩
   case round=>
    obtain⟨k,d,hk,rfl,hw,hall⟩:=hrel;have HL:=aH hall;have HW:=aH hw;have g5:wr.cell? ⟨w.heap.size,5,none⟩=some (.int .i64 cap):=(by rw[hw];exact f5);have g6:wr.cell? ⟨w.heap.size,6,none⟩=some (.slice sA st.length sc):=(by rw[hw];exact f6);have HBW:=aH (show Below w.heap.size w wr by rw[hw];exact below_drewN HB0.out _);clear hall hw;by_cases hlt:k<st.length
    ·obtain⟨b,off,cp,hv,hc2,hbB,_,hcell,_⟩:=HCL.out (by omega);injection hv with e1 e2 e3
     subst e1 e3;have hx:=(HBW.out.cell (p:=⟨b,off+k,none⟩) hbB).trans (hcell k hlt);have HN':=aH (HN.out k hlt);have HLS:=aH (show ∀(h:okN cap (st.getD k 0)=true) (i:Nat),i<k+1→okN cap (st.getD i 0)=true from fun h i hi=>by
      by_cases e:i=k
      ·rw[e];exact h
      ·exact HL.out i (by omega))
     clear hcell f5 f6;generalize st.getD k 0=n at *;by_cases g:0≤n∧n≤cap
     ·have HR:=aH (HLS.out (dT g));obtain⟨g1,g2⟩:=g;have d1:decide (n<0)=false:=dF (by omega);have d2:decide (cap<n)=false:=dF (by omega);go_wp2_with fail;go_quiet (fail);go_wp2
      go_roundw
      case rel=>obtain⟨d2,hd2⟩:=drewN_two w0 d nq;exact⟨k+1,d2,by omega,num_i (by omega),by rw[HW.out];exact hd2,HR.out⟩
      case measure=>simp[intOf];omega
     ·have HR:=aH (HN'.out (dF g));by_cases g1:n<0
      ·have d1:decide (n<0)=true:=dT g1;go_wp2_with fail;go_quiet (fail);go_wp2
       go_ret
       exact⟨ret_b (by rw[HB.out,HR.out]),below_drewN HBW.out _⟩
      ·have d1:decide (n<0)=false:=dF (by omega);have d2:decide (cap<n)=true:=dT (by omega);clear g;go_wp2_with fail;go_quiet (fail);go_wp2
       go_ret
       exact⟨ret_b (by rw[HB.out,HR.out]),below_drewN HBW.out _⟩
    ·obtain rfl:k=st.length:=(by omega);go_wp2
     go_ret
     exact⟨ret_b (by rw[HB.out,HY.out HL.out]),HBW.out⟩
  ·obtain rfl:=N2.out hc;by_cases c1:cap<1
   ·clear hc;go_enter Tryz.func120,Tryz.ntmps120;go_wp2_with fail;refine(box_any _ _ _).mono ?_;rintro e w' ⟨rfl,rfl⟩;go_wp2
    go_ret
    exact⟨rfl,bL (bR _ _) _⟩
   ·by_cases c2:1099511627776<cap
    ·clear hc;go_enter Tryz.func120,Tryz.ntmps120;go_wp2_with fail;refine(box_any _ _ _).mono ?_;rintro e w' ⟨rfl,rfl⟩;go_wp2
     go_ret
     exact⟨rfl,bL (bR _ _) _⟩
    ·have c3:rows*cols<(st.length:Int):=(by omega);clear hc;go_enter Tryz.func120,Tryz.ntmps120;go_wp2_with fail;refine(box_any _ _ _).mono ?_;rintro e w' ⟨rfl,rfl⟩;go_wp2
     go_ret
     exact⟨rfl,bL (bR _ _) _⟩
 ·obtain rfl:=N1.out h1;go_enter Tryz.func120,Tryz.ntmps120;go_wp2_with fail;refine(box_any _ _ _).mono ?_;rintro e w' ⟨rfl,rfl⟩;go_wp2
  go_ret
  exact⟨rfl,bL (bR _ _) _⟩
theorem plate_cells {w:World} {B:Nat} {A:Option Addr} {n c:Nat} {xs:List Pl} (h:KP.IsL w B (.slice A n c) xs) (h0:0<xs.length):∃b off,A=some ⟨b,off,none⟩∧b<B∧xs.length≤c∧
  ∀i,i<xs.length→w.cell? ⟨b,off+i*7,none⟩=some (.int .i64 (xs.getD i KP.dflt).rows)∧w.cell? ⟨b,off+i*7+1,none⟩=some (.int .i64 (xs.getD i KP.dflt).cols)∧w.cell? ⟨b,off+i*7+2,none⟩=some (.float .f64 (xs.getD i KP.dflt).x)∧
   w.cell? ⟨b,off+i*7+3,none⟩=some (.float .f64 (xs.getD i KP.dflt).p)∧w.cell? ⟨b,off+i*7+4,none⟩=some (.float .f64 (xs.getD i KP.dflt).r)∧w.cell? ⟨b,off+i*7+5,none⟩=some (.int .i64 (xs.getD i KP.dflt).cap)∧
   w.cell? ⟨b,off+i*7+6,none⟩=some (.slice (xs.getD i KP.dflt).sA (xs.getD i KP.dflt).sn (xs.getD i KP.dflt).sc):=by
 obtain⟨b,off,e,hb,hc,hcell⟩:=h.elem h0;refine⟨b,off,e,hb,hc,fun i hi=>?_⟩;have q:=fun j u hu=>hcell i hi j u hu;have hn:KP.n=7:=rfl;simp only[hn,←Nat.add_assoc]at q;exact⟨q 0 _ rfl,q 1 _ rfl,q 2 _ rfl,q 3 _ rfl,q 4 _ rfl,q 5 _ rfl,q 6 _ rfl⟩
theorem rack_cells {w:World} {B:Nat} {A:Option Addr} {n c:Nat} {xs:List Rk} (h:KR.IsL w B (.slice A n c) xs) (h0:0<xs.length):∃b off,A=some ⟨b,off,none⟩∧b<B∧xs.length≤c∧
  ∀i,i<xs.length→w.cell? ⟨b,off+i*5,none⟩=some (.int .i64 (xs.getD i KR.dflt).rows)∧w.cell? ⟨b,off+i*5+1,none⟩=some (.int .i64 (xs.getD i KR.dflt).cols)∧w.cell? ⟨b,off+i*5+2,none⟩=some (.float .f64 (xs.getD i KR.dflt).x)∧
   w.cell? ⟨b,off+i*5+3,none⟩=some (.float .f64 (xs.getD i KR.dflt).p)∧w.cell? ⟨b,off+i*5+4,none⟩=some (.float .f64 (xs.getD i KR.dflt).r):=by
 obtain⟨b,off,e,hb,hc,hcell⟩:=h.elem h0;refine⟨b,off,e,hb,hc,fun i hi=>?_⟩;have q:=fun j u hu=>hcell i hi j u hu;have hn:KR.n=5:=rfl;simp only[hn,←Nat.add_assoc]at q;exact⟨q 0 _ rfl,q 1 _ rfl,q 2 _ rfl,q 3 _ rfl,q 4 _ rfl⟩
theorem q4_cells {K:Lk Tryz.prog Q4} (hK:K.n=4) (hC:K.cells=q4Cells) (hD:K.dflt=⟨0,0,0,0⟩) {w:World} {B:Nat} {A:Option Addr} {n c:Nat} {xs:List Q4} (h:K.IsL w B (.slice A n c) xs) (h0:0<xs.length):∃b off,A=some ⟨b,off,none⟩∧b<B∧xs.length≤c∧
  ∀i,i<xs.length→w.cell? ⟨b,off+i*4,none⟩=some (.int .i64 (xs.getD i ⟨0,0,0,0⟩).a)∧w.cell? ⟨b,off+i*4+1,none⟩=some (.int .i64 (xs.getD i ⟨0,0,0,0⟩).b)∧
   w.cell? ⟨b,off+i*4+2,none⟩=some (.int .i64 (xs.getD i ⟨0,0,0,0⟩).c)∧w.cell? ⟨b,off+i*4+3,none⟩=some (.int .i64 (xs.getD i ⟨0,0,0,0⟩).d):=by
 obtain⟨b,off,e,hb,hc,hcell⟩:=h.elem h0;refine⟨b,off,e,hb,hc,fun i hi=>?_⟩;have q:=fun j u hu=>hcell i hi j u hu;rw[hK,hC,hD]at q;simp only[←Nat.add_assoc]at q;exact⟨q 0 _ rfl,q 1 _ rfl,q 2 _ rfl,q 3 _ rfl⟩
def wellsV (l:List Pl):Int:=(l.map fun q=>q.rows*q.cols).sum
def tipsV (l:List Rk):Int:=(l.map fun q=>q.rows*q.cols).sum
theorem wells_snoc (l:List Pl) (k:Nat) (h:k<l.length):wellsV (l.take (k+1))=wellsV (l.take k)+(l.getD k KP.dflt).rows*(l.getD k KP.dflt).cols:=by
 rw[take_snoc l k KP.dflt h];unfold wellsV;rw[List.map_append,List.sum_append];simp
theorem tips_snoc (l:List Rk) (k:Nat) (h:k<l.length):tipsV (l.take (k+1))=tipsV (l.take k)+(l.getD k KR.dflt).rows*(l.getD k KR.dflt).cols:=by
 rw[take_snoc l k KR.dflt h];unfold tipsV;rw[List.map_append,List.sum_append];simp
theorem wells_bd (l:List Pl) (h:∀i,i<l.length→sizeB (l.getD i KP.dflt).rows (l.getD i KP.dflt).cols=true):∀k,k≤l.length→(k:Int)≤wellsV (l.take k)∧wellsV (l.take k)≤1536*k:=by
 intro k
 induction k with
 |zero=>intro _;simp[wellsV]
 |succ k ih=>
  intro hk;obtain⟨i1,i2⟩:=ih (by omega);rw[wells_snoc l k (by omega)];obtain⟨m1,m2⟩:=size_mul (h k (by omega));omega
theorem tips_bd (l:List Rk) (h:∀i,i<l.length→sizeB (l.getD i KR.dflt).rows (l.getD i KR.dflt).cols=true):∀k,k≤l.length→(k:Int)≤tipsV (l.take k)∧tipsV (l.take k)≤1536*k:=by
 intro k
 induction k with
 |zero=>intro _;simp[tipsV]
 |succ k ih=>
  intro hk;obtain⟨i1,i2⟩:=ih (by omega);rw[tips_snoc l k (by omega)];obtain⟨m1,m2⟩:=size_mul (h k (by omega));omega
theorem alloc_cell (w:World) (c:Array Value) (t:TypeId) (i:Nat) (v:Value) (h:c[i]? =some v):(w.alloc (.cells c t)).cell? ⟨w.heap.size,i,none⟩=some v:=by rw[World.cell?_alloc_at (hn:=rfl),h]
theorem run_store_float {P:Program} {w:World} {a:Addr} {m:Mode} (k:FloatKind) (b:Nat):(store a (.float k b) m).run P w=stored P w a (.float k b) m:=run_store P w a _ m rfl
theorem places_any (d:Dk) (w:World) (hd:d.In w w.heap.size) (hp:d.pl.length≤4) (hr:d.rl.length≤4) (h1:∀i,i<d.pl.length→sizeB (d.pl.getD i KP.dflt).rows (d.pl.getD i KP.dflt).cols=true)
  (h2:∀i,i<d.rl.length→sizeB (d.rl.getD i KR.dflt).rows (d.rl.getD i KR.dflt).cols=true):
  Calls Tryz.prog 67 #[d.v] w fun e w'=>e=.returned (.tuple #[.int .i64 (wellsV d.pl),.int .i64 (tipsV d.rl)])∧Below w.heap.size w w':=by
 have HW:=aH (wells_bd d.pl h1);have HT:=aH (tips_bd d.rl h2);have H1:=aH h1;have H2:=aH h2;have HD:=aH hd;have HSW:=aH (wells_snoc d.pl);have HST:=aH (tips_snoc d.rl);have e1:=hd.p.len;have e2:=hd.r.len;obtain⟨bA,bn,bc,bl,pA,pn,pc,pl,rA,rn,rc,rl,arms⟩:=d;dsimp only at *;subst e1 e2;clear h1 h2 hd;have hsf:=fun(w:World) (a:Addr) (m:Mode) (b:Nat)=>run_store_float (P:=Tryz.prog) (w:=w) (a:=a) (m:=m) .f64 b;go_enter Tryz.func67,Tryz.ntmps67;go_wp2;obtain⟨w0,hw0⟩:∃w0,w0=w.alloc (.cells #[.slice bA bn bc,.slice pA pl.length pc,.slice rA rl.length rc,.int .i64 arms] 26):=⟨_,rfl⟩;rw[←hw0];have f2:w0.cell? ⟨w.heap.size,2,none⟩=some (.slice rA rl.length rc):=by rw[hw0];exact alloc_cell _ _ _ _ _ rfl
 have HB0:=aH (show Below w.heap.size w w0 by rw[hw0];exact bL (bR _ _) _);have HD0:=aH (HD.out.then HB0.out);have F2:=aH f2;clear hw0 f2
 go_loopw [2,11] (fun s i wr=>∃k:Nat,k≤pl.length∧i=.int .i64 k∧s=.int .i64 (wellsV (pl.take k))∧Below w0.heap.size w0 wr) (fun _ i _=>pl.length-(intOf i).toNat)
 case atStart=>exact⟨0,Nat.zero_le _,rfl,rfl,bR _ _⟩
 case round=>
  obtain⟨k,hk,rfl,rfl,hbl⟩:=hrel;have HB:=aH hbl;clear hbl;obtain⟨b1,b2⟩:=HW.out k hk;by_cases hlt:k<pl.length
  ·obtain⟨b,off,rfl,hb,hc,hcell⟩:=plate_cells (HD0.out.p.below HB.out) (by dsimp only;omega);obtain⟨c0,c1,c2,c3,c4,c5,c6⟩:=hcell k hlt;have HS:=aH (HSW.out k hlt);obtain⟨m1,m2⟩:=size_mul (H1.out k hlt);clear hcell;dsimp only at *;generalize pl.getD k KP.dflt=q at *;generalize wellsV (pl.take k)=s at *;go_wp2
   go_roundw
   case rel=>exact⟨k+1,by omega,num_i (by omega),num_i (by rw[HS.out]),bL HB.out _⟩
   case measure=>simp[intOf];omega
  ·obtain rfl:k=pl.length:=(by omega);rw[List.take_length];rw[List.take_length]at b1 b2;have g2:=kK HB.out F2.out;generalize hs:wellsV pl=s at *;have HSS:=aH hs;clear hs;go_wp2;obtain⟨w1,hw1⟩:∃w1,w1=wr:=⟨_,rfl⟩;subst hw1;have HD1:=aH (HD0.out.then HB.out);clear g2
   go_loopw [3,26] (fun s i wr=>∃k:Nat,k≤rl.length∧i=.int .i64 k∧s=.int .i64 (tipsV (rl.take k))∧Below w1.heap.size w1 wr) (fun _ i _=>rl.length-(intOf i).toNat)
   case atStart=>exact⟨0,Nat.zero_le _,rfl,rfl,bR _ _⟩
   case round=>
    obtain⟨k,hk,rfl,rfl,hbl⟩:=hrel;have HB2:=aH hbl;clear hbl;obtain⟨t1,t2⟩:=HT.out k hk;by_cases hlt:k<rl.length
    ·obtain⟨b,off,rfl,hb,hc,hcell⟩:=rack_cells (HD1.out.r.below HB2.out) (by dsimp only;omega);obtain⟨c0,c1,c2,c3,c4⟩:=hcell k hlt;have HS:=aH (HST.out k hlt);obtain⟨m1,m2⟩:=size_mul (H2.out k hlt);clear hcell;dsimp only at *;generalize rl.getD k KR.dflt=q at *;generalize tipsV (rl.take k)=t at *;go_wp2
     go_roundw
     case rel=>exact⟨k+1,by omega,num_i (by omega),num_i (by rw[HS.out]),bL HB2.out _⟩
     case measure=>simp[intOf];omega
    ·obtain rfl:k=rl.length:=(by omega);rw[List.take_length];generalize hs:tipsV rl=t at *;have HTT:=aH hs;clear hs;go_wp2
     go_ret2
     exact⟨by rw[HSS.out,HTT.out];rfl,bC HB0.out (bC HB.out HB2.out)⟩
def rackB (q:Rk):Bool:=sizeB q.rows q.cols
def dchk (d:Dk):Int:=
 if chkE d.bl≠0 then chkE d.bl
 else if ¬(1≤d.arms∧d.arms≤8)then 80
 else if 4<d.pl.length∨4<d.rl.length then 2
 else if d.pl.all plateB=false then 81
 else if d.rl.all rackB=false then 82
 else if 384<wellsV d.pl∨384<tipsV d.rl then 2 else 0
theorem all_no' {α:Type} (l:List α) (z:α) (f:α→Bool) (k:Nat) (h:k<l.length) (hf:f (l.getD k z)=false):l.all f=false:=by
 rw[←Bool.not_eq_true,List.all_eq_true];intro hh;have:=hh _ (getD_mem' l k z h);rw[hf]at this
 cases this
theorem all_yes' {α:Type} (l:List α) (z:α) (f:α→Bool) (h:∀i,i<l.length→f (l.getD i z)=true):l.all f=true:=by
 rw[List.all_eq_true];intro x hx;obtain⟨i,hi,rfl⟩:=List.mem_iff_getElem.1 hx;have:=h i hi;rw[List.getD_eq_getElem?_getD,List.getElem?_eq_getElem hi]at this;exact this
theorem plate_size {q:Pl} (h:plateB q=true):sizeB q.rows q.cols=true:=by
 cases hs:sizeB q.rows q.cols
 ·rw[plate_no1 q hs]at h;cases h
 ·rfl
theorem dchk_b (d:Dk) (h:chkE d.bl≠0):dchk d=chkE d.bl:=by unfold dchk;rw[if_pos h]
theorem dchk_a (d:Dk) (h:chkE d.bl=0) (h1:¬(1≤d.arms∧d.arms≤8)):dchk d=80:=by unfold dchk;rw[if_neg (by simp[h]),if_pos h1]
theorem dchk_l (d:Dk) (h:chkE d.bl=0) (h1:1≤d.arms∧d.arms≤8) (h2:4<d.pl.length∨4<d.rl.length):dchk d=2:=by unfold dchk;rw[if_neg (by simp[h]),if_neg (by simp[h1]),if_pos h2]
theorem dchk_p (d:Dk) (h:chkE d.bl=0) (h1:1≤d.arms∧d.arms≤8) (h2:¬(4<d.pl.length∨4<d.rl.length)) (h3:d.pl.all plateB=false):dchk d=81:=by unfold dchk;rw[if_neg (by simp[h]),if_neg (by simp[h1]),if_neg h2,if_pos h3]
theorem dchk_r (d:Dk) (h:chkE d.bl=0) (h1:1≤d.arms∧d.arms≤8) (h2:¬(4<d.pl.length∨4<d.rl.length)) (h3:d.pl.all plateB=true) (h4:d.rl.all rackB=false):dchk d=82:=by unfold dchk;rw[if_neg (by simp[h]),if_neg (by simp[h1]),if_neg h2,if_neg (by simp[h3]),if_pos h4]
theorem dchk_n (d:Dk) (h:chkE d.bl=0) (h1:1≤d.arms∧d.arms≤8) (h2:¬(4<d.pl.length∨4<d.rl.length)) (h3:d.pl.all plateB=true) (h4:d.rl.all rackB=true):dchk d=if 384<wellsV d.pl∨384<tipsV d.rl then 2 else 0:=by unfold dchk;rw[if_neg (by simp[h]),if_neg (by simp[h1]),if_neg h2,if_neg (by simp[h3]),if_neg (by simp[h4])]
theorem dcheck_any (d:Dk) (w:World) (hd:d.In w w.heap.size):Calls Tryz.prog 64 #[d.v] w fun e w'=>e=.returned (.int .i64 (dchk d))∧Below w.heap.size w w':=by
 have HD:=aH hd;have B1:=aH (dchk_b d);have B2:=aH (dchk_a d);have B3:=aH (dchk_l d);have B4:=aH (dchk_p d);have B5:=aH (dchk_r d);have B6:=aH (dchk_n d);have HPN:=aH (all_no' d.pl KP.dflt plateB);have HPY:=aH (all_yes' d.pl KP.dflt plateB);have HRN:=aH (all_no' d.rl KR.dflt rackB);have HRY:=aH (all_yes' d.rl KR.dflt rackB);have e0:=hd.b.len;have e1:=hd.p.len;have e2:=hd.r.len;have ha:=hd.a;have HPL:=aH (fun w h=>places_any d w h);obtain⟨C,hC⟩:∃C,C=dchk d:=⟨_,rfl⟩;rw[←hC]at B1 B2 B3 B4 B5 B6⊢;clear hC;obtain⟨bA,bn,bc,bl,pA,pn,pc,pl,rA,rn,rc,rl,arms⟩:=d;dsimp only at *;subst e0 e1 e2;unfold fits at ha;clear hd;have hsf:=fun(w:World) (a:Addr) (m:Mode) (b:Nat)=>run_store_float (P:=Tryz.prog) (w:=w) (a:=a) (m:=m) .f64 b;obtain⟨w0,hw0⟩:∃w0,w0=w.alloc (.cells #[.slice bA bl.length bc,.slice pA pl.length pc,.slice rA rl.length rc,.int .i64 arms] 26):=⟨_,rfl⟩;have f0:w0.cell? ⟨w.heap.size,0,none⟩=some (.slice bA bl.length bc):=by rw[hw0];exact alloc_cell _ _ _ _ _ rfl
 have f1:w0.cell? ⟨w.heap.size,1,none⟩=some (.slice pA pl.length pc):=by rw[hw0];exact alloc_cell _ _ _ _ _ rfl
 have f2:w0.cell? ⟨w.heap.size,2,none⟩=some (.slice rA rl.length rc):=by rw[hw0];exact alloc_cell _ _ _ _ _ rfl
 have f3:w0.cell? ⟨w.heap.size,3,none⟩=some (.int .i64 arms):=by rw[hw0];exact alloc_cell _ _ _ _ _ rfl
 have HB0:=aH (show Below w.heap.size w w0 by rw[hw0];exact bL (bR _ _) _);have HD0:=aH (HD.out.then HB0.out);have HK:=aH (check_any _ bl w0 HD0.out.b);by_cases hz:chkE bl=0
 ·rw[hz]at HK;by_cases h1:1≤arms∧arms≤8
  ·obtain⟨a1,a2⟩:=h1;by_cases h2:4<pl.length∨4<rl.length
   ·obtain rfl:=B3.out hz ⟨a1,a2⟩ h2;clear B1 B2 B3 B4 B5 B6 hz;by_cases p4:4<pl.length
    ·clear h2;go_enter Tryz.func64,Tryz.ntmps64;go_wp2_with fail;rw[←hw0];clear hw0;refine HK.out.mono ?_;rintro e w' ⟨rfl,rfl⟩;go_wp2
     go_ret
     exact⟨rfl,HB0.out⟩
    ·have r4:4<rl.length:=(by omega);clear h2;go_enter Tryz.func64,Tryz.ntmps64;go_wp2_with fail;rw[←hw0];clear hw0;refine HK.out.mono ?_;rintro e w' ⟨rfl,rfl⟩;go_wp2
     go_ret
     exact⟨rfl,HB0.out⟩
   ·have p4:pl.length≤4:=(by omega);have r4:rl.length≤4:=(by omega);have C4:=aH (B4.out hz ⟨a1,a2⟩ h2);have C5:=aH (B5.out hz ⟨a1,a2⟩ h2);have C6:=aH (B6.out hz ⟨a1,a2⟩ h2);clear B1 B2 B3 B4 B5 B6 h2 hz;go_enter Tryz.func64,Tryz.ntmps64;go_wp2_with fail;rw[←hw0];clear hw0;refine HK.out.mono ?_;rintro e w' ⟨rfl,rfl⟩;have g0:=aH f0;have g1:=aH f1;have g3:=aH f3;go_wp2;clear f0 f1 f3;have F2:=aH f2;have F0:=aH (show ∀w1,Below w0.heap.size w0 w1→w1.cell? ⟨w.heap.size,0,none⟩=some (.slice bA bl.length bc)∧w1.cell? ⟨w.heap.size,1,none⟩=some (.slice pA pl.length pc)∧w1.cell? ⟨w.heap.size,2,none⟩=some (.slice rA rl.length rc)∧w1.cell? ⟨w.heap.size,3,none⟩=some (.int .i64 arms)from
     fun w1 hb=>⟨kK hb g0.out,kK hb g1.out,kK hb f2,kK hb g3.out⟩)
    clear f2
    go_loopw [39] (fun i wr=>∃k:Nat,k≤pl.length∧i=.int .i64 k∧(∀i,i<k→plateB (pl.getD i KP.dflt)=true)∧Below w0.heap.size w0 wr) (fun i _=>pl.length-(intOf i).toNat)
    case atStart=>exact⟨0,Nat.zero_le _,rfl,fun i hi=>by omega,bR _ _⟩
    case round=>
     obtain⟨k,hk,rfl,hall,hbl⟩:=hrel;have HB:=aH hbl;have HL:=aH hall;clear hbl hall;by_cases hlt:k<pl.length
     ·obtain⟨b,off,rfl,hb,hc,hcell⟩:=plate_cells (HD0.out.p.below HB.out) (by dsimp only;omega);obtain⟨c0,c1,c2,c3,c4,c5,c6⟩:=hcell k hlt;have HRP:=aH (fun w1 (hb1:Below w0.heap.size w0 w1)=>rightPlate_any (pl.getD k KP.dflt) w1 (((HD0.out.s _ (getD_mem' pl k KP.dflt hlt)).below hb1).more hb1.size) (HD0.out.p.okAt k hlt));have HPN':=aH (HPN.out k hlt);have HLS:=aH (show ∀(h:plateB (pl.getD k KP.dflt)=true) (i:Nat),i<k+1→plateB (pl.getD i KP.dflt)=true from fun h i hi=>by
       by_cases e:i=k
       ·rw[e];exact h
       ·exact HL.out i (by omega))
      clear hcell;dsimp only at *;generalize pl.getD k KP.dflt=q at *;rcases Bool.eq_false_or_eq_true (plateB q)with g|g
      ·have HR:=aH (HLS.out g);rw[g]at HRP;go_wp2_with fail;refine(HRP.out _ (bL HB.out _)).mono ?_;rintro e w2 ⟨rfl,hb2⟩;have HB2:=aH (bC (bL HB.out _) hb2);clear hb2;go_wp2
       go_roundw
       case rel=>exact⟨k+1,by omega,num_i (by omega),HR.out,HB2.out⟩
       case measure=>simp[intOf];omega
      ·have HR:=aH (C4.out (HPN'.out g));rw[g]at HRP;go_wp2_with fail;refine(HRP.out _ (bL HB.out _)).mono ?_;rintro e w2 ⟨rfl,hb2⟩;have HB2:=aH (bC (bL HB.out _) hb2);clear hb2;go_wp2
       go_ret
       exact⟨ret_i HR.out.symm,bC HB0.out HB2.out⟩
     ·obtain rfl:k=pl.length:=(by omega);have HPA:=aH (HPY.out HL.out);obtain⟨g0',g1',g2',g3'⟩:=F0.out wr HB.out;clear HPY HPN HL C4;go_wp2;obtain⟨w1,hw1⟩:∃w1,w1=wr:=⟨_,rfl⟩;subst hw1;have HD1:=aH (HD0.out.then HB.out);clear g0' g1' g2' g3'
      go_loopw [50] (fun i wr=>∃k:Nat,k≤rl.length∧i=.int .i64 k∧(∀i,i<k→rackB (rl.getD i KR.dflt)=true)∧Below w1.heap.size w1 wr) (fun i _=>rl.length-(intOf i).toNat)
      case atStart=>exact⟨0,Nat.zero_le _,rfl,fun i hi=>by omega,bR _ _⟩
      case round=>
       obtain⟨k,hk,rfl,hall,hbl⟩:=hrel;have HB2:=aH hbl;have HL:=aH hall;clear hbl hall;by_cases hlt:k<rl.length
       ·obtain⟨b,off,rfl,hb,hc,hcell⟩:=rack_cells (HD1.out.r.below HB2.out) (by dsimp only;omega);obtain⟨c0,c1,c2,c3,c4⟩:=hcell k hlt;have HRN':=aH (HRN.out k hlt);have HLS:=aH (show ∀(h:rackB (rl.getD k KR.dflt)=true) (i:Nat),i<k+1→rackB (rl.getD i KR.dflt)=true from fun h i hi=>by
         by_cases e:i=k
         ·rw[e];exact h
         ·exact HL.out i (by omega))
        clear hcell;dsimp only at *;generalize rl.getD k KR.dflt=q at *;rcases Bool.eq_false_or_eq_true (sizeB q.rows q.cols)with g|g
        ·have HR:=aH (HLS.out g);go_wp2_with fail;refine(rightSize_any _ _ _).mono ?_;rintro e w' ⟨rfl,rfl⟩;go_wp2
         go_roundw
         case rel=>exact⟨k+1,by omega,num_i (by omega),HR.out,bL HB2.out _⟩
         case measure=>simp[intOf];omega
        ·have HR:=aH (C5.out HPA.out (HRN'.out g));go_wp2_with fail;refine(rightSize_any _ _ _).mono ?_;rintro e w' ⟨rfl,rfl⟩;go_wp2
         go_ret
         exact⟨ret_i HR.out.symm,bC HB0.out (bC HB.out (bL HB2.out _))⟩
       ·obtain rfl:k=rl.length:=(by omega);have HRA:=aH (HRY.out HL.out);have HCC:=aH (C6.out HPA.out HRA.out);have HB3:=aH (HB.out.trans (HB2.out.mono HB.out.size));obtain⟨g0',g1',g2',g3'⟩:=F0.out wr HB3.out;have HPP:=aH (HPL.out wr (HD0.out.then HB3.out) p4 r4 (fun i hi=>plate_size (List.all_eq_true.1 HPA.out _ (getD_mem' pl i _ hi))) (fun i hi=>List.all_eq_true.1 HRA.out _ (getD_mem' rl i _ hi)));clear HRY HRN HL C5 C6 HPL;generalize wellsV pl=s at *;generalize tipsV rl=t at *;by_cases hs:384<s
        ·have HF:=aH (HCC.out.trans (if_pos (.inl hs)));clear HCC;go_wp2_with fail;refine HPP.out.mono ?_;rintro e w4 ⟨rfl,hb4⟩;have HB4:=aH hb4;clear hb4;go_wp2
         go_ret
         exact⟨ret_i HF.out.symm,bC HB0.out (bC HB3.out HB4.out)⟩
        ·by_cases ht:384<t
         ·have HF:=aH (HCC.out.trans (if_pos (.inr ht)));clear HCC;go_wp2_with fail;refine HPP.out.mono ?_;rintro e w4 ⟨rfl,hb4⟩;have HB4:=aH hb4;clear hb4;go_wp2
          go_ret
          exact⟨ret_i HF.out.symm,bC HB0.out (bC HB3.out HB4.out)⟩
         ·have HF:=aH (HCC.out.trans (if_neg (by omega)));clear HCC;go_wp2_with fail;refine HPP.out.mono ?_;rintro e w4 ⟨rfl,hb4⟩;have HB4:=aH hb4;clear hb4;go_wp2
          go_ret
          exact⟨ret_i HF.out.symm,bC HB0.out (bC HB3.out HB4.out)⟩
  ·obtain rfl:=B2.out hz h1;clear B1 B2 B3 B4 B5 B6 hz;by_cases a1:arms<1
   ·clear h1;go_enter Tryz.func64,Tryz.ntmps64;go_wp2_with fail;rw[←hw0];clear hw0;refine HK.out.mono ?_;rintro e w' ⟨rfl,rfl⟩;go_wp2
    go_ret
    exact⟨rfl,HB0.out⟩
   ·have a2:8<arms:=(by omega);clear h1;go_enter Tryz.func64,Tryz.ntmps64;go_wp2_with fail;rw[←hw0];clear hw0;refine HK.out.mono ?_;rintro e w' ⟨rfl,rfl⟩;go_wp2
    go_ret
    exact⟨rfl,HB0.out⟩
 ·obtain rfl:=B1.out hz;have hz':(chkE bl != 0)=true:=by rw[bne_iff_ne];exact hz
  clear B1 B2 B3 B4 B5 B6 hz;generalize chkE bl=c at *;go_enter Tryz.func64,Tryz.ntmps64;go_wp2_with fail;rw[←hw0];clear hw0;refine HK.out.mono ?_;rintro e w' ⟨rfl,rfl⟩;go_wp2
  go_ret
  exact⟨rfl,HB0.out⟩
end Go.Proofs.YtacjonncakhhmaaGreat
