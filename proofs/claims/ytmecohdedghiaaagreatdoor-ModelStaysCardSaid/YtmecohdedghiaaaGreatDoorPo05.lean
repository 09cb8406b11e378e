/- Units: how many parts lie on one, and whether a part does. -/
import Derived.Test.YtmecohdedghiaaaGreatDoorPo00
import Derived.Test.YtmecohdedghiaaaGreatDoorPo03
set_option maxRecDepth 100000
set_option maxHeartbeats 8000000
open Go.Proofs.Tryz
namespace Go.Proofs.YtmecohdedghiaaaGreatDoor
open Go.RowKit
def ru (cap n:Int):Bool:=decide (0≤n∧n≤cap)
def az (q:Pl):Bool:=bG q.rows q.cols&&decide (1≤q.cap∧q.cap≤1099511627776∧(q.st.length:Int)≤q.rows*q.cols)&&q.st.all (ru q.cap)
abbrev Pl.v (q:Pl):Value:=.agg #[.int .i64 q.rows,.int .i64 q.cols,.float .f64 q.x,.float .f64 q.p,.float .f64 q.r,.int .i64 q.cap,.slice q.sA q.sn q.sc]
theorem fR (q:Pl) (h:bG q.rows q.cols=false):az q=false:=by unfold az;rw[h];rfl
theorem jO (q:Pl) (h:¬(1≤q.cap∧q.cap≤1099511627776∧(q.st.length:Int)≤q.rows*q.cols)):az q=false:=by unfold az;rw[dF h];simp
theorem lY (q:Pl) (h:bG q.rows q.cols=true) (h2:1≤q.cap∧q.cap≤1099511627776∧(q.st.length:Int)≤q.rows*q.cols):az q=q.st.all (ru q.cap):=by unfold az;rw[h,dT h2];simp
theorem tU (l:List Int) (f:Int→Bool) (k:Nat) (h:k<l.length) (hf:f (l.getD k 0)=false):l.all f=false:=by
 rw[←Bool.not_eq_true,List.all_eq_true];intro hh;have:=hh _ (af l k 0 h);rw[hf]at this
 cases this
theorem pV (l:List Int) (f:Int→Bool) (h:∀i,i<l.length→f (l.getD i 0)=true):l.all f=true:=by
 rw[List.all_eq_true];intro x hx;obtain⟨i,hi,rfl⟩:=List.mem_iff_getElem.1 hx;have:=h i hi;rw[List.getD_eq_getElem?_getD,List.getElem?_eq_getElem hi]at this;exact this
theorem iJ (q:Pl) (w:World) (hs:KI.IsL w w.heap.size (.slice q.sA q.sn q.sc) q.st) (Dj:KP.ok q):Calls prog 215 #[q.v] w fun e w'=>e=.returned (.bool (az q))∧Bw w w':=by
 have N1:=aH (fR q);have N2:=aH (jO q);have N3:=aH (lY q);have hn:=hs.len;have hl:=hs.2.2;have Hi:=aH (fun h0:0<q.st.length=>KI.cells hs h0);obtain⟨_,_,_,_,_,hcap⟩:=Dj;obtain⟨B,hB⟩:∃B,B=az q:=⟨_,rfl⟩;rw[←hB]at N1 N2 N3⊢;clear hB;obtain⟨rows,cols,x,p,r,cap,sA,sn,sc,st⟩:=q;dsimp only at *;subst hn;clear hs;unfold ae at hcap;rcases Bool.eq_false_or_eq_true (bG rows cols)with h1|h1
 ·obtain⟨m1,m2⟩:=bB h1;by_cases hc:1≤cap∧cap≤1099511627776∧(st.length:Int)≤rows*cols
  ·have hB:=N3.out h1 hc;obtain⟨c1,c2,c3⟩:=hc;have HB:=aH hB;have HN:=aH (tU st (ru cap));have HY:=aH (pV st (ru cap));clear N1 N2 N3 hB;go_enter func215,ntmps215;go_wp2_with fail;refine(bv _ _ _).mono ?_;rintro e w' ⟨rfl,rfl⟩;go_wp2
   go_loop [35] (fun i=>∃k:Nat,k≤st.length∧i=.int .i64 k∧∀i,i<k→ru cap (st.getD i 0)=true) (fun i=>st.length-(intOf i).toNat)
   case atStart=>exact⟨0,Nat.zero_le _,rfl,fun i hi=>by omega⟩
   case round=>
    obtain⟨k,hk,rfl,hall⟩:=hrel;have HL:=aH hall;clear hall;by_cases CI:k<st.length
    ·obtain⟨b,off,cp,hv,EA,hbB,_,CD,_⟩:=Hi.out (by omega);injection hv with e1 e2 e3
     subst e1 e3;have hx:=CD k CI;have JK:=aH (HN.out k CI);have Gb:=aH (show ∀(h:ru cap (st.getD k 0)=true) (i:Nat),i<k+1→ru cap (st.getD i 0)=true from fun h i hi=>by
      by_cases e:i=k
      ·rw[e];exact h
      ·exact HL.out i (by omega))
     clear CD;generalize st.getD k 0=n at *;by_cases g:0≤n∧n≤cap
     ·have HR:=aH (Gb.out (dT g));obtain⟨g1,g2⟩:=g;go_wp2
      go_round
      case rel=>exact⟨k+1,by omega,ai (by omega),HR.out⟩
      case measure=>simp[intOf];omega
     ·have HR:=aH (JK.out (dF g));by_cases g1:n<0
      ·go_wp2
       go_ret
       exact⟨aj (by rw[HB.out,HR.out]),bL (bR _ _) _⟩
      ·have g2:cap<n:=(by omega);clear g;go_wp2
       go_ret
       exact⟨aj (by rw[HB.out,HR.out]),bL (bR _ _) _⟩
    ·obtain rfl:k=st.length:=(by omega);go_wp2
     go_ret
     exact⟨aj (by rw[HB.out,HY.out HL.out]),bL (bR _ _) _⟩
  ·obtain rfl:=N2.out hc;by_cases c1:cap<1
   ·clear hc;go_enter func215,ntmps215;go_wp2_with fail;refine(bv _ _ _).mono ?_;rintro e w' ⟨rfl,rfl⟩;go_wp2
    go_ret
    exact⟨rfl,bL (bR _ _) _⟩
   ·by_cases c2:1099511627776<cap
    ·clear hc;go_enter func215,ntmps215;go_wp2_with fail;refine(bv _ _ _).mono ?_;rintro e w' ⟨rfl,rfl⟩;go_wp2
     go_ret
     exact⟨rfl,bL (bR _ _) _⟩
    ·have c3:rows*cols<(st.length:Int):=(by omega);clear hc;go_enter func215,ntmps215;go_wp2_with fail;refine(bv _ _ _).mono ?_;rintro e w' ⟨rfl,rfl⟩;go_wp2
     go_ret
     exact⟨rfl,bL (bR _ _) _⟩
 ·obtain rfl:=N1.out h1;go_enter func215,ntmps215;go_wp2_with fail;refine(bv _ _ _).mono ?_;rintro e w' ⟨rfl,rfl⟩;go_wp2
  go_ret
  exact⟨rfl,bL (bR _ _) _⟩
theorem nm (q:Pl) (w:World) (hs:KI.IsL w w.heap.size (.slice q.sA q.sn q.sc) q.st) (Dj:KP.ok q):Calls prog 162 #[q.v] w fun e w'=>e=.returned (.bool (az q))∧Bw w w':=by
 have N1:=aH (fR q);have N2:=aH (jO q);have N3:=aH (lY q);have hn:=hs.len;have hl:=hs.2.2;have Hi:=aH (fun h0:0<q.st.length=>KI.cells hs h0);obtain⟨_,_,_,_,_,hcap⟩:=Dj;obtain⟨B,hB⟩:∃B,B=az q:=⟨_,rfl⟩;rw[←hB]at N1 N2 N3⊢;clear hB;obtain⟨rows,cols,x,p,r,cap,sA,sn,sc,st⟩:=q;dsimp only at *;subst hn;clear hs;unfold ae at hcap;rcases Bool.eq_false_or_eq_true (bG rows cols)with h1|h1
 ·obtain⟨m1,m2⟩:=bB h1;by_cases hc:1≤cap∧cap≤1099511627776∧(st.length:Int)≤rows*cols
  ·have hB:=N3.out h1 hc;obtain⟨c1,c2,c3⟩:=hc;have HB:=aH hB;have HN:=aH (tU st (ru cap));have HY:=aH (pV st (ru cap));clear N1 N2 N3 hB;go_enter func162,ntmps162;go_wp2_with fail;refine(dD _ _ _).mono ?_;rintro e w' ⟨rfl,rfl⟩;go_wp2;obtain⟨w0,hw0⟩:∃w0,w0=w.alloc (.cells #[.int .i64 rows,.int .i64 cols,.float .f64 x,.float .f64 p,.float .f64 r,.int .i64 cap,.slice sA st.length sc] 86):=⟨_,rfl⟩;rw[←hw0];have f5:w0.cell? ⟨w.heap.size,5,none⟩=some (.int .i64 cap):=(by rw[hw0];simp);have f6:w0.cell? ⟨w.heap.size,6,none⟩=some (.slice sA st.length sc):=(by rw[hw0];simp);have CG:=aH (cI hw0);clear hw0
   go_loopw [3] (fun i wr=>∃k d:Nat,k≤st.length∧i=.int .i64 k∧wr=w0.drewN d∧∀i,i<k→ru cap (st.getD i 0)=true) (fun i _=>st.length-(intOf i).toNat)
   case atStart=>exact⟨0,0,Nat.zero_le _,rfl,rfl,fun i hi=>by omega⟩
   case round=>
    obtain⟨k,d,hk,rfl,hw,hall⟩:=hrel;have HL:=aH hall;have HW:=aH hw;have g5:wr.cell? ⟨w.heap.size,5,none⟩=some (.int .i64 cap):=(by rw[hw];exact f5);have g6:wr.cell? ⟨w.heap.size,6,none⟩=some (.slice sA st.length sc):=(by rw[hw];exact f6);have Dt:=aH (show Bw w wr by rw[hw];exact aa CG.out _);clear hall hw;by_cases CI:k<st.length
    ·obtain⟨b,off,cp,hv,EA,hbB,_,CD,_⟩:=Hi.out (by omega);injection hv with e1 e2 e3
     subst e1 e3;have hx:=(Dt.out.cell (p:=⟨b,off+k,none⟩) hbB).trans (CD k CI);have JK:=aH (HN.out k CI);have Gb:=aH (show ∀(h:ru cap (st.getD k 0)=true) (i:Nat),i<k+1→ru cap (st.getD i 0)=true from fun h i hi=>by
      by_cases e:i=k
      ·rw[e];exact h
      ·exact HL.out i (by omega))
     clear CD f5 f6;generalize st.getD k 0=n at *;by_cases g:0≤n∧n≤cap
     ·have HR:=aH (Gb.out (dT g));obtain⟨g1,g2⟩:=g;have d1:decide (n<0)=false:=dF (by omega);have d2:decide (cap<n)=false:=dF (by omega);go_wp2_with fail;go_quiet (fail);go_wp2
      go_roundw
      case rel=>obtain⟨d2,Ll⟩:=cP w0 d nq;exact⟨k+1,d2,by omega,ai (by omega),by rw[HW.out];exact Ll,HR.out⟩
      case measure=>simp[intOf];omega
     ·have HR:=aH (JK.out (dF g));by_cases g1:n<0
      ·have d1:decide (n<0)=true:=dT g1;go_wp2_with fail;go_quiet (fail);go_wp2
       go_ret
       exact⟨aj (by rw[HB.out,HR.out]),aa Dt.out _⟩
      ·have d1:decide (n<0)=false:=dF (by omega);have d2:decide (cap<n)=true:=dT (by omega);clear g;go_wp2_with fail;go_quiet (fail);go_wp2
       go_ret
       exact⟨aj (by rw[HB.out,HR.out]),aa Dt.out _⟩
    ·obtain rfl:k=st.length:=(by omega);go_wp2
     go_ret
     exact⟨aj (by rw[HB.out,HY.out HL.out]),Dt.out⟩
  ·obtain rfl:=N2.out hc;by_cases c1:cap<1
   ·clear hc;go_enter func162,ntmps162;go_wp2_with fail;refine(dD _ _ _).mono ?_;rintro e w' ⟨rfl,rfl⟩;go_wp2
    go_ret
    exact⟨rfl,bL (bR _ _) _⟩
   ·by_cases c2:1099511627776<cap
    ·clear hc;go_enter func162,ntmps162;go_wp2_with fail;refine(dD _ _ _).mono ?_;rintro e w' ⟨rfl,rfl⟩;go_wp2
     go_ret
     exact⟨rfl,bL (bR _ _) _⟩
    ·have c3:rows*cols<(st.length:Int):=(by omega);clear hc;go_enter func162,ntmps162;go_wp2_with fail;refine(dD _ _ _).mono ?_;rintro e w' ⟨rfl,rfl⟩;go_wp2
     go_ret
     exact⟨rfl,bL (bR _ _) _⟩
 ·obtain rfl:=N1.out h1;go_enter func162,ntmps162;go_wp2_with fail;refine(dD _ _ _).mono ?_;rintro e w' ⟨rfl,rfl⟩;go_wp2
  go_ret
  exact⟨rfl,bL (bR _ _) _⟩
theorem aQ {w:World} {B:Nat} {A:Option Addr} {n c:Nat} {xs:List Pl} (h:KP.IsL w B (.slice A n c) xs) (h0:0<xs.length):∃b off,A=some ⟨b,off,none⟩∧b<B∧xs.length≤c∧
  ∀i,i<xs.length→w.cell? ⟨b,off+i*7,none⟩=some (.int .i64 (xs.getD i KP.dflt).rows)∧w.cell? ⟨b,off+i*7+1,none⟩=some (.int .i64 (xs.getD i KP.dflt).cols)∧w.cell? ⟨b,off+i*7+2,none⟩=some (.float .f64 (xs.getD i KP.dflt).x)∧
   w.cell? ⟨b,off+i*7+3,none⟩=some (.float .f64 (xs.getD i KP.dflt).p)∧w.cell? ⟨b,off+i*7+4,none⟩=some (.float .f64 (xs.getD i KP.dflt).r)∧w.cell? ⟨b,off+i*7+5,none⟩=some (.int .i64 (xs.getD i KP.dflt).cap)∧
   w.cell? ⟨b,off+i*7+6,none⟩=some (.slice (xs.getD i KP.dflt).sA (xs.getD i KP.dflt).sn (xs.getD i KP.dflt).sc):=by
 obtain⟨b,off,e,hb,hc,CD⟩:=h.elem h0;refine⟨b,off,e,hb,hc,fun i hi=>?_⟩;have q:=fun j u hu=>CD i hi j u hu;have hn:KP.n=7:=rfl;simp only[hn,←Nat.add_assoc]at q;exact⟨q 0 _ rfl,q 1 _ rfl,q 2 _ rfl,q 3 _ rfl,q 4 _ rfl,q 5 _ rfl,q 6 _ rfl⟩
theorem bu {w:World} {B:Nat} {A:Option Addr} {n c:Nat} {xs:List Rk} (h:KR.IsL w B (.slice A n c) xs) (h0:0<xs.length):∃b off,A=some ⟨b,off,none⟩∧b<B∧xs.length≤c∧
  ∀i,i<xs.length→w.cell? ⟨b,off+i*5,none⟩=some (.int .i64 (xs.getD i KR.dflt).rows)∧w.cell? ⟨b,off+i*5+1,none⟩=some (.int .i64 (xs.getD i KR.dflt).cols)∧w.cell? ⟨b,off+i*5+2,none⟩=some (.float .f64 (xs.getD i KR.dflt).x)∧
   w.cell? ⟨b,off+i*5+3,none⟩=some (.float .f64 (xs.getD i KR.dflt).p)∧w.cell? ⟨b,off+i*5+4,none⟩=some (.float .f64 (xs.getD i KR.dflt).r):=by
 obtain⟨b,off,e,hb,hc,CD⟩:=h.elem h0;refine⟨b,off,e,hb,hc,fun i hi=>?_⟩;have q:=fun j u hu=>CD i hi j u hu;have hn:KR.n=5:=rfl;simp only[hn,←Nat.add_assoc]at q;exact⟨q 0 _ rfl,q 1 _ rfl,q 2 _ rfl,q 3 _ rfl,q 4 _ rfl⟩
theorem iy {K:Lk prog Q4} (hK:K.n=4) (hC:K.cells=fj) (hD:K.dflt=⟨0,0,0,0⟩) {w:World} {B:Nat} {A:Option Addr} {n c:Nat} {xs:List Q4} (h:K.IsL w B (.slice A n c) xs) (h0:0<xs.length):∃b off,A=some ⟨b,off,none⟩∧b<B∧xs.length≤c∧
  ∀i,i<xs.length→w.cell? ⟨b,off+i*4,none⟩=some (.int .i64 (xs.getD i ⟨0,0,0,0⟩).a)∧w.cell? ⟨b,off+i*4+1,none⟩=some (.int .i64 (xs.getD i ⟨0,0,0,0⟩).b)∧
   w.cell? ⟨b,off+i*4+2,none⟩=some (.int .i64 (xs.getD i ⟨0,0,0,0⟩).c)∧w.cell? ⟨b,off+i*4+3,none⟩=some (.int .i64 (xs.getD i ⟨0,0,0,0⟩).d):=by
 obtain⟨b,off,e,hb,hc,CD⟩:=h.elem h0;refine⟨b,off,e,hb,hc,fun i hi=>?_⟩;have q:=fun j u hu=>CD i hi j u hu;rw[hK,hC,hD]at q;simp only[←Nat.add_assoc]at q;exact⟨q 0 _ rfl,q 1 _ rfl,q 2 _ rfl,q 3 _ rfl⟩
def aC (l:List Pl):Int:=(l.map fun q=>q.rows*q.cols).sum
def bj (l:List Rk):Int:=(l.map fun q=>q.rows*q.cols).sum
theorem cU (l:List Pl) (k:Nat) (h:k<l.length):aC (l.take (k+1))=aC (l.take k)+(l.getD k KP.dflt).rows*(l.getD k KP.dflt).cols:=by
 rw[aX l k KP.dflt h];unfold aC;rw[List.map_append,List.sum_append];simp
theorem ep (l:List Rk) (k:Nat) (h:k<l.length):bj (l.take (k+1))=bj (l.take k)+(l.getD k KR.dflt).rows*(l.getD k KR.dflt).cols:=by
 rw[aX l k KR.dflt h];unfold bj;rw[List.map_append,List.sum_append];simp
theorem fm (l:List Pl) (h:∀i,i<l.length→bG (l.getD i KP.dflt).rows (l.getD i KP.dflt).cols=true):∀k,k≤l.length→(k:Int)≤aC (l.take k)∧aC (l.take k)≤1536*k:=by
 intro k
 induction k with
 |zero=>intro _;simp[aC]
 |succ k ih=>
  intro hk;obtain⟨i1,i2⟩:=ih (by omega);rw[cU l k (by omega)];obtain⟨m1,m2⟩:=bB (h k (by omega));omega
theorem oL (l:List Rk) (h:∀i,i<l.length→bG (l.getD i KR.dflt).rows (l.getD i KR.dflt).cols=true):∀k,k≤l.length→(k:Int)≤bj (l.take k)∧bj (l.take k)≤1536*k:=by
 intro k
 induction k with
 |zero=>intro _;simp[bj]
 |succ k ih=>
  intro hk;obtain⟨i1,i2⟩:=ih (by omega);rw[ep l k (by omega)];obtain⟨m1,m2⟩:=bB (h k (by omega));omega
theorem ap (w:World) (c:Array Value) (t:TypeId) (i:Nat) (v:Value) (h:c[i]? =some v):(w.alloc (.cells c t)).cell? ⟨w.heap.size,i,none⟩=some v:=by rw[World.cell?_alloc_at (hn:=rfl),h]
theorem aq {P:Program} {w:World} {a:Addr} {m:Mode} (k:FloatKind) (b:Nat):(store a (.float k b) m).run P w=stored P w a (.float k b) m:=run_store P w a _ m rfl
theorem iK (d:Dk) (w:World) (hd:d.In w w.heap.size) (hp:d.pl.length≤4) (hr:d.rl.length≤4) (h1:∀i,i<d.pl.length→bG (d.pl.getD i KP.dflt).rows (d.pl.getD i KP.dflt).cols=true)
  (h2:∀i,i<d.rl.length→bG (d.rl.getD i KR.dflt).rows (d.rl.getD i KR.dflt).cols=true):
  Calls prog 157 #[d.v] w fun e w'=>e=.returned (.tuple #[.int .i64 (aC d.pl),.int .i64 (bj d.rl)])∧Bw w w':=by
 have HW:=aH (fm d.pl h1);have HT:=aH (oL d.rl h2);have H1:=aH h1;have H2:=aH h2;have HD:=aH hd;have Oq:=aH (cU d.pl);have FR:=aH (ep d.rl);have e1:=hd.p.len;have e2:=hd.r.len;obtain⟨bA,bn,bc,bl,pA,pn,pc,pl,rA,rn,rc,rl,arms⟩:=d;dsimp only at *;subst e1 e2;clear h1 h2 hd;have G5:=fun(w:World) (a:Addr) (m:Mode) (b:Nat)=>aq (P:=prog) (w:=w) (a:=a) (m:=m) .f64 b;go_enter func157,ntmps157;go_wp2;obtain⟨w0,hw0⟩:∃w0,w0=w.alloc (.cells #[.slice bA bn bc,.slice pA pl.length pc,.slice rA rl.length rc,.int .i64 arms] 26):=⟨_,rfl⟩;rw[←hw0];have f2:w0.cell? ⟨w.heap.size,2,none⟩=some (.slice rA rl.length rc):=by rw[hw0];exact ap _ _ _ _ _ rfl
 have CG:=aH (cI hw0);have CR:=aH (HD.out.then CG.out);have F2:=aH f2;clear hw0 f2
 go_loopw [2,11] (fun s i wr=>∃k:Nat,k≤pl.length∧i=.int .i64 k∧s=.int .i64 (aC (pl.take k))∧Bw w0 wr) (fun _ i _=>pl.length-(intOf i).toNat)
 case atStart=>exact⟨0,Nat.zero_le _,rfl,rfl,bR _ _⟩
 case round=>
  obtain⟨k,hk,rfl,rfl,CP⟩:=hrel;have HB:=aH CP;clear CP;obtain⟨b1,b2⟩:=HW.out k hk;by_cases CI:k<pl.length
  ·obtain⟨b,off,rfl,hb,hc,CD⟩:=aQ (CR.out.p.below HB.out) (by dsimp only;omega);obtain⟨c0,c1,c2,c3,c4,c5,c6⟩:=CD k CI;have HS:=aH (Oq.out k CI);obtain⟨m1,m2⟩:=bB (H1.out k CI);clear CD;dsimp only at *;generalize pl.getD k KP.dflt=q at *;generalize aC (pl.take k)=s at *;go_wp2
   go_roundw
   case rel=>exact⟨k+1,by omega,ai (by omega),ai (by rw[HS.out]),bL HB.out _⟩
   case measure=>simp[intOf];omega
  ·obtain rfl:k=pl.length:=(by omega);rw[List.take_length];rw[List.take_length]at b1 b2;have g2:=kK HB.out F2.out;generalize hs:aC pl=s at *;have EU:=aH hs;clear hs;go_wp2;obtain⟨w1,Fs⟩:∃w1,w1=wr:=⟨_,rfl⟩;subst Fs;have GQ:=aH (CR.out.then HB.out);clear g2
   go_loopw [3,26] (fun s i wr=>∃k:Nat,k≤rl.length∧i=.int .i64 k∧s=.int .i64 (bj (rl.take k))∧Bw w1 wr) (fun _ i _=>rl.length-(intOf i).toNat)
   case atStart=>exact⟨0,Nat.zero_le _,rfl,rfl,bR _ _⟩
   case round=>
    obtain⟨k,hk,rfl,rfl,CP⟩:=hrel;have CL:=aH CP;clear CP;obtain⟨t1,t2⟩:=HT.out k hk;by_cases CI:k<rl.length
    ·obtain⟨b,off,rfl,hb,hc,CD⟩:=bu (GQ.out.r.below CL.out) (by dsimp only;omega);obtain⟨c0,c1,c2,c3,c4⟩:=CD k CI;have HS:=aH (FR.out k CI);obtain⟨m1,m2⟩:=bB (H2.out k CI);clear CD;dsimp only at *;generalize rl.getD k KR.dflt=q at *;generalize bj (rl.take k)=t at *;go_wp2
     go_roundw
     case rel=>exact⟨k+1,by omega,ai (by omega),ai (by rw[HS.out]),bL CL.out _⟩
     case measure=>simp[intOf];omega
    ·obtain rfl:k=rl.length:=(by omega);rw[List.take_length];generalize hs:bj rl=t at *;have Ea:=aH hs;clear hs;go_wp2
     go_ret2
     exact⟨by rw[EU.out,Ea.out];rfl,bC CG.out (bC HB.out CL.out)⟩
def cF (q:Rk):Bool:=bG q.rows q.cols
def aJ (d:Dk):Int:=
 if aZ d.bl≠0 then aZ d.bl
 else if ¬(1≤d.arms∧d.arms≤8)then 80
 else if 4<d.pl.length∨4<d.rl.length then 2
 else if d.pl.all az=false then 81
 else if d.rl.all cF=false then 82
 else if 384<aC d.pl∨384<bj d.rl then 2 else 0
theorem fv {α:Type} (l:List α) (z:α) (f:α→Bool) (k:Nat) (h:k<l.length) (hf:f (l.getD k z)=false):l.all f=false:=by
 rw[←Bool.not_eq_true,List.all_eq_true];intro hh;have:=hh _ (af l k z h);rw[hf]at this
 cases this
theorem fd {α:Type} (l:List α) (z:α) (f:α→Bool) (h:∀i,i<l.length→f (l.getD i z)=true):l.all f=true:=by
 rw[List.all_eq_true];intro x hx;obtain⟨i,hi,rfl⟩:=List.mem_iff_getElem.1 hx;have:=h i hi;rw[List.getD_eq_getElem?_getD,List.getElem?_eq_getElem hi]at this;exact this
theorem bi {q:Pl} (h:az q=true):bG q.rows q.cols=true:=by
 cases hs:bG q.rows q.cols
 ·rw[fR q hs]at h;cases h
 ·rfl
theorem n8 (d:Dk) (h:aZ d.bl≠0):aJ d=aZ d.bl:=by unfold aJ;rw[if_pos h]
theorem oj (d:Dk) (h:aZ d.bl=0) (h1:¬(1≤d.arms∧d.arms≤8)):aJ d=80:=by unfold aJ;rw[if_neg (by simp[h]),if_pos h1]
theorem nz (d:Dk) (h:aZ d.bl=0) (h1:1≤d.arms∧d.arms≤8) (h2:4<d.pl.length∨4<d.rl.length):aJ d=2:=by unfold aJ;rw[if_neg (by simp[h]),if_neg (by simp[h1]),if_pos h2]
theorem nY (d:Dk) (h:aZ d.bl=0) (h1:1≤d.arms∧d.arms≤8) (h2:¬(4<d.pl.length∨4<d.rl.length)) (h3:d.pl.all az=false):aJ d=81:=by unfold aJ;rw[if_neg (by simp[h]),if_neg (by simp[h1]),if_neg h2,if_pos h3]
theorem nP (d:Dk) (h:aZ d.bl=0) (h1:1≤d.arms∧d.arms≤8) (h2:¬(4<d.pl.length∨4<d.rl.length)) (h3:d.pl.all az=true) (h4:d.rl.all cF=false):aJ d=82:=by unfold aJ;rw[if_neg (by simp[h]),if_neg (by simp[h1]),if_neg h2,if_neg (by simp[h3]),if_pos h4]
theorem np (d:Dk) (h:aZ d.bl=0) (h1:1≤d.arms∧d.arms≤8) (h2:¬(4<d.pl.length∨4<d.rl.length)) (h3:d.pl.all az=true) (h4:d.rl.all cF=true):aJ d=if 384<aC d.pl∨384<bj d.rl then 2 else 0:=by unfold aJ;rw[if_neg (by simp[h]),if_neg (by simp[h1]),if_neg h2,if_neg (by simp[h3]),if_neg (by simp[h4])]
theorem eT (d:Dk) (w:World) (hd:d.In w w.heap.size):Calls prog 154 #[d.v] w fun e w'=>e=.returned (.int .i64 (aJ d))∧Bw w w':=by
 have HD:=aH hd;have B1:=aH (n8 d);have B2:=aH (oj d);have B3:=aH (nz d);have B4:=aH (nY d);have B5:=aH (nP d);have B6:=aH (np d);have GZ:=aH (fv d.pl KP.dflt az);have Kh:=aH (fd d.pl KP.dflt az);have GX:=aH (fv d.rl KR.dflt cF);have JW:=aH (fd d.rl KR.dflt cF);have e0:=hd.b.len;have e1:=hd.p.len;have e2:=hd.r.len;have ha:=hd.a;have FD:=aH (fun w h=>iK d w h);obtain⟨C,hC⟩:∃C,C=aJ d:=⟨_,rfl⟩;rw[←hC]at B1 B2 B3 B4 B5 B6⊢;clear hC;obtain⟨bA,bn,bc,bl,pA,pn,pc,pl,rA,rn,rc,rl,arms⟩:=d;dsimp only at *;subst e0 e1 e2;unfold ae at ha;clear hd;have G5:=fun(w:World) (a:Addr) (m:Mode) (b:Nat)=>aq (P:=prog) (w:=w) (a:=a) (m:=m) .f64 b;obtain⟨w0,hw0⟩:∃w0,w0=w.alloc (.cells #[.slice bA bl.length bc,.slice pA pl.length pc,.slice rA rl.length rc,.int .i64 arms] 26):=⟨_,rfl⟩;have f0:w0.cell? ⟨w.heap.size,0,none⟩=some (.slice bA bl.length bc):=by rw[hw0];exact ap _ _ _ _ _ rfl
 have f1:w0.cell? ⟨w.heap.size,1,none⟩=some (.slice pA pl.length pc):=by rw[hw0];exact ap _ _ _ _ _ rfl
 have f2:w0.cell? ⟨w.heap.size,2,none⟩=some (.slice rA rl.length rc):=by rw[hw0];exact ap _ _ _ _ _ rfl
 have f3:w0.cell? ⟨w.heap.size,3,none⟩=some (.int .i64 arms):=by rw[hw0];exact ap _ _ _ _ _ rfl
 have CG:=aH (cI hw0);have CR:=aH (HD.out.then CG.out);have HK:=aH (jU _ bl w0 CR.out.b);by_cases hz:aZ bl=0
 ·rw[hz]at HK;by_cases h1:1≤arms∧arms≤8
  ·obtain⟨a1,a2⟩:=h1;by_cases h2:4<pl.length∨4<rl.length
   ·obtain rfl:=B3.out hz ⟨a1,a2⟩ h2;clear B1 B2 B3 B4 B5 B6 hz;by_cases p4:4<pl.length
    ·clear h2;go_enter func154,ntmps154;go_wp2_with fail;rw[←hw0];clear hw0;refine HK.out.mono ?_;rintro e w' ⟨rfl,rfl⟩;go_wp2
     go_ret
     exact⟨rfl,CG.out⟩
    ·have r4:4<rl.length:=(by omega);clear h2;go_enter func154,ntmps154;go_wp2_with fail;rw[←hw0];clear hw0;refine HK.out.mono ?_;rintro e w' ⟨rfl,rfl⟩;go_wp2
     go_ret
     exact⟨rfl,CG.out⟩
   ·have p4:pl.length≤4:=(by omega);have r4:rl.length≤4:=(by omega);have C4:=aH (B4.out hz ⟨a1,a2⟩ h2);have C5:=aH (B5.out hz ⟨a1,a2⟩ h2);have C6:=aH (B6.out hz ⟨a1,a2⟩ h2);clear B1 B2 B3 B4 B5 B6 h2 hz;go_enter func154,ntmps154;go_wp2_with fail;rw[←hw0];clear hw0;refine HK.out.mono ?_;rintro e w' ⟨rfl,rfl⟩;have g0:=aH f0;have g1:=aH f1;have g3:=aH f3;go_wp2;clear f0 f1 f3;have F2:=aH f2;have F0:=aH (show ∀w1,Bw w0 w1→w1.cell? ⟨w.heap.size,0,none⟩=some (.slice bA bl.length bc)∧w1.cell? ⟨w.heap.size,1,none⟩=some (.slice pA pl.length pc)∧w1.cell? ⟨w.heap.size,2,none⟩=some (.slice rA rl.length rc)∧w1.cell? ⟨w.heap.size,3,none⟩=some (.int .i64 arms)from
     fun w1 hb=>⟨kK hb g0.out,kK hb g1.out,kK hb f2,kK hb g3.out⟩)
    clear f2
    go_loopw [39] (fun i wr=>∃k:Nat,k≤pl.length∧i=.int .i64 k∧(∀i,i<k→az (pl.getD i KP.dflt)=true)∧Bw w0 wr) (fun i _=>pl.length-(intOf i).toNat)
    case atStart=>exact⟨0,Nat.zero_le _,rfl,fun i hi=>by omega,bR _ _⟩
    case round=>
     obtain⟨k,hk,rfl,hall,CP⟩:=hrel;have HB:=aH CP;have HL:=aH hall;clear CP hall;by_cases CI:k<pl.length
     ·obtain⟨b,off,rfl,hb,hc,CD⟩:=aQ (CR.out.p.below HB.out) (by dsimp only;omega);obtain⟨c0,c1,c2,c3,c4,c5,c6⟩:=CD k CI;have H7:=aH (fun w1 (CE:Bw w0 w1)=>iJ (pl.getD k KP.dflt) w1 (((CR.out.s _ (af pl k KP.dflt CI)).below CE).more CE.size) (CR.out.p.okAt k CI));have KZ:=aH (GZ.out k CI);have Gb:=aH (show ∀(h:az (pl.getD k KP.dflt)=true) (i:Nat),i<k+1→az (pl.getD i KP.dflt)=true from fun h i hi=>by
       by_cases e:i=k
       ·rw[e];exact h
       ·exact HL.out i (by omega))
      clear CD;dsimp only at *;generalize pl.getD k KP.dflt=q at *;rcases Bool.eq_false_or_eq_true (az q)with g|g
      ·have HR:=aH (Gb.out g);rw[g]at H7;go_wp2_with fail;refine(H7.out _ (bL HB.out _)).mono ?_;rintro e w2 ⟨rfl,CM⟩;have CL:=aH (bC (bL HB.out _) CM);clear CM;go_wp2
       go_roundw
       case rel=>exact⟨k+1,by omega,ai (by omega),HR.out,CL.out⟩
       case measure=>simp[intOf];omega
      ·have HR:=aH (C4.out (KZ.out g));rw[g]at H7;go_wp2_with fail;refine(H7.out _ (bL HB.out _)).mono ?_;rintro e w2 ⟨rfl,CM⟩;have CL:=aH (bC (bL HB.out _) CM);clear CM;go_wp2
       go_ret
       exact⟨aS HR.out.symm,bC CG.out CL.out⟩
     ·obtain rfl:k=pl.length:=(by omega);have EZ:=aH (Kh.out HL.out);obtain⟨g0',g1',g2',g3'⟩:=F0.out wr HB.out;clear Kh GZ HL C4;go_wp2;obtain⟨w1,Fs⟩:∃w1,w1=wr:=⟨_,rfl⟩;subst Fs;have GQ:=aH (CR.out.then HB.out);clear g0' g1' g2' g3'
      go_loopw [50] (fun i wr=>∃k:Nat,k≤rl.length∧i=.int .i64 k∧(∀i,i<k→cF (rl.getD i KR.dflt)=true)∧Bw w1 wr) (fun i _=>rl.length-(intOf i).toNat)
      case atStart=>exact⟨0,Nat.zero_le _,rfl,fun i hi=>by omega,bR _ _⟩
      case round=>
       obtain⟨k,hk,rfl,hall,CP⟩:=hrel;have CL:=aH CP;have HL:=aH hall;clear CP hall;by_cases CI:k<rl.length
       ·obtain⟨b,off,rfl,hb,hc,CD⟩:=bu (GQ.out.r.below CL.out) (by dsimp only;omega);obtain⟨c0,c1,c2,c3,c4⟩:=CD k CI;have Kx:=aH (GX.out k CI);have Gb:=aH (show ∀(h:cF (rl.getD k KR.dflt)=true) (i:Nat),i<k+1→cF (rl.getD i KR.dflt)=true from fun h i hi=>by
         by_cases e:i=k
         ·rw[e];exact h
         ·exact HL.out i (by omega))
        clear CD;dsimp only at *;generalize rl.getD k KR.dflt=q at *;rcases Bool.eq_false_or_eq_true (bG q.rows q.cols)with g|g
        ·have HR:=aH (Gb.out g);go_wp2_with fail;refine(bv _ _ _).mono ?_;rintro e w' ⟨rfl,rfl⟩;go_wp2
         go_roundw
         case rel=>exact⟨k+1,by omega,ai (by omega),HR.out,bL CL.out _⟩
         case measure=>simp[intOf];omega
        ·have HR:=aH (C5.out EZ.out (Kx.out g));go_wp2_with fail;refine(bv _ _ _).mono ?_;rintro e w' ⟨rfl,rfl⟩;go_wp2
         go_ret
         exact⟨aS HR.out.symm,bC CG.out (bC HB.out (bL CL.out _))⟩
       ·obtain rfl:k=rl.length:=(by omega);have Oa:=aH (JW.out HL.out);have GH:=aH (C6.out EZ.out Oa.out);have CS:=aH (HB.out.trans (CL.out.mono HB.out.size));obtain⟨g0',g1',g2',g3'⟩:=F0.out wr CS.out;have L6:=aH (FD.out wr (CR.out.then CS.out) p4 r4 (fun i hi=>bi (List.all_eq_true.1 EZ.out _ (af pl i _ hi))) (fun i hi=>List.all_eq_true.1 Oa.out _ (af rl i _ hi)));clear JW GX HL C5 C6 FD;generalize aC pl=s at *;generalize bj rl=t at *;by_cases hs:384<s
        ·have HF:=aH (GH.out.trans (if_pos (.inl hs)));clear GH;go_wp2_with fail;refine L6.out.mono ?_;rintro e w4 ⟨rfl,Do⟩;have CW:=aH Do;clear Do;go_wp2
         go_ret
         exact⟨aS HF.out.symm,bC CG.out (bC CS.out CW.out)⟩
        ·by_cases ht:384<t
         ·have HF:=aH (GH.out.trans (if_pos (.inr ht)));clear GH;go_wp2_with fail;refine L6.out.mono ?_;rintro e w4 ⟨rfl,Do⟩;have CW:=aH Do;clear Do;go_wp2
          go_ret
          exact⟨aS HF.out.symm,bC CG.out (bC CS.out CW.out)⟩
         ·have HF:=aH (GH.out.trans (if_neg (by omega)));clear GH;go_wp2_with fail;refine L6.out.mono ?_;rintro e w4 ⟨rfl,Do⟩;have CW:=aH Do;clear Do;go_wp2
          go_ret
          exact⟨aS HF.out.symm,bC CG.out (bC CS.out CW.out)⟩
  ·obtain rfl:=B2.out hz h1;clear B1 B2 B3 B4 B5 B6 hz;by_cases a1:arms<1
   ·clear h1;go_enter func154,ntmps154;go_wp2_with fail;rw[←hw0];clear hw0;refine HK.out.mono ?_;rintro e w' ⟨rfl,rfl⟩;go_wp2
    go_ret
    exact⟨rfl,CG.out⟩
   ·have a2:8<arms:=(by omega);clear h1;go_enter func154,ntmps154;go_wp2_with fail;rw[←hw0];clear hw0;refine HK.out.mono ?_;rintro e w' ⟨rfl,rfl⟩;go_wp2
    go_ret
    exact⟨rfl,CG.out⟩
 ·obtain rfl:=B1.out hz;have GB:(aZ bl != 0)=true:=by rw[bne_iff_ne];exact hz
  clear B1 B2 B3 B4 B5 B6 hz;generalize aZ bl=c at *;go_enter func154,ntmps154;go_wp2_with fail;rw[←hw0];clear hw0;refine HK.out.mono ?_;rintro e w' ⟨rfl,rfl⟩;go_wp2
  go_ret
  exact⟨rfl,CG.out⟩
theorem gv (d:Dk) (w:World) (hd:d.In w w.heap.size):Calls prog 103 #[d.v] w fun e w'=>e=.returned (.int .i64 (aJ d))∧Bw w w':=by
 have HD:=aH hd;have B1:=aH (n8 d);have B2:=aH (oj d);have B3:=aH (nz d);have B4:=aH (nY d);have B5:=aH (nP d);have B6:=aH (np d);have GZ:=aH (fv d.pl KP.dflt az);have Kh:=aH (fd d.pl KP.dflt az);have GX:=aH (fv d.rl KR.dflt cF);have JW:=aH (fd d.rl KR.dflt cF);have Oq:=aH (cU d.pl);have FR:=aH (ep d.rl);have e0:=hd.b.len;have e1:=hd.p.len;have e2:=hd.r.len;have ha:=hd.a;obtain⟨C,hC⟩:∃C,C=aJ d:=⟨_,rfl⟩;rw[←hC]at B1 B2 B3 B4 B5 B6⊢;clear hC;obtain⟨bA,bn,bc,bl,pA,pn,pc,pl,rA,rn,rc,rl,arms⟩:=d;dsimp only at *;subst e0 e1 e2;unfold ae at ha;clear hd;obtain⟨w0,hw0⟩:∃w0,w0=w.alloc (.cells #[.slice bA bl.length bc,.slice pA pl.length pc,.slice rA rl.length rc,.int .i64 arms] 26):=⟨_,rfl⟩;have f0:w0.cell? ⟨w.heap.size,0,none⟩=some (.slice bA bl.length bc):=by rw[hw0];exact ap _ _ _ _ _ rfl
 have f1:w0.cell? ⟨w.heap.size,1,none⟩=some (.slice pA pl.length pc):=by rw[hw0];exact ap _ _ _ _ _ rfl
 have f2:w0.cell? ⟨w.heap.size,2,none⟩=some (.slice rA rl.length rc):=by rw[hw0];exact ap _ _ _ _ _ rfl
 have f3:w0.cell? ⟨w.heap.size,3,none⟩=some (.int .i64 arms):=by rw[hw0];exact ap _ _ _ _ _ rfl
 have CG:=aH (cI hw0);have CR:=aH (HD.out.then CG.out);have HK:=aH (eQ _ bl w0 CR.out.b);by_cases hz:aZ bl=0
 ·rw[hz]at HK;by_cases h1:1≤arms∧arms≤8
  ·obtain⟨a1,a2⟩:=h1;by_cases h2:4<pl.length∨4<rl.length
   ·obtain rfl:=B3.out hz ⟨a1,a2⟩ h2;clear B1 B2 B3 B4 B5 B6 hz;by_cases p4:4<pl.length
    ·clear h2;go_enter func103,ntmps103;go_wp2_with fail;rw[←hw0];clear hw0;refine HK.out.mono ?_;rintro e w' ⟨rfl,d,rfl⟩;go_wp2
     go_ret
     exact⟨rfl,aa CG.out _⟩
    ·have r4:4<rl.length:=(by omega);clear h2;go_enter func103,ntmps103;go_wp2_with fail;rw[←hw0];clear hw0;refine HK.out.mono ?_;rintro e w' ⟨rfl,d,rfl⟩;go_wp2
     go_ret
     exact⟨rfl,aa CG.out _⟩
   ·have p4:pl.length≤4:=(by omega);have r4:rl.length≤4:=(by omega);have C4:=aH (B4.out hz ⟨a1,a2⟩ h2);have C5:=aH (B5.out hz ⟨a1,a2⟩ h2);have C6:=aH (B6.out hz ⟨a1,a2⟩ h2);clear B1 B2 B3 B4 B5 B6 h2 hz;have F0:=aH (show ∀w1,Bw w0 w1→w1.cell? ⟨w.heap.size,1,none⟩=some (.slice pA pl.length pc)∧w1.cell? ⟨w.heap.size,2,none⟩=some (.slice rA rl.length rc)from
     fun w1 hb=>⟨kK hb f1,kK hb f2⟩)
    go_enter func103,ntmps103;go_wp2_with fail;rw[←hw0];clear hw0;refine HK.out.mono ?_;rintro e wd ⟨rfl,dd,hwd⟩;have FG:=aH (show Bw w0 wd by rw[hwd];exact aa (bR _ _) _);have k0:=kK FG.out f0;have k1:=kK FG.out f1;have k2:=kK FG.out f2;have k3:=kK FG.out f3;clear hwd f0 f1 f2 f3;go_wp2;clear k0 k1 k2 k3
    go_loopw [4,6] (fun s i wr=>∃k:Nat,k≤pl.length∧i=.int .i64 k∧s=.int .i64 (aC (pl.take k))∧(k:Int)≤aC (pl.take k)∧aC (pl.take k)≤1536*k∧(∀i,i<k→az (pl.getD i KP.dflt)=true)∧Bw w0 wr) (fun _ i _=>pl.length-(intOf i).toNat)
    case atStart=>exact⟨0,Nat.zero_le _,rfl,rfl,by simp[aC],by simp[aC],fun i hi=>by omega,FG.out⟩
    case round=>
     obtain⟨k,hk,rfl,rfl,b1,b2,hall,CP⟩:=hrel;have HB:=aH CP;have HL:=aH hall;clear CP hall;obtain⟨q1,q2⟩:=F0.out wr HB.out;by_cases CI:k<pl.length
     ·obtain⟨b,off,rfl,hb,hc,CD⟩:=aQ (CR.out.p.below HB.out) (by dsimp only;omega);obtain⟨c0,c1,c2,c3,c4,c5,c6⟩:=CD k CI;have H7:=aH (nm (pl.getD k KP.dflt) wr (((CR.out.s _ (af pl k KP.dflt CI)).below HB.out).more HB.out.size) (CR.out.p.okAt k CI));have KZ:=aH (GZ.out k CI);have HS:=aH (Oq.out k CI);have Gb:=aH (show ∀(h:az (pl.getD k KP.dflt)=true) (i:Nat),i<k+1→az (pl.getD i KP.dflt)=true from fun h i hi=>by
       by_cases e:i=k
       ·rw[e];exact h
       ·exact HL.out i (by omega))
      have G9:=aH (fun h=>bi (q:=pl.getD k KP.dflt) h);clear CD;dsimp only at *;generalize pl.getD k KP.dflt=q at *;generalize aC (pl.take k)=s at *;rcases Bool.eq_false_or_eq_true (az q)with g|g
      ·have HR:=aH (Gb.out g);rw[g]at H7;obtain⟨m1,m2⟩:=bB (G9.out g);have Dj:=CR.out;go_wp2_with fail;refine H7.out.mono ?_;rintro e w2 ⟨rfl,CM⟩;have y1:=kK CM q1;have y2:=kK CM c0;have y3:=kK CM c1;have CL:=aH (bC HB.out CM);clear CM q1 q2 c0 c1 c2 c3 c4 c5 c6 Dj;go_wp2_with fail;go_quiet (fail);go_wp2
       go_roundw
       case rel=>exact⟨k+1,by omega,ai (by omega),ai (by rw[HS.out]),by rw[HS.out];omega,by rw[HS.out];omega,HR.out,aa CL.out _⟩
       case measure=>simp[intOf];omega
      ·have HR:=aH (C4.out (KZ.out g));rw[g]at H7;go_wp2_with fail;refine H7.out.mono ?_;rintro e w2 ⟨rfl,CM⟩;have CL:=aH (bC HB.out CM);clear CM;go_wp2
       go_ret
       exact⟨aS HR.out.symm,bC CG.out CL.out⟩
     ·obtain rfl:k=pl.length:=(by omega);have EZ:=aH (Kh.out HL.out);rw[List.take_length]at b1 b2⊢;generalize hs:aC pl=s at *;clear hs;clear Kh GZ HL C4 Oq;go_wp2;obtain⟨w1,Fs⟩:∃w1,w1=wr:=⟨_,rfl⟩;subst Fs;clear q1 q2
      go_loopw [5,7] (fun s i wr=>∃k:Nat,k≤rl.length∧i=.int .i64 k∧s=.int .i64 (bj (rl.take k))∧(k:Int)≤bj (rl.take k)∧bj (rl.take k)≤1536*k∧(∀i,i<k→cF (rl.getD i KR.dflt)=true)∧Bw w0 wr) (fun _ i _=>rl.length-(intOf i).toNat)
      case atStart=>exact⟨0,Nat.zero_le _,rfl,rfl,by simp[bj],by simp[bj],fun i hi=>by omega,HB.out⟩
      case round=>
       obtain⟨k,hk,rfl,rfl,t1,t2,hall,CP⟩:=hrel;have CL:=aH CP;have HL:=aH hall;clear CP hall;obtain⟨q1,q2⟩:=F0.out wr CL.out;by_cases CI:k<rl.length
       ·obtain⟨b,off,rfl,hb,hc,CD⟩:=bu (CR.out.r.below CL.out) (by dsimp only;omega);obtain⟨c0,c1,c2,c3,c4⟩:=CD k CI;have Kx:=aH (GX.out k CI);have HS:=aH (FR.out k CI);have Gb:=aH (show ∀(h:cF (rl.getD k KR.dflt)=true) (i:Nat),i<k+1→cF (rl.getD i KR.dflt)=true from fun h i hi=>by
         by_cases e:i=k
         ·rw[e];exact h
         ·exact HL.out i (by omega))
        clear CD;dsimp only at *;generalize rl.getD k KR.dflt=q at *;generalize bj (rl.take k)=t at *;rcases Bool.eq_false_or_eq_true (bG q.rows q.cols)with g|g
        ·have HR:=aH (Gb.out g);obtain⟨m1,m2⟩:=bB g;have Dm:=aH (fun n=>show Calls prog 163 #[.int .i64 q.rows,.int .i64 q.cols] (wr.drewN n) fun e w'=>e=.returned (.bool true)∧w'=wr.drewN n from(dD q.rows q.cols (wr.drewN n)).mono fun _ _ x=>⟨by rw[x.1,g],x.2.symm⟩);go_wp2_with fail;go_quiet ((go_at_call 163;exact Calls.quiet_of_same (Dm.out _)));have y2:(wr.drewN nq).cell? ⟨w.heap.size,2,none⟩=some (.slice (some ⟨b,off,none⟩) rl.length rc):=q2;have y0:(wr.drewN nq).cell? ⟨b,off+k*5,none⟩=some (.int .i64 q.rows):=c0;have y1:(wr.drewN nq).cell? ⟨b,off+k*5+1,none⟩=some (.int .i64 q.cols):=c1;have CS:=aH (aa CL.out nq);clear q1 q2 c0 c1 c2 c3 c4 Dm CL;generalize wr.drewN nq=w3 at *;go_wp2_with fail;go_quiet (fail);go_wp2
         go_roundw
         case rel=>exact⟨k+1,by omega,ai (by omega),ai (by rw[HS.out]),by rw[HS.out];omega,by rw[HS.out];omega,HR.out,aa CS.out _⟩
         case measure=>simp[intOf];omega
        ·have HR:=aH (C5.out EZ.out (Kx.out g));have Dm:=aH (fun n=>show Calls prog 163 #[.int .i64 q.rows,.int .i64 q.cols] (wr.drewN n) fun e w'=>e=.returned (.bool false)∧w'=wr.drewN n from(dD q.rows q.cols (wr.drewN n)).mono fun _ _ x=>⟨by rw[x.1,g],x.2.symm⟩);go_wp2_with fail;go_quiet ((go_at_call 163;exact Calls.quiet_of_same (Dm.out _)));go_wp2
         go_ret
         exact⟨aS HR.out.symm,bC CG.out (aa CL.out _)⟩
       ·obtain rfl:k=rl.length:=(by omega);have Oa:=aH (JW.out HL.out);have GH:=aH (C6.out EZ.out Oa.out);rw[List.take_length]at t1 t2⊢;clear JW GX HL C5 C6 FR;generalize hs:bj rl=t at *;clear hs;by_cases hs:384<s
        ·have HF:=aH (GH.out.trans (if_pos (.inl hs)));clear GH;go_wp2
         go_ret
         exact⟨aS HF.out.symm,bC CG.out CL.out⟩
        ·by_cases ht:384<t
         ·have HF:=aH (GH.out.trans (if_pos (.inr ht)));clear GH;go_wp2
          go_ret
          exact⟨aS HF.out.symm,bC CG.out CL.out⟩
         ·have HF:=aH (GH.out.trans (if_neg (by omega)));clear GH;go_wp2
          go_ret
          exact⟨aS HF.out.symm,bC CG.out CL.out⟩
  ·obtain rfl:=B2.out hz h1;clear B1 B2 B3 B4 B5 B6 hz;by_cases a1:arms<1
   ·clear h1;go_enter func103,ntmps103;go_wp2_with fail;rw[←hw0];clear hw0;refine HK.out.mono ?_;rintro e w' ⟨rfl,d,rfl⟩;go_wp2
    go_ret
    exact⟨rfl,aa CG.out _⟩
   ·have a2:8<arms:=(by omega);clear h1;go_enter func103,ntmps103;go_wp2_with fail;rw[←hw0];clear hw0;refine HK.out.mono ?_;rintro e w' ⟨rfl,d,rfl⟩;go_wp2
    go_ret
    exact⟨rfl,aa CG.out _⟩
 ·obtain rfl:=B1.out hz;have GB:(aZ bl != 0)=true:=by rw[bne_iff_ne];exact hz
  clear B1 B2 B3 B4 B5 B6 hz;generalize aZ bl=c at *;go_enter func103,ntmps103;go_wp2_with fail;rw[←hw0];clear hw0;refine HK.out.mono ?_;rintro e w' ⟨rfl,d,rfl⟩;go_wp2
  go_ret
  exact⟨rfl,aa CG.out _⟩
def cH (u:Q4) (i:Nat):Q4:=⟨u.a,u.b,((i/u.d.toNat:Nat):Int),((i%u.d.toNat:Nat):Int)⟩
def co (u:Q4):Nat:=u.c.toNat*u.d.toNat
def aw (u:Q4):List Q4:=(List.range (co u)).map (cH u)
noncomputable def aE (l:List Pl) (i:Nat):Q4:=⟨1,i,(l.getD i KP.dflt).rows,(l.getD i KP.dflt).cols⟩
noncomputable def ba (l:List Rk) (i:Nat):Q4:=⟨2,i,(l.getD i KR.dflt).rows,(l.getD i KR.dflt).cols⟩
def bT (i:Nat):Q4:=⟨3,i,1,1⟩
noncomputable def bD (d:Dk):List Q4:=(List.range d.pl.length).map (aE d.pl)++(List.range d.rl.length).map (ba d.rl)++(List.range (d.bl.length-1)).map bT
def ar (us:List Q4):List Q4:=us.flatMap aw
noncomputable def bM (d:Dk):List Q4:=ar (bD d)
def pg (u:Q4):Prop:=(u.a=1∨u.a=2∨u.a=3)∧0≤u.b∧u.b≤23∧bG u.c u.d=true
theorem cK {u:Q4} (h:pg u):1≤u.c.toNat∧1≤u.d.toNat∧u.c=(u.c.toNat:Int)∧u.d=(u.d.toNat:Int)∧u.c*u.d=(co u:Int)∧1≤co u∧co u≤1536:=by
 obtain⟨h1,h2,h3,h4⟩:=dP h.2.2.2;obtain⟨m1,m2⟩:=bB h.2.2.2;have e1:u.c=(u.c.toNat:Int):=by omega
 have e2:u.d=(u.d.toNat:Int):=by omega
 have e3:u.c*u.d=(co u:Int):=by
  unfold co;rw[Int.natCast_mul,←e1,←e2]
 refine⟨by omega,by omega,e1,e2,e3,by omega,by omega⟩
theorem bx (u:Q4):(aw u).length=co u:=by unfold aw;simp
theorem gu (u:Q4) (us:List Q4):ar (u::us)=aw u++ar us:=rfl
def fB:List Q4→Int→Q4×Int
 |[],_=>(⟨0,0,0,0⟩,3)
 |u::us,left=>if left<0 then(⟨0,0,0,0⟩,3)else if left<u.c*u.d then(⟨u.a,u.b,left/u.d,left%u.d⟩,0)else fB us (left-u.c*u.d)
def eK (l:List Q4) (id:Int):Q4×Int:=if id<0∨(l.length:Int)≤id then(⟨0,0,0,0⟩,3)else(l.getD id.toNat ⟨0,0,0,0⟩,0)
theorem vT (us:List Q4) (h:∀u∈us,pg u):∀id:Int,fB us id=eK (ar us) id:=by
 induction us with
 |nil=>
  intro id;unfold fB eK ar;rw[if_pos (by simp;omega)]
 |cons u us ih=>
  intro id;obtain⟨p1,p2,p3,p4,p5,p6,p7⟩:=cK (h u (by simp));rw[fB];by_cases h0:id<0
  ·rw[if_pos h0];unfold eK;rw[if_pos (.inl h0)]
  rw[if_neg h0,p5,gu];have hl:(aw u++ar us).length=co u+(ar us).length:=by rw[List.length_append,bx]
  by_cases h1:id<(co u:Int)
  ·rw[if_pos h1];obtain⟨i,rfl⟩:∃i:Nat,id=(i:Int):=⟨id.toNat,by omega⟩;unfold eK;rw[hl,if_neg (by omega),Int.toNat_natCast,List.getD_eq_getElem?_getD,List.getElem?_append_left (by rw[bx];omega)];unfold aw;rw[List.getElem?_map,List.getElem?_range (by omega)];simp only[Option.map_some,Option.getD_some];unfold cH;rw[Int.natCast_ediv,Int.natCast_emod,←p4]
  ·rw[if_neg h1,ih (fun u hu=>h u (by simp[hu]))];unfold eK;rw[hl];by_cases h2:((ar us).length:Int)≤id-co u
   ·rw[if_pos (.inr h2),if_pos (.inr (by omega))]
   ·rw[if_neg (by omega),if_neg (by omega)]
    congr 1
    rw[List.getD_eq_getElem?_getD,List.getD_eq_getElem?_getD,List.getElem?_append_right (by rw[bx];omega),bx]
    congr 2
    omega
def bZ (k:Int) (l:List Q4):Int:=((l.filter fun p=>p.a==k).length:Int)
theorem dz (k:Int) (l m:List Q4):bZ k (l++m)=bZ k l+bZ k m:=by
 unfold bZ;rw[List.filter_append,List.length_append,Int.natCast_add]
theorem tN (k:Int) (u:Q4):bZ k (aw u)=if u.a=k then(co u:Int)else 0:=by
 unfold bZ aw;rw[List.filter_map,List.length_map];by_cases h:u.a=k
 ·rw[if_pos h,List.filter_eq_self.2 (fun i _=>by simp[cH,h]),List.length_range]
 ·rw[if_neg h,List.filter_eq_nil_iff.2 (fun i _=>by simp[cH,h])];rfl
abbrev Q4.v (u:Q4):Value:=.agg #[.int .i64 u.a,.int .i64 u.b,.int .i64 u.c,.int .i64 u.d]
theorem fQ (u:Q4) (hu:pg u) (w:World):Calls prog 242 #[u.v] w fun e w'=>e=.returned (.int .i64 (u.c*u.d))∧Bw w w':=by
 obtain⟨m1,m2⟩:=bB hu.2.2.2;clear hu;go_enter func242,ntmps242;go_wp2
 go_ret
 exact⟨aS (by first|rfl|omega),bL (bR _ _) _⟩
end Go.Proofs.YtmecohdedghiaaaGreatDoor
