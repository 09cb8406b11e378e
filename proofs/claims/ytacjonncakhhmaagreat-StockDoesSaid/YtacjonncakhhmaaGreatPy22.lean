/- Stocks: are sums right, as the program tells it? -/
import Derived.Test.YtacjonncakhhmaaGreatPy00
import Derived.Test.YtacjonncakhhmaaGreatPy17
import Derived.Test.YtacjonncakhhmaaGreatPy21
import Derived.Test.YtacjonncakhhmaaGreatPy10
set_option maxRecDepth 100000
set_option maxHeartbeats 8000000
namespace Go.Proofs.YtacjonncakhhmaaGreat
open Go.RowKit
def flowB (n:Int):Bool:=decide (0≤n)&&decide (n≤1152921504606846976)
theorem isFlow_any (n:Int) (w:World):Calls Tryz.prog 63 #[.int .i64 n] w fun e w'=>e=.returned (.bool (flowB n))∧w=w':=by
 have e:flowB n=(decide (0≤n)&&decide (n≤1152921504606846976)):=rfl;by_cases h:0≤n <;> by_cases h2:n≤1152921504606846976 <;> simp[h,h2]at e <;> rw[e] <;> go_enter Tryz.func63,Tryz.ntmps63 <;> go_wp2 <;> go_ret <;> exact⟨rfl,rfl⟩
theorem isP_and (d:Dk) (k id:Int) (q:Q4) (er:Int) (h:partV d id=(q,er)):isP d k id=(decide (er=0)&&decide (q.a=k)):=by unfold isP;rw[h]
theorem isPart_any (d:Dk) (k id:Int) (hid:fits id) (w:World) (hd:d.In w w.heap.size):Calls Tryz.prog 36 #[d.v,.int .i64 k,.int .i64 id] w fun e w'=>e=.returned (.bool (isP d k id))∧Below w.heap.size w w':=by
 obtain⟨w0,hw0⟩:∃w0,w0=w.alloc (.cells #[.slice d.bA d.bn d.bc,.slice d.pA d.pn d.pc,.slice d.rA d.rn d.rc,.int .i64 d.arms] 26):=⟨_,rfl⟩;have HB0:=aH (show Below w.heap.size w w0 by rw[hw0];exact bL (bR _ _) _);have HD0:=aH (hd.then HB0.out);have HK0:=aH (show DkAt w0 w.heap.size d by rw[hw0];exact Cells4.new w _ _ _ _ _);have HP:=aH (fun w h=>part_any d id hid w h);obtain⟨t,ht⟩:∃t,partV d id=t:=⟨_,rfl⟩;rw[ht]at HP;obtain⟨q,er⟩:=t;have e:=isP_and d k id q er ht;rw[e];clear e ht hd;obtain⟨qa,qb,qc,qd⟩:=q;unfold partVal at HP;dsimp only at HP⊢;go_enter Tryz.func36,Tryz.ntmps36;go_wp2_with fail;rw[←hw0];clear hw0;refine(HP.out _ HD0.out).mono ?_;rintro e w1 ⟨rfl,hb1⟩;have HB1:=aH (bC HB0.out hb1);clear hb1;by_cases h0:er=0
 ·subst h0;by_cases h1:qa=k
  ·go_wp2
   go_ret
   exact⟨ret_b (by simp),by first | exact bL HB1.out _ | (exact bL (bL HB1.out _) _)⟩
  ·go_wp2
   go_ret
   exact⟨ret_b (by simp[h1]),by first | exact bL HB1.out _ | (exact bL (bL HB1.out _) _)⟩
 ·have h0':(er==0)=false:=by simpa using h0
  have h0'':=h0;clear h0;go_wp2
  go_ret
  exact⟨ret_b (by simp[h0'']),by first | exact bL HB1.out _ | (exact bL (bL HB1.out _) _)⟩
theorem well_any (s:Stk) (id:Int) (w:World):Calls Tryz.prog 52 #[s.v,.int .i64 id] w fun e w'=>e=.returned (.bool (decide (0≤id∧id<s.cl.length)))∧Below w.heap.size w w':=by
 obtain⟨cA,cc,cl,lA,lc,ll,tA,tc,tl,st,inn,out⟩:=s;dsimp only;by_cases h0:0≤id
 ·by_cases h1:id<cl.length
  all_goals
   go_enter Tryz.func52,Tryz.ntmps52;go_wp2
   go_ret
   exact⟨ret_b (by simp[h0,h1]),bL (bR _ _) _⟩
 ·go_enter Tryz.func52,Tryz.ntmps52;go_wp2
  go_ret
  exact⟨ret_b (by simp;omega),bL (bR _ _) _⟩
theorem rzcheck_any (d:Dk) (w:World) (hd:d.In w w.heap.size):Calls Tryz.prog 110 #[d.v] w fun e w'=>e=.returned (.int .i64 (zchk d))∧Below w.heap.size w w':=by
 obtain⟨w0,hw0⟩:∃w0,w0=w.alloc (.cells #[.slice d.bA d.bn d.bc,.slice d.pA d.pn d.pc,.slice d.rA d.rn d.rc,.int .i64 d.arms] 26):=⟨_,rfl⟩;have HB0:=aH (show Below w.heap.size w w0 by rw[hw0];exact bL (bR _ _) _);have HD0:=aH (hd.then HB0.out);have HT:=aH (fun w h=>rtable_any d w h);clear hd;go_enter Tryz.func110,Tryz.ntmps110;go_wp2_with fail;rw[←hw0];clear hw0;refine(HT.out _ HD0.out).mono ?_;rintro e w1 ⟨v,rfl,_,hb1⟩;go_wp2
 go_ret
 exact⟨rfl,bC HB0.out hb1⟩
def hbB (xs:List (Int×Int)) (i:Nat) (b:Int):Bool:=(xs.take i).any fun q=>q.1==2&&q.2==b
def okT (xs:List (Int×Int)) (arms:Int) (i:Nat):Bool:=!(Tp.ofV (xs.getD i (0,0)).1 (xs.getD i (0,0)).2==0)&&decide ((xs.getD i (0,0)).2≤arms)&& !hbB xs i (xs.getD i (0,0)).2
def rtB (xs:List (Int×Int)) (arms:Int):Bool:=(List.range xs.length).all (okT xs arms)
theorem rt_no {xs:List (Int×Int)} {arms:Int} (k:Nat) (hk:k<xs.length) (h:okT xs arms k=false):rtB xs arms=false:=by
 unfold rtB;rw[←Bool.not_eq_true,List.all_eq_true];intro hh;rw[hh k (List.mem_range.2 hk)]at h
 cases h
theorem rt_yes {xs:List (Int×Int)} {arms:Int} (h:∀k,k<xs.length→okT xs arms k=true):rtB xs arms=true:=by
 unfold rtB;rw[List.all_eq_true];exact fun k hk=>h k (List.mem_range.1 hk)
theorem hb_snoc (xs:List (Int×Int)) (i:Nat) (h:i<xs.length) (b:Int):hbB xs (i+1) b=(hbB xs i b||((xs.getD i (0,0)).1==2&&(xs.getD i (0,0)).2==b)):=by
 unfold hbB;rw[take_snoc xs i (0,0) h,List.any_append];simp
theorem ofV_by {s b:Int} (h:¬Tp.ofV s b=0):0≤b∧b≤8∧(s=2→1≤b)∧(s≠2→b=0):=by
 unfold Tp.ofV at h;by_cases h1:(s=1∨s=3)∧b=0
 ·omega
 ·rw[if_neg h1]at h;by_cases h2:s=2∧1≤b∧b≤8
  ·omega
  ·rw[if_neg h2]at h;exact absurd rfl h
theorem hb_zero (xs:List (Int×Int)) (arms:Int):∀i,i≤xs.length→(∀j,j<i→okT xs arms j=true)→hbB xs i 0=false:=by
 intro i
 induction i with
 | zero=>intro _ _;rfl
 | succ i ih=>
  intro hi h;rw[hb_snoc xs i (by omega),ih (by omega) (fun j hj=>h j (by omega)),Bool.false_or];have:=h i (by omega);unfold okT at this;rw[Bool.and_eq_true,Bool.and_eq_true]at this;have h0:¬Tp.ofV (xs.getD i (0,0)).1 (xs.getD i (0,0)).2=0:=by simpa using this.1.1
  have h2:=ofV_by h0;rw[←Bool.not_eq_true,Bool.and_eq_true,beq_iff_eq,beq_iff_eq];rintro⟨e1,e2⟩;have:=h2.2.2.1 e1;omega
theorem rightTips_any (v:Value) (xs:List (Int×Int)) (arms:Int) (w:World) (hv:KT.IsL w w.heap.size v xs):Calls Tryz.prog 28 #[v,.int .i64 arms] w fun e w'=>e=.returned (.bool (rtB xs arms))∧Below w.heap.size w w':=by
 obtain⟨A,c,rfl,hc⟩:=hv.shape;have HV:=aH hv;have hl:=hv.2.2;clear hv;have HNO:=aH (fun k h1 h2=>@rt_no xs arms k h1 h2);have HYES:=aH (fun h=>@rt_yes xs arms h);obtain⟨w0,hw0⟩:∃w0,w0=w.alloc (.cells #[.bool false,.bool false,.bool false,.bool false,.bool false,.bool false,.bool false,.bool false,.bool false] 102):=⟨_,rfl⟩;have HB0:=aH (show Below w.heap.size w w0 by rw[hw0];exact bL (bR _ _) _);have HF0:=aH (show ∀x:Nat,x≤8→w0.cell? ⟨w.heap.size,x,none⟩=some (.bool (hbB xs 0 x))∧w0.frozen? ⟨w.heap.size,x,none⟩=false from fun x hx=>by
  rw[hw0];refine⟨?_,by simp⟩;rw[alloc_at]
  match x,hx with
  | 0,_=>rfl
  | 1,_=>rfl
  | 2,_=>rfl
  | 3,_=>rfl
  | 4,_=>rfl
  | 5,_=>rfl
  | 6,_=>rfl
  | 7,_=>rfl
  | 8,_=>rfl)
 have HSZ:=aH (show w.heap.size<w0.heap.size by rw[hw0];simp);go_enter Tryz.func28,Tryz.ntmps28;go_wp2;rw[←hw0];clear hw0
 go_loopw [10] (fun i wr=>∃k:Nat,i=.int .i64 k∧k≤xs.length∧Hid (∀j,j<k→okT xs arms j=true)∧Hid (∀x:Nat,x≤8→wr.cell? ⟨w.heap.size,x,none⟩=some (.bool (hbB xs k x))∧wr.frozen? ⟨w.heap.size,x,none⟩=false)∧Hid (Below w.heap.size w wr)) (fun i _=>xs.length - (intOf i).toNat)
 case atStart=>exact⟨0,rfl,Nat.zero_le _,aH (fun j hj=>absurd hj (Nat.not_lt_zero _)),HF0,HB0⟩
 case round=>
  obtain⟨k,rfl,hk,hok,hf,hb⟩:=hrel;have HOK:=aH hok.out;have HF:=aH hf.out;have HBR:=aH hb.out;clear hok hf hb;by_cases hlt:k<xs.length
  ·obtain⟨b,off,rfl,hb,hbc,hcell⟩:=tip_cells (HV.out.then HBR.out) (by omega);obtain⟨e1,e2⟩:=hcell k hlt;have HSN:=aH (hb_snoc xs k hlt);have HKO:=aH (show okT xs arms k=(!(Tp.ofV (xs.getD k (0,0)).1 (xs.getD k (0,0)).2==0)&&decide ((xs.getD k (0,0)).2≤arms)&& !hbB xs k (xs.getD k (0,0)).2)from rfl);have HZ:=aH (hb_zero xs arms k (by omega) HOK.out);have HNOk:=aH (HNO.out k hlt);clear hcell;generalize xs.getD k (0,0)=t at *;obtain⟨t1,t2⟩:=t;dsimp only at *;have HRT:=aH (fun w=>Tp.right_any t1 t2 w);have HBY:=aH (fun h=>@ofV_by t1 t2 h);have hba:=bL (bR wr.heap.size wr) (.cells #[.int .i64 t1,.int .i64 t2] 68);have hw0l:w.heap.size<wr.heap.size:=wB _ _ (HF.out 0 (by omega)).1;have HW0:=aH hw0l;go_wp2_with fail;have c1:(wr.alloc (.cells #[.int .i64 t1,.int .i64 t2] 68)).cell? ⟨wr.heap.size,0,none⟩=some (.int .i64 t1):=by simp[go_sem]
   have c2:(wr.alloc (.cells #[.int .i64 t1,.int .i64 t2] 68)).cell? ⟨wr.heap.size,1,none⟩=some (.int .i64 t2):=by simp[go_sem]
   generalize wr.alloc (.cells #[.int .i64 t1,.int .i64 t2] 68)=V at *;refine(HRT.out _).mono ?_;rintro e V2 ⟨rfl,hb2⟩;have c1:=kK hb2 c1;have c2:=kK hb2 c2;have hbb:=bC hba hb2;have HB2:=aH (bC HBR.out hbb);have HF2:=aH (show ∀x:Nat,x≤8→V2.cell? ⟨w.heap.size,x,none⟩=some (.bool (hbB xs k x))∧V2.frozen? ⟨w.heap.size,x,none⟩=false from fun x hx=>⟨kK hbb (HF.out x hx).1,by rw[hbb.frozen (p:=⟨w.heap.size,x,none⟩) HW0.out];exact(HF.out x hx).2⟩);clear hba hb2 hbb e1 e2 hw0l;by_cases h0:Tp.ofV t1 t2=0
   ·have hno:okT xs arms k=false:=by rw[HKO.out,show(Tp.ofV t1 t2==0)=true by simpa using h0];rfl
    have HR:=aH (HNOk.out hno);have hz:(Tp.ofV t1 t2==0)=true:=by simpa using h0
    clear h0 hno;rw[hz];go_wp2
    go_ret
    exact⟨by rw[HR.out];rfl,HB2.out⟩
   ·obtain⟨b0,b8,b2,bn⟩:=HBY.out h0;have hz:(Tp.ofV t1 t2==0)=false:=by simpa using h0
    clear h0;rw[hz]at HKO⊢;by_cases harm:t2≤arms
    ·obtain⟨x,rfl⟩:=Int.eq_ofNat_of_zero_le b0;obtain⟨fx,zx⟩:=HF2.out x (by omega);rw[dT harm]at HKO;have HQ:=aH (show hbB xs (k+1) x=(hbB xs k x||(t1==2))from by rw[HSN.out];simp);have HQ2:=aH (show ∀y:Nat,y≠x→hbB xs (k+1) y=hbB xs k y from fun y hy=>by rw[HSN.out,show((x:Int)==(y:Int))=false by simp;omega];simp);have HZ2:=aH (show t1≠2→hbB xs k x=false from fun h=>by have e:=bn h;rw[e];exact HZ.out);have HQX:=aH (show hbB xs k (x:Int)=hbB xs k x from rfl);obtain⟨q,hq⟩:∃q,hbB xs k (x:Int)=q:=⟨_,rfl⟩;rw[hq]at fx HKO HQ HZ2;have HQQ:=aH hq;clear hq;have hx9:(x:Int)<9:=by omega
     clear b2 bn
     cases q
     ·have hyes:okT xs arms k=true:=by rw[HKO.out];rfl
      have HY:=aH hyes;clear hyes;go_wp2
      go_roundw
      case rel=>
       refine⟨k+1,num_i (by omega),by omega,aH (fun j hj=>?_),aH (fun y hy=>?_),aH (HB2.out.setCell (nR _) _)⟩
       ·by_cases h:j=k
        ·subst h;exact HY.out
        ·exact HOK.out j (by omega)
       ·by_cases h:y=x
        ·subst h;refine⟨?_,sF (HF2.out y hy).2⟩;rw[HQ.out,Bool.false_or];exact st_same fx
        ·refine⟨?_,sF (HF2.out y hy).2⟩;rw[HQ2.out y h];exact sO (HF2.out y hy).1 (aN (.inr (fun e=>h e.symm)))
      case measure=>simp[intOf];omega
     ·have hno:okT xs arms k=false:=by rw[HKO.out];rfl
      have HR:=aH (HNOk.out hno);clear hno;go_wp2
      go_ret
      exact⟨by rw[HR.out];rfl,HB2.out⟩
    ·have hno:okT xs arms k=false:=by rw[HKO.out,dF harm];rfl
     have HR:=aH (HNOk.out hno);clear hno;have harm':arms<t2:=by omega
     clear harm;go_wp2
     go_ret
     exact⟨by rw[HR.out];rfl,HB2.out⟩
  ·obtain rfl:k=xs.length:=by omega
   have HR:=aH (HYES.out HOK.out);go_wp2
   go_ret
   exact⟨by rw[HR.out];rfl,HBR.out⟩
def rsB (a f:Ab):Bool:=decide (a.st=f.st)&&flowB a.inn&&flowB a.out&&decide (fitV (Two.sumL (volS a.c))=Go.RowKit.wrap64 (Go.RowKit.wrap64 (a.st+a.inn) - a.out))
theorem rightSums_any (s f:Stk) (w:World) (hs:s.In w w.heap.size) (hl:s.cl.length≤100000):Calls Tryz.prog 29 #[s.v,f.v] w fun e w'=>e=.returned (.bool (rsB s.ab f.ab))∧Below w.heap.size w w':=by
 obtain⟨w0,hw0⟩:∃w0,w0=(w.alloc (.cells #[.slice s.cA s.cl.length s.cc,.slice s.lA s.ll.length s.lc,.slice s.tA s.tl.length s.tc,.int .i64 s.st,.int .i64 s.inn,.int .i64 s.out] 31)).alloc (.cells #[.slice f.cA f.cl.length f.cc,.slice f.lA f.ll.length f.lc,.slice f.tA f.tl.length f.tc,.int .i64 f.st,.int .i64 f.inn,.int .i64 f.out] 31):=⟨_,rfl⟩;have HB0:=aH (show Below w.heap.size w w0 by rw[hw0];exact bL (bL (bR _ _) _) _);have HS0:=aH (hs.then HB0.out);have HS1:=aH (show SkAt w0 w.heap.size s by rw[hw0];exact(Cells6.new w _ _ _ _ _ _ _).below (bL (bR _ _) _));have HF1:=aH (show SkAt w0 (w.heap.size+1) f by
  have h:=Cells6.new (w.alloc (.cells #[.slice s.cA s.cl.length s.cc,.slice s.lA s.ll.length s.lc,.slice s.tA s.tl.length s.tc,.int .i64 s.st,.int .i64 s.inn,.int .i64 s.out] 31)) 31 (.slice f.cA f.cl.length f.cc) (.slice f.lA f.ll.length f.lc) (.slice f.tA f.tl.length f.tc) (.int .i64 f.st) (.int .i64 f.inn) (.int .i64 f.out);rw[←hw0,show(w.alloc (.cells #[.slice s.cA s.cl.length s.cc,.slice s.lA s.ll.length s.lc,.slice s.tA s.tl.length s.tc,.int .i64 s.st,.int .i64 s.inn,.int .i64 s.out] 31)).heap.size=w.heap.size+1 by simp]at h;exact h)
 have HFL:=aH (fun n w=>isFlow_any n w);have HT:=aH (fun w h=>total_any s w h hl);have HE:=aH (show rsB s.ab f.ab=(decide (s.st=f.st)&&flowB s.inn&&flowB s.out&&decide (fitV (Two.sumL (volS s.cl))=Go.RowKit.wrap64 (Go.RowKit.wrap64 (s.st+s.inn) - s.out)))from rfl);generalize hr:rsB s.ab f.ab=r at *;clear hr hs;have HT:=aH (show ∀w,s.In w w.heap.size→Calls Tryz.prog 14 #[s.v] w fun e w'=>e=.returned (totV s.cl)∧Below w.heap.size w w' from HT.out);obtain⟨fT,hfT⟩:∃x,fitV (Two.sumL (volS s.cl))=x:=⟨_,rfl⟩;obtain⟨fX,hfX⟩:∃x,fitE (Two.sumL (volS s.cl))=x:=⟨_,rfl⟩;unfold totV at HT;rw[hfT]at HT HE;rw[hfX]at HT;clear hfT hfX;obtain⟨cA,cc,cl,lA,lc,ll,tA,tc,tl,st,inn,out⟩:=s;obtain⟨cA2,cc2,cl2,lA2,lc2,ll2,tA2,tc2,tl2,st2,inn2,out2⟩:=f;dsimp only at *;obtain⟨g0,g1,g2,g3,g4,g5,_⟩:=HS1.out;obtain⟨f0,f1,f2,f3,f4,f5,_⟩:=HF1.out;dsimp only at g0 g1 g2 g3 g4 g5 f0 f1 f2 f3 f4 f5;rw[hw0]at g0 g1 g2 g3 g4 g5 f0 f1 f2 f3 f4 f5;by_cases h1:st=st2
 case neg=>
  have hr:r=false:=by rw[HE.out,dF h1];rfl
  subst hr;have h1':(st != st2)=true:=by simpa using h1
  clear h1;go_enter Tryz.func29,Tryz.ntmps29;go_wp2
  go_ret
  exact⟨rfl,by rw[←hw0];exact HB0.out⟩
 subst h1;rw[show decide (st=st)=true from dT rfl,Bool.true_and]at HE;obtain⟨q1,hq1⟩:∃q,flowB inn=q:=⟨_,rfl⟩;obtain⟨q2,hq2⟩:∃q,flowB out=q:=⟨_,rfl⟩;have HF4:=aH (fun w=>HFL.out inn w);have HF5:=aH (fun w=>HFL.out out w);rw[hq1]at HE HF4;rw[hq2]at HE HF5;clear hq1 hq2 HFL
 cases q1
 ·have hr:r=false:=by rw[HE.out];rfl
  subst hr;go_enter Tryz.func29,Tryz.ntmps29;go_wp2_with fail;rw[←hw0];clear hw0;refine(HF4.out _).mono ?_;rintro e wz ⟨rfl,rfl⟩;go_wp2
  go_ret
  exact⟨rfl,HB0.out⟩
 cases q2
 ·have hr:r=false:=by rw[HE.out];rfl
  subst hr;go_enter Tryz.func29,Tryz.ntmps29;go_wp2_with fail;rw[←hw0]at *;clear hw0;refine(HF4.out _).mono ?_;rintro e wz ⟨rfl,rfl⟩;go_wp2_with fail;refine(HF5.out _).mono ?_;rintro e wz ⟨rfl,rfl⟩;go_wp2
  go_ret
  exact⟨rfl,HB0.out⟩
 rw[Bool.true_and,Bool.true_and]at HE;go_enter Tryz.func29,Tryz.ntmps29;go_wp2_with fail;rw[←hw0]at *;clear hw0;refine(HF4.out _).mono ?_;rintro e wz ⟨rfl,rfl⟩;go_wp2_with fail;refine(HF5.out _).mono ?_;rintro e wz ⟨rfl,rfl⟩;go_wp2_with fail;refine(HT.out _ HS0.out).mono ?_;rintro e w1 ⟨rfl,hb1⟩;have g3:=kK hb1 g3;have g4:=kK hb1 g4;have g5:=kK hb1 g5;have HB1:=aH (bC HB0.out hb1);clear hb1;go_wp2
 go_ret
 refine⟨?_,HB1.out⟩;rw[HE.out];exact ret_b (by rw[Bool.eq_iff_iff];simp)
end Go.Proofs.YtacjonncakhhmaaGreat
