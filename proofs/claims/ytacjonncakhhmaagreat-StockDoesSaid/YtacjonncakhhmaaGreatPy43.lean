/- Stocks: a hand, by the reference. -/
import Derived.Test.YtacjonncakhhmaaGreatPy00
import Derived.Test.YtacjonncakhhmaaGreatPy06
import Derived.Test.YtacjonncakhhmaaGreatPy34
import Derived.Test.YtacjonncakhhmaaGreatPy38
set_option maxRecDepth 100000
set_option maxHeartbeats 8000000
namespace Go.Proofs.YtacjonncakhhmaaGreat.Tp
open Go.RowKit
theorem rtake_any (s b a:Int) (w:World):Calls Tryz.prog 58 #[tpV s b,.int .i64 a] w fun e w'=>e=.returned (tpE (tkV s b a) (tkE s b a))∧Below w.heap.size w w':=by
 have HR:=aH (fun w=>rright_any s b w);have HA:=aH (fun w=>rarm_any a w);by_cases h0:ofV s b=0
 ·have T:tkE s b a=120:=by unfold tkE;rw[if_pos h0]
  have U:tkV s b a=(0,0):=by unfold tkV;rw[T];rfl
  rw[T,U];rw[show(!(ofV s b==0))=false by simp[h0]]at HR;clear T U h0;go_enter Tryz.func58,Tryz.ntmps58;go_wp2_with fail;refine(HR.out _).mono ?_;rintro e w1 ⟨rfl,hb1⟩;obtain⟨hc1,hf1⟩:=bcell hb1;have HB1:=aH hb1;have hz1_0:w.heap.size<w1.heap.size:=by(have:=hb1.size;(try simp at this) <;> omega)
  have hz1_1:w.heap.size+1<w1.heap.size:=by(have:=hb1.size;(try simp at this) <;> omega)
  clear hb1;go_wp2;refine bP (v:=.tuple #[.agg #[.int .i64 0,.int .i64 0],.int .i64 120]) (by simp[results,Tryz.results58,go_sem,hc1]) rfl ⟨rfl,?_⟩
  (repeat (first | exact bR _ _ | (with_reducible refine bS ?_ (by simp <;> omega)) | (with_reducible refine bL ?_ _) | (with_reducible refine bC ?_ HB1.out)))
 ·rw[show(!(ofV s b==0))=true by simp[h0]]at HR;have hs:ofV s b=s:=(of_cases s b).resolve_left h0;by_cases h1:armB a=false
  ·have T:tkE s b a=1:=by unfold tkE;rw[if_neg h0,if_pos h1]
   have U:tkV s b a=(0,0):=by unfold tkV;rw[T];rfl
   rw[T,U];rw[h1]at HA;clear T U h0 h1 hs;go_enter Tryz.func58,Tryz.ntmps58;go_wp2_with fail;refine(HR.out _).mono ?_;rintro e w1 ⟨rfl,hb1⟩;obtain⟨hc1,hf1⟩:=bcell hb1;have HB1:=aH hb1;have hz1_0:w.heap.size<w1.heap.size:=by(have:=hb1.size;(try simp at this) <;> omega)
   have hz1_1:w.heap.size+1<w1.heap.size:=by(have:=hb1.size;(try simp at this) <;> omega)
   clear hb1;go_wp2_with fail;refine(HA.out _).mono ?_;rintro e w2 ⟨rfl,rfl⟩;go_wp2;refine bP (v:=.tuple #[.agg #[.int .i64 0,.int .i64 0],.int .i64 1]) (by simp[results,Tryz.results58,go_sem,hc1]) rfl ⟨rfl,?_⟩
   (repeat (first | exact bR _ _ | (with_reducible refine bS ?_ (by simp <;> omega)) | (with_reducible refine bL ?_ _) | (with_reducible refine bC ?_ HB1.out)))
  ·rw[show armB a=true by simpa using h1]at HA;by_cases h2:s=1
   ·have T:tkE s b a=0:=by unfold tkE;rw[if_neg h0,if_neg h1,if_pos (hs.trans h2)]
    have U:tkV s b a=(2,a):=by unfold tkV;rw[if_pos T]
    rw[T,U];clear T U h0 h1 hs;subst h2;go_enter Tryz.func58,Tryz.ntmps58;go_wp2_with fail;refine(HR.out _).mono ?_;rintro e w1 ⟨rfl,hb1⟩;obtain⟨hc1,hf1⟩:=bcell hb1;have HB1:=aH hb1;have hz1_0:w.heap.size<w1.heap.size:=by(have:=hb1.size;(try simp at this) <;> omega)
    have hz1_1:w.heap.size+1<w1.heap.size:=by(have:=hb1.size;(try simp at this) <;> omega)
    clear hb1;go_wp2_with fail;refine(HA.out _).mono ?_;rintro e w2 ⟨rfl,rfl⟩;go_wp2;refine bP (v:=.tuple #[.agg #[.int .i64 2,.int .i64 a],.int .i64 0]) (by simp[results,Tryz.results58,go_sem,hc1]) rfl ⟨rfl,?_⟩
    (repeat (first | exact bR _ _ | (with_reducible refine bS ?_ (by simp <;> omega)) | (with_reducible refine bL ?_ _) | (with_reducible refine bC ?_ HB1.out)))
   ·have T:tkE s b a=121:=by unfold tkE;rw[if_neg h0,if_neg h1,if_neg (by rw[hs];exact h2)]
    have U:tkV s b a=(0,0):=by unfold tkV;rw[T];rfl
    rw[T,U];clear T U h0 h1 hs;go_enter Tryz.func58,Tryz.ntmps58;go_wp2_with fail;refine(HR.out _).mono ?_;rintro e w1 ⟨rfl,hb1⟩;obtain⟨hc1,hf1⟩:=bcell hb1;have HB1:=aH hb1;have hz1_0:w.heap.size<w1.heap.size:=by(have:=hb1.size;(try simp at this) <;> omega)
    have hz1_1:w.heap.size+1<w1.heap.size:=by(have:=hb1.size;(try simp at this) <;> omega)
    clear hb1;go_wp2_with fail;refine(HA.out _).mono ?_;rintro e w2 ⟨rfl,rfl⟩;go_wp2;refine bP (v:=.tuple #[.agg #[.int .i64 0,.int .i64 0],.int .i64 121]) (by simp[results,Tryz.results58,go_sem,hc1]) rfl ⟨rfl,?_⟩
    (repeat (first | exact bR _ _ | (with_reducible refine bS ?_ (by simp <;> omega)) | (with_reducible refine bL ?_ _) | (with_reducible refine bC ?_ HB1.out)))
end Go.Proofs.YtacjonncakhhmaaGreat.Tp
namespace Go.Proofs.YtacjonncakhhmaaGreat
open Go.RowKit
def rhP (xs:List (Int×Int)) (b':Int) (i:Nat):Bool:=(xs.getD i (0,0)).1==2&&(xs.getD i (0,0)).2==b'
def rhV (xs:List (Int×Int)) (b':Int):Int:=if (Tp.fstV (rhP xs b') xs.length).2=true then(Tp.fstV (rhP xs b') xs.length).1 else -1
theorem rh_hit {xs:List (Int×Int)} {b':Int} {k:Nat} (hk:k<xs.length) (h:rhP xs b' k=true) (hn:∀j,j<k→rhP xs b' j=false):rhV xs b'=k:=by
 unfold rhV;rw[Tp.fst_hit _ _ _ hk h hn,if_pos rfl]
theorem rh_none {xs:List (Int×Int)} {b':Int} (hn:∀j,j<xs.length→rhP xs b' j=false):rhV xs b'= -1:=by
 unfold rhV;rw[Tp.fst_none _ _ hn,if_neg (by simp)]
theorem fst_same (p q:Nat→Bool) (n:Nat) (h:∀i,i<n→p i=q i):Tp.fstV p n=Tp.fstV q n:=by
 by_cases he:∃i,i<n∧p i=true
 ·obtain⟨i,hi,hp⟩:=he;obtain⟨m,hm,hmin⟩:∃m,(m<n∧p m=true)∧∀j,j<m→¬(j<n∧p j=true):=by
   induction i using Nat.strongRecOn with
   | ind i ih=>
    by_cases hj:∃j,j<i∧(j<n∧p j=true)
    ·obtain⟨j,h1,h2,h3⟩:=hj;exact ih j h1 h2 h3
    ·exact⟨i,⟨hi,hp⟩,fun j h1 h2=>hj ⟨j,h1,h2⟩⟩
  have hf:∀j,j<m→p j=false:=fun j hj=>by
   cases e:p j with
   | false=>rfl
   | true=>exact absurd ⟨by omega,e⟩ (hmin j hj)
  rw[Tp.fst_hit p n m hm.1 hm.2 hf,Tp.fst_hit q n m hm.1 (by rw[←h m hm.1];exact hm.2) (fun j hj=>by rw[←h j (by omega)];exact hf j hj)]
 ·have hf:∀j,j<n→p j=false:=fun j hj=>by
   cases e:p j with
   | false=>rfl
   | true=>exact absurd ⟨j,hj,e⟩ he
  rw[Tp.fst_none p n hf,Tp.fst_none q n (fun j hj=>by rw[←h j hj];exact hf j hj)]
theorem rh_hd {d:Dk} {a:Ab} (hr:rgS d a=true) (b':Int):Tp.fstV (rhP a.t b') a.t.length=hdF a b':=by
 have P:=rg_P d a hr;have hR:=(rt_iff _ _).1 P.r;unfold hdF;refine fst_same _ _ _ (fun i hi=>?_);unfold rhP Tp.hdP;have h1:=(hR i hi).1;have e:(Tp.ofV (a.t.getD i (0,0)).1 (a.t.getD i (0,0)).2==2)=((a.t.getD i (0,0)).1==2):=by
  rw[Bool.eq_iff_iff,ofV_2,beq_iff_eq];constructor
  ·exact fun h=>h.1
  ·intro h;rcases ofV_nz h1 with q | q
   ·omega
   ·exact q
 rw[e,dT (show(0:Int)≤(i:Int)by omega),Bool.true_and]
theorem rhand0_any (s:Stk) (b':Int) (w:World) (hs:s.In w w.heap.size):Calls Tryz.prog 57 #[s.v,.int .i64 b'] w fun e w'=>e=.returned (.int .i64 (rhV s.tl b'))∧Below w.heap.size w w':=by
 obtain⟨w0,hw0⟩:∃w0,w0=w.alloc (.cells #[.slice s.cA s.cl.length s.cc,.slice s.lA s.ll.length s.lc,.slice s.tA s.tl.length s.tc,.int .i64 s.st,.int .i64 s.inn,.int .i64 s.out] 31):=⟨_,rfl⟩;have HB0:=aH (show Below w.heap.size w w0 by rw[hw0];exact bL (bR _ _) _);have HT:=aH (hs.t.then HB0.out);have HS0:=aH (show SkAt w0 w.heap.size s by rw[hw0];exact Cells6.new w _ _ _ _ _ _ _);have hl9:=hs.t.2.2;clear hs;obtain⟨cA,cc,cl,lA,lc,ll,tA,tc,tl,st,inn,out⟩:=s;dsimp only at *;obtain⟨-,-,g2,-⟩:=HS0.out;dsimp only at g2;have HHIT:=aH (fun k h1 h2 h3=>@rh_hit tl b' k h1 h2 h3);have HNON:=aH (fun h=>@rh_none tl b' h);have HP:=aH (fun k=>show rhP tl b' k=((tl.getD k (0,0)).1==2&&(tl.getD k (0,0)).2==b')from rfl);generalize rhV tl b'=R at *;generalize rhP tl b'=P at *;go_enter Tryz.func57,Tryz.ntmps57;go_wp2_with fail;rw[←hw0];clear hw0
 go_loopw [5] (fun i wr=>∃k:Nat,k≤tl.length∧i=.int .i64 k∧Hid (∀j,j<k→P j=false)∧wr=w0) (fun i _=>tl.length - (intOf i).toNat)
 case atStart=>exact⟨0,Nat.zero_le _,rfl,aH (fun j hj=>absurd hj (Nat.not_lt_zero _)),rfl⟩
 case round=>
  obtain⟨k,hk,rfl,hno,rfl⟩:=hrel;have HNO:=aH hno.out;clear hno;by_cases hlt:k<tl.length
  ·obtain⟨b,off,rfl,hb,hbc,hcell⟩:=tip_cells HT.out (by omega);obtain⟨e1,e2⟩:=hcell k hlt;have HPk:=aH (HP.out k);have HHk:=aH (HHIT.out k hlt);clear hcell;generalize tl.getD k (0,0)=t at *;obtain⟨t1,t2⟩:=t;dsimp only at e1 e2 HPk;by_cases h1:t1=2
   ·have h1b:(t1==2)=true:=by simpa using h1
    by_cases h2:t2=b'
    ·have h2b:(t2==b')=true:=by simpa using h2
     have HR:=aH (HHk.out (by rw[HPk.out,h1b,h2b];rfl) HNO.out);clear h1 h2;go_wp2
     go_ret
     exact⟨by rw[HR.out];rfl,HB0.out⟩
    ·have h2b:(t2==b')=false:=by simpa using h2
     have HF:=aH (show P k=false by rw[HPk.out,h1b,h2b];rfl);clear h1 h2;go_wp2
     go_roundw
     case rel=>exact⟨k+1,by omega,num_i (by omega),aH (fun j hj=>by
      by_cases e:j=k
      ·rw[e];exact HF.out
      ·exact HNO.out j (by omega)),by trivial⟩
     case measure=>simp[intOf];omega
   ·have h1b:(t1==2)=false:=by simpa using h1
    have HF:=aH (show P k=false by rw[HPk.out,h1b];rfl);clear h1;go_wp2
    go_roundw
    case rel=>exact⟨k+1,by omega,num_i (by omega),aH (fun j hj=>by
     by_cases e:j=k
     ·rw[e];exact HF.out
     ·exact HNO.out j (by omega)),by trivial⟩
    case measure=>simp[intOf];omega
  ·obtain rfl:k=tl.length:=by omega
   have HR:=aH (HNON.out HNO.out);go_wp2
   go_ret
   exact⟨by rw[HR.out];rfl,HB0.out⟩
end Go.Proofs.YtacjonncakhhmaaGreat
