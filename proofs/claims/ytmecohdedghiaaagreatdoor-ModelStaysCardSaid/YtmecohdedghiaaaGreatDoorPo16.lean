/- Stocks: are sums right, as the program tells it? -/
import Derived.Test.YtmecohdedghiaaaGreatDoorPo15
set_option maxRecDepth 100000
set_option maxHeartbeats 8000000
open Go.Proofs.Tryz
namespace Go.Proofs.YtmecohdedghiaaaGreatDoor
open Go.RowKit
def aK (l:List Cel.Ce):List Int:=l.map fun q=>q.b
theorem jA (l:List Cel.Ce) (k:Nat) (h:k<l.length):aK (l.take (k+1))=aK (l.take k)++[(l.getD k aM).b]:=by
 rw[aX l k aM h];simp[aK]
def gM (l:List Cel.Ce) (k:Nat):List Int:=aK (l.take k)++List.replicate (l.length-k) 0
theorem uu (l:List Cel.Ce) (k:Nat) (h:k<l.length):(gM l k).set k (l.getD k aM).b=gM l (k+1):=by
 unfold gM;rw[jA l k h];have hk:(aK (l.take k)).length=k:=by unfold aK;rw[List.length_map,List.length_take];omega
 rw[List.set_append,if_neg (by omega),hk,Nat.sub_self,show l.length-k=(l.length-(k+1))+1 by omega,List.replicate_succ,List.set_cons_zero,List.append_assoc];rfl
theorem mo (l:List Cel.Ce) (k:Nat) (h:k≤l.length):(gM l k).length=l.length:=by
 unfold gM aK;rw[List.length_append,List.length_map,List.length_take,List.length_replicate];omega
abbrev qy (l:List Cel.Ce):Value:=.tuple #[.int .i64 (bW (Two.sumL (aK l))),.int .i64 (cj (Two.sumL (aK l)))]
theorem jE (s:Stk) (w:World) (hs:s.In w w.heap.size) (hl:s.cl.length≤100000):Calls prog 97 #[s.v] w fun e w'=>e=.returned (qy s.cl)∧Below w.heap.size w w':=by
 obtain⟨w0,hw0⟩:∃w0,w0=w.alloc s.ob:=⟨_,rfl⟩;have CG:=aH (cI hw0);have HC:=aH hs.c;have Dq:=aH (show cn w0 w.heap.size s by rw[hw0];exact Cells6.new w _ _ _ _ _ _ _);have De:=hs.c.2.1;have PE:=aH (fun v w h=>Two.sum_any v (aK s.cl) w h);clear hs;obtain⟨cA,cc,cl,lA,lc,ll,tA,tc,tl,st,inn,out⟩:=s;dsimp only at *;have J0:=aH De;obtain⟨i0,hi,D9,DZ,_⟩:=info_parts KI.info;have SV:(cl.length:Int)≤100000:=by omega
 clear De;obtain⟨g0,g1,g2,g3,g4,g5,_⟩:=Dq.out;rw[hw0]at g0 g1 g2 g3 g4 g5;go_enter func97,ntmps97;go_wp2_with (at_make;refine wpList_make_full _ rfl _ _ 27 rfl (w.heap.size+1) 3 i0 (.int .i64 0) 1 underlying27 hi D9 DZ _ _ _ _ cl.length rfl rfl rfl rfl ?bytes ?maxLen (by simp) ?_)
 case bytes=>rw[show KI.bytes=8 from rfl];omega
 case maxLen=>unfold maxLen;omega
 clear g0 g1 g2 g3 g4 g5;intro w1 CF hgrow;rw[←hw0]at hgrow;have D8:w0.heap.size=w.heap.size+1:=by rw[hw0];simp
 have D7:=aH D8;clear hw0 D8;have ho:KI.Own w1 (w.heap.size+1) (.slice (some ⟨w.heap.size+1,0,none⟩) cl.length cl.length) (gM cl 0):=by
  refine⟨?_,fun x hx=>?_⟩
  ·have e:=Lk.flat_made KI 0 rfl cl.length;have e2:gM cl 0=List.replicate cl.length 0:=(by simp[gM,aK]);rw[e2,←e,List.length_replicate,show cl.length*KI.n=cl.length from Nat.mul_one _];exact CF
  ·have Rj:x∈List.replicate cl.length 0:=(by simpa [gM,aK]using hx);rw[List.mem_replicate]at Rj;rw[Rj.2];show ae 0;decide
 have Fx:=aH ((bR w0.heap.size w0).grown hgrow (nR _) (fun _ h=>nomatch h));have CH:=aH (bC CG.out Fx.out);have Fy:=aH ho;have Du:=aH (Dq.out.below Fx.out);have SB:=aH (show w.heap.size≤w.heap.size+1 by omega);clear CF hgrow ho hi D9 DZ;obtain⟨g0,g1,g2,g3,g4,g5,_⟩:=Du.out;go_wp2
 go_loopw [14] (fun i wr=>∃k:Nat,k≤cl.length∧i=.int .i64 k∧KI.Own wr (w.heap.size+1) (.slice (some ⟨w.heap.size+1,0,none⟩) cl.length cl.length) (gM cl k)∧Below w.heap.size w wr) (fun i _=>cl.length-(intOf i).toNat)
 case atStart=>exact⟨0,Nat.zero_le _,rfl,Fy.out,CH.out⟩
 case round=>
  clear g0 g1 g2 g3 g4 g5;obtain⟨k,hk,rfl,CF,CP⟩:=hrel;have HO:=aH CF;have HB:=aH CP;clear CF CP;by_cases CI:k<cl.length
  ·obtain⟨b,off,rfl,hb,Ot,CD⟩:=bt (HC.out.then HB.out) (by omega);obtain⟨c0,c1,c2⟩:=CD k CI;have Jl:=aH (uu cl k CI);have Gc:=mo cl k (by omega);have LI:=aH ((J0.out _ (af cl k aM CI)).b);clear CD;generalize cl.getD k aM=q at *;obtain⟨qa,qb,qc⟩:=q;dsimp only at *;obtain⟨f1,f2⟩:=KI.Own.at HO.out Gc k CI;generalize (gM cl k).getD k 0=old at *;have T0:w.heap.size+1<wr.heap.size:=wB _ _ f1;have Jm:b<wr.heap.size:=hb;go_wp2
   go_roundw
   case rel=>
    have hp:=KI.Own.put HO.out Gc k qb LI.out;exact⟨k+1,by omega,ai (by omega),by rw[←Jl.out];exact hp.1.alloc _,bL (HB.out.setCell SB.out _) _⟩
   case measure=>simp[intOf];omega
  ·obtain rfl:k=cl.length:=(by omega);have HI:=aH (show KI.IsL wr wr.heap.size (.slice (some ⟨w.heap.size+1,0,none⟩) cl.length cl.length) (aK cl)from by
    have h:=HO.out.isL (by rw[mo cl _ (nR _)];omega);unfold gM at h;rw[List.take_length,Nat.sub_self,List.replicate_zero,List.append_nil]at h;exact h)
   go_wp2_with fail;refine(PE.out _ _ (bo HI.out)).mono ?_;rintro e w4 ⟨rfl,Do⟩;go_wp2
   go_ret2
   exact⟨rfl,bC HB.out Do⟩
theorem ou (s:Stk) (w:World) (hs:s.In w w.heap.size) (hl:s.cl.length≤100000):Calls prog 115 #[s.v] w fun e w'=>e=.returned (qy s.cl)∧Below w.heap.size w w':=by
 obtain⟨w0,hw0⟩:∃w0,w0=w.alloc s.ob:=⟨_,rfl⟩;have CG:=aH (cI hw0);have HC:=aH hs.c;have Dq:=aH (show cn w0 w.heap.size s by rw[hw0];exact Cells6.new w _ _ _ _ _ _ _);have De:=hs.c.2.1;have PE:=aH (fun v w h=>Two.rsum_any v (aK s.cl) w h (by unfold aK;rw[List.length_map];omega));clear hs;obtain⟨cA,cc,cl,lA,lc,ll,tA,tc,tl,st,inn,out⟩:=s;dsimp only at *;have J0:=aH De;have SV:(cl.length:Int)≤100000:=by omega
 clear De;go_enter func115,ntmps115;go_wp2_with fail;rw[←hw0];clear hw0
 go_loopw [4,5] (fun u i wr=>∃k:Nat,k≤cl.length∧i=.int .i64 k∧KI.Own wr w0.heap.size u (aK (cl.take k))∧Below w0.heap.size w0 wr) (fun _ i _=>cl.length-(intOf i).toNat)
 case atStart=>exact⟨0,Nat.zero_le _,rfl,(show KI.Own w0 w0.heap.size (.slice none 0 0) []from Lk.Own.nil _ _),bR _ _⟩
 case round=>
  obtain⟨k,hk,rfl,CF,CP⟩:=hrel;have HO:=aH CF;have HB:=aH CP;obtain⟨g0,g1,g2,g3,g4,g5,z0,z1,z2,z3,z4,z5,Ih⟩:=Dq.out.below CP;clear CF CP g1 g2 g3 g4 g5 z0 z1 z2 z3 z4 z5;by_cases CI:k<cl.length
  ·obtain⟨b,off,rfl,hb,Ot,CD⟩:=bt ((HC.out.then CG.out).then HB.out) (by omega);obtain⟨c0,c1,c2⟩:=CD k CI;have Jl:=aH (jA cl k CI);have Gc:(aK (cl.take k)).length=k:=(by unfold aK;rw[List.length_map,List.length_take];omega);have SC:=aH Gc;have LI:=aH ((J0.out _ (af cl k aM CI)).b);clear CD Gc;generalize cl.getD k aM=q at *;obtain⟨qa,qb,qc⟩:=q;dsimp only at *;go_wp2_with (at_builtin;refine Lk.wpList_app (K:=KI) _ rfl _ _ rfl rfl w0.heap.size (wr.heap.size+1) _ _ (aK (cl.take k)) [qb] rfl rfl (HO.out.alloc _) (Lk.IsL.lit (K:=KI) _ qb _ LI.out rfl wr.heap.size rfl) ?c1 ?c2 ?_)
   case c1=>have:=SC.out;simp;omega
   case c2=>have:=HB.out.size;simp;omega
   intro v1 w4 CF hgrow _;have CW:=aH (Lk.Own.grow' (HO.out.alloc _) (bL HB.out _) (by have:=HB.out.size;simp;omega) hgrow);have DB:=aH CF;clear CF hgrow g0;go_wp2
   go_roundw
   case rel=>exact⟨k+1,by omega,ai (by omega),by rw[Jl.out];exact DB.out,CW.out⟩
   case measure=>simp[intOf];omega
  ·obtain rfl:k=cl.length:=(by omega);rw[List.take_length]at HO;have HI:=aH (HO.out.isL (by unfold aK;rw[List.length_map];omega));go_wp2_with fail;refine(PE.out _ _ (bo HI.out)).mono ?_;rintro e w4 ⟨rfl,Do⟩;go_wp2
   go_ret2
   exact⟨rfl,bC CG.out (bC HB.out Do)⟩
def d8 (q:Pl) (i:Nat):Cel.Ce:=⟨q.cap,q.st.getD i 0,0⟩
def ko (q:Pl):Nat:=q.rows.toNat*q.cols.toNat
def nD (q:Pl):List Cel.Ce:=(List.range (ko q)).map (d8 q)
noncomputable def bK (l:List Pl) (n:Nat):List Cel.Ce:=(List.range n).flatMap fun j=>nD (l.getD j KP.dflt)
theorem eU (l:List Pl) (n:Nat):bK l (n+1)=bK l n++nD (l.getD n KP.dflt):=by
 unfold bK;rw[List.range_succ,List.flatMap_append];simp
theorem gT (q:Pl):(nD q).length=ko q:=by unfold nD;simp
theorem fN {q:Pl} (h:az q=true):(ko q:Int)=q.rows*q.cols∧1≤ko q∧ko q≤1536∧q.st.length≤ko q:=by
 have hs:=bi h;obtain⟨h1,h2,h3,h4⟩:=dP hs;have hm:=bB hs;have e:(ko q:Int)=q.rows*q.cols:=by
  unfold ko;rw[Int.natCast_mul,show((q.rows.toNat:Nat):Int)=q.rows by omega,show((q.cols.toNat:Nat):Int)=q.cols by omega]
 have hl:(q.st.length:Int)≤q.rows*q.cols:=by
  unfold az at h;rw[Bool.and_eq_true,Bool.and_eq_true,decide_eq_true_eq]at h;exact h.1.2.2.2
 exact⟨e,by omega,by omega,by omega⟩
theorem j3 {q:Pl} (h:az q=true):1≤q.cap∧q.cap≤1099511627776∧∀i,0≤q.st.getD i 0∧q.st.getD i 0≤q.cap:=by
 unfold az at h;rw[Bool.and_eq_true,Bool.and_eq_true,decide_eq_true_eq,List.all_eq_true]at h;obtain⟨⟨_,h2⟩,h3⟩:=h;refine⟨h2.1,h2.2.1,fun i=>?_⟩;by_cases hi:i<q.st.length
 ·have:=h3 _ (af q.st i 0 hi);unfold ru at this;exact of_decide_eq_true this
 ·rw[List.getD_eq_getElem?_getD,List.getElem?_eq_none (by omega)];exact⟨Int.le_refl _,by show(0:Int)≤q.cap;omega⟩
theorem eb {q:Pl} (h:az q=true) (i:Nat):(d8 q i).Right:=by
 obtain⟨h1,h2,h3⟩:=j3 h;have:=h3 i;unfold Cel.Ce.Right d8;exact⟨h1,h2,this.1,this.2,(show(0:Int)≤0 by decide),(show(0:Int)≤2147483647 by decide)⟩
theorem eB {q:Cel.Ce} (h:q.Right):q.Fit:=by
 obtain⟨h1,h2,h3,h4,h5,h6⟩:=h;exact⟨by unfold ae;omega,by unfold ae;omega,by unfold ae;omega⟩
theorem dG (l:List Pl) (h:∀i,i<l.length→az (l.getD i KP.dflt)=true):∀n,n≤l.length→∀q∈bK l n,q.Right:=by
 intro n hn q hq;unfold bK nD at hq;obtain⟨j,hj,hq⟩:=List.mem_flatMap.1 hq;obtain⟨i,_,rfl⟩:=List.mem_map.1 hq;rw[List.mem_range]at hj;exact eb (h j (by omega)) i
theorem fH (l:List Pl) (h:∀i,i<l.length→az (l.getD i KP.dflt)=true):∀n,n≤l.length→((bK l n).length:Int)=aC (l.take n):=by
 intro n
 induction n with
 |zero=>intro _;rfl
 |succ n ih=>
  intro hn;rw[eU,List.length_append,Int.natCast_add,ih (by omega),cU l n (by omega),gT,(fN (h n (by omega))).1]
noncomputable def au (d:Dk):Nat:=(aC d.pl).toNat
noncomputable def bm (d:Dk):Nat:=(bj d.rl).toNat
noncomputable def aB (d:Dk):Ab:=⟨bK d.pl d.pl.length,List.replicate (au d) (8,0,[]),List.replicate (bm d) (1,0),Two.sumL (aK (bK d.pl d.pl.length)),0,0⟩
theorem fr (d:Dk) (h:OkD d):(au d:Int)=aC d.pl∧au d≤384∧(bK d.pl d.pl.length).length=au d:=by
 have hw:=fm d.pl (fun i hi=>bi (h.pl i hi)) d.pl.length (nR _);have hl:=fH d.pl h.pl d.pl.length (nR _);rw[List.take_length]at hw hl;have:=h.wells;unfold au;omega
theorem ie (d:Dk) (h:OkD d):(bm d:Int)=bj d.rl∧bm d≤384:=by
 have hw:=oL d.rl (fun i hi=>by have:=h.rl i hi;unfold cF at this;exact this) d.rl.length (nR _);rw[List.take_length]at hw;have:=h.tips;unfold bm;omega
theorem eZ (l:List Cel.Ce) (h:∀q∈l,q.Right):0≤Two.sumL (aK l)∧Two.sumL (aK l)≤1099511627776*l.length:=by
 induction l using Two.snoc_ind with
 |h0=>exact⟨Int.le_refl _,Int.le_refl _⟩
 |h1 l q ih=>
  have e:aK (l++[q])=aK l++[q.b]:=by simp[aK]
  rw[e,Two.sumL_snoc];obtain⟨i1,i2⟩:=ih (fun x hx=>h x (by simp[hx]));obtain⟨h1,h2,h3,h4,_⟩:=h q (by simp);rw[List.length_append,List.length_singleton];omega
noncomputable def dJ (d:Dk) (k id:Int):Bool:=decide ((bh d id).2=0)&&decide ((bh d id).1.a=k)
theorem ed (k:Int) (f:Nat→Q4) (hf:∀i,(f i).a=k) (n:Nat):∀p∈ar ((List.range n).map f),p.a=k:=by
 intro p hp;unfold ar aw at hp;obtain⟨u,hu,hp⟩:=List.mem_flatMap.1 hp;obtain⟨i,_,rfl⟩:=List.mem_map.1 hu;obtain⟨j,_,rfl⟩:=List.mem_map.1 hp;exact hf i
theorem jY (k:Int) (l:List Q4) (h:∀p∈l,p.a=k):bZ k l=l.length:=by
 unfold bZ;rw[List.filter_eq_self.2 (fun p hp=>by rw[h p hp];exact BEq.rfl)]
theorem mN (d:Dk) (h:OkD d):∃A B C,bM d=A++(B++C)∧A.length=au d∧B.length=bm d∧(∀p∈A,p.a=1)∧(∀p∈B,p.a=2)∧(∀p∈C,p.a=3):=by
 have hA:=ed 1 (aE d.pl) (fun _=>rfl) d.pl.length;have hB:=ed 2 (ba d.rl) (fun _=>rfl) d.rl.length;have hC:=ed 3 bT (fun _=>rfl) (d.bl.length-1);refine⟨_,_,_,?_,?_,?_,hA,hB,hC⟩
 ·unfold bM ar bD;rw[List.flatMap_append,List.flatMap_append,List.append_assoc]
 ·have e:=jY 1 _ hA;rw[mx 1 (aE d.pl) _ 1 (fun _=>rfl),if_pos rfl,i6 d.pl (fun i hi=>fV d h i hi) _ (nR _),List.take_length]at e;have:=(fr d h).1;omega
 ·have e:=jY 2 _ hB;rw[mx 2 (ba d.rl) _ 2 (fun _=>rfl),if_pos rfl,jL d.rl (fun i hi=>i9 d h i hi) _ (nR _),List.take_length]at e;have:=(ie d h).1;omega
theorem lw {α:Type} (l m:List α) (i:Nat) (z:α):(l++m).getD i z=if i<l.length then l.getD i z else m.getD (i-l.length) z:=by
 rw[List.getD_eq_getElem?_getD];by_cases h:i<l.length
 ·rw[List.getElem?_append_left h,if_pos h,List.getD_eq_getElem?_getD]
 ·rw[List.getElem?_append_right (by omega),if_neg h,List.getD_eq_getElem?_getD]
theorem d6 (d:Dk) (hz:aJ d=0) (id:Int):dJ d 1 id=decide (0≤id∧id<au d)∧dJ d 2 id=decide (au d≤id∧id<au d+bm d):=by
 obtain⟨A,B,C,e,hA,hB,kA,kB,kC⟩:=mN d (aU d hz);unfold dJ bh;rw[if_pos hz,e];unfold eK;rw[List.length_append,List.length_append,hA,hB];by_cases h0:id<0∨((au d+(bm d+C.length):Nat):Int)≤id
 ·rw[if_pos h0];constructor<;>rw[Bool.eq_iff_iff,Bool.and_eq_true,decide_eq_true_eq,decide_eq_true_eq,decide_eq_true_eq]<;>exact⟨fun h=>absurd h.1 (by show ¬(3:Int)=0;decide),fun h=>by omega⟩
 ·rw[if_neg h0];obtain⟨j,rfl⟩:=Int.eq_ofNat_of_zero_le (show 0≤id by omega);have hk:((A++(B++C)).getD j ⟨0,0,0,0⟩).a=if j<au d then 1 else if j<au d+bm d then 2 else 3:=by
   rw[lw,hA];by_cases h1:j<au d
   ·rw[if_pos h1,if_pos h1];exact kA _ (af A j _ (by omega))
   ·rw[if_neg h1,if_neg h1,lw,hB];by_cases h2:j<au d+bm d
    ·rw[if_pos (by omega),if_pos h2];exact kB _ (af B _ _ (by omega))
    ·rw[if_neg (by omega),if_neg h2];exact kC _ (af C _ _ (by omega))
  dsimp only;rw[show((j:Int)).toNat=j from rfl,hk];by_cases h1:j<au d
  ·rw[if_pos h1];constructor<;>rw[Bool.eq_iff_iff]<;>simp<;>omega
  ·rw[if_neg h1];by_cases h2:j<au d+bm d
   ·rw[if_pos h2];constructor<;>rw[Bool.eq_iff_iff]<;>simp<;>omega
   ·rw[if_neg h2];constructor<;>rw[Bool.eq_iff_iff]<;>simp<;>omega
def cz (n:Int):Bool:=decide (0≤n)&&decide (n≤1152921504606846976)
theorem iG (n:Int) (w:World):Calls prog 166 #[.int .i64 n] w fun e w'=>e=.returned (.bool (cz n))∧w=w':=by
 have e:cz n=(decide (0≤n)&&decide (n≤1152921504606846976)):=rfl;by_cases h:0≤n<;>by_cases h2:n≤1152921504606846976<;>simp[h,h2]at e<;>rw[e]<;>go_enter func166,ntmps166<;>go_wp2<;>go_ret<;>exact⟨rfl,rfl⟩
theorem wT (d:Dk) (k id:Int) (q:Q4) (er:Int) (h:bh d id=(q,er)):dJ d k id=(decide (er=0)&&decide (q.a=k)):=by unfold dJ;rw[h]
theorem dK (d:Dk) (k id:Int) (DU:ae id) (w:World) (hd:d.In w w.heap.size):Calls prog 187 #[d.v,.int .i64 k,.int .i64 id] w fun e w'=>e=.returned (.bool (dJ d k id))∧Below w.heap.size w w':=by
 obtain⟨w0,hw0⟩:∃w0,w0=w.alloc d.ob:=⟨_,rfl⟩;have CG:=aH (cI hw0);have CR:=aH (hd.then CG.out);have DO:=aH (show dv w0 w.heap.size d by rw[hw0];exact Cells4.new w _ _ _ _ _);have HP:=aH (fun w h=>iY d id DU w h);obtain⟨t,ht⟩:∃t,bh d id=t:=⟨_,rfl⟩;rw[ht]at HP;obtain⟨q,er⟩:=t;have e:=wT d k id q er ht;rw[e];clear e ht hd;obtain⟨qa,qb,qc,qd⟩:=q;unfold ft at HP;dsimp only at HP⊢;go_enter func187,ntmps187;go_wp2_with fail;rw[←hw0];clear hw0;refine(HP.out _ CR.out).mono ?_;rintro e w1 ⟨rfl,CE⟩;have CH:=aH (bC CG.out CE);clear CE;by_cases h0:er=0
 ·subst h0;by_cases h1:qa=k
  ·go_wp2
   go_ret
   exact⟨aj (by simp),by first|exact bL CH.out _|(exact bL (bL CH.out _) _)⟩
  ·go_wp2
   go_ret
   exact⟨aj (by simp[h1]),by first|exact bL CH.out _|(exact bL (bL CH.out _) _)⟩
 ·have SW:(er==0)=false:=by simpa using h0
  have Lm:=h0;clear h0;go_wp2
  go_ret
  exact⟨aj (by simp[Lm]),by first|exact bL CH.out _|(exact bL (bL CH.out _) _)⟩
theorem ls (d:Dk) (w:World) (hd:d.In w w.heap.size):Calls prog 82 #[d.v] w fun e w'=>e=.returned (.int .i64 (aA d))∧Below w.heap.size w w':=by
 obtain⟨w0,hw0⟩:∃w0,w0=w.alloc d.ob:=⟨_,rfl⟩;have CG:=aH (cI hw0);have CR:=aH (hd.then CG.out);have HT:=aH (fun w h=>nu d w h);clear hd;go_enter func82,ntmps82;go_wp2_with fail;rw[←hw0];clear hw0;refine(HT.out _ CR.out).mono ?_;rintro e w1 ⟨v,rfl,_,CE⟩;go_wp2
 go_ret
 exact⟨rfl,bC CG.out CE⟩
def hbB (xs:List (Int×Int)) (i:Nat) (b:Int):Bool:=(xs.take i).any fun q=>q.1==2&&q.2==b
def jn (xs:List (Int×Int)) (arms:Int) (i:Nat):Bool:=!(Tp.ofV (xs.getD i (0,0)).1 (xs.getD i (0,0)).2==0)&&decide ((xs.getD i (0,0)).2≤arms)&& !hbB xs i (xs.getD i (0,0)).2
def qS (xs:List (Int×Int)) (arms:Int):Bool:=(List.range xs.length).all (jn xs arms)
theorem xR {xs:List (Int×Int)} {arms:Int} (k:Nat) (hk:k<xs.length) (h:jn xs arms k=false):qS xs arms=false:=by
 unfold qS;rw[←Bool.not_eq_true,List.all_eq_true];intro hh;rw[hh k (List.mem_range.2 hk)]at h
 cases h
theorem kd {xs:List (Int×Int)} {arms:Int} (h:∀k,k<xs.length→jn xs arms k=true):qS xs arms=true:=by
 unfold qS;rw[List.all_eq_true];exact fun k hk=>h k (List.mem_range.1 hk)
theorem kq (xs:List (Int×Int)) (i:Nat) (h:i<xs.length) (b:Int):hbB xs (i+1) b=(hbB xs i b||((xs.getD i (0,0)).1==2&&(xs.getD i (0,0)).2==b)):=by
 unfold hbB;rw[aX xs i (0,0) h,List.any_append];simp
theorem sZ {s b:Int} (h:¬Tp.ofV s b=0):0≤b∧b≤8∧(s=2→1≤b)∧(s≠2→b=0):=by
 unfold Tp.ofV at h;by_cases h1:(s=1∨s=3)∧b=0
 ·omega
 ·rw[if_neg h1]at h;by_cases h2:s=2∧1≤b∧b≤8
  ·omega
  ·rw[if_neg h2]at h;exact absurd rfl h
theorem vm (xs:List (Int×Int)) (arms:Int):∀i,i≤xs.length→(∀j,j<i→jn xs arms j=true)→hbB xs i 0=false:=by
 intro i
 induction i with
 |zero=>intro _ _;rfl
 |succ i ih=>
  intro hi h;rw[kq xs i (by omega),ih (by omega) (fun j hj=>h j (by omega)),Bool.false_or];have:=h i (by omega);unfold jn at this;rw[Bool.and_eq_true,Bool.and_eq_true]at this;have h0:¬Tp.ofV (xs.getD i (0,0)).1 (xs.getD i (0,0)).2=0:=by simpa using this.1.1
  have h2:=sZ h0;rw[←Bool.not_eq_true,Bool.and_eq_true,beq_iff_eq,beq_iff_eq];rintro⟨e1,e2⟩;have:=h2.2.2.1 e1;omega
theorem js (v:Value) (xs:List (Int×Int)) (arms:Int) (w:World) (hv:KT.IsL w w.heap.size v xs):Calls prog 108 #[v,.int .i64 arms] w fun e w'=>e=.returned (.bool (qS xs arms))∧Below w.heap.size w w':=by
 obtain⟨A,c,rfl,hc⟩:=hv.shape;have HV:=aH hv;have hl:=hv.2.2;clear hv;have Ir:=aH (fun k h1 h2=>@xR xs arms k h1 h2);have IJ:=aH (fun h=>@kd xs arms h);obtain⟨w0,hw0⟩:∃w0,w0=w.alloc (.cells #[.bool false,.bool false,.bool false,.bool false,.bool false,.bool false,.bool false,.bool false,.bool false] 202):=⟨_,rfl⟩;have CG:=aH (cI hw0);have SX:=aH (show ∀x:Nat,x≤8→w0.cell? ⟨w.heap.size,x,none⟩=some (.bool (hbB xs 0 x))∧w0.frozen? ⟨w.heap.size,x,none⟩=false from fun x hx=>by
  rw[hw0];refine⟨?_,by simp⟩;rw[ah]
  match x,hx with
  |0,_=>rfl
  |1,_=>rfl
  |2,_=>rfl
  |3,_=>rfl
  |4,_=>rfl
  |5,_=>rfl
  |6,_=>rfl
  |7,_=>rfl
  |8,_=>rfl)
 have D7:=aH (show w.heap.size<w0.heap.size by rw[hw0];simp);go_enter func108,ntmps108;go_wp2;rw[←hw0];clear hw0
 go_loopw [10] (fun i wr=>∃k:Nat,i=.int .i64 k∧k≤xs.length∧Hid (∀j,j<k→jn xs arms j=true)∧Hid (∀x:Nat,x≤8→wr.cell? ⟨w.heap.size,x,none⟩=some (.bool (hbB xs k x))∧wr.frozen? ⟨w.heap.size,x,none⟩=false)∧Hid (Below w.heap.size w wr)) (fun i _=>xs.length-(intOf i).toNat)
 case atStart=>exact⟨0,rfl,Nat.zero_le _,aH (fun j hj=>absurd hj (Nat.not_lt_zero _)),SX,CG⟩
 case round=>
  obtain⟨k,rfl,hk,Dj,hf,hb⟩:=hrel;have Dh:=aH Dj.out;have HF:=aH hf.out;have Df:=aH hb.out;clear Dj hf hb;by_cases CI:k<xs.length
  ·obtain⟨b,off,rfl,hb,hbc,CD⟩:=dk (HV.out.then Df.out) (by omega);obtain⟨e1,e2⟩:=CD k CI;have Ec:=aH (kq xs k CI);have Gp:=aH (show jn xs arms k=(!(Tp.ofV (xs.getD k (0,0)).1 (xs.getD k (0,0)).2==0)&&decide ((xs.getD k (0,0)).2≤arms)&& !hbB xs k (xs.getD k (0,0)).2)from rfl);have HZ:=aH (vm xs arms k (by omega) Dh.out);have FJ:=aH (Ir.out k CI);clear CD;generalize xs.getD k (0,0)=t at *;obtain⟨t1,t2⟩:=t;dsimp only at *;have G4:=aH (fun w=>Tp.right_any t1 t2 w);have R5:=aH (fun h=>@sZ t1 t2 h);have CZ:=bL (bR wr.heap.size wr) (.cells #[.int .i64 t1,.int .i64 t2] 146);have Mv:w.heap.size<wr.heap.size:=wB _ _ (HF.out 0 (by omega)).1;have On:=aH Mv;go_wp2_with fail;have c1:(wr.alloc (.cells #[.int .i64 t1,.int .i64 t2] 146)).cell? ⟨wr.heap.size,0,none⟩=some (.int .i64 t1):=(by simp[go_sem]);have c2:(wr.alloc (.cells #[.int .i64 t1,.int .i64 t2] 146)).cell? ⟨wr.heap.size,1,none⟩=some (.int .i64 t2):=(by simp[go_sem]);generalize wr.alloc (.cells #[.int .i64 t1,.int .i64 t2] 146)=V at *;refine(G4.out _).mono ?_;rintro e V2 ⟨rfl,CM⟩;have c1:=kK CM c1;have c2:=kK CM c2;have Jz:=bC CZ CM;have CL:=aH (bC Df.out Jz);have GE:=aH (show ∀x:Nat,x≤8→V2.cell? ⟨w.heap.size,x,none⟩=some (.bool (hbB xs k x))∧V2.frozen? ⟨w.heap.size,x,none⟩=false from fun x hx=>⟨kK Jz (HF.out x hx).1,by rw[Jz.frozen (p:=⟨w.heap.size,x,none⟩) On.out];exact(HF.out x hx).2⟩);clear CZ CM Jz e1 e2 Mv;by_cases h0:Tp.ofV t1 t2=0
   ·have EQ:jn xs arms k=false:=(by rw[Gp.out,show(Tp.ofV t1 t2==0)=true by simpa using h0];rfl);have HR:=aH (FJ.out EQ);have hz:(Tp.ofV t1 t2==0)=true:=(by simpa using h0);clear h0 EQ;rw[hz];go_wp2
    go_ret
    exact⟨by rw[HR.out];rfl,CL.out⟩
   ·obtain⟨b0,b8,b2,bn⟩:=R5.out h0;have hz:(Tp.ofV t1 t2==0)=false:=(by simpa using h0);clear h0;rw[hz]at Gp⊢;by_cases harm:t2≤arms
    ·obtain⟨x,rfl⟩:=Int.eq_ofNat_of_zero_le b0;obtain⟨fx,zx⟩:=GE.out x (by omega);rw[dT harm]at Gp;have HQ:=aH (show hbB xs (k+1) x=(hbB xs k x||(t1==2))from by rw[Ec.out];simp);have Ox:=aH (show ∀y:Nat,y≠x→hbB xs (k+1) y=hbB xs k y from fun y hy=>by rw[Ec.out,show((x:Int)==(y:Int))=false by simp;omega];simp);have Fi:=aH (show t1≠2→hbB xs k x=false from fun h=>by have e:=bn h;rw[e];exact HZ.out);have Hh:=aH (show hbB xs k (x:Int)=hbB xs k x from rfl);obtain⟨q,hq⟩:∃q,hbB xs k (x:Int)=q:=⟨_,rfl⟩;rw[hq]at fx Gp HQ Fi;have Ux:=aH hq;clear hq;have UI:(x:Int)<9:=(by omega);clear b2 bn
     cases q
     ·have J5:jn xs arms k=true:=(by rw[Gp.out];rfl);have HY:=aH J5;clear J5;go_wp2
      go_roundw
      case rel=>
       refine⟨k+1,ai (by omega),by omega,aH (fun j hj=>?_),aH (fun y hy=>?_),aH (CL.out.setCell (nR _) _)⟩
       ·by_cases h:j=k
        ·subst h;exact HY.out
        ·exact Dh.out j (by omega)
       ·by_cases h:y=x
        ·subst h;refine⟨?_,sF (GE.out y hy).2⟩;rw[HQ.out,Bool.false_or];exact ag fx
        ·refine⟨?_,sF (GE.out y hy).2⟩;rw[Ox.out y h];exact sO (GE.out y hy).1 (aN (.inr (fun e=>h e.symm)))
      case measure=>simp[intOf];omega
     ·have EQ:jn xs arms k=false:=(by rw[Gp.out];rfl);have HR:=aH (FJ.out EQ);clear EQ;go_wp2
      go_ret
      exact⟨by rw[HR.out];rfl,CL.out⟩
    ·have EQ:jn xs arms k=false:=(by rw[Gp.out,dF harm];rfl);have HR:=aH (FJ.out EQ);clear EQ;have Q3:arms<t2:=(by omega);clear harm;go_wp2
     go_ret
     exact⟨by rw[HR.out];rfl,CL.out⟩
  ·obtain rfl:k=xs.length:=(by omega);have HR:=aH (IJ.out Dh.out);go_wp2
   go_ret
   exact⟨by rw[HR.out];rfl,Df.out⟩
def rh (a f:Ab):Bool:=decide (a.st=f.st)&&cz a.inn&&cz a.out&&decide (bW (Two.sumL (aK a.c))=Go.RowKit.wrap64 (Go.RowKit.wrap64 (a.st+a.inn)-a.out))
theorem jk (s f:Stk) (w:World) (hs:s.In w w.heap.size) (hl:s.cl.length≤100000):Calls prog 109 #[s.v,f.v] w fun e w'=>e=.returned (.bool (rh s.ab f.ab))∧Below w.heap.size w w':=by
 obtain⟨w0,hw0⟩:∃w0,w0=(w.alloc s.ob).alloc f.ob:=⟨_,rfl⟩;have CG:=aH (gj hw0);have Dq:=aH (hs.then CG.out);have Du:=aH (show cn w0 w.heap.size s by rw[hw0];exact(Cells6.new w _ _ _ _ _ _ _).below (bL (bR _ _) _));have EB:=aH (show cn w0 (w.heap.size+1) f by
  have h:=Cells6.new (w.alloc s.ob) 41 (.slice f.cA f.cl.length f.cc) (.slice f.lA f.ll.length f.lc) (.slice f.tA f.tl.length f.tc) (.int .i64 f.st) (.int .i64 f.inn) (.int .i64 f.out);rw[←hw0,show(w.alloc s.ob).heap.size=w.heap.size+1 by simp]at h;exact h)
 have K1:=aH (fun n w=>iG n w);have HT:=aH (fun w h=>jE s w h hl);have HE:=aH (show rh s.ab f.ab=(decide (s.st=f.st)&&cz s.inn&&cz s.out&&decide (bW (Two.sumL (aK s.cl))=Go.RowKit.wrap64 (Go.RowKit.wrap64 (s.st+s.inn)-s.out)))from rfl);generalize hr:rh s.ab f.ab=r at *;clear hr hs;have HT:=aH (show ∀w,s.In w w.heap.size→Calls prog 97 #[s.v] w fun e w'=>e=.returned (qy s.cl)∧Below w.heap.size w w' from HT.out);obtain⟨fT,hfT⟩:∃x,bW (Two.sumL (aK s.cl))=x:=⟨_,rfl⟩;obtain⟨fX,hfX⟩:∃x,cj (Two.sumL (aK s.cl))=x:=⟨_,rfl⟩;unfold qy at HT;rw[hfT]at HT HE;rw[hfX]at HT;clear hfT hfX;obtain⟨cA,cc,cl,lA,lc,ll,tA,tc,tl,st,inn,out⟩:=s;obtain⟨cA2,cc2,cl2,lA2,lc2,ll2,tA2,tc2,tl2,st2,inn2,out2⟩:=f;dsimp only at *;obtain⟨g0,g1,g2,g3,g4,g5,_⟩:=Du.out;obtain⟨f0,f1,f2,f3,f4,f5,_⟩:=EB.out;dsimp only at g0 g1 g2 g3 g4 g5 f0 f1 f2 f3 f4 f5;rw[hw0]at g0 g1 g2 g3 g4 g5 f0 f1 f2 f3 f4 f5;by_cases h1:st=st2
 case neg=>
  have hr:r=false:=by rw[HE.out,dF h1];rfl
  subst hr;have NP:(st != st2)=true:=by simpa using h1
  clear h1;go_enter func109,ntmps109;go_wp2
  go_ret
  exact⟨rfl,by rw[←hw0];exact CG.out⟩
 subst h1;rw[show decide (st=st)=true from dT rfl,Bool.true_and]at HE;obtain⟨q1,Ni⟩:∃q,cz inn=q:=⟨_,rfl⟩;obtain⟨q2,KB⟩:∃q,cz out=q:=⟨_,rfl⟩;have NW:=aH (fun w=>K1.out inn w);have Nv:=aH (fun w=>K1.out out w);rw[Ni]at HE NW;rw[KB]at HE Nv;clear Ni KB K1
 cases q1
 ·have hr:r=false:=by rw[HE.out];rfl
  subst hr;go_enter func109,ntmps109;go_wp2_with fail;rw[←hw0];clear hw0;refine(NW.out _).mono ?_;rintro e wz ⟨rfl,rfl⟩;go_wp2
  go_ret
  exact⟨rfl,CG.out⟩
 cases q2
 ·have hr:r=false:=by rw[HE.out];rfl
  subst hr;go_enter func109,ntmps109;go_wp2_with fail;rw[←hw0]at *;clear hw0;refine(NW.out _).mono ?_;rintro e wz ⟨rfl,rfl⟩;go_wp2_with fail;refine(Nv.out _).mono ?_;rintro e wz ⟨rfl,rfl⟩;go_wp2
  go_ret
  exact⟨rfl,CG.out⟩
 rw[Bool.true_and,Bool.true_and]at HE;go_enter func109,ntmps109;go_wp2_with fail;rw[←hw0]at *;clear hw0;refine(NW.out _).mono ?_;rintro e wz ⟨rfl,rfl⟩;go_wp2_with fail;refine(Nv.out _).mono ?_;rintro e wz ⟨rfl,rfl⟩;go_wp2_with fail;refine(HT.out _ Dq.out).mono ?_;rintro e w1 ⟨rfl,CE⟩;have g3:=kK CE g3;have g4:=kK CE g4;have g5:=kK CE g5;have CH:=aH (bC CG.out CE);clear CE;go_wp2
 go_ret
 refine⟨?_,CH.out⟩;rw[HE.out];exact aj (by rw[Bool.eq_iff_iff];simp)
end Go.Proofs.YtmecohdedghiaaaGreatDoor
