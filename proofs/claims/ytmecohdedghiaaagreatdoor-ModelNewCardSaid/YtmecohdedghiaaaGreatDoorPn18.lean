/- Stocks: are sums right, as the program tells it? -/
import Derived.Test.YtmecohdedghiaaaGreatDoorPn00
import Derived.Test.YtmecohdedghiaaaGreatDoorPn17
import Derived.Test.YtmecohdedghiaaaGreatDoorPn08
import Derived.Test.YtmecohdedghiaaaGreatDoorPn11
import Derived.Test.YtmecohdedghiaaaGreatDoorPn15
set_option maxRecDepth 100000
set_option maxHeartbeats 8000000
namespace Go.Proofs.YtmecohdedghiaaaGreatDoor
open Go.RowKit
def cellA (q:Pl) (i:Nat):Cel.Ce:=⟨q.cap,q.st.getD i 0,0⟩
def plN (q:Pl):Nat:=q.rows.toNat*q.cols.toNat
def plC (q:Pl):List Cel.Ce:=(List.range (plN q)).map (cellA q)
noncomputable def newCn (l:List Pl) (n:Nat):List Cel.Ce:=(List.range n).flatMap fun j=>plC (l.getD j KP.dflt)
theorem newCn_snoc (l:List Pl) (n:Nat):newCn l (n+1)=newCn l n++plC (l.getD n KP.dflt):=by
 unfold newCn;rw[List.range_succ,List.flatMap_append];simp
theorem plC_len (q:Pl):(plC q).length=plN q:=by unfold plC;simp
theorem plN_eq {q:Pl} (h:plateB q=true):(plN q:Int)=q.rows*q.cols∧1≤plN q∧plN q≤1536∧q.st.length≤plN q:=by
 have hs:=plate_size h;obtain⟨h1,h2,h3,h4⟩:=size_of hs;have hm:=size_mul hs;have e:(plN q:Int)=q.rows*q.cols:=by
  unfold plN;rw[Int.natCast_mul,show((q.rows.toNat:Nat):Int)=q.rows by omega,show((q.cols.toNat:Nat):Int)=q.cols by omega]
 have hl:(q.st.length:Int)≤q.rows*q.cols:=by
  unfold plateB at h;rw[Bool.and_eq_true,Bool.and_eq_true,decide_eq_true_eq]at h;exact h.1.2.2.2
 exact⟨e,by omega,by omega,by omega⟩
theorem plate_cap {q:Pl} (h:plateB q=true):1≤q.cap∧q.cap≤1099511627776∧∀i,0≤q.st.getD i 0∧q.st.getD i 0≤q.cap:=by
 unfold plateB at h;rw[Bool.and_eq_true,Bool.and_eq_true,decide_eq_true_eq,List.all_eq_true]at h;obtain⟨⟨_,h2⟩,h3⟩:=h;refine⟨h2.1,h2.2.1,fun i=>?_⟩;by_cases hi:i<q.st.length
 ·have:=h3 _ (getD_mem' q.st i 0 hi);unfold okN at this;exact of_decide_eq_true this
 ·rw[List.getD_eq_getElem?_getD,List.getElem?_eq_none (by omega)];exact⟨Int.le_refl _,by show(0:Int)≤q.cap;omega⟩
theorem cellA_right {q:Pl} (h:plateB q=true) (i:Nat):(cellA q i).Right:=by
 obtain⟨h1,h2,h3⟩:=plate_cap h;have:=h3 i;unfold Cel.Ce.Right cellA;exact⟨h1,h2,this.1,this.2,(show(0:Int)≤0 by decide),(show(0:Int)≤2147483647 by decide)⟩
theorem right_fit {q:Cel.Ce} (h:q.Right):q.Fit:=by
 obtain⟨h1,h2,h3,h4,h5,h6⟩:=h;exact⟨by unfold fits;omega,by unfold fits;omega,by unfold fits;omega⟩
theorem newC_right (l:List Pl) (h:∀i,i<l.length→plateB (l.getD i KP.dflt)=true):∀n,n≤l.length→∀q∈newCn l n,q.Right:=by
 intro n hn q hq;unfold newCn plC at hq;obtain⟨j,hj,hq⟩:=List.mem_flatMap.1 hq;obtain⟨i,_,rfl⟩:=List.mem_map.1 hq;rw[List.mem_range]at hj;exact cellA_right (h j (by omega)) i
theorem newCn_len (l:List Pl) (h:∀i,i<l.length→plateB (l.getD i KP.dflt)=true):∀n,n≤l.length→((newCn l n).length:Int)=wellsV (l.take n):=by
 intro n
 induction n with
 |zero=>intro _;rfl
 |succ n ih=>
  intro hn;rw[newCn_snoc,List.length_append,Int.natCast_add,ih (by omega),wells_snoc l n (by omega),plC_len,(plN_eq (h n (by omega))).1]
noncomputable def wellN (d:Dk):Nat:=(wellsV d.pl).toNat
noncomputable def tipN (d:Dk):Nat:=(tipsV d.rl).toNat
noncomputable def newA (d:Dk):Ab:=⟨newCn d.pl d.pl.length,List.replicate (wellN d) (8,0,[]),List.replicate (tipN d) (1,0),Two.sumL (volS (newCn d.pl d.pl.length)),0,0⟩
theorem wellN_eq (d:Dk) (h:OkD d):(wellN d:Int)=wellsV d.pl∧wellN d≤384∧(newCn d.pl d.pl.length).length=wellN d:=by
 have hw:=wells_bd d.pl (fun i hi=>plate_size (h.pl i hi)) d.pl.length (nR _);have hl:=newCn_len d.pl h.pl d.pl.length (nR _);rw[List.take_length]at hw hl;have:=h.wells;unfold wellN;omega
theorem tipN_eq (d:Dk) (h:OkD d):(tipN d:Int)=tipsV d.rl∧tipN d≤384:=by
 have hw:=tips_bd d.rl (fun i hi=>by have:=h.rl i hi;unfold rackB at this;exact this) d.rl.length (nR _);rw[List.take_length]at hw;have:=h.tips;unfold tipN;omega
theorem sumL_bd (l:List Cel.Ce) (h:∀q∈l,q.Right):0≤Two.sumL (volS l)∧Two.sumL (volS l)≤1099511627776*l.length:=by
 induction l using Two.snoc_ind with
 |h0=>exact⟨Int.le_refl _,Int.le_refl _⟩
 |h1 l q ih=>
  have e:volS (l++[q])=volS l++[q.b]:=by simp[volS]
  rw[e,Two.sumL_snoc];obtain⟨i1,i2⟩:=ih (fun x hx=>h x (by simp[hx]));obtain⟨h1,h2,h3,h4,_⟩:=h q (by simp);rw[List.length_append,List.length_singleton];omega
noncomputable def isP (d:Dk) (k id:Int):Bool:=decide ((partV d id).2=0)&&decide ((partV d id).1.a=k)
theorem parts_kinds (k:Int) (f:Nat→Q4) (hf:∀i,(f i).a=k) (n:Nat):∀p∈partsU ((List.range n).map f),p.a=k:=by
 intro p hp;unfold partsU unitParts at hp;obtain⟨u,hu,hp⟩:=List.mem_flatMap.1 hp;obtain⟨i,_,rfl⟩:=List.mem_map.1 hu;obtain⟨j,_,rfl⟩:=List.mem_map.1 hp;exact hf i
theorem kinds_len (k:Int) (l:List Q4) (h:∀p∈l,p.a=k):cntK k l=l.length:=by
 unfold cntK;rw[List.filter_eq_self.2 (fun p hp=>by rw[h p hp];exact BEq.rfl)]
theorem parts_split (d:Dk) (h:OkD d):∃A B C,partsL d=A++(B++C)∧A.length=wellN d∧B.length=tipN d∧(∀p∈A,p.a=1)∧(∀p∈B,p.a=2)∧(∀p∈C,p.a=3):=by
 have hA:=parts_kinds 1 (plateU d.pl) (fun _=>rfl) d.pl.length;have hB:=parts_kinds 2 (rackU d.rl) (fun _=>rfl) d.rl.length;have hC:=parts_kinds 3 laneU (fun _=>rfl) (d.bl.length-1);refine⟨_,_,_,?_,?_,?_,hA,hB,hC⟩
 ·unfold partsL partsU unitsL;rw[List.flatMap_append,List.flatMap_append,List.append_assoc]
 ·have e:=kinds_len 1 _ hA;rw[cnt_U 1 (plateU d.pl) _ 1 (fun _=>rfl),if_pos rfl,sum_plates d.pl (fun i hi=>plateU_ok d h i hi) _ (nR _),List.take_length]at e;have:=(wellN_eq d h).1;omega
 ·have e:=kinds_len 2 _ hB;rw[cnt_U 2 (rackU d.rl) _ 2 (fun _=>rfl),if_pos rfl,sum_racks d.rl (fun i hi=>rackU_ok d h i hi) _ (nR _),List.take_length]at e;have:=(tipN_eq d h).1;omega
theorem getD_app {α:Type} (l m:List α) (i:Nat) (z:α):(l++m).getD i z=if i<l.length then l.getD i z else m.getD (i-l.length) z:=by
 rw[List.getD_eq_getElem?_getD];by_cases h:i<l.length
 ·rw[List.getElem?_append_left h,if_pos h,List.getD_eq_getElem?_getD]
 ·rw[List.getElem?_append_right (by omega),if_neg h,List.getD_eq_getElem?_getD]
theorem isP_eq (d:Dk) (hz:dchk d=0) (id:Int):isP d 1 id=decide (0≤id∧id<wellN d)∧isP d 2 id=decide (wellN d≤id∧id<wellN d+tipN d):=by
 obtain⟨A,B,C,e,hA,hB,kA,kB,kC⟩:=parts_split d (dchk_ok d hz);unfold isP partV;rw[if_pos hz,e];unfold partR;rw[List.length_append,List.length_append,hA,hB];by_cases h0:id<0∨((wellN d+(tipN d+C.length):Nat):Int)≤id
 ·rw[if_pos h0];constructor<;>rw[Bool.eq_iff_iff,Bool.and_eq_true,decide_eq_true_eq,decide_eq_true_eq,decide_eq_true_eq]<;>exact⟨fun h=>absurd h.1 (by show ¬(3:Int)=0;decide),fun h=>by omega⟩
 ·rw[if_neg h0];obtain⟨j,rfl⟩:=Int.eq_ofNat_of_zero_le (show 0≤id by omega);have hk:((A++(B++C)).getD j ⟨0,0,0,0⟩).a=if j<wellN d then 1 else if j<wellN d+tipN d then 2 else 3:=by
   rw[getD_app,hA];by_cases h1:j<wellN d
   ·rw[if_pos h1,if_pos h1];exact kA _ (getD_mem' A j _ (by omega))
   ·rw[if_neg h1,if_neg h1,getD_app,hB];by_cases h2:j<wellN d+tipN d
    ·rw[if_pos (by omega),if_pos h2];exact kB _ (getD_mem' B _ _ (by omega))
    ·rw[if_neg (by omega),if_neg h2];exact kC _ (getD_mem' C _ _ (by omega))
  dsimp only;rw[show((j:Int)).toNat=j from rfl,hk];by_cases h1:j<wellN d
  ·rw[if_pos h1];constructor<;>rw[Bool.eq_iff_iff]<;>simp<;>omega
  ·rw[if_neg h1];by_cases h2:j<wellN d+tipN d
   ·rw[if_pos h2];constructor<;>rw[Bool.eq_iff_iff]<;>simp<;>omega
   ·rw[if_neg h2];constructor<;>rw[Bool.eq_iff_iff]<;>simp<;>omega
def flowB (n:Int):Bool:=decide (0≤n)&&decide (n≤1152921504606846976)
theorem isFlow_any (n:Int) (w:World):Calls Tryz.prog 166 #[.int .i64 n] w fun e w'=>e=.returned (.bool (flowB n))∧w=w':=by
 have e:flowB n=(decide (0≤n)&&decide (n≤1152921504606846976)):=rfl;by_cases h:0≤n<;>by_cases h2:n≤1152921504606846976<;>simp[h,h2]at e<;>rw[e]<;>go_enter Tryz.func166,Tryz.ntmps166<;>go_wp2<;>go_ret<;>exact⟨rfl,rfl⟩
theorem isP_and (d:Dk) (k id:Int) (q:Q4) (er:Int) (h:partV d id=(q,er)):isP d k id=(decide (er=0)&&decide (q.a=k)):=by unfold isP;rw[h]
theorem isPart_any (d:Dk) (k id:Int) (hid:fits id) (w:World) (hd:d.In w w.heap.size):Calls Tryz.prog 187 #[d.v,.int .i64 k,.int .i64 id] w fun e w'=>e=.returned (.bool (isP d k id))∧Below w.heap.size w w':=by
 obtain⟨w0,hw0⟩:∃w0,w0=w.alloc d.ob:=⟨_,rfl⟩;have HB0:=aH (show Below w.heap.size w w0 by rw[hw0];exact bL (bR _ _) _);have HD0:=aH (hd.then HB0.out);have HK0:=aH (show DkAt w0 w.heap.size d by rw[hw0];exact Cells4.new w _ _ _ _ _);have HP:=aH (fun w h=>part_any d id hid w h);obtain⟨t,ht⟩:∃t,partV d id=t:=⟨_,rfl⟩;rw[ht]at HP;obtain⟨q,er⟩:=t;have e:=isP_and d k id q er ht;rw[e];clear e ht hd;obtain⟨qa,qb,qc,qd⟩:=q;unfold partVal at HP;dsimp only at HP⊢;go_enter Tryz.func187,Tryz.ntmps187;go_wp2_with fail;rw[←hw0];clear hw0;refine(HP.out _ HD0.out).mono ?_;rintro e w1 ⟨rfl,hb1⟩;have HB1:=aH (bC HB0.out hb1);clear hb1;by_cases h0:er=0
 ·subst h0;by_cases h1:qa=k
  ·go_wp2
   go_ret
   exact⟨ret_b (by simp),by first|exact bL HB1.out _|(exact bL (bL HB1.out _) _)⟩
  ·go_wp2
   go_ret
   exact⟨ret_b (by simp[h1]),by first|exact bL HB1.out _|(exact bL (bL HB1.out _) _)⟩
 ·have h0':(er==0)=false:=by simpa using h0
  have h0'':=h0;clear h0;go_wp2
  go_ret
  exact⟨ret_b (by simp[h0'']),by first|exact bL HB1.out _|(exact bL (bL HB1.out _) _)⟩
theorem rzcheck_any (d:Dk) (w:World) (hd:d.In w w.heap.size):Calls Tryz.prog 82 #[d.v] w fun e w'=>e=.returned (.int .i64 (zchk d))∧Below w.heap.size w w':=by
 obtain⟨w0,hw0⟩:∃w0,w0=w.alloc d.ob:=⟨_,rfl⟩;have HB0:=aH (show Below w.heap.size w w0 by rw[hw0];exact bL (bR _ _) _);have HD0:=aH (hd.then HB0.out);have HT:=aH (fun w h=>rtable_any d w h);clear hd;go_enter Tryz.func82,Tryz.ntmps82;go_wp2_with fail;rw[←hw0];clear hw0;refine(HT.out _ HD0.out).mono ?_;rintro e w1 ⟨v,rfl,_,hb1⟩;go_wp2
 go_ret
 exact⟨rfl,bC HB0.out hb1⟩
def hbB (xs:List (Int×Int)) (i:Nat) (b:Int):Bool:=(xs.take i).any fun q=>q.1==2&&q.2==b
def okT (xs:List (Int×Int)) (arms:Int) (i:Nat):Bool:=!(Tp.ofV (xs.getD i (0,0)).1 (xs.getD i (0,0)).2==0)&&decide ((xs.getD i (0,0)).2≤arms)&& !hbB xs i (xs.getD i (0,0)).2
def rtB (xs:List (Int×Int)) (arms:Int):Bool:=(List.range xs.length).all (okT xs arms)
theorem rt_no {xs:List (Int×Int)} {arms:Int} (k:Nat) (hk:k<xs.length) (h:okT xs arms k=false):rtB xs arms=false:=by
 unfold rtB;rw[←Bool.not_eq_true,List.all_eq_true];intro hh;rw[hh k (List.mem_range.2 hk)]at h
 cases h
theorem rt_yes {xs:List (Int×Int)} {arms:Int} (h:∀k,k<xs.length→okT xs arms k=true):rtB xs arms=true:=by
 unfold rtB;rw[List.all_eq_true];exact fun k hk=>h k (List.mem_range.1 hk)
theorem hb_snoc (xs:List (Int×Int)) (i:Nat) (h:i<xs.length) (b:Int):hbB xs (i+1) b=(hbB xs i b||((xs.getD i (0,0)).1==2&&(xs.getD i (0,0)).2==b)):=by
 unfold hbB;rw[take_snoc xs i (0,0) h,List.any_append];simp
theorem ofV_by {s b:Int} (h:¬Tp.ofV s b=0):0≤b∧b≤8∧(s=2→1≤b)∧(s≠2→b=0):=by
 unfold Tp.ofV at h;by_cases h1:(s=1∨s=3)∧b=0
 ·omega
 ·rw[if_neg h1]at h;by_cases h2:s=2∧1≤b∧b≤8
  ·omega
  ·rw[if_neg h2]at h;exact absurd rfl h
theorem hb_zero (xs:List (Int×Int)) (arms:Int):∀i,i≤xs.length→(∀j,j<i→okT xs arms j=true)→hbB xs i 0=false:=by
 intro i
 induction i with
 |zero=>intro _ _;rfl
 |succ i ih=>
  intro hi h;rw[hb_snoc xs i (by omega),ih (by omega) (fun j hj=>h j (by omega)),Bool.false_or];have:=h i (by omega);unfold okT at this;rw[Bool.and_eq_true,Bool.and_eq_true]at this;have h0:¬Tp.ofV (xs.getD i (0,0)).1 (xs.getD i (0,0)).2=0:=by simpa using this.1.1
  have h2:=ofV_by h0;rw[←Bool.not_eq_true,Bool.and_eq_true,beq_iff_eq,beq_iff_eq];rintro⟨e1,e2⟩;have:=h2.2.2.1 e1;omega
theorem rightTips_any (v:Value) (xs:List (Int×Int)) (arms:Int) (w:World) (hv:KT.IsL w w.heap.size v xs):Calls Tryz.prog 108 #[v,.int .i64 arms] w fun e w'=>e=.returned (.bool (rtB xs arms))∧Below w.heap.size w w':=by
 obtain⟨A,c,rfl,hc⟩:=hv.shape;have HV:=aH hv;have hl:=hv.2.2;clear hv;have HNO:=aH (fun k h1 h2=>@rt_no xs arms k h1 h2);have HYES:=aH (fun h=>@rt_yes xs arms h);obtain⟨w0,hw0⟩:∃w0,w0=w.alloc (.cells #[.bool false,.bool false,.bool false,.bool false,.bool false,.bool false,.bool false,.bool false,.bool false] 202):=⟨_,rfl⟩;have HB0:=aH (show Below w.heap.size w w0 by rw[hw0];exact bL (bR _ _) _);have HF0:=aH (show ∀x:Nat,x≤8→w0.cell? ⟨w.heap.size,x,none⟩=some (.bool (hbB xs 0 x))∧w0.frozen? ⟨w.heap.size,x,none⟩=false from fun x hx=>by
  rw[hw0];refine⟨?_,by simp⟩;rw[alloc_at]
  match x,hx with
  |0,_=>rfl
  |1,_=>rfl
  |2,_=>rfl
  |3,_=>rfl
  |4,_=>rfl
  |5,_=>rfl
  |6,_=>rfl
  |7,_=>rfl
  |8,_=>rfl)
 have HSZ:=aH (show w.heap.size<w0.heap.size by rw[hw0];simp);go_enter Tryz.func108,Tryz.ntmps108;go_wp2;rw[←hw0];clear hw0
 go_loopw [10] (fun i wr=>∃k:Nat,i=.int .i64 k∧k≤xs.length∧Hid (∀j,j<k→okT xs arms j=true)∧Hid (∀x:Nat,x≤8→wr.cell? ⟨w.heap.size,x,none⟩=some (.bool (hbB xs k x))∧wr.frozen? ⟨w.heap.size,x,none⟩=false)∧Hid (Below w.heap.size w wr)) (fun i _=>xs.length-(intOf i).toNat)
 case atStart=>exact⟨0,rfl,Nat.zero_le _,aH (fun j hj=>absurd hj (Nat.not_lt_zero _)),HF0,HB0⟩
 case round=>
  obtain⟨k,rfl,hk,hok,hf,hb⟩:=hrel;have HOK:=aH hok.out;have HF:=aH hf.out;have HBR:=aH hb.out;clear hok hf hb;by_cases hlt:k<xs.length
  ·obtain⟨b,off,rfl,hb,hbc,hcell⟩:=tip_cells (HV.out.then HBR.out) (by omega);obtain⟨e1,e2⟩:=hcell k hlt;have HSN:=aH (hb_snoc xs k hlt);have HKO:=aH (show okT xs arms k=(!(Tp.ofV (xs.getD k (0,0)).1 (xs.getD k (0,0)).2==0)&&decide ((xs.getD k (0,0)).2≤arms)&& !hbB xs k (xs.getD k (0,0)).2)from rfl);have HZ:=aH (hb_zero xs arms k (by omega) HOK.out);have HNOk:=aH (HNO.out k hlt);clear hcell;generalize xs.getD k (0,0)=t at *;obtain⟨t1,t2⟩:=t;dsimp only at *;have HRT:=aH (fun w=>Tp.right_any t1 t2 w);have HBY:=aH (fun h=>@ofV_by t1 t2 h);have hba:=bL (bR wr.heap.size wr) (.cells #[.int .i64 t1,.int .i64 t2] 146);have hw0l:w.heap.size<wr.heap.size:=wB _ _ (HF.out 0 (by omega)).1;have HW0:=aH hw0l;go_wp2_with fail;have c1:(wr.alloc (.cells #[.int .i64 t1,.int .i64 t2] 146)).cell? ⟨wr.heap.size,0,none⟩=some (.int .i64 t1):=(by simp[go_sem]);have c2:(wr.alloc (.cells #[.int .i64 t1,.int .i64 t2] 146)).cell? ⟨wr.heap.size,1,none⟩=some (.int .i64 t2):=(by simp[go_sem]);generalize wr.alloc (.cells #[.int .i64 t1,.int .i64 t2] 146)=V at *;refine(HRT.out _).mono ?_;rintro e V2 ⟨rfl,hb2⟩;have c1:=kK hb2 c1;have c2:=kK hb2 c2;have hbb:=bC hba hb2;have HB2:=aH (bC HBR.out hbb);have HF2:=aH (show ∀x:Nat,x≤8→V2.cell? ⟨w.heap.size,x,none⟩=some (.bool (hbB xs k x))∧V2.frozen? ⟨w.heap.size,x,none⟩=false from fun x hx=>⟨kK hbb (HF.out x hx).1,by rw[hbb.frozen (p:=⟨w.heap.size,x,none⟩) HW0.out];exact(HF.out x hx).2⟩);clear hba hb2 hbb e1 e2 hw0l;by_cases h0:Tp.ofV t1 t2=0
   ·have hno:okT xs arms k=false:=(by rw[HKO.out,show(Tp.ofV t1 t2==0)=true by simpa using h0];rfl);have HR:=aH (HNOk.out hno);have hz:(Tp.ofV t1 t2==0)=true:=(by simpa using h0);clear h0 hno;rw[hz];go_wp2
    go_ret
    exact⟨by rw[HR.out];rfl,HB2.out⟩
   ·obtain⟨b0,b8,b2,bn⟩:=HBY.out h0;have hz:(Tp.ofV t1 t2==0)=false:=(by simpa using h0);clear h0;rw[hz]at HKO⊢;by_cases harm:t2≤arms
    ·obtain⟨x,rfl⟩:=Int.eq_ofNat_of_zero_le b0;obtain⟨fx,zx⟩:=HF2.out x (by omega);rw[dT harm]at HKO;have HQ:=aH (show hbB xs (k+1) x=(hbB xs k x||(t1==2))from by rw[HSN.out];simp);have HQ2:=aH (show ∀y:Nat,y≠x→hbB xs (k+1) y=hbB xs k y from fun y hy=>by rw[HSN.out,show((x:Int)==(y:Int))=false by simp;omega];simp);have HZ2:=aH (show t1≠2→hbB xs k x=false from fun h=>by have e:=bn h;rw[e];exact HZ.out);have HQX:=aH (show hbB xs k (x:Int)=hbB xs k x from rfl);obtain⟨q,hq⟩:∃q,hbB xs k (x:Int)=q:=⟨_,rfl⟩;rw[hq]at fx HKO HQ HZ2;have HQQ:=aH hq;clear hq;have hx9:(x:Int)<9:=(by omega);clear b2 bn
     cases q
     ·have hyes:okT xs arms k=true:=(by rw[HKO.out];rfl);have HY:=aH hyes;clear hyes;go_wp2
      go_roundw
      case rel=>
       refine⟨k+1,num_i (by omega),by omega,aH (fun j hj=>?_),aH (fun y hy=>?_),aH (HB2.out.setCell (nR _) _)⟩
       ·by_cases h:j=k
        ·subst h;exact HY.out
        ·exact HOK.out j (by omega)
       ·by_cases h:y=x
        ·subst h;refine⟨?_,sF (HF2.out y hy).2⟩;rw[HQ.out,Bool.false_or];exact st_same fx
        ·refine⟨?_,sF (HF2.out y hy).2⟩;rw[HQ2.out y h];exact sO (HF2.out y hy).1 (aN (.inr (fun e=>h e.symm)))
      case measure=>simp[intOf];omega
     ·have hno:okT xs arms k=false:=(by rw[HKO.out];rfl);have HR:=aH (HNOk.out hno);clear hno;go_wp2
      go_ret
      exact⟨by rw[HR.out];rfl,HB2.out⟩
    ·have hno:okT xs arms k=false:=(by rw[HKO.out,dF harm];rfl);have HR:=aH (HNOk.out hno);clear hno;have harm':arms<t2:=(by omega);clear harm;go_wp2
     go_ret
     exact⟨by rw[HR.out];rfl,HB2.out⟩
  ·obtain rfl:k=xs.length:=(by omega);have HR:=aH (HYES.out HOK.out);go_wp2
   go_ret
   exact⟨by rw[HR.out];rfl,HBR.out⟩
def rsB (a f:Ab):Bool:=decide (a.st=f.st)&&flowB a.inn&&flowB a.out&&decide (fitV (Two.sumL (volS a.c))=Go.RowKit.wrap64 (Go.RowKit.wrap64 (a.st+a.inn)-a.out))
theorem rightSums_any (s f:Stk) (w:World) (hs:s.In w w.heap.size) (hl:s.cl.length≤100000):Calls Tryz.prog 109 #[s.v,f.v] w fun e w'=>e=.returned (.bool (rsB s.ab f.ab))∧Below w.heap.size w w':=by
 obtain⟨w0,hw0⟩:∃w0,w0=(w.alloc s.ob).alloc f.ob:=⟨_,rfl⟩;have HB0:=aH (show Below w.heap.size w w0 by rw[hw0];exact bL (bL (bR _ _) _) _);have HS0:=aH (hs.then HB0.out);have HS1:=aH (show SkAt w0 w.heap.size s by rw[hw0];exact(Cells6.new w _ _ _ _ _ _ _).below (bL (bR _ _) _));have HF1:=aH (show SkAt w0 (w.heap.size+1) f by
  have h:=Cells6.new (w.alloc s.ob) 41 (.slice f.cA f.cl.length f.cc) (.slice f.lA f.ll.length f.lc) (.slice f.tA f.tl.length f.tc) (.int .i64 f.st) (.int .i64 f.inn) (.int .i64 f.out);rw[←hw0,show(w.alloc s.ob).heap.size=w.heap.size+1 by simp]at h;exact h)
 have HFL:=aH (fun n w=>isFlow_any n w);have HT:=aH (fun w h=>total_any s w h hl);have HE:=aH (show rsB s.ab f.ab=(decide (s.st=f.st)&&flowB s.inn&&flowB s.out&&decide (fitV (Two.sumL (volS s.cl))=Go.RowKit.wrap64 (Go.RowKit.wrap64 (s.st+s.inn)-s.out)))from rfl);generalize hr:rsB s.ab f.ab=r at *;clear hr hs;have HT:=aH (show ∀w,s.In w w.heap.size→Calls Tryz.prog 97 #[s.v] w fun e w'=>e=.returned (totV s.cl)∧Below w.heap.size w w' from HT.out);obtain⟨fT,hfT⟩:∃x,fitV (Two.sumL (volS s.cl))=x:=⟨_,rfl⟩;obtain⟨fX,hfX⟩:∃x,fitE (Two.sumL (volS s.cl))=x:=⟨_,rfl⟩;unfold totV at HT;rw[hfT]at HT HE;rw[hfX]at HT;clear hfT hfX;obtain⟨cA,cc,cl,lA,lc,ll,tA,tc,tl,st,inn,out⟩:=s;obtain⟨cA2,cc2,cl2,lA2,lc2,ll2,tA2,tc2,tl2,st2,inn2,out2⟩:=f;dsimp only at *;obtain⟨g0,g1,g2,g3,g4,g5,_⟩:=HS1.out;obtain⟨f0,f1,f2,f3,f4,f5,_⟩:=HF1.out;dsimp only at g0 g1 g2 g3 g4 g5 f0 f1 f2 f3 f4 f5;rw[hw0]at g0 g1 g2 g3 g4 g5 f0 f1 f2 f3 f4 f5;by_cases h1:st=st2
 case neg=>
  have hr:r=false:=by rw[HE.out,dF h1];rfl
  subst hr;have h1':(st != st2)=true:=by simpa using h1
  clear h1;go_enter Tryz.func109,Tryz.ntmps109;go_wp2
  go_ret
  exact⟨rfl,by rw[←hw0];exact HB0.out⟩
 subst h1;rw[show decide (st=st)=true from dT rfl,Bool.true_and]at HE;obtain⟨q1,hq1⟩:∃q,flowB inn=q:=⟨_,rfl⟩;obtain⟨q2,hq2⟩:∃q,flowB out=q:=⟨_,rfl⟩;have HF4:=aH (fun w=>HFL.out inn w);have HF5:=aH (fun w=>HFL.out out w);rw[hq1]at HE HF4;rw[hq2]at HE HF5;clear hq1 hq2 HFL
 cases q1
 ·have hr:r=false:=by rw[HE.out];rfl
  subst hr;go_enter Tryz.func109,Tryz.ntmps109;go_wp2_with fail;rw[←hw0];clear hw0;refine(HF4.out _).mono ?_;rintro e wz ⟨rfl,rfl⟩;go_wp2
  go_ret
  exact⟨rfl,HB0.out⟩
 cases q2
 ·have hr:r=false:=by rw[HE.out];rfl
  subst hr;go_enter Tryz.func109,Tryz.ntmps109;go_wp2_with fail;rw[←hw0]at *;clear hw0;refine(HF4.out _).mono ?_;rintro e wz ⟨rfl,rfl⟩;go_wp2_with fail;refine(HF5.out _).mono ?_;rintro e wz ⟨rfl,rfl⟩;go_wp2
  go_ret
  exact⟨rfl,HB0.out⟩
 rw[Bool.true_and,Bool.true_and]at HE;go_enter Tryz.func109,Tryz.ntmps109;go_wp2_with fail;rw[←hw0]at *;clear hw0;refine(HF4.out _).mono ?_;rintro e wz ⟨rfl,rfl⟩;go_wp2_with fail;refine(HF5.out _).mono ?_;rintro e wz ⟨rfl,rfl⟩;go_wp2_with fail;refine(HT.out _ HS0.out).mono ?_;rintro e w1 ⟨rfl,hb1⟩;have g3:=kK hb1 g3;have g4:=kK hb1 g4;have g5:=kK hb1 g5;have HB1:=aH (bC HB0.out hb1);clear hb1;go_wp2
 go_ret
 refine⟨?_,HB1.out⟩;rw[HE.out];exact ret_b (by rw[Bool.eq_iff_iff];simp)
end Go.Proofs.YtmecohdedghiaaaGreatDoor
