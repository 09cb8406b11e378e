/- A model at first, by the program. -/
import Derived.Test.YtmecohdedghiaaaGreatDoorPn00
import Derived.Test.YtmecohdedghiaaaGreatDoorPn39
import Derived.Test.YtmecohdedghiaaaGreatDoorPn23
import Derived.Test.YtmecohdedghiaaaGreatDoorPn20
import Derived.Test.YtmecohdedghiaaaGreatDoorPn38
import Derived.Test.YtmecohdedghiaaaGreatDoorPn32
import Derived.Test.YtmecohdedghiaaaGreatDoorPn36
set_option maxRecDepth 100000
set_option maxHeartbeats 8000000
namespace Go.Proofs.YtmecohdedghiaaaGreatDoor
open Go.RowKit
def lwA:Dk:=lwD none none none none
theorem lw_ab (A P R S:Option Addr):(lwD A P R S).ab=lwA.ab:=rfl
theorem lw_pt (id:Int) (h:id=1∨id=2∨id=3∨id=4):(partV lwA id).2=0:=by
 unfold partV;rw[if_pos (show dchk lwA=0 from lw_chk _ _ _ _)];rcases h with rfl|rfl|rfl|rfl<;>kernel_rfl
theorem lw_len:(partsK lwA).length=5:=by
 unfold partsK;rw[if_pos (show dchk lwA=0 from lw_chk _ _ _ _)];kernel_rfl
def lr1 (a:Option Addr) (c:Nat):Rq:=⟨1,a,c,[3,1],0,0,0,0⟩
def lr3:Rq:=⟨3,none,0,[],0,0,0,0⟩
def lr4 (a:Option Addr) (c:Nat):Rq:=⟨1,a,c,[2,3,4],0,0,0,0⟩
def lr7:Rq:=⟨7,none,0,[],2,0,0,0⟩
def lr9:Rq:=⟨9,none,0,[],0,0,0,0⟩
theorem mb_ok {l:List Int} (h0:l≠[]) (h1:l.length≤16) (h2:∀i,i<l.length→l.getD i 0 ∉ l.take i):mbV l=(0,0):=by
 unfold mbV;rw[if_neg h0,if_neg (by omega),twV_eq (.inl ⟨rfl,h2⟩),if_neg (by decide)]
theorem ref_ok {d:Dk} {r:Rq} (hz:zchk d=0) (hm:mfV r=(0,0)) (hn:nmF d r=none) (hl:lastV r=(0,0)):refV d r=(0,0):=by
 unfold refV;rw[if_neg (by rw[hz];simp),if_neg (by rw[hm];simp),hn];exact hl
theorem lw_rf1 (a:Option Addr) (c:Nat):refV lwA (lr1 a c)=(0,0):=by
 refine ref_ok (lw_z _ _ _ _) ?_ ?_ rfl
 ·unfold mfV;rw[if_neg (by show ¬((1:Int)<1∨10<(1:Int));decide),if_neg (by simp[unO,lr1,unN,unA,unB,unU,unV]),if_pos (.inl rfl)];exact mb_ok (l:=[3,1]) (by simp) (by simp) (by decide)
 ·unfold nmF nmL;rw[if_pos (.inl rfl)];show List.find? _ [((0:Int),(3:Int)),(0,1)]=none;rw[List.find?_eq_none];intro x hx;simp only[List.mem_cons,List.not_mem_nil,or_false]at hx;rcases hx with rfl|rfl
  ·show ¬(!iwP lwA 0 3)=true;unfold iwP;rw[lw_pt 3 (by decide)];decide
  ·show ¬(!iwP lwA 0 1)=true;unfold iwP;rw[lw_pt 1 (by decide)];decide
theorem lw_rf4 (a:Option Addr) (c:Nat):refV lwA (lr4 a c)=(0,0):=by
 refine ref_ok (lw_z _ _ _ _) ?_ ?_ rfl
 ·unfold mfV;rw[if_neg (by show ¬((1:Int)<1∨10<(1:Int));decide),if_neg (by simp[unO,lr4,unN,unA,unB,unU,unV]),if_pos (.inl rfl)];exact mb_ok (l:=[2,3,4]) (by simp) (by simp) (by decide)
 ·unfold nmF nmL;rw[if_pos (.inl rfl)];show List.find? _ [((0:Int),(2:Int)),(0,3),(0,4)]=none;rw[List.find?_eq_none];intro x hx;simp only[List.mem_cons,List.not_mem_nil,or_false]at hx;rcases hx with rfl|rfl|rfl
  ·show ¬(!iwP lwA 0 2)=true;unfold iwP;rw[lw_pt 2 (by decide)];decide
  ·show ¬(!iwP lwA 0 3)=true;unfold iwP;rw[lw_pt 3 (by decide)];decide
  ·show ¬(!iwP lwA 0 4)=true;unfold iwP;rw[lw_pt 4 (by decide)];decide
theorem lw_rf3:refV lwA lr3=(0,0):=by
 refine ref_ok (lw_z _ _ _ _) ?_ ?_ rfl
 ·unfold mfV;rw[if_neg (by decide),if_neg (by decide),if_neg (by decide)]
 ·unfold nmF;rw[show nmL lr3=[]from by decide];rfl
theorem lw_i2:isP lwA 2 2=true:=by rw[(isP_eq lwA (lw_chk _ _ _ _) 2).2,show wellN lwA=2 from lw_well _ _ _ _,show tipN lwA=1 from lw_tip _ _ _ _];decide
theorem lw_i1:isP lwA 1 0=true:=by rw[(isP_eq lwA (lw_chk _ _ _ _) 0).1,show wellN lwA=2 from lw_well _ _ _ _];decide
theorem iw_is (d:Dk) (k id:Int) (hk:k≠0):iwP d k id=isP d k id:=by
 unfold iwP isP;rw[dF hk,Bool.false_or]
theorem lw_rf7:refV lwA lr7=(0,0):=by
 refine ref_ok (lw_z _ _ _ _) ?_ ?_ rfl
 ·unfold mfV;rw[if_neg (by decide),if_neg (by decide),if_neg (by decide)]
 ·unfold nmF;rw[show nmL lr7=[(2,2)]from by decide,List.find?_eq_none];intro x hx;simp only[List.mem_cons,List.not_mem_nil,or_false]at hx;subst hx;show ¬(!iwP lwA 2 2)=true;rw[iw_is _ _ _ (by decide),lw_i2];decide
theorem lw_rf9:refV lwA lr9=(0,0):=by
 refine ref_ok (lw_z _ _ _ _) ?_ ?_ rfl
 ·unfold mfV;rw[if_neg (by decide),if_neg (by decide),if_neg (by decide)]
 ·unfold nmF;rw[show nmL lr9=[(1,0)]from by decide,List.find?_eq_none];intro x hx;simp only[List.mem_cons,List.not_mem_nil,or_false]at hx;subst hx;show ¬(!iwP lwA 1 0)=true;rw[iw_is _ _ _ (by decide),lw_i1];decide
theorem lw_set2:setV lwA [2]=[3]:=by
 unfold setV spsL;rw[if_pos (show spsE lwA [2]=0 from lw_e _ _ _ _ [2] (by decide))];show foldS lwA [spA lwA 2]=_;rw[show spA lwA 2=_ from lw_sp _ _ _ _ 2];unfold foldS lanP;rw[show frst lwA=3 from lw_cnt _ _ _ _];rfl
theorem lw_mu7:muV lwA lr7=[2,3]:=by
 unfold muV;rw[if_pos lw_rf7];show Two.mk ([2]++setV lwA [2])=_;rw[lw_set2];rfl
theorem mu_nil {d:Dk} {r:Rq} (h:r.k=1∨r.k=3∨r.k=9):muV d r=[]:=by
 unfold muV muL
 split
 ·rw[if_neg (by omega),if_neg (by omega),if_neg (by omega)]
 ·rfl
theorem br_nil {d:Dk} {o:List Int} {who:Int} {r:Rq} (h1:1≤who∧who≤d.arms) (h2:refV d r=(0,0)) (h3:muV d r=[]):brV d o who r=(0,0):=by
 unfold brV;rw[if_neg (by omega),if_pos h2,h3];rfl
def wo0:List Int:=[0,0,0,0,0]
def wo1:List Int:=[0,1,0,1,0]
def wo4:List Int:=[0,0,2,2,2]
theorem lw_br7:brV lwA wo4 2 lr7=(0,0):=by
 unfold brV;rw[if_neg (by decide),if_pos lw_rf7,lw_mu7];decide
theorem lw_e1:rvE wo0 [3,1] 1=0∧setAll wo0 (Two.mk [3,1]) 1=wo1∧(ofL wo1 1 wo0.length).length=2:=by decide+kernel
theorem lw_e2:rvE wo1 [3,1] 2=140∧rvI wo1 [3,1] 2=1:=by decide+kernel
theorem lw_e3:psE wo1 (ofL wo1 1 wo1.length) 1 (giveQ 1) 141=0∧setAll wo1 (ofL wo1 1 wo1.length) 0=wo0∧(ofL wo1 1 wo1.length).length=2:=by decide+kernel
theorem lw_e4:rvE wo0 [2,3,4] 2=0∧setAll wo0 (Two.mk [2,3,4]) 2=wo4∧(ofL wo4 2 wo0.length).length=3:=by decide+kernel
theorem lw_t0:(newA lwA).t=[(1,0)]:=by
 show List.replicate (tipN lwA) (1,0)=_;rw[show tipN lwA=1 from lw_tip _ _ _ _];rfl
theorem lw_hd0 (b:Int) (hb:b=1∨b=2):(hdF (newA lwA) b).2=false:=by
 unfold hdF;rw[lw_t0];rcases hb with rfl|rfl<;>decide+kernel
theorem lw_cl:(newA lwA).c.length=2:=by rw[(newA_len lwA (lw_z _ _ _ _)).1];exact lw_well _ _ _ _
theorem lw_tk:tiK (newA lwA) 2=0:=by
 unfold tiK;rw[lw_cl];rfl
theorem lw_rg:rgS lwA (newA lwA)=true:=rg_new lwA (lw_z _ _ _ _)
theorem lw_ta:taE lwA (newA lwA) 2 2=0:=by
 unfold taE;rw[if_pos lw_i2,if_neg (by rw[lw_hd0 2 (.inr rfl)];decide),lw_tk,lw_t0];decide+kernel
theorem lw_cg:cgE lwA (newA lwA) 2 (taE lwA (newA lwA) 2 2)=0:=by
 unfold cgE;rw[if_pos lw_rg,if_pos (by decide),lw_ta]
theorem lw_t5:(taA (newA lwA) 2 2).t=[(2,2)]:=by
 show(newA lwA).t.set (tiK (newA lwA) 2) _=_;rw[lw_tk,lw_t0];decide+kernel
theorem lw_c5:(taA (newA lwA) 2 2).c=(newA lwA).c:=rfl
theorem lw_rg5:rgS lwA (taA (newA lwA) 2 2)=true:=rg_take lw_rg (by decide) (by decide) lw_ta
theorem lw_hn2:(haV lwA (taA (newA lwA) 2 2) 2).1=2:=by
 have h:hdF (taA (newA lwA) 2 2) 2=(0,true):=by
  unfold hdF;rw[lw_t5];decide+kernel
 unfold haV;rw[if_pos lw_rg5,h,if_pos rfl,lw_c5,lw_cl];rfl
theorem lw_hn1:(haV lwA (taA (newA lwA) 2 2) 1).1= -1:=by
 have h:(hdF (taA (newA lwA) 2 2) 1).2=false:=by
  unfold hdF;rw[lw_t5];decide+kernel
 unfold haV;rw[if_pos lw_rg5,if_neg (by rw[h];decide)]
theorem rgS_ab {d t:Dk} (h:d.ab=t.ab) (a:Ab):rgS d a=rgS t a:=by rw[←ab_rgS d,h,ab_rgS]
theorem ha_ab {d t:Dk} (h:d.ab=t.ab) (a:Ab) (b:Int):haV d a b=haV t a b:=by rw[←ab_haV d,h,ab_haV]
theorem lw_rM {m:Md} {a:Ab} {o:List Int} (hd:m.d.ab=lwA.ab) (hs:m.s.ab=a) (ho:m.o=o) (h1:rgS lwA a=true) (h2:o.length=5) (h3:owB o 2=true):rgM m=true:=by
 have ha:m.d.arms=2:=show m.d.ab.arms=2 by rw[hd];rfl
 refine rgM_mk (by rw[hs,rgS_ab hd];exact h1) ?_ (by rw[ho,ha];exact h3);rw[ho,h2,←ab_partsK,hd,ab_partsK,lw_len]
structure NewP (d:Dk) (t:Md):Prop where
 ok:zchk d=0→t.d.ab=d.ab∧t.s.ab=newA d∧t.o=List.replicate (partsK d).length 0
 no:zchk d≠0→t.d.ab=(⟨none,0,0,[],none,0,0,[],none,0,0,[],0⟩:Dk)∧t.s.ab=ab0∧t.o=[]
def dk0:Dk:=⟨none,0,0,[],none,0,0,[],none,0,0,[],0⟩
def md0:Md:=⟨dk0,stk0,none,0,[]⟩
theorem md0_in (w:World) (B:Nat):md0.In w B:=⟨⟨Lk.IsL.nil _ _ _ _,Lk.IsL.nil _ _ _ _,Lk.IsL.nil _ _ _ _,fun q hq=>by simp[md0,dk0]at hq,by decide⟩,stk0_in _ _,Lk.IsL.nil _ _ _ _⟩
theorem md0_off (G:Nat):md0.Off G:=⟨⟨.inl rfl,.inl rfl,.inl rfl,fun q hq=>by simp[md0,dk0]at hq⟩,⟨.inl rfl,.inl rfl,.inl rfl,fun q hq=>by simp[md0,stk0]at hq⟩,.inl rfl⟩
theorem newO_len {n:Nat} (h:n≤49152):newO (n:Int)=List.replicate n 0:=by
 unfold newO;rw[if_neg (by omega)];rfl
theorem newM_any (d:Dk) (w:World) (hd:d.In w w.heap.size):Calls Tryz.prog 19 #[d.v] w fun e w'=>∃t:Md,e=.returned (.tuple #[t.v,.int .i64 (zchk d)])∧t.In w' w'.heap.size∧Below w.heap.size w w'∧(∀G,G<w.heap.size→t.Off G)∧NewP d t:=by
 obtain⟨w0,hw0⟩:∃w0,w0=((w.alloc d.ob).alloc (.cells mdz 43)):=⟨_,rfl⟩;have z1:(w.alloc d.ob).heap.size=w.heap.size+1:=by simp
 have HSZ:=aH (show w0.heap.size=w.heap.size+2 by rw[hw0];simp);have HB0:=aH (show Below w.heap.size w w0 by rw[hw0];exact bL (bL (bR _ _) _) _);have HD0:=aH (hd.then HB0.out);have HR1:=aH (show Row w0 w.heap.size [.slice d.bA d.bn d.bc,.slice d.pA d.pn d.pc,.slice d.rA d.rn d.rc,.int .i64 d.arms]by rw[hw0];exact(Row.new w _ _ _ rfl).below (bL (bR _ _) _));have HR2:=aH (show Row w0 (w.heap.size+1) [.slice none 0 0,.slice none 0 0,.slice none 0 0,.int .i64 0,.slice none 0 0,.slice none 0 0,.slice none 0 0,.int .i64 0,.int .i64 0,.int .i64 0,.slice none 0 0]by rw[hw0,←z1];exact Row.new (w.alloc d.ob) _ _ _ rfl);have HNW:=aH (fun V (h:d.In V V.heap.size)=>new_far d V h);clear hd z1;by_cases hz:zchk d=0
 case neg=>
  have HZ:=aH (show NewP d md0 from⟨fun h=>absurd h hz,fun _=>⟨rfl,rfl,rfl⟩⟩);generalize zchk d=E at *;have hE':(E != 0)=true:=by simpa using hz
  go_enter Tryz.func19,Tryz.ntmps19
  go_upto_region 1 with fail
  rw[←hw0];clear hw0;have g0:=HR1.out.g 0 rfl;have g1:=HR1.out.g 1 rfl;have g2:=HR1.out.g 2 rfl;have g3:=HR1.out.g 3 rfl;go_wp2_with fail;refine(HNW.out w0 HD0.out).mono ?_;rintro e w1 ⟨s,rfl,hs,hab,hb,hf⟩;have HB1:=aH (bC HB0.out hb);have HRx:=aH (HR2.out.below hb);clear hs hab hb hf g0 g1 g2 g3
  go_upto_region 3 with fail
  have HB2:=aH (bC HB1.out (bL (bR _ w1) s.ob));replace HRx:=aH (HRx.out.below (bL (bR _ w1) s.ob));clear HB1;generalize w1.alloc s.ob=w2 at *;have k0:=HRx.out.g 0 rfl;have y0:=HRx.out.z 0 rfl;have k1:=HRx.out.g 1 rfl;have y1:=HRx.out.z 1 rfl;have k2:=HRx.out.g 2 rfl;have y2:=HRx.out.z 2 rfl;have k3:=HRx.out.g 3 rfl;have y3:=HRx.out.z 3 rfl;have k4:=HRx.out.g 4 rfl;have y4:=HRx.out.z 4 rfl;have k5:=HRx.out.g 5 rfl;have y5:=HRx.out.z 5 rfl;have k6:=HRx.out.g 6 rfl;have y6:=HRx.out.z 6 rfl;have k7:=HRx.out.g 7 rfl;have y7:=HRx.out.z 7 rfl;have k8:=HRx.out.g 8 rfl;have y8:=HRx.out.z 8 rfl;have k9:=HRx.out.g 9 rfl;have y9:=HRx.out.z 9 rfl;have k10:=HRx.out.g 10 rfl;have y10:=HRx.out.z 10 rfl;go_wp2;have HF:=aH ((((((((((((HRx.out.set 0 (.slice none 0 0)).set 1 (.slice none 0 0)).set 2 (.slice none 0 0)).set 3 (.int .i64 0)).set 4 (.slice none 0 0)).set 5 (.slice none 0 0)).set 6 (.slice none 0 0)).set 7 (.int .i64 0)).set 8 (.int .i64 0)).set 9 (.int .i64 0)).set 10 (.slice none 0 0)));have a0:=HF.out.g 0 rfl;have a1:=HF.out.g 1 rfl;have a2:=HF.out.g 2 rfl;have a3:=HF.out.g 3 rfl;have a4:=HF.out.g 4 rfl;have a5:=HF.out.g 5 rfl;have a6:=HF.out.g 6 rfl;have a7:=HF.out.g 7 rfl;have a8:=HF.out.g 8 rfl;have a9:=HF.out.g 9 rfl;have a10:=HF.out.g 10 rfl;refine bP (v:=.tuple #[.agg mdz,.int .i64 E]) ?_ rfl ?_
  ·simp[results,Tryz.results19,go_sem,a0,a1,a2,a3,a4,a5,a6,a7,a8,a9,a10]
  ·exact⟨md0,rfl,md0_in _ _,(((((((((((HB2.out.setCell (p:=⟨w.heap.size+1,0,none⟩) (Nat.le_succ w.heap.size) _).setCell (p:=⟨w.heap.size+1,1,none⟩) (Nat.le_succ w.heap.size) _).setCell (p:=⟨w.heap.size+1,2,none⟩) (Nat.le_succ w.heap.size) _).setCell (p:=⟨w.heap.size+1,3,none⟩) (Nat.le_succ w.heap.size) _).setCell (p:=⟨w.heap.size+1,4,none⟩) (Nat.le_succ w.heap.size) _).setCell (p:=⟨w.heap.size+1,5,none⟩) (Nat.le_succ w.heap.size) _).setCell (p:=⟨w.heap.size+1,6,none⟩) (Nat.le_succ w.heap.size) _).setCell (p:=⟨w.heap.size+1,7,none⟩) (Nat.le_succ w.heap.size) _).setCell (p:=⟨w.heap.size+1,8,none⟩) (Nat.le_succ w.heap.size) _).setCell (p:=⟨w.heap.size+1,9,none⟩) (Nat.le_succ w.heap.size) _).setCell (p:=⟨w.heap.size+1,10,none⟩) (Nat.le_succ w.heap.size) _),fun G _=>md0_off G,HZ.out⟩
 case pos=>
  have HL:=aH (lim_d hz);have HPL:=aH (parts_792 hz);have HCD:=aH (fun V (hb:Below w0.heap.size w0 V)=>copiedDeck_any d V (HD0.out.then hb) (by have:=HL.out;omega) (by have:=HL.out;omega) (by have:=HL.out;omega) (fun q hq=>by have:=HL.out.2.2.2 q hq;omega));have HID:=aH (fun V (hb:Below w0.heap.size w0 V)=>ids_any16 d V (HD0.out.then hb));have HNO:=aH (fun V=>new_o ((partsK d).length:Int) V);rw[newO_len (by have:=HPL.out;omega)]at HNO;have HNP:=aH (fun(t:Md) (h1:t.d.ab=d.ab) (h2:t.s.ab=newA d) (h3:t.o=List.replicate (partsK d).length 0)=>(⟨fun _=>⟨h1,h2,h3⟩,fun h=>absurd hz h⟩:NewP d t));have HZL:=aH (show(List.replicate (partsK d).length (0:Int)).length≤792 by rw[List.length_replicate];exact HPL.out);generalize List.replicate (partsK d).length (0:Int)=zs at *;rw[hz]at HNW⊢;rw[if_pos rfl]at HNW;clear hz;go_enter Tryz.func19,Tryz.ntmps19
  go_upto_region 1 with fail
  rw[←hw0];clear hw0;have g0:=HR1.out.g 0 rfl;have g1:=HR1.out.g 1 rfl;have g2:=HR1.out.g 2 rfl;have g3:=HR1.out.g 3 rfl;go_wp2_with fail;refine(HNW.out w0 HD0.out).mono ?_;rintro e w1 ⟨s,rfl,hs,hab,hb,hf⟩;have hb2:=bL (bR _ w1) s.ob;have HSA:=aH hab;have HSR:=aH (show Row (w1.alloc s.ob) w1.heap.size [.slice s.cA s.cl.length s.cc,.slice s.lA s.ll.length s.lc,.slice s.tA s.tl.length s.tc,.int .i64 s.st,.int .i64 s.inn,.int .i64 s.out]from Row.new _ _ _ _ rfl);have HSI:=aH (hs.then hb2);have HSF:=aH (show(∀G,G<w.heap.size+1+1→s.Off G)∧w.heap.size+1<w1.heap.size from⟨fun G hG=>hf.off (by have:=HSZ.out;omega),by have:=HSZ.out;have:=hb.size;omega⟩);have HB2:=aH (bC (bC HB0.out hb) hb2);have HBD:=aH (bC hb hb2);have HR12:=aH ((HR1.out.below hb).below hb2);have HR22:=aH ((HR2.out.below hb).below hb2);clear hs hab hb hf g0 g1 g2 g3 HR1 HR2 hb2
  go_upto_region 4 with fail
  generalize w1.alloc s.ob=w2 at *;generalize w1.heap.size=gs at *;replace HCD:=aH (fun V (hb:Below w2.heap.size w2 V)=>HCD.out V (bC HBD.out hb));replace HID:=aH (fun V (hb:Below w2.heap.size w2 V)=>HID.out V (bC HBD.out hb));have g0:=HR12.out.g 0 rfl;have g1:=HR12.out.g 1 rfl;have g2:=HR12.out.g 2 rfl;have g3:=HR12.out.g 3 rfl;have f0:=HSR.out.g 0 rfl;have f1:=HSR.out.g 1 rfl;have f2:=HSR.out.g 2 rfl;have f3:=HSR.out.g 3 rfl;have f4:=HSR.out.g 4 rfl;have f5:=HSR.out.g 5 rfl;refine wp_region_held_drew (S:=fun w'=>w'.cell? ⟨w.heap.size,0,none⟩=some (.slice d.bA d.bn d.bc)∧w'.cell? ⟨w.heap.size,1,none⟩=some (.slice d.pA d.pn d.pc)∧w'.cell? ⟨w.heap.size,2,none⟩=some (.slice d.rA d.rn d.rc)∧w'.cell? ⟨w.heap.size,3,none⟩=some (.int .i64 d.arms)∧w'.cell? ⟨gs,0,none⟩=some (.slice s.cA s.cl.length s.cc)∧w'.cell? ⟨gs,1,none⟩=some (.slice s.lA s.ll.length s.lc)∧w'.cell? ⟨gs,2,none⟩=some (.slice s.tA s.tl.length s.tc)∧w'.cell? ⟨gs,3,none⟩=some (.int .i64 s.st)∧w'.cell? ⟨gs,4,none⟩=some (.int .i64 s.inn)∧w'.cell? ⟨gs,5,none⟩=some (.int .i64 s.out)) (by kernel_rfl) ?_ (fun hHeld=>?_)
  ·exact⟨g0,g1,g2,g3,f0,f1,f2,f3,f4,f5⟩
  have HBr:=aH (show Below w2.heap.size w2 w2.drew from below_drewN (bR _ _) 1);clear g0 g1 g2 g3 f0 f1 f2 f3 f4 f5;generalize w2.drew=wv at *;refine wk [.k 0 15,.k 2 17,.k 3 18] (fun _ _ _ _ _ h=>h) hHeld ?_ (by kernel_rfl);repeat (refine .k (v:=?_) rfl (by kernel_rfl) ?_ ?_;rotate_left 1;((intro w hSw;(try dsimp only at hSw);go_simp)<;>(try with_reducible rfl));(try simp only[sp]))
  refine .nil ?_;refine wQ 1 (some 16) rfl (fun K hK=>?_) (by kernel_rfl);go_simp;(with_reducible refine(HCD.out _ HBr.out).mono ?_);rintro e wv ⟨td,rfl,hta,htd,hb,hfd⟩;obtain⟨s0,s1,s2,s3,s4,s5,s6,s7,s8,s9⟩:=hHeld;have HBp:=aH HBr.out.size;have HBr:=aH (bC HBr.out hb);have HTA:=aH hta;have HTD:=aH htd;have HFD:=aH (fun G (hG:G<w2.heap.size)=>hfd.off (nL hG HBp.out));replace s0:=kK hb s0;replace s1:=kK hb s1;replace s2:=kK hb s2;replace s3:=kK hb s3;replace s4:=kK hb s4;replace s5:=kK hb s5;replace s6:=kK hb s6;replace s7:=kK hb s7;replace s8:=kK hb s8;replace s9:=kK hb s9;clear hb hta htd HBp hfd;go_wp2_with fail;refine hK.out _ _ ⟨s0,s1,s2,s3,s4,s5,s6,s7,s8,s9⟩ (fun hHeld=>?_);clear hK K s0 s1 s2 s3 s4 s5 s6 s7 s8 s9;try simp only[sp]
  refine wQ 4 (some 19) rfl (fun K hK=>?_) (by kernel_rfl);go_simp;(with_reducible refine(HID.out _ HBr.out).mono ?_);rintro e wv ⟨rfl,hb⟩;obtain⟨s0,s1,s2,s3,s4,s5,s6,s7,s8,s9⟩:=hHeld;have HBr:=aH (bC HBr.out hb);have HTD:=aH (HTD.out.then hb);replace s0:=kK hb s0;replace s1:=kK hb s1;replace s2:=kK hb s2;replace s3:=kK hb s3;replace s4:=kK hb s4;replace s5:=kK hb s5;replace s6:=kK hb s6;replace s7:=kK hb s7;replace s8:=kK hb s8;replace s9:=kK hb s9;clear hb;go_wp2_with fail;refine hK.out _ _ ⟨s0,s1,s2,s3,s4,s5,s6,s7,s8,s9⟩ (fun hHeld=>?_);clear hK K s0 s1 s2 s3 s4 s5 s6 s7 s8 s9;try simp only[sp]
  refine wQ 5 (some 20) rfl (fun K hK=>?_) (by kernel_rfl);go_simp;(with_reducible refine(HNO.out _).mono ?_);rintro e wv ⟨vo,rfl,ho,hb⟩;obtain⟨s0,s1,s2,s3,s4,s5,s6,s7,s8,s9⟩:=hHeld;have HBp:=aH HBr.out.size;have HBr:=aH (bC HBr.out hb);have HTD:=aH (HTD.out.then hb);have HO:=aH (ho.isL (by have:=HZL.out;omega));have HOF:=aH (fun b hb=>Nat.le_trans HBp.out (ho.lt b hb).1);replace s0:=kK hb s0;replace s1:=kK hb s1;replace s2:=kK hb s2;replace s3:=kK hb s3;replace s4:=kK hb s4;replace s5:=kK hb s5;replace s6:=kK hb s6;replace s7:=kK hb s7;replace s8:=kK hb s8;replace s9:=kK hb s9;clear hb HBp ho;go_wp2_with fail;refine hK.out _ _ ⟨s0,s1,s2,s3,s4,s5,s6,s7,s8,s9⟩ (fun hHeld=>?_);clear hK K s0 s1 s2 s3 s4 s5 s6 s7 s8 s9;try simp only[sp]
  obtain⟨oA,oc,rfl,-⟩:=HO.out.shape;have HOG:=aH (show ∀G,G<w2.heap.size→OffL G oA zs.length from fun G hG=>.inr fun a ha=>by have h:=HOF.out a.block (bk_own (by rw[ha];rfl));omega);refine wk [.k 6 21] (fun _ _ _ _ _ h=>h) hHeld ?_ (by kernel_rfl);repeat (refine .k (v:=?_) rfl (by kernel_rfl) ?_ ?_;rotate_left 1;((intro w hSw;(try dsimp only at hSw);go_simp)<;>(try with_reducible rfl));(try simp only[sp]))
  refine .nil ?_;refine wQ 7 none rfl (fun K hK=>?_) (by kernel_rfl);rw[if_pos (by kernel_rfl)];refine wp_store_mid _ _ _ rfl (w.heap.size+1) 0 #[.slice td.bA td.bn td.bc,.slice td.pA td.pn td.pc,.slice td.rA td.rn td.rc,.int .i64 td.arms,.slice s.cA s.cl.length s.cc,.slice s.lA s.ll.length s.lc,.slice s.tA s.tl.length s.tc,.int .i64 s.st,.int .i64 s.inn,.int .i64 s.out,.slice oA zs.length oc] (by kernel_rfl) (by kernel_rfl) ((HR22.out.below HBr.out).there rfl) (by kernel_rfl) (by kernel_rfl) ?_;change K _ (wv.setCells (w.heap.size+1) 0 [.slice td.bA td.bn td.bc,.slice td.pA td.pn td.pc,.slice td.rA td.rn td.rc,.int .i64 td.arms,.slice s.cA s.cl.length s.cc,.slice s.lA s.ll.length s.lc,.slice s.tA s.tl.length s.tc,.int .i64 s.st,.int .i64 s.inn,.int .i64 s.out,.slice oA zs.length oc]);have HF:=aH (show Row (wv.setCells (w.heap.size+1) 0 [.slice td.bA td.bn td.bc,.slice td.pA td.pn td.pc,.slice td.rA td.rn td.rc,.int .i64 td.arms,.slice s.cA s.cl.length s.cc,.slice s.lA s.ll.length s.lc,.slice s.tA s.tl.length s.tc,.int .i64 s.st,.int .i64 s.inn,.int .i64 s.out,.slice oA zs.length oc]) (w.heap.size+1) [.slice td.bA td.bn td.bc,.slice td.pA td.pn td.pc,.slice td.rA td.rn td.rc,.int .i64 td.arms,.slice s.cA s.cl.length s.cc,.slice s.lA s.ll.length s.lc,.slice s.tA s.tl.length s.tc,.int .i64 s.st,.int .i64 s.inn,.int .i64 s.out,.slice oA zs.length oc]from(HR22.out.below HBr.out).fill _ rfl);have HBF:=aH (show Below w.heap.size w (wv.setCells (w.heap.size+1) 0 [.slice td.bA td.bn td.bc,.slice td.pA td.pn td.pc,.slice td.rA td.rn td.rc,.int .i64 td.arms,.slice s.cA s.cl.length s.cc,.slice s.lA s.ll.length s.lc,.slice s.tA s.tl.length s.tc,.int .i64 s.st,.int .i64 s.inn,.int .i64 s.out,.slice oA zs.length oc])from Below.fill (Nat.le_succ w.heap.size) _ _ 0 (bC HB2.out HBr.out))
  have HBT:=aH (show But (w.heap.size+1) wv (wv.setCells (w.heap.size+1) 0 [.slice td.bA td.bn td.bc,.slice td.pA td.pn td.pc,.slice td.rA td.rn td.rc,.int .i64 td.arms,.slice s.cA s.cl.length s.cc,.slice s.lA s.ll.length s.lc,.slice s.tA s.tl.length s.tc,.int .i64 s.st,.int .i64 s.inn,.int .i64 s.out,.slice oA zs.length oc])from But.fill _ _ _ 0);have hsz:(wv.setCells (w.heap.size+1) 0 [.slice td.bA td.bn td.bc,.slice td.pA td.pn td.pc,.slice td.rA td.rn td.rc,.int .i64 td.arms,.slice s.cA s.cl.length s.cc,.slice s.lA s.ll.length s.lc,.slice s.tA s.tl.length s.tc,.int .i64 s.st,.int .i64 s.inn,.int .i64 s.out,.slice oA zs.length oc]).heap.size=wv.heap.size:=setCells_size _ _ _ 0;have HG2:=aH (show w.heap.size+1<w2.heap.size from HR22.out.1);have HIN:=aH (show Md.In (wv.setCells (w.heap.size+1) 0 [.slice td.bA td.bn td.bc,.slice td.pA td.pn td.pc,.slice td.rA td.rn td.rc,.int .i64 td.arms,.slice s.cA s.cl.length s.cc,.slice s.lA s.ll.length s.lc,.slice s.tA s.tl.length s.tc,.int .i64 s.st,.int .i64 s.inn,.int .i64 s.out,.slice oA zs.length oc]) (wv.setCells (w.heap.size+1) 0 [.slice td.bA td.bn td.bc,.slice td.pA td.pn td.pc,.slice td.rA td.rn td.rc,.int .i64 td.arms,.slice s.cA s.cl.length s.cc,.slice s.lA s.ll.length s.lc,.slice s.tA s.tl.length s.tc,.int .i64 s.st,.int .i64 s.inn,.int .i64 s.out,.slice oA zs.length oc]).heap.size ⟨td,s,oA,oc,zs⟩by
   rw[hsz];exact⟨HTD.out.nt (HFD.out _ HG2.out) HBT.out,(HSI.out.then HBr.out).nt (HSF.out.1 _ (Nat.lt_succ_self _)) HBT.out,HO.out.nt (HOG.out _ HG2.out) HBT.out⟩)
  have HSS:=aH (show ∀i v,[.slice s.cA s.cl.length s.cc,.slice s.lA s.ll.length s.lc,.slice s.tA s.tl.length s.tc,.int .i64 s.st,.int .i64 s.inn,.int .i64 s.out][i]? =some v→(wv.setCells (w.heap.size+1) 0 [.slice td.bA td.bn td.bc,.slice td.pA td.pn td.pc,.slice td.rA td.rn td.rc,.int .i64 td.arms,.slice s.cA s.cl.length s.cc,.slice s.lA s.ll.length s.lc,.slice s.tA s.tl.length s.tc,.int .i64 s.st,.int .i64 s.inn,.int .i64 s.out,.slice oA zs.length oc]).cell? ⟨gs,i,none⟩=some v from fun i v e=>HBT.out.cell (p:=⟨gs,i,none⟩) (Nat.ne_of_gt HSF.out.2) ((HSR.out.below HBr.out).g i e));have HDS:=aH (show ∀i v,[.slice d.bA d.bn d.bc,.slice d.pA d.pn d.pc,.slice d.rA d.rn d.rc,.int .i64 d.arms][i]? =some v→(wv.setCells (w.heap.size+1) 0 [.slice td.bA td.bn td.bc,.slice td.pA td.pn td.pc,.slice td.rA td.rn td.rc,.int .i64 td.arms,.slice s.cA s.cl.length s.cc,.slice s.lA s.ll.length s.lc,.slice s.tA s.tl.length s.tc,.int .i64 s.st,.int .i64 s.inn,.int .i64 s.out,.slice oA zs.length oc]).cell? ⟨w.heap.size,i,none⟩=some v from fun i v e=>HBT.out.cell (p:=⟨w.heap.size,i,none⟩) (Nat.ne_of_lt (Nat.lt_succ_self _)) ((HR12.out.below HBr.out).g i e));clear hsz hHeld;generalize wv.setCells (w.heap.size+1) 0 [.slice td.bA td.bn td.bc,.slice td.pA td.pn td.pc,.slice td.rA td.rn td.rc,.int .i64 td.arms,.slice s.cA s.cl.length s.cc,.slice s.lA s.ll.length s.lc,.slice s.tA s.tl.length s.tc,.int .i64 s.st,.int .i64 s.inn,.int .i64 s.out,.slice oA zs.length oc]=wz at *;refine hK.out _ _ ⟨HDS.out 0 _ rfl,HDS.out 1 _ rfl,HDS.out 2 _ rfl,HDS.out 3 _ rfl,HSS.out 0 _ rfl,HSS.out 1 _ rfl,HSS.out 2 _ rfl,HSS.out 3 _ rfl,HSS.out 4 _ rfl,HSS.out 5 _ rfl⟩ (fun hHeld=>?_);clear hK K;(try simp only[Act.put]);refine wk [.k 8 3] (fun _ _ _ _ _ h=>h) hHeld ?_ (by kernel_rfl)
  repeat (refine .k (v:=?_) rfl (by kernel_rfl) ?_ ?_;rotate_left 1;((intro w hSw;(try dsimp only at hSw);go_simp)<;>(try with_reducible rfl));(try simp only[sp]))
  refine .nil ?_;refine wD (by kernel_rfl) ?_;go_wp2;have a0:=HF.out.g 0 rfl;have a1:=HF.out.g 1 rfl;have a2:=HF.out.g 2 rfl;have a3:=HF.out.g 3 rfl;have a4:=HF.out.g 4 rfl;have a5:=HF.out.g 5 rfl;have a6:=HF.out.g 6 rfl;have a7:=HF.out.g 7 rfl;have a8:=HF.out.g 8 rfl;have a9:=HF.out.g 9 rfl;have a10:=HF.out.g 10 rfl;refine bP (v:=.tuple #[.agg #[.slice td.bA td.bn td.bc,.slice td.pA td.pn td.pc,.slice td.rA td.rn td.rc,.int .i64 td.arms,.slice s.cA s.cl.length s.cc,.slice s.lA s.ll.length s.lc,.slice s.tA s.tl.length s.tc,.int .i64 s.st,.int .i64 s.inn,.int .i64 s.out,.slice oA zs.length oc],.int .i64 0]) ?_ rfl ?_
  ·simp[results,Tryz.results19,go_sem,a0,a1,a2,a3,a4,a5,a6,a7,a8,a9,a10]
  ·exact⟨⟨td,s,oA,oc,zs⟩,rfl,HIN.out,HBF.out,fun G hG=>⟨HFD.out G (nL hG HB2.out.size),HSF.out.1 G (Nat.lt_succ_of_lt (Nat.lt_succ_of_lt hG)),HOG.out G (nL hG HB2.out.size)⟩,HNP.out _ HTA.out HSA.out rfl⟩
end Go.Proofs.YtmecohdedghiaaaGreatDoor
