/- The parts that a request names, as a set. -/
import Derived.Test.YtmecohdedghiaaaGreatDoorPo26
import Derived.RangeFuncNested
import Derived.RangeFuncBound
import Derived.RangeFuncCalls
import Derived.RangeFuncLeaves
import Derived.RangeFuncBox
import Derived.Shelf.Abstract
import Derived.Shelf.RegionOpen
import Derived.OwnWalkIn
import Derived.TacticsInMore
import Derived.LoopNIn
import Derived.LoopIn
import Derived.Maps.AppendAt
set_option maxRecDepth 100000
set_option maxHeartbeats 8000000
open Go.Proofs.Tryz
namespace Go.Proofs.YtmecohdedghiaaaGreatDoor
open Go.RowKit
theorem gV (m:Md) (who:Int) (r:Rq) (x:Rs) (D:Nat) (w:World) (h:Tu w D m who r x) (hl:m.o.length≤1000):Calls prog 180 #[.pointer (some ⟨D,0,none⟩)] w fun e w'=>∃v,e=.returned v∧KI.Own w' w.heap.size v (b9 m.o who m.o.length)∧Below w.heap.size w w':=by
 have HT:=aH h;have Dx:=aH (fun V (hb:Below w.heap.size w V)=>(BS (.slice m.oA m.o.length m.oc) m.o who V (h.im.o.then hb) hl).mono (R':=fun e w'=>∃v,e=.returned v∧KI.Own w' w.heap.size v (b9 m.o who m.o.length)∧Below V.heap.size V w') fun e w' ⟨v,h1,h2,h3⟩=>⟨v,h1,h2.mono hb.size,h3⟩);clear h hl;generalize b9 m.o who m.o.length=L at *;go_enter func180,ntmps180
 go_upto_region 1 with fail
 have g10:=HT.out.row.g 10 rfl;have g11:=HT.out.row.g 11 rfl;refine pE ⟨g10,g11⟩ (by kernel_rfl) (fun CC=>?_);have CQ:=aH (show Below w.heap.size w w.drew from aa (bR _ _) 1);clear g10 g11;generalize w.drew=wv at *;refine wk [.k 0 3,.k 1 4,.k 2 5,.k 3 6,.k 4 7,.k 5 8,.k 6 9,.k 7 10,.k 8 11] (fun _ _ _ _ _ h=>h) CC ?_ (by kernel_rfl);repeat (refine .k (v:=?_) rfl (by kernel_rfl) ?_ ?_;rotate_left 1;((intro w CY;(try dsimp only at CY);go_simp)<;>(try with_reducible rfl));(try simp only[sp]))
 refine .nil ?_;refine wQ 9 (some 12) rfl (fun K hK=>?_) (by kernel_rfl);go_simp;(with_reducible refine(Dx.out _ CQ.out).mono ?_);rintro e wv ⟨v,rfl,ho,hb⟩;obtain⟨s0,s1⟩:=CC;have CQ:=aH (bC CQ.out hb);have HO:=aH ho;replace s0:=kK hb s0;replace s1:=kK hb s1;clear hb ho;go_wp2_with fail;refine hK.out _ _ ⟨s0,s1⟩ (fun CC=>?_);clear hK K s0 s1;try simp only[sp]
 refine wk [.k 10 2] (fun _ _ _ _ _ h=>h) CC ?_ (by kernel_rfl);repeat (refine .k (v:=?_) rfl (by kernel_rfl) ?_ ?_;rotate_left 1;((intro w CY;(try dsimp only at CY);go_simp)<;>(try with_reducible rfl));(try simp only[sp]))
 refine .nil ?_;refine wD (by kernel_rfl) ?_;go_wp2
 go_ret
 exact⟨_,rfl,HO.out,CQ.out⟩
theorem sG (m:Md) (who:Int) (r:Rq) (x:Rs) (D:Nat) (w:World) (h:Tu w D m who r x):Calls prog 127 #[.pointer (some ⟨D,0,none⟩)] w fun e w'=>e=.returned (.int .i64 (cG m.d m.s.ab who).1)∧Below w.heap.size w w':=by
 have HT:=aH h;have PI:=aH (fun V (hb:Below w.heap.size w V)=>lq m.d m.s who V (h.im.d.then hb) (h.im.s.then hb));clear h;generalize cG m.d m.s.ab who=hv at *;obtain⟨h1,h2⟩:=hv;go_enter func127,ntmps127
 go_upto_region 1 with fail
 have g0:=HT.out.row.g 0 rfl;have g1:=HT.out.row.g 1 rfl;have g2:=HT.out.row.g 2 rfl;have g3:=HT.out.row.g 3 rfl;have g4:=HT.out.row.g 4 rfl;have g5:=HT.out.row.g 5 rfl;have g6:=HT.out.row.g 6 rfl;have g7:=HT.out.row.g 7 rfl;have g8:=HT.out.row.g 8 rfl;have g9:=HT.out.row.g 9 rfl;have g11:=HT.out.row.g 11 rfl;refine ju ⟨g0,g1,g2,g3,g4,g5,g6,g7,g8,g9,g11⟩ (by kernel_rfl) (fun CC=>?_);have CQ:=aH (show Below w.heap.size w w.drew from aa (bR _ _) 1);clear g0 g1 g2 g3 g4 g5 g6 g7 g8 g9 g11;generalize w.drew=wv at *;refine wk [.k 0 6,.k 1 7,.k 2 8,.k 3 9,.k 4 10,.k 5 11,.k 6 12,.k 7 13,.k 8 14,.k 9 15,.k 10 16,.k 11 17,.k 12 18,.k 13 19] (fun _ _ _ _ _ h=>h) CC ?_ (by kernel_rfl);repeat (refine .k (v:=?_) rfl (by kernel_rfl) ?_ ?_;rotate_left 1;((intro w CY;(try dsimp only at CY);go_simp)<;>(try with_reducible rfl));(try simp only[sp]))
 refine .nil ?_;refine wQ 14 (some 20) rfl (fun K hK=>?_) (by kernel_rfl);go_simp;(with_reducible refine(PI.out _ CQ.out).mono ?_);rintro e wv ⟨rfl,hb⟩;obtain⟨s0,s1,s2,s3,s4,s5,s6,s7,s8,s9,s10⟩:=CC;have CQ:=aH (bC CQ.out hb);replace s0:=kK hb s0;replace s1:=kK hb s1;replace s2:=kK hb s2;replace s3:=kK hb s3;replace s4:=kK hb s4;replace s5:=kK hb s5;replace s6:=kK hb s6;replace s7:=kK hb s7;replace s8:=kK hb s8;replace s9:=kK hb s9;replace s10:=kK hb s10;clear hb;go_wp2_with fail;refine hK.out _ _ ⟨s0,s1,s2,s3,s4,s5,s6,s7,s8,s9,s10⟩ (fun CC=>?_);clear hK K s0 s1 s2 s3 s4 s5 s6 s7 s8 s9 s10;try simp only[sp]
 refine wk [.k 15 5,.k 16 21,.k 17 22,.k 18 3,.k 19 4] (fun _ _ _ _ _ h=>h) CC ?_ (by kernel_rfl);repeat (refine .k (v:=?_) rfl (by kernel_rfl) ?_ ?_;rotate_left 1;((intro w CY;(try dsimp only at CY);go_simp)<;>(try with_reducible rfl));(try simp only[sp]))
 refine .nil ?_;refine wD (by kernel_rfl) ?_;go_wp2
 go_ret
 exact⟨rfl,CQ.out⟩
theorem iz (m:Md) (who:Int) (r:Rq) (x:Rs) (D:Nat) (w:World) (h:Tu w D m who r x) (s:Stk) (E:Int) (hs:s.In w w.heap.size) (hso:s.Off D):Calls prog 125 #[.pointer (some ⟨D,0,none⟩),s.v,.int .i64 E] w fun e w'=>e=.returned (.agg #[.int .i64 E,.int .i64 0])∧Tu w' D (if E=0 then {m with s:=s}else m) who r x∧But D w w':=by
 obtain⟨w0,hw0⟩:∃w0,w0=(w.alloc (.cells s.oa 41)).alloc (.cells #[.int .i64 0,.int .i64 0] 104):=⟨_,rfl⟩;have CG:=aH (gj hw0);have CN:=aH (h.then CG.out);have Dq:=aH (hs.then CG.out);have e1:(w.alloc (.cells s.oa 41)).heap.size=w.heap.size+1:=by simp
 have HK:=aH (show Row w0 w.heap.size s.ol by rw[hw0];exact(Row.new w _ _ _ rfl).below (bL (bR _ _) _));have HR:=aH (show Row w0 (w.heap.size+1) [.int .i64 0,.int .i64 0]by rw[hw0,←e1];exact Row.new _ _ _ _ rfl);have HG:=aH (aI (show m.Off (w.heap.size+1)from h.im.off (Nat.le_succ _)) (aI (show s.Off (w.heap.size+1)from hs.off (Nat.le_succ _)) (show OffL (w.heap.size+1) x.A x.xs.length from h.ix.offL (Nat.le_succ _))));have HL:=aH h.lt;have Ho:=aH hso;clear e1 h hs hso;by_cases hE:E=0
 ·subst hE;rw[if_pos rfl];go_enter func125,ntmps125
  go_upto_region 1 with fail
  rw[←hw0];clear hw0;obtain⟨k0,k1,k2,k3,k4,k5⟩:=HK.out.g6;have g4:=CN.out.row.g 4 rfl;have g5:=CN.out.row.g 5 rfl;have g6:=CN.out.row.g 6 rfl;have g7:=CN.out.row.g 7 rfl;have g8:=CN.out.row.g 8 rfl;have g9:=CN.out.row.g 9 rfl;have z4:=CN.out.row.z 4 rfl;have z5:=CN.out.row.z 5 rfl;have z6:=CN.out.row.z 6 rfl;have z7:=CN.out.row.z 7 rfl;have z8:=CN.out.row.z 8 rfl;have z9:=CN.out.row.z 9 rfl
  go_upto_region 4 with fail
  obtain⟨yW,hgW⟩:∃yW,(((((w0.setCell ⟨D,4,none⟩ (.slice s.cA s.cl.length s.cc)).setCell ⟨D,5,none⟩ (.slice s.lA s.ll.length s.lc)).setCell ⟨D,6,none⟩ (.slice s.tA s.tl.length s.tc)).setCell ⟨D,7,none⟩ (.int .i64 s.st)).setCell ⟨D,8,none⟩ (.int .i64 s.inn)).setCell ⟨D,9,none⟩ (.int .i64 s.out)=yW:=⟨_,rfl⟩;have DS:=aH (CN.out.setS Dq.out Ho.out);have CH:=aH (show But D w yW by subst hgW;exact((((((But.of CG.out).st _).st _).st _).st _).st _).st _);have CU:=aH (show Row yW (w.heap.size+1) [.int .i64 0,.int .i64 0]by subst hgW;exact(fun(CJ:D≠w.heap.size+1)=>(((((HR.out.off CJ _).off CJ _).off CJ _).off CJ _).off CJ _).off CJ _) (by have h:=HL.out;omega));clear k0 k1 k2 k3 k4 k5 g4 g5 g6 g7 g8 g9 z4 z5 z6 z7 z8 z9 CN HR HK;subst hgW;generalize (((((w0.setCell ⟨D,4,none⟩ (.slice s.cA s.cl.length s.cc)).setCell ⟨D,5,none⟩ (.slice s.lA s.ll.length s.lc)).setCell ⟨D,6,none⟩ (.slice s.tA s.tl.length s.tc)).setCell ⟨D,7,none⟩ (.int .i64 s.st)).setCell ⟨D,8,none⟩ (.int .i64 s.inn)).setCell ⟨D,9,none⟩ (.int .i64 s.out)=w1 at *;have k0:=CU.out.g 0 rfl;have k1:=CU.out.g 1 rfl;have y0:=CU.out.z 0 rfl;have y1:=CU.out.z 1 rfl;go_wp2;have HF:=aH ((CU.out.set 0 (.int .i64 0)).set 1 (.int .i64 0));have f0:=HF.out.g 0 rfl;have f1:=HF.out.g 1 rfl;clear k0 k1 y0 y1;have Ml:D<w.heap.size+1:=Nat.lt_succ_of_lt HL.out;have MJ:({m with s:=s}:Md).Off (w.heap.size+1):=⟨HG.out.1.1,HG.out.2.1,HG.out.1.2.2⟩;refine bP (v:=.agg #[.int .i64 0,.int .i64 0]) ?_ rfl ?_
  ·simp[results,results125,go_sem,f0,f1]
  ·exact⟨rfl,(DS.out.other Ml MJ HG.out.2.2 _).other Ml MJ HG.out.2.2 _,(CH.out.new (Nat.le_succ _) _).new (Nat.le_succ _) _⟩
 ·rw[if_neg hE];have N6:(E != 0)=true:=by simpa using hE
  go_enter func125,ntmps125
  go_upto_region 1 with fail
  rw[←hw0];clear hw0;have k0:=HR.out.g 0 rfl;have k1:=HR.out.g 1 rfl;have y0:=HR.out.z 0 rfl;have y1:=HR.out.z 1 rfl;go_wp2;have HF:=aH ((HR.out.set 0 (.int .i64 E)).set 1 (.int .i64 0));have f0:=HF.out.g 0 rfl;have f1:=HF.out.g 1 rfl;clear k0 k1 y0 y1;have Ml:D<w.heap.size+1:=Nat.lt_succ_of_lt HL.out;refine bP (v:=.agg #[.int .i64 E,.int .i64 0]) ?_ rfl ?_
  ·simp[results,results125,go_sem,f0,f1]
  ·exact⟨rfl,(CN.out.other Ml HG.out.1 HG.out.2.2 _).other Ml HG.out.1 HG.out.2.2 _,((But.of CG.out).new (Nat.le_succ _) _).new (Nat.le_succ _) _⟩
def uJ (k n:Int):Int:=if k=1∨k=2 then 0 else n
def xD (k a:Int):Int:=if k=4∨k=5∨k=6∨k=7∨k=9∨k=10 then 0 else a
def xj (k b:Int):Int:=if k=4 then 0 else b
def wZ (k u:Int):Int:=if k=10 then 0 else u
def vl (k:Int) (v:Nat):Nat:=if k=4∨k=5∨k=6 then 0 else v
theorem lm (k:Int) (x:Int):(k==x)=decide (k=x):=by rw[Bool.eq_iff_iff];simp
theorem kinds (k:Int):k=1∨k=2∨k=4∨k=5∨k=6∨k=7∨k=9∨k=10∨((k==1)=false∧(k==2)=false∧(k==4)=false∧(k==5)=false∧(k==6)=false∧(k==7)=false∧(k==9)=false∧(k==10)=false):=by
  simp only[lm,decide_eq_false_iff_not];omega
theorem mP (r:Rq) (w:World) (hr:r.In w w.heap.size):Calls prog 203 #[r.val] w fun e w'=>e=.returned (.agg #[.int .i64 (uJ r.k r.il.length),.int .i64 (xD r.k r.a),.int .i64 (xj r.k r.b),.int .i64 (wZ r.k r.u),.int .u64 (vl r.k r.v)])∧Below w.heap.size w w':=by
  have HL:=aH hr.l.2.2;obtain⟨k,iA,ic,il,a,b,u,v⟩:=r;dsimp only at *;clear hr;rcases kinds k with rfl|rfl|rfl|rfl|rfl|rfl|rfl|rfl|⟨k1,k2,k4,k5,k6,k7,k9,k10⟩
  all_goals
    go_enter func203,ntmps203;go_wp2;refine bP (v:=.agg #[.int .i64 (uJ _ _),.int .i64 (xD _ _),.int .i64 (xj _ _),.int .i64 (wZ _ _),.int .u64 (vl _ _)]) ?_ rfl ⟨rfl,?_⟩
    · first
        |(simp[results,results203,go_sem,uJ,xD,xj,wZ,vl];done)
        |(simp only[beq_eq_false_iff_ne,ne_eq]at k1 k2 k4 k5 k6 k7 k9 k10;simp[results,results203,go_sem,uJ,xD,xj,wZ,vl,k1,k2,k4,k5,k6,k7,k9,k10])
    · repeat (first|exact bR _ _|refine bL ?_ _|refine bS ?_ (by simp;omega))
def jj (p:Int×Int):Value:=.agg #[.int .i64 p.1,.int .i64 p.2]
def vM (r:Rq):Bool:=decide (uJ r.k r.il.length=0)&&(decide (xD r.k r.a=0)&&(decide (xj r.k r.b=0)&&(decide (wZ r.k r.u=0)&&decide (vl r.k r.v=0))))
open Classical in
noncomputable def Ah (l:List Int):Int:=Classical.epsilon (Two.Tw l)
theorem rQ {l:List Int} {t:Int} (h:Two.Tw l t):Ah l=t:=(Classical.epsilon_spec (p:=Two.Tw l) ⟨t,h⟩).uniq h
noncomputable def jf (l:List Int):Int×Int:=if l=[]then(1,0)else if 16<l.length then(2,0)else if 0≤Ah l then(152,l.getD (Ah l).toNat 0)else(0,0)
noncomputable def je (r:Rq):Int×Int:=if r.k<1∨10<r.k then(150,0)else if vM r=false then(151,0)else if r.k=1∨r.k=2 then jf r.il else(0,0)
theorem iZ (v:Value) (l:List Int) (w:World) (hv:KI.IsL w w.heap.size v l):Calls prog 204 #[v] w fun e w'=>e=.returned (jj (jf l))∧Below w.heap.size w w':=by
  have HV:=aH hv;obtain⟨A,c,rfl,hc⟩:=hv.shape;clear hv;have HM:=aH (show jf l=if l=[]then(1,0)else if 16<l.length then(2,0)else if 0≤Ah l then(152,l.getD (Ah l).toNat 0)else(0,0)from rfl);have RL:=aH (fun t=>rQ (l:=l) (t:=t));generalize jf l=m at *;unfold jj;by_cases h0:l=[]
  · subst h0
    obtain rfl:m=(1,0):=(by rw[HM.out];rfl);go_enter func204,ntmps204;go_wp2;refine bP (v:=.agg #[.int .i64 1,.int .i64 0]) ?_ rfl ⟨rfl,?_⟩
    · simp[results,results204,go_sem]
    · repeat (first|exact bR _ _|refine bL ?_ _|refine bS ?_ (by simp))
  have Uc:((l.length:Int)==0)=false:=by simpa using h0
  by_cases h1:16<l.length
  · obtain rfl:m=(2,0):=by rw[HM.out,if_neg h0,if_pos h1]
    clear h0;go_enter func204,ntmps204;go_wp2;refine bP (v:=.agg #[.int .i64 2,.int .i64 0]) ?_ rfl ⟨rfl,?_⟩
    · simp[results,results204,go_sem]
    · repeat (first|exact bR _ _|refine bL ?_ _|refine bS ?_ (by simp))
  go_enter func204,ntmps204;go_wp2_with fail;refine(Two.twice_any _ l _ (bo (HV.out.then (bL (bR _ _) _))) (by omega)).mono ?_;rintro e w1 ⟨⟨t,rfl,ht⟩,CE⟩;have CH:=aH (bC (bL (bR _ _) _) CE);obtain⟨c0,c1,z0,z1,-⟩:=(Cells2.new w 122 (.int .i64 0) (.int .i64 0)).below CE;clear CE;have Rp:=RL.out t ht;have Jt:m=if 0≤t then(152,l.getD t.toNat 0)else(0,0):=by rw[HM.out,if_neg h0,if_neg h1,Rp]
  clear RL Rp h0;by_cases h2:0≤t
  · obtain⟨i,hi,rfl⟩:∃i:Nat,i<l.length∧t=i:=by
      rcases ht with ⟨rfl,_⟩|⟨i,hi,rfl,_⟩
      · omega
      · exact⟨i,hi,rfl⟩
    rw[if_pos h2,Int.toNat_natCast]at Jt;obtain⟨b,off,cap,hA,hcap,hb,Eu,CD,De⟩:=KI.cells HV.out (by omega);have Pk:w1.cell? ⟨b,off+i,none⟩=some (.int .i64 (l.getD i 0)):=kK CH.out (CD i hi);injection hA with JL EX hA3
    subst JL;obtain⟨x,hx⟩:∃x,l.getD i 0=x:=⟨_,rfl⟩;rw[hx]at Jt Pk;subst Jt;clear ht HM CD De EX hA3 h2 hx;go_wp2;refine bP (v:=.agg #[.int .i64 152,.int .i64 x]) ?_ rfl ⟨rfl,?_⟩
    · simp[results,results204,go_sem,c0,c1]
    · exact bS (bS CH.out (nR _)) (nR _)
  · rw[if_neg h2]at Jt
    subst Jt;clear ht HM;go_wp2;refine bP (v:=.agg #[.int .i64 0,.int .i64 0]) ?_ rfl ⟨rfl,?_⟩
    · simp[results,results204,go_sem,c0,c1]
    · exact bS (bS CH.out (nR _)) (nR _)
theorem jt (r:Rq) (w:World) (hr:r.In w w.heap.size):Calls prog 143 #[r.val] w fun e w'=>e=.returned (jj (je r))∧Below w.heap.size w w':=by
  have HR:=aH hr;clear hr;have HM:=aH (show je r=if r.k<1∨10<r.k then(150,0)else if vM r=false then(151,0)else if r.k=1∨r.k=2 then jf r.il else(0,0)from rfl);have HU:=aH (fun w h=>mP r w h);have JD:=aH (show vM r=(decide (uJ r.k r.il.length=0)&&(decide (xD r.k r.a=0)&&(decide (xj r.k r.b=0)&&(decide (wZ r.k r.u=0)&&decide (vl r.k r.v=0)))))from rfl);have HB:=aH (fun w h=>iZ (.slice r.iA r.il.length r.ic) r.il w h);obtain⟨w0,hw0⟩:∃w0,w0=(w.alloc (.cells r.ob 30)).alloc (.cells #[.int .i64 0,.int .i64 0] 122):=⟨_,rfl⟩;generalize je r=m at *;by_cases h0:r.k<1
  · obtain rfl:m=(150,0):=by rw[HM.out,if_pos (.inl h0)]
    unfold jj;go_enter func143,ntmps143;go_wp2;refine bP (v:=.agg #[.int .i64 150,.int .i64 0]) ?_ rfl ⟨rfl,?_⟩
    · simp[results,results143,go_sem]
    · repeat (first|exact bR _ _|refine bL ?_ _|refine bS ?_ (by simp))
  by_cases h1:10<r.k
  · obtain rfl:m=(150,0):=by rw[HM.out,if_pos (.inr h1)]
    unfold jj;go_enter func143,ntmps143;go_wp2;refine bP (v:=.agg #[.int .i64 150,.int .i64 0]) ?_ rfl ⟨rfl,?_⟩
    · simp[results,results143,go_sem]
    · repeat (first|exact bR _ _|refine bL ?_ _|refine bS ?_ (by simp))
  have Jt:m=if vM r=false then(151,0)else if r.k=1∨r.k=2 then jf r.il else(0,0):=by rw[HM.out,if_neg (by omega)]
  clear HM;generalize uJ r.k r.il.length=nN at *;generalize xD r.k r.a=nA at *;generalize xj r.k r.b=nB at *;generalize wZ r.k r.u=nU at *;generalize vl r.k r.v=nV at *;go_enter func143,ntmps143;go_wp2_with fail;refine(HU.out _ (HR.out.then (bL (bL (bR _ _) _) _))).mono ?_;rintro e w1 ⟨rfl,CE⟩;have CH:=aH (bC (bL (bL (bR _ _) _) _) CE);have HC:=aH (((Cells6.new w 30 (.int .i64 r.k) (.slice r.iA r.il.length r.ic) (.int .i64 r.a) (.int .i64 r.b) (.int .i64 r.u) (.int .u64 r.v)).below (bL (bR _ _) _)).below CE);have HD:=aH ((show Cells2 ((w.alloc (.cells r.ob 30)).alloc (.cells #[.int .i64 0,.int .i64 0] 122)) (w.heap.size+1) (.int .i64 0) (.int .i64 0)from by
    have h:=Cells2.new (w.alloc (.cells r.ob 30)) 122 (.int .i64 0) (.int .i64 0);rw[World.size_alloc]at h;exact h).below CE)
  obtain⟨c0,c1,c2,c3,c4,c5,-⟩:=HC.out;obtain⟨d0,d1,z0,z1,-⟩:=HD.out;have LG:=aH Jt;have CU:=aH (HR.out.then CH.out);clear CE Jt h0 h1;have hk:(r.k==1)=true∨((r.k==1)=false∧(r.k==2)=true)∨((r.k==1)=false∧(r.k==2)=false):=by
    simp only[lm,decide_eq_true_eq,decide_eq_false_iff_not];omega
  rcases hk with k1|⟨k1,k2⟩|⟨k1,k2⟩
  all_goals
    go_wp2_with (go_at_call 204;refine(HB.out _ CU.out.l).mono ?_;rintro e w2 ⟨rfl,CM⟩;obtain⟨y0,y1,x0,x1,-⟩:=HD.out.below CM;have CL:=aH (bC CH.out CM);have Qf:=aH (show jj (jf r.il)=.agg #[.int .i64 (jf r.il).1,.int .i64 (jf r.il).2]from rfl);rw[Qf.out];clear CM)
  all_goals first
    | (obtain rfl:m=(0,0):=by rw[LG.out,JD.out];simp only[lm,decide_eq_false_iff_not]at k1 k2;simp[*];done
       refine bP (v:=.agg #[.int .i64 0,.int .i64 0]) ?_ rfl ⟨rfl,?_⟩
       · simp[results,results143,go_sem,d0,d1]
       · exact bS (bS CH.out (by simp)) (by simp))
    | (obtain rfl:m=(151,0):=by rw[LG.out,JD.out];simp[*];done
       refine bP (v:=.agg #[.int .i64 151,.int .i64 0]) ?_ rfl ⟨rfl,?_⟩
       · simp[results,results143,go_sem,d0,d1]
       · exact bS (bS CH.out (by simp)) (by simp))
    | (have hm:m=jf r.il:=by rw[LG.out,JD.out];simp only[lm,decide_eq_true_eq,decide_eq_false_iff_not]at k1 k2;simp[*]
       rw[hm,Qf.out];refine bP (v:=.agg #[.int .i64 (jf r.il).1,.int .i64 (jf r.il).2]) ?_ rfl ⟨rfl,?_⟩
       · simp[results,results143,go_sem,y0,y1]
       · exact bS (bS CL.out (by simp)) (by simp))
    | (have hm:m=jf r.il:=by rw[LG.out,JD.out];simp only[lm,decide_eq_true_eq]at k1;simp[*]
       rw[hm,Qf.out];refine bP (v:=.agg #[.int .i64 (jf r.il).1,.int .i64 (jf r.il).2]) ?_ rfl ⟨rfl,?_⟩
       · simp[results,results143,go_sem,y0,y1]
       · exact bS (bS CL.out (by simp)) (by simp))
open Go.RowKit Go.Shelf
attribute [local go_sem] Oper.semAt_some
noncomputable def gi (d:Dk) (k id:Int):Bool:=decide ((bh d id).2=0)&&(decide (k=0)||decide ((bh d id).1.a=k))
theorem lE (d:Dk) (k id:Int) (DU:ae id) (w:World) (hd:d.In w w.heap.size):Calls prog 144 #[d.v,.int .i64 k,.int .i64 id] w fun e w'=>e=.returned (.bool (gi d k id))∧Below w.heap.size w w':=by
  obtain⟨w0,hw0⟩:∃w0,w0=w.alloc d.ob:=⟨_,rfl⟩;have CG:=aH (cI hw0);have CR:=aH (hd.then CG.out);have HP:=aH (fun w h=>iY d id DU w h);have e:gi d k id=(decide ((bh d id).2=0)&&(decide (k=0)||decide ((bh d id).1.a=k))):=rfl;generalize bh d id=t at *;obtain⟨⟨qa,qb,qc,qd⟩,er⟩:=t;rw[e];clear e hd;unfold ft at HP;dsimp only at HP⊢;go_enter func144,ntmps144;go_wp2_with fail;rw[←hw0];clear hw0;refine(HP.out _ CR.out).mono ?_;rintro e w1 ⟨rfl,CE⟩;have CH:=aH (bC CG.out CE);clear CE;by_cases h0:er=0
  · subst h0
    by_cases h1:k=0
    · subst h1
      go_wp2
      go_ret
      exact⟨aj (by simp),by first|exact bL CH.out _|(exact bL (bL CH.out _) _)⟩
    · have NP:(k==0)=false:=by simpa using h1
      by_cases h2:qa=k
      · go_wp2
        go_ret
        exact⟨rfl,by first|exact bL CH.out _|(exact bL (bL CH.out _) _)⟩
      · go_wp2
        go_ret
        exact⟨aj (by simpa using h2),by first|exact bL CH.out _|(exact bL (bL CH.out _) _)⟩
  · have SW:(er==0)=false:=by simpa using h0
    have Lm:=h0;clear h0;go_wp2
    go_ret
    exact⟨aj (by simp[Lm]),by first|exact bL CH.out _|(exact bL (bL CH.out _) _)⟩
def cl (x:Int):Int:=if ae x then x else 0
theorem pj (x:Int):ae (cl x):=by unfold cl;split<;>first|assumption|decide
theorem jS {x:Int} (h:ae x):cl x=x:=if_pos h
abbrev oE (x:Int×Int):Array Value:=#[.int .i64 x.1,.int .i64 (cl x.2)]
def eo (r:Rq):List (Int×Int):=if r.k=1∨r.k=2 then r.il.map (fun x=>(0,x))else if r.k=4 then [(1,r.a),(1,r.b)]else if r.k=5∨r.k=6∨r.k=9∨r.k=10 then [(1,r.a)]else if r.k=7 then [(2,r.a)]else []
theorem j9 (r:Rq) (w:World):Calls prog 91 #[r.val] w fun e w'=>e=.returned (.func (.func 153) #[] #[.pointer (some ⟨w.heap.size,0,none⟩)])∧w'=w.alloc (.cells r.ob 30):=by
  go_enter func91,ntmps91;go_wp2
  go_ret
  exact⟨rfl,rfl⟩
def Kq (B Br:Nat) (W W':World):Prop:=Below B W W'∧∀o v,W.cell? ⟨Br,o,none⟩=some v→W'.cell? ⟨Br,o,none⟩=some v
theorem Kq.refl (B Br:Nat) (W:World):Kq B Br W W:=⟨bR _ _,fun _ _ h=>h⟩
theorem Kq.trans {B Br:Nat} {W W1 W2:World} (h:Kq B Br W W1) (k:Kq B Br W1 W2):Kq B Br W W2:=⟨h.1.trans k.1,fun o v e=>k.2 o v (h.2 o v e)⟩
theorem Kq.put {B Br:Nat} {w:World} (hB:B≤w.heap.size) (W:World) (l:Nat) (o o':Obj) (hl:w.heap.size≤l) (ho:W.heap[l]? =some o) (hc:o.isCells=false) (hw:o.isWalk=false):Kq B Br W (W.putObj l o'):=
  ⟨belowK_b hB W l o o' hl ho hc hw,fun p v e=>cell_kept e (grownBy_putObj' W l o') (fun r e=>by cases e;exact⟨o,ho,hc⟩)⟩
theorem qG (n:Nat) (hn:1≤n) (l Br n₀:Nat) (r:Rq) (J Jx:List (Int×Int)→World→Prop)
    (hY:∀pre x W,J pre W→pre.length<(eo r).length→YieldAt Fence.wide (n-1) prog l (oE x) W fun e W'=>
      (e=.returned (.bool true)∧J (pre++[x]) W'∧Kq n₀ Br W W')∨(e=.returned (.bool false)∧Jx (pre++[x]) W'))
    (W:World) (hBr:nZ W Br r) (hr:r.In W n₀) (h0:J [] W):
    CallsIn Fence.wide n prog 153 #[.func (.yield l) #[] #[],.pointer (some ⟨Br,0,none⟩)] W fun e W'=>(∃v,e=.returned v)∧
      ((∃ys,ys=eo r∧J ys W')∨(∃pre,pre<+:eo r∧Jx pre W')):=by
  have HY:=aH hY;have HR:=aH hr;have HJ:=aH h0;have HN:=aH (show eo r=if r.k=1∨r.k=2 then r.il.map (fun x=>(0,x))else if r.k=4 then [(1,r.a),(1,r.b)]else if r.k=5∨r.k=6∨r.k=9∨r.k=10 then [(1,r.a)]else if r.k=7 then [(2,r.a)]else []from rfl);have ha:=jS hr.a;have hb:=jS hr.b;have CV:=aH hr.l.2.2;obtain⟨c0,c1,c2,c3,c4,c5,-⟩:=hBr;clear hY hr h0;obtain⟨k,iA,ic,il,a,b,u,v⟩:=r;dsimp only at *;generalize eo _=xs at *;refine callsIn_of_wp func153 rfl trivial ?_ rfl;simp only[ntmps153,List.size_toArray,List.length_cons,List.length_nil,Nat.reduceAdd,Nat.reduceSub,Array.replicate_succ,Array.replicate_zero,List.push_toArray,List.append_toArray,List.nil_append,List.cons_append];rcases kinds k with rfl|rfl|rfl|rfl|rfl|rfl|rfl|rfl|⟨k1,k2,k4,k5,k6,k7,k9,k10⟩
  case inr.inr.inr.inr.inr.inr.inr.inr=>
    obtain rfl:xs=[]:=by
      simp only[lm,decide_eq_false_iff_not]at k1 k2 k4 k5 k6 k7 k9 k10;rw[HN.out];simp[*]
    gi_wp2
    go_end0
    exact⟨⟨_,rfl⟩,.inl ⟨_,rfl,HJ.out⟩⟩
  case inr.inr.inl=>
    obtain rfl:xs=[(1,a),(1,b)]:=HN.out;obtain⟨fn,tmps,assign,body,hy,hR⟩:=HY.out [] (1,a) W HJ.out (by simp);dsimp only[oE]at hy;rw[ha]at hy
    gi_wp2
    refine hR.mono ?_;clear hR hy;rintro e W3 (⟨rfl,hJ3,J1⟩|⟨rfl,hJx3⟩)
    · have d3:=J1.2 3 _ c3
      have d2:=J1.2 2 _ c2;have d0:=J1.2 0 _ c0;obtain⟨fn,tmps,assign,body,hy,hR⟩:=HY.out [(1,a)] (1,b) W3 hJ3 (by simp);dsimp only[oE]at hy;rw[hb]at hy
      gi_wp2
      refine hR.mono ?_;clear hR hy;rintro e W4 (⟨rfl,hJ4,hk4⟩|⟨rfl,hJx4⟩)
      · gi_wp2
        go_end0
        exact⟨⟨_,rfl⟩,.inl ⟨_,rfl,hJ4⟩⟩
      · gi_wp2
        go_end0
        exact⟨⟨_,rfl⟩,.inr ⟨_,List.prefix_rfl,hJx4⟩⟩
    · gi_wp2
      refine⟨fun _ h=>(by cases h),?_⟩
      gi_wp2
      go_end0
      exact⟨⟨_,rfl⟩,.inr ⟨_,⟨[(1,b)],rfl⟩,hJx3⟩⟩
  case inl|inr.inl=>
    obtain rfl:xs=il.map (fun x=>(0,x)):=HN.out
    gi_wp2
    gi_loopw [13] (fun i wr=>∃k:Nat,k≤il.length∧i=.int .i64 k∧J ((il.take k).map (fun x=>(0,x))) wr∧Kq n₀ Br W wr) (fun i _=>il.length-(intOf i).toNat)
    case atStart=>exact⟨0,Nat.zero_le _,rfl,HJ.out,Kq.refl _ _ _⟩
    case round=>
      obtain⟨k,hk,rfl,hJs,hnx⟩:=hrel;have OE:=aH hJs;have Jk:=aH hnx;clear hJs hnx;by_cases CI:k<il.length
      · obtain⟨b0,off,cap,hA,hcap,DI,Eu,CD,De⟩:=KI.cells HR.out.l (show 0<il.length by omega)
        have Pk:wr.cell? ⟨b0,off+k,none⟩=some (.int .i64 (il.getD k 0)):=(Jk.out.1.cell (p:=⟨b0,off+k,none⟩) DI).trans (CD k CI);have LI:=jS (De k CI);have FU:=aH (aX il k 0 CI);injection hA with JL EX hA3
        subst JL;clear CD De EX hA3;obtain⟨fn,tmps,assign,body,hy,hR⟩:=HY.out _ (0,il.getD k 0) wr OE.out (by rw[List.length_map,List.length_take];show _<(il.map _).length;rw[List.length_map];omega);dsimp only[oE]at hy;rw[LI]at hy;clear LI;generalize il.getD k 0=x at *
        gi_wp2
        refine hR.mono ?_;clear hR hy Pk;rintro e W3 (⟨rfl,hJ3,J1⟩|⟨rfl,hJx3⟩)
        · gi_wp2
          go_roundw
          case rel=>exact⟨k+1,by omega,ai (by omega),by rw[FU.out,List.map_append];exact hJ3,Jk.out.trans J1⟩
          case measure=>simp[intOf];omega
        · gi_wp2
          refine bP (results_none rfl _ _ _) rfl ?_;refine⟨⟨_,rfl⟩,.inr ⟨_,?_,hJx3⟩⟩;have h:=FU.out;rw[←List.map_singleton (f:=fun x=>((0:Int),x)),←List.map_append,←h];exact(List.take_prefix _ _).map _
      · obtain rfl:k=il.length:=by omega
        rw[List.take_length]at OE
        gi_wp2
        go_end0
        exact⟨⟨_,rfl⟩,.inl ⟨_,rfl,OE.out⟩⟩
  case inr.inr.inr.inr.inr.inl=>
    obtain rfl:xs=[(2,a)]:=HN.out;obtain⟨fn,tmps,assign,body,hy,hR⟩:=HY.out [] (2,a) W HJ.out (by simp);dsimp only[oE]at hy;rw[ha]at hy
    gi_wp2
    refine hR.mono ?_;clear hR hy;rintro e W3 (⟨rfl,hJ3,J1⟩|⟨rfl,hJx3⟩)
    · gi_wp2
      go_end0
      exact⟨⟨_,rfl⟩,.inl ⟨_,rfl,hJ3⟩⟩
    · gi_wp2
      go_end0
      exact⟨⟨_,rfl⟩,.inr ⟨_,List.prefix_rfl,hJx3⟩⟩
  all_goals
    obtain rfl:xs=[(1,a)]:=HN.out;obtain⟨fn,tmps,assign,body,hy,hR⟩:=HY.out [] (1,a) W HJ.out (by simp);dsimp only[oE]at hy;rw[ha]at hy
    gi_wp2
    refine hR.mono ?_;clear hR hy;rintro e W3 (⟨rfl,hJ3,J1⟩|⟨rfl,hJx3⟩)
    · gi_wp2
      go_end0
      exact⟨⟨_,rfl⟩,.inl ⟨_,rfl,hJ3⟩⟩
    · gi_wp2
      go_end0
      exact⟨⟨_,rfl⟩,.inr ⟨_,List.prefix_rfl,hJx3⟩⟩
attribute [local go_sem] Oper.semAt_some
noncomputable def Aj (r:Rq):List Int:=Two.mk ((eo r).map Prod.snd)
theorem tE (r:Rq):(eo r).length≤r.il.length+2:=by
  unfold eo
  repeat' split
  all_goals simp
theorem qe {w:World} {B:Nat} {r:Rq} (h:r.In w B):∀x∈eo r,ae x.2:=by
  intro x hx;unfold eo at hx;have ha:=h.a;have hb:=h.b
  repeat' split at hx
  · obtain⟨y,hy,rfl⟩:=List.mem_map.1 hx
    exact h.l.2.1 y hy
  all_goals (simp at hx;try (rcases hx with rfl|rfl<;>assumption);try (subst hx;assumption))
theorem Bu {w:World} {B:Nat} {r:Rq} (h:r.In w B):(eo r).map (fun x=>cl x.2)=(eo r).map Prod.snd:=List.map_congr_left fun x hx=>jS (qe h x hx)
theorem gD (n:Nat) (hn:1≤n) (Br n₀:Nat) (r:Rq) (w:World) (hBr:nZ w Br r) (hB:Br<w.heap.size) (hn₀:n₀≤w.heap.size) (hr:r.In w n₀):
    SeqStopsK Fence.wide n prog 153 #[.pointer (some ⟨Br,0,none⟩)] oE (Kq n₀ Br) (fun ys=>ys=eo r) (fun pre=>pre<+:eo r) (eo r).length w:=
  fun l J Jx W hW _ _ hY h0=>qG n hn l Br n₀ r J Jx hY W (hBr.low hW hB) (hr.below (hW.mono hn₀)) h0
def mR (pre:List (Int×Int)):List Int:=pre.map fun x=>cl x.2
theorem tr (pre:List (Int×Int)) (x:Int×Int):mR (pre++[x])=mR pre++[cl x.2]:=by simp[mR]
theorem qO {β:Type} (B:Nat) (cs:Array Value) (t:TypeId):Go.Own (fun(_:β) W=>W.heap[B]? =some (.cells cs t (0,0))):=by
  intro s X Y row h hg DK;refine(hg.block B (Array.getElem?_eq_some_iff.1 h).1 (fun e'=>?_)).trans h;obtain⟨o,ho,hc⟩:=DK B e'.symm;rw[h]at ho;cases ho;cases hc
theorem kg {W W':World} {B:Nat} {o:Obj} (h:W.heap[B]? =some o) (h':W'.heap[B]? =some o) (p:Nat):W'.cell? ⟨B,p,none⟩=W.cell? ⟨B,p,none⟩:=by simp[World.cell?,h,h']
theorem rB {W w1:World} {n₀ Br b:Nat} {t e:TypeId} {cs:Array Value} {m:Nat×Nat} {size k:Nat} {v v':Value} {xs:List Value} {tmp:Obj} (hte:t≠e) (hq:W.heap[Br]? =some (.cells cs t m)) (DK:W.ownsRow n₀ e size v k xs) (hgrow:(W.alloc tmp).grownBy w1 v.ownBlock) (hb:Br≠b):
    (w1.setCell ⟨b,0,none⟩ v').heap[Br]? =some (.cells cs t m):=by
  have CI:Br<W.heap.size:=(Array.getElem?_eq_some_iff.1 hq).1;have h1:(W.alloc tmp).heap[Br]? =some (.cells cs t m):=(Below.heap_alloc W tmp Br CI).trans hq;have CJ:some Br≠v.ownBlock:=by
    rcases DK.2 with ⟨rfl,_⟩|⟨g,cap,cur,rfl,_,OO,_⟩
    · intro h;cases h
    · intro h
      obtain rfl:Br=g:=(by simpa [Value.ownBlock]using h);rw[OO]at hq;injection hq with hq
      injection hq with h1 h2
      exact hte h2.symm
  have h2:=(hgrow.block Br (Array.getElem?_eq_some_iff.1 h1).1 CJ).trans h1;exact((grownBy_setCell' w1 b v').block Br (Array.getElem?_eq_some_iff.1 h2).1 (fun e'=>hb (Option.some.inj e'))).trans h2
theorem Lk.IsL.put {P:Program} {α:Type} {K:Lk P α} {w:World} {B D:Nat} {o o':Obj} {v:Value} {xs:List α} (h:K.IsL w B v xs) (hD:w.heap[D]? =some o) (ho:o.isCells=false):K.IsL (w.putObj D o') B v xs:=by
  obtain⟨⟨A,cap,rfl,hc,hA⟩,hf,hl⟩:=h;refine⟨⟨A,cap,rfl,hc,fun h0=>?_⟩,hf,hl⟩;obtain⟨b,off,rfl,hbB,CD⟩:=hA h0;exact⟨b,off,rfl,hbB,fun i hi j u hu=>cell_kept (CD i hi j u hu) (grownBy_putObj' w D o') (fun r e=>by cases e;exact⟨o,hD,ho⟩)⟩
theorem tV (w:World) (D:Nat) (o:Obj):(w.putObj D o).heap.size=w.heap.size:=by simp[World.putObj]
theorem oF (r:Rq) (w:World) (hr:r.In w w.heap.size) (hl:r.il.length≤900):Calls prog 47 #[r.val] w fun e w'=>∃v,e=.returned v∧KI.IsL w' w'.heap.size v (Aj r)∧Below w.heap.size w w':=by
  obtain⟨i0,hi,D9,DZ,hz2⟩:=info_parts Two.int_info;have HR:=aH hr;have CV:=aH (tE r);have Hi:=aH (Bu hr);have Ge:=aH (show Aj r=Two.mk ((eo r).map Prod.snd)from rfl);clear hr;refine(callsIn_wide (n:=6)).1 ?_;refine callsIn_of_wp_marks func47 rfl trivial ?_ rfl;simp only[ntmps47,List.size_toArray,List.length_cons,List.length_nil,Nat.reduceAdd,Nat.reduceSub,Array.replicate_succ,Array.replicate_zero,List.push_toArray,List.append_toArray,List.nil_append,List.cons_append]
  gi_wp2_with (refine⟨trivial,?_⟩;gi_at_call 91;refine(callsIn_wide.2 (j9 r _)).mono ?_;rintro e w' ⟨rfl,rfl⟩)
  obtain⟨W0,hW0⟩:∃W0,W0=((w.alloc (.cells r.ob 30)).alloc (.cells #[.slice none 0 0] 27)).alloc (.cells r.ob 30):=⟨_,rfl⟩;rw[←hW0];have D8:W0.heap.size=w.heap.size+3:=by rw[hW0];simp
  have RP:Below w.heap.size w W0:=by rw[hW0];exact bL (bL (bL (bR _ _) _) _) _
  have bO:Boxed W0 (w.heap.size+1) 27 (.slice none 0 0):=by
    have h:=Boxed.new (w.alloc (.cells r.ob 30)) 27 (.slice none 0 0);rw[World.size_alloc]at h;rw[hW0];exact h.alloc _
  have bRo:W0.heap[w.heap.size+1+1]? =some (.cells r.ob 30 (0,0)):=by
    have h:=World.alloc_heap_new ((w.alloc (.cells r.ob 30)).alloc (.cells #[.slice none 0 0] 27)) (.cells r.ob 30);rw[World.size_alloc,World.size_alloc]at h;rw[hW0];exact h
  have ON:nZ W0 (w.heap.size+1+1) r:=by
    have h:=Cells6.new ((w.alloc (.cells r.ob 30)).alloc (.cells #[.slice none 0 0] 27)) 30 (.int .i64 r.k) (.slice r.iA r.il.length r.ic) (.int .i64 r.a) (.int .i64 r.b) (.int .i64 r.u) (.int .u64 r.v);rw[World.size_alloc,World.size_alloc]at h;rw[hW0];exact h
  clear hW0;refine wpIn_rangeFunc_ownG rfl (by omega) (gf:=153) (lb:=#[.pointer (some ⟨w.heap.size+1+1,0,none⟩)]) rfl trivial (enters_of func153 (by kernel_rfl) rfl)
    (gD 5 (by omega) (w.heap.size+1+1) w.heap.size r W0 ON (by omega) (by omega) (HR.out.below RP)) Kq.trans (Kq.put (by omega)) (bR _ _) (fun _=>rfl)
    (fun pre W=>((∃v,Boxed W (w.heap.size+1) 27 v∧W.ownsRow w.heap.size 3 1 v (mR pre).length ((mR pre).map Two.iv)∧True)∧W.heap[w.heap.size+1+1]? =some (.cells r.ob 30 (0,0)))∧Below w.heap.size w W)
    (fun _ _ _=>False)
    (OwnFrom.and (OwnFrom.and (Own.from (holdsRow_own w.heap.size (w.heap.size+1) 27 3 1 (fun pre=>(mR pre).length) (fun pre=>(mR pre).map Two.iv) (fun _ _=>True)) _) (Own.from (qO _ _ _) _)) (ownFrom_below (nR _) (by omega)))
    (fun _ _ _ _ _ hs _ _=>hs)
    ⟨⟨⟨_,bO,World.ownsRow_nil _ _ _ _,trivial⟩,bRo⟩,RP⟩
    (fun x=>{tmps:=#[r.val,.pointer (some ⟨w.heap.size,0,none⟩),.slice none 0 0,.pointer (some ⟨w.heap.size+1,0,none⟩),undef,.int .i64 (cl x.2),r.val,.func (.func 153) #[] #[.pointer (some ⟨w.heap.size+1+1,0,none⟩)],.int .i64 x.1,.int .i64 (cl x.2),undef,undef,undef,undef,undef,undef],defers:=[]}) ?assign ?body ?done ?stop
  case assign=>
    intro l x W K hK
    gi_wp2
    exact hK
  case body=>
    rintro l pre x W ⟨⟨⟨v,hv,DK,-⟩,hq⟩,hB⟩ CI;have hc:=hv.cell;have FZ:=CV.out;have FT:(mR pre).length≤pre.length:=(by simp[mR])
    gi_wp2_with (gi_at_builtin;refine wpListIn_append_own _ rfl _ _ 27 rfl w.heap.size 3 i0 (.int .i64 0) 1 8 underlying27 hi D9 DZ hz2 rfl (by decide) _ _ _ rfl (DK.alloc _) ⟨W.heap.size,0,none⟩ 1 1 [.int .i64 (cl x.2)] rfl rfl (cell_one_new _ _ _) (by simp[Value.oneCell']) (by unfold maxLen;omega) (by omega) (by have:=hB.size;simp;omega) ?_;intro v' w1 hown' hgrow _;obtain⟨g',cap',rfl⟩:=ownsRow_succ hown';obtain⟨EK,hv2,hr2,IM,CM⟩:=hv.appended (by decide) DK hB.size (by omega) hown' hgrow;have Dn:=EK.cell;have Ep:=EK.frozen;have Ni:=aH (rB (v':=.slice (some ⟨g',0,none⟩) ((mR pre).length+1) cap') (b:=w.heap.size+1) (by decide) hq DK hgrow (by omega)))
    exact⟨IM.from _,⟨CM,fun o v e=>(kg hq Ni.out o).trans e⟩,⟨⟨_,hv2,by rw[tr];simpa [Two.iv]using hr2,trivial⟩,Ni.out⟩,hB.trans CM⟩
  case done=>
    rintro D ys W hD rfl ⟨⟨⟨v,hv,DK,-⟩,hq⟩,hB⟩ hK;have hc:=hv.cell;have HX:=aH (show mR (eo r)=(eo r).map Prod.snd from Hi.out);have Ru:KI.IsL W W.heap.size v (mR (eo r)):=by
      refine Lk.Own.isL (K:=KI) (base:=w.heap.size) ⟨?_,?_⟩ (by have:=CV.out;simp[mR];omega)
      · have e:KI.flat (mR (eo r))=(mR (eo r)).map Two.iv:=by unfold Lk.flat;generalize mR (eo r)=q;induction q with|nil=>rfl|cons a t ih=>rw[List.flatMap_cons,ih];rfl
        rw[e];exact DK
      · intro y hy
        obtain⟨z,_,rfl⟩:=List.mem_map.1 hy;exact pj _
    rw[HX.out]at Ru
    gi_wp2_with (refine⟨trivial,?_⟩;gi_at_call 48;refine(callsIn_wide.2 (Two.from_any v _ W (bo Ru) (by have:=CV.out;simp;omega))).mono ?_;rintro e w2 ⟨u,rfl,hu,CM⟩)
    have Qw:w2.heap[D]? =some (.deferred (some [])):=(CM.block D (Array.getElem?_eq_some_iff.1 hK).1).trans hK;refine⟨by simp,.inl ⟨_,_,rfl,run_takeDeferred Qw,?_⟩⟩;refine⟨_,results_tmp rfl _ _ _,u,rfl,?_,(hB.trans (CM.mono hB.size)).trans (belowK_b (w:=w) (nR _) w2 D _ _ (by omega) Qw rfl rfl)⟩;rw[Ge.out,tV];exact(d9 hu).put Qw rfl
  case stop=>
    rintro D c pre W _ _ h _;exact h.elim
end Go.Proofs.YtmecohdedghiaaaGreatDoor
