/- What must be owned, for any request. -/
import Derived.Test.YtmecohdedghiaaaGreatDoorPo27
import Derived.Deep.Cut
set_option maxRecDepth 100000
set_option maxHeartbeats 8000000
open Go.Proofs.Tryz
namespace Go.Proofs.YtmecohdedghiaaaGreatDoor
open Go.RowKit Go.Shelf
attribute [local go_sem] Oper.semAt_some
def jb (r:Rq):Int×Int:=if r.k=4∧r.a=r.b then(1,0)else if r.k=4∨r.k=5∨r.k=6 then(qE r.v,0)else(0,0)
noncomputable def jz (d:Dk) (r:Rq):Option (Int×Int):=(eo r).find? fun x=>!gi d x.1 x.2
noncomputable def bI (d:Dk) (r:Rq):Int×Int:=if aA d≠0 then(aA d,0)else if je r≠(0,0)then je r else match jz d r with|some x=>(3,x.2)|none=>jb r
theorem rR {α:Type} (f:α→Bool) (l ini:List α) (x:α) (h:ini++[x]<+:l) (h0:∀p∈ini,f p=false) (h1:f x=true):l.find? f=some x:=by
  obtain⟨t,rfl⟩:=h;rw[List.append_assoc,List.find?_append];have e:ini.find? f=none:=List.find?_eq_none.2 fun p hp=>by simp[h0 p hp]
  rw[e];simp[h1]
theorem r9 {W W':World} (h:Below W.heap.size W W'):KeepsOthers W W':=⟨h.size,fun j _ ho _=>(h.block j (Array.getElem?_eq_some_iff.1 ho).1).trans ho⟩
theorem gr (d:Dk) (r:Rq) (w:World) (hd:d.In w w.heap.size) (hr:r.In w w.heap.size) (hT:Nn.Tab w):Calls prog 78 #[d.v,r.val] w fun e w'=>e=.returned (jj (bI d r))∧Below w.heap.size w w':=by
  obtain⟨w0,hw0⟩:∃w0,w0=((w.alloc d.ob).alloc (.cells r.ob 30)).alloc (.cells #[.int .i64 0,.int .i64 0] 122):=⟨_,rfl⟩;have CG:=aH (BC hw0);have CR:=aH (hd.then CG.out);have DD:=aH (hr.then CG.out);have Dq:=aH (show w0.heap.size=w.heap.size+3 by rw[hw0];simp);have DO:=aH (show dv w0 w.heap.size d by rw[hw0];exact((Cells4.new w _ _ _ _ _).below (bL (bR _ _) _)).below (bL (bR _ _) _));have JP:=aH (show nZ w0 (w.heap.size+1) r by
    have h:=(Cells6.new (w.alloc d.ob) 30 (.int .i64 r.k) (.slice r.iA r.il.length r.ic) (.int .i64 r.a) (.int .i64 r.b) (.int .i64 r.u) (.int .u64 r.v)).below (bL (bR _ _) (.cells #[.int .i64 0,.int .i64 0] 122));rw[World.size_alloc]at h;rw[hw0];exact h)
  have Ib:=aH (show Cells2 w0 (w.heap.size+2) (.int .i64 0) (.int .i64 0)by
    have h:=Cells2.new ((w.alloc d.ob).alloc (.cells r.ob 30)) 122 (.int .i64 0) (.int .i64 0);rw[World.size_alloc,World.size_alloc]at h;rw[hw0];exact h)
  have CN:=aH (hT.below CG.out);have HZ:=aH (fun w h=>eS d w h);have HM:=aH (fun w h=>jt r w h);have G7:=aH (show bI d r=if aA d≠0 then(aA d,0)else if je r≠(0,0)then je r else match jz d r with|some x=>(3,x.2)|none=>jb r from rfl);generalize aA d=z at *;obtain⟨m,hm⟩:∃m,je r=m:=⟨_,rfl⟩;rw[hm]at HM G7;generalize bI d r=V at *;clear hm hd hr hT;obtain⟨d0,d1,d2,d3,-⟩:=DO.out;rw[hw0]at d0 d1 d2 d3;refine(callsIn_wide (n:=6)).1 ?_;refine callsIn_of_wp_marks func78 rfl trivial ?_ rfl;simp only[ntmps78,List.size_toArray,List.length_cons,List.length_nil,Nat.reduceAdd,Nat.reduceSub,Array.replicate_succ,Array.replicate_zero,List.push_toArray,List.append_toArray,List.nil_append,List.cons_append];by_cases hz:z=0
  case neg=>
    obtain rfl:V=(z,0):=(by rw[G7.out,if_pos hz]);have GB:(z != 0)=true:=(by simpa using hz);clear hz
    gi_wp2_with (refine⟨trivial,?_⟩;gi_at_call 93;rw[←hw0];clear hw0 d0 d1 d2 d3;refine(callsIn_wide.2 (HZ.out w0 CR.out)).mono ?_;rintro e w1 ⟨rfl,CE⟩;obtain⟨c0,c1,y0,y1,-⟩:=Ib.out.below CE;have CH:=aH (bC CG.out CE);clear CE)
    refine⟨jj (z,0),?_,rfl,bS (bS CH.out (by simp;omega)) (by simp;omega)⟩;simp[results,Tryz.f78,go_sem,c0,c1,jj]
  subst hz
  gi_wp2_with (refine⟨trivial,?_⟩;gi_at_call 93;rw[←hw0];clear hw0 d0 d1 d2 d3;refine(callsIn_wide.2 (HZ.out w0 CR.out)).mono ?_;rintro e w1 ⟨rfl,CE⟩;obtain⟨c0,c1,y0,y1,-⟩:=Ib.out.below CE;obtain⟨q0,q1,q2,q3,q4,q5,-⟩:=JP.out.below CE;have CH:=aH CE;clear CE)
  refine⟨trivial,?_⟩
  gi_at_call 143
  refine(callsIn_wide.2 (HM.out w1 (DD.out.then CH.out))).mono ?_;obtain⟨m1,m2⟩:=m;unfold jj;rintro e w2 ⟨rfl,CM⟩;obtain⟨v2,hv2⟩:∃v2,v2=w2.alloc (.cells #[.int .i64 m1,.int .i64 m2] 122):=⟨_,rfl⟩;have CS:=aH (show Below w0.heap.size w0 v2 by rw[hv2];exact bL (bC CH.out CM) _);have EG:=aH (show w.heap.size+2<w2.heap.size by have:=(bC CH.out CM).size;have:=Dq.out;omega);have hn:Cells2 v2 w2.heap.size (.int .i64 m1) (.int .i64 m2):=by rw[hv2];exact Cells2.new w2 _ _ _
  obtain⟨n0,n1,-⟩:=hn;obtain⟨c0,c1,y0,y1,-⟩:=Ib.out.below CS.out;obtain⟨q0,q1,q2,q3,q4,q5,-⟩:=JP.out.below CS.out;clear CM;rw[hv2]at c0 c1 y0 y1 q0 q1 q2 q3 q4 q5 n0 n1;dsimp only;by_cases hm:m1=0∧m2=0
  case neg=>
    obtain rfl:V=(m1,m2):=(by rw[G7.out,if_neg (by simp),if_pos (by intro h;injection h with h1 h2;exact hm ⟨h1,h2⟩)]);have GY:m1≠0∨(m1=0∧m2≠0):=(by omega);clear hm;rcases GY with hm|⟨rfl,hm⟩
    all_goals
      gi_wp2
      refine⟨jj (_,_),?_,rfl,?_⟩
      · simp[results,Tryz.f78,go_sem,c0,c1,jj]
      · rw[←hv2];exact bS (bS (bC CG.out CS.out) (by simp;omega)) (by simp;omega)
  obtain⟨rfl,rfl⟩:=hm
  gi_wp2_with (refine⟨trivial,?_⟩;gi_at_call 91;refine(callsIn_wide.2 (j9 r _)).mono ?_;rintro e w' ⟨rfl,rfl⟩)
  rw[←hv2];obtain⟨X0,hX0⟩:∃X0,X0=v2.alloc (.cells r.ob 30):=⟨_,rfl⟩;rw[←hX0];have Lf:v2.heap.size=w2.heap.size+1:=by rw[hv2];simp
  have Dm:=aH (show Below w0.heap.size w0 X0 by rw[hX0];exact bL CS.out _);have ON:nZ X0 (w2.heap.size+1) r:=by
    have h:=Cells6.new v2 30 (.int .i64 r.k) (.slice r.iA r.il.length r.ic) (.int .i64 r.a) (.int .i64 r.b) (.int .i64 r.u) (.int .u64 r.v);rw[Lf]at h;rw[hX0];exact h
  have UC:X0.heap.size=w2.heap.size+2:=by rw[hX0];simp[Lf]
  have Rz:=aH (show w0.heap.size≤X0.heap.size from Dm.out.size);have Ta:=Rz.out;have Iw:=Dq.out;clear hv2 hX0 c0 c1 y0 y1 q0 q1 q2 q3 q4 q5 n0 n1 CS CH Lf;have HP:=aH (fun k id h w h2=>lE d k id h w h2);have JI:=aH (qe DD.out);refine wpIn_rangeFunc_ownG rfl (by omega) (gf:=153) (lb:=#[.pointer (some ⟨w2.heap.size+1,0,none⟩)]) rfl trivial (enters_of func153 (by kernel_rfl) rfl)
    (gD 5 (by omega) (w2.heap.size+1) w0.heap.size r X0 ON (by omega) (by omega) (DD.out.below Dm.out)) Kq.trans (Kq.put (by omega)) (bR _ _) (fun _=>rfl)
    (fun pre W=>(∀p∈pre,gi d p.1 (cl p.2)=true)∧Below w0.heap.size w0 W)
    (fun c pre W=>(c=.ret∧∃ini last,pre=ini++[last]∧(∀p∈ini,gi d p.1 (cl p.2)=true)∧gi d last.1 (cl last.2)=false∧W.cell? ⟨w.heap.size+2,0,none⟩=some (.int .i64 3)∧W.cell? ⟨w.heap.size+2,1,none⟩=some (.int .i64 (cl last.2)))∧Below w.heap.size w W)
    (OwnFrom.and (ownFrom_pure _ (fun pre:List (Int×Int)=>∀p∈pre,gi d p.1 (cl p.2)=true)) (ownFrom_below (nR _) (by omega)))
    (fun c=>OwnFrom.and (Own.from (fun s A B row hs hg hr=>by obtain⟨hc,ini,last,e1,e2,e3,e4,e5⟩:=hs;exact⟨hc,ini,last,e1,e2,e3,cell_kept e4 hg hr,cell_kept e5 hg hr⟩) _) (ownFrom_below (nR _) (by omega)))
    ⟨by simp,Dm.out⟩
    (fun x=>{tmps:=#[d.v,r.val,.pointer (some ⟨w.heap.size,0,none⟩),.pointer (some ⟨w.heap.size+1,0,none⟩),.pointer (some ⟨w.heap.size+1+1,0,none⟩),.int .i64 0,.pointer (some ⟨w2.heap.size,0,none⟩),.int .i64 x.1,.int .i64 (cl x.2),undef,undef,.agg #[.slice d.bA d.bn d.bc,.slice d.pA d.pn d.pc,.slice d.rA d.rn d.rc,.int .i64 d.arms],.int .i64 0,.int .i64 0,.bool false,undef,undef,r.val,.agg #[.int .i64 0,.int .i64 0],.agg #[.int .i64 0,.int .i64 0],.agg #[.int .i64 0,.int .i64 0],.bool false,undef,r.val,.func (.func 153) #[] #[.pointer (some ⟨w2.heap.size+1,0,none⟩)],.int .i64 x.1,.int .i64 (cl x.2),undef,undef,undef,undef,undef,undef,undef,undef,undef,undef,undef,undef,undef,undef,undef,undef,undef,undef,undef,undef,undef,undef,undef,undef,undef,undef,undef,undef],defers:=[]}) ?assign ?body ?done ?stop
  case assign=>
    intro l x W K hK
    gi_wp2
    exact hK
  case body=>
    rintro l pre x W ⟨hp,hB⟩ -;have LM:=aH hp;have Dt:=aH hB;have Kj:=aH (HP.out x.1 (cl x.2) (pj _) W (CR.out.then hB));obtain⟨bb,Jz⟩:∃bb,gi d x.1 (cl x.2)=bb:=⟨_,rfl⟩;rw[Jz]at Kj;have QU:=aH Jz;obtain⟨d0,d1,d2,d3,-⟩:=DO.out.below hB;clear hp hB Jz
    cases bb
    all_goals
      gi_wp2_with (refine⟨trivial,?_⟩;gi_at_call 144;refine(CallsIn.inRound l (callsIn_wide.2 Kj.out)).mono ?_;rintro e w' ⟨rfl,hb⟩;obtain⟨c0,c1,y0,y1,-⟩:=Ib.out.below (bC Dt.out hb);have LP:=aH hb;clear hb)
      first
        |exact⟨(((r9 LP.out).trans (KeepsOthers.setCell _ _ _)).trans (KeepsOthers.setCell _ _ _)).from _,⟨rfl,pre,x,rfl,LM.out,QU.out,sO (ag c0) (by simp),ag (sO c1 (by simp))⟩,bS (bS (bC CG.out (bC Dt.out LP.out)) (by simp;omega)) (by simp;omega)⟩
        |exact⟨(r9 LP.out).from _,⟨LP.out.mono Dt.out.size,fun o v e=>kK LP.out e⟩,fun p hp=>(List.mem_append.1 hp).elim (LM.out p) (fun e=>by simp at e;subst e;exact QU.out),bC Dt.out LP.out⟩
  case done=>
    rintro D ys W hD rfl ⟨hp,hB⟩ hK;have Dt:=aH hB;have Ob:=aH hK;have Qy:V=jb r:=by
      have hn:jz d r=none:=List.find?_eq_none.2 fun p hp'=>by
        have h:=hp p hp';rw[jS (JI.out p hp')]at h;simp[h]
      rw[G7.out,hn];simp
    have HL:=aH (show jb r=if r.k=4∧r.a=r.b then(1,0)else if r.k=4∨r.k=5∨r.k=6 then(qE r.v,0)else(0,0)from rfl);have HL:=aH (show V=if r.k=4∧r.a=r.b then(1,0)else if r.k=4∨r.k=5∨r.k=6 then(qE r.v,0)else(0,0)from Qy);have Oo:=aH (i5 r W DD.out.v (CN.out.below hB));obtain⟨q0,q1,q2,q3,q4,q5,-⟩:=JP.out.below hB;obtain⟨c0,c1,y0,y1,-⟩:=Ib.out.below hB;clear hp hB hK Qy G7;have hk:((r.k==4)=true∧(r.a==r.b)=true)∨((r.k==4)=true∧(r.a==r.b)=false)∨((r.k==4)=false∧(r.k==5)=true)∨((r.k==4)=false∧(r.k==5)=false∧(r.k==6)=true)∨((r.k==4)=false∧(r.k==5)=false∧(r.k==6)=false):=by
      simp only[lm,decide_eq_true_eq,decide_eq_false_iff_not];omega
    rcases hk with ⟨k4,kab⟩|⟨k4,kab⟩|⟨k4,k5⟩|⟨k4,k5,k6⟩|⟨k4,k5,k6⟩
    case inl=>
      have HV:=aH (show V=(1,0)by simp only[lm,decide_eq_true_eq]at k4 kab;rw[HL.out,if_pos ⟨k4,kab⟩])
      gi_wp2
      have FK:((W.setCell ⟨w.heap.size+1+1,0,none⟩ (.int .i64 1)).setCell ⟨w.heap.size+1+1,1,none⟩ (.int .i64 0)).heap[D]? =some (.deferred (some [])):=((KeepsOthers.setCell _ _ _).trans (KeepsOthers.setCell _ _ _)).same D _ Ob.out rfl;have e0:(((W.setCell ⟨w.heap.size+1+1,0,none⟩ (.int .i64 1)).setCell ⟨w.heap.size+1+1,1,none⟩ (.int .i64 0)).putObj D (.deferred none)).cell? ⟨w.heap.size+2,0,none⟩=some (.int .i64 1):=cell_kept (sO (ag c0) (by simp)) (grownBy_putObj' _ D (.deferred none)) (fun r e=>by cases e;exact⟨_,FK,rfl⟩);have e1:(((W.setCell ⟨w.heap.size+1+1,0,none⟩ (.int .i64 1)).setCell ⟨w.heap.size+1+1,1,none⟩ (.int .i64 0)).putObj D (.deferred none)).cell? ⟨w.heap.size+2,1,none⟩=some (.int .i64 0):=cell_kept (ag (sO c1 (by simp))) (grownBy_putObj' _ D (.deferred none)) (fun r e=>by cases e;exact⟨_,FK,rfl⟩);refine⟨by simp,.inl ⟨_,_,rfl,run_takeDeferred FK,?_⟩⟩;refine⟨jj (1,0),?_,by rw[HV.out],(bS (bS (bC CG.out Dt.out) (by simp;omega)) (by simp;omega)).trans (belowK_b (w:=w) (nR _) _ D _ _ (by omega) FK rfl rfl)⟩;simp[results,Tryz.f78,go_sem,e0,e1,jj]
    case inr.inr.inr.inr=>
      have HV:=aH (show V=(0,0)by simp only[lm,decide_eq_false_iff_not]at k4 k5 k6;rw[HL.out,if_neg (by omega),if_neg (by omega)])
      gi_wp2
      have FK:((W.setCell ⟨w.heap.size+1+1,0,none⟩ (.int .i64 0)).setCell ⟨w.heap.size+1+1,1,none⟩ (.int .i64 0)).heap[D]? =some (.deferred (some [])):=((KeepsOthers.setCell _ _ _).trans (KeepsOthers.setCell _ _ _)).same D _ Ob.out rfl;have e0:(((W.setCell ⟨w.heap.size+1+1,0,none⟩ (.int .i64 0)).setCell ⟨w.heap.size+1+1,1,none⟩ (.int .i64 0)).putObj D (.deferred none)).cell? ⟨w.heap.size+2,0,none⟩=some (.int .i64 0):=cell_kept (sO (ag c0) (by simp)) (grownBy_putObj' _ D (.deferred none)) (fun r e=>by cases e;exact⟨_,FK,rfl⟩);have e1:(((W.setCell ⟨w.heap.size+1+1,0,none⟩ (.int .i64 0)).setCell ⟨w.heap.size+1+1,1,none⟩ (.int .i64 0)).putObj D (.deferred none)).cell? ⟨w.heap.size+2,1,none⟩=some (.int .i64 0):=cell_kept (ag (sO c1 (by simp))) (grownBy_putObj' _ D (.deferred none)) (fun r e=>by cases e;exact⟨_,FK,rfl⟩);refine⟨by simp,.inl ⟨_,_,rfl,run_takeDeferred FK,?_⟩⟩;refine⟨jj (0,0),?_,by rw[HV.out],(bS (bS (bC CG.out Dt.out) (by simp;omega)) (by simp;omega)).trans (belowK_b (w:=w) (nR _) _ D _ _ (by omega) FK rfl rfl)⟩;simp[results,Tryz.f78,go_sem,e0,e1,jj]
    all_goals
      have HV:=aH (show V=(qE r.v,0)by
        first
          |(simp only[lm,decide_eq_true_eq,decide_eq_false_iff_not]at k4 kab;rw[HL.out,if_neg (by omega),if_pos (by omega)])
          |(simp only[lm,decide_eq_true_eq,decide_eq_false_iff_not]at k4 k5 k6;rw[HL.out,if_neg (by omega),if_pos (by omega)])
          |(simp only[lm,decide_eq_true_eq,decide_eq_false_iff_not]at k4 k5;rw[HL.out,if_neg (by omega),if_pos (by omega)]))
      gi_wp2_with (refine⟨trivial,?_⟩;gi_at_call 38;refine(callsIn_wide.2 Oo.out).mono ?_;rintro e w3 ⟨rfl,CO⟩;obtain⟨c0,c1,y0,y1,-⟩:=Ib.out.below (bC Dt.out CO);have CS:=aH CO;clear CO)
      have J1:w3.heap[D]? =some (.deferred (some [])):=(CS.out.block D (Array.getElem?_eq_some_iff.1 Ob.out).1).trans Ob.out;have FK:((w3.setCell ⟨w.heap.size+1+1,0,none⟩ (.int .i64 (qE r.v))).setCell ⟨w.heap.size+1+1,1,none⟩ (.int .i64 0)).heap[D]? =some (.deferred (some [])):=((KeepsOthers.setCell _ _ _).trans (KeepsOthers.setCell _ _ _)).same D _ J1 rfl;have e0:(((w3.setCell ⟨w.heap.size+1+1,0,none⟩ (.int .i64 (qE r.v))).setCell ⟨w.heap.size+1+1,1,none⟩ (.int .i64 0)).putObj D (.deferred none)).cell? ⟨w.heap.size+2,0,none⟩=some (.int .i64 (qE r.v)):=cell_kept (sO (ag c0) (by simp)) (grownBy_putObj' _ D (.deferred none)) (fun r e=>by cases e;exact⟨_,FK,rfl⟩);have e1:(((w3.setCell ⟨w.heap.size+1+1,0,none⟩ (.int .i64 (qE r.v))).setCell ⟨w.heap.size+1+1,1,none⟩ (.int .i64 0)).putObj D (.deferred none)).cell? ⟨w.heap.size+2,1,none⟩=some (.int .i64 0):=cell_kept (ag (sO c1 (by simp))) (grownBy_putObj' _ D (.deferred none)) (fun r e=>by cases e;exact⟨_,FK,rfl⟩);refine⟨by simp,.inl ⟨_,_,rfl,run_takeDeferred FK,?_⟩⟩;refine⟨jj ((qE r.v),0),?_,by rw[HV.out],(bS (bS (bC CG.out (bC Dt.out CS.out)) (by simp;omega)) (by simp;omega)).trans (belowK_b (w:=w) (nR _) _ D _ _ (by omega) FK rfl rfl)⟩;simp[results,Tryz.f78,go_sem,e0,e1,jj]
  case stop=>
    rintro D c pre W hD hpre ⟨⟨rfl,ini,last,e1,e2,e3,e4,e5⟩,hB⟩ hK;have HV:=aH (show V=(3,cl last.2)by
      subst e1;have Kb:=hpre.subset;have hc:∀p∈ini++[last],cl p.2=p.2:=fun p hp=>jS (JI.out p (Kb hp));have hn:jz d r=some last:=rR _ _ ini last hpre (fun p hp=>by have h:=e2 p hp;rw[hc p (by simp[hp])]at h;simp[h]) (by rw[hc last (by simp)]at e3;simp[e3]);rw[G7.out,hn,hc last (by simp)];simp)
    clear G7
    gi_wp2
    have FK:W.heap[D]? =some (.deferred (some [])):=hK;have g0:(W.putObj D (.deferred none)).cell? ⟨w.heap.size+2,0,none⟩=some (.int .i64 3):=cell_kept e4 (grownBy_putObj' _ D (.deferred none)) (fun r e=>by cases e;exact⟨_,FK,rfl⟩);have g1:(W.putObj D (.deferred none)).cell? ⟨w.heap.size+2,1,none⟩=some (.int .i64 (cl last.2)):=cell_kept e5 (grownBy_putObj' _ D (.deferred none)) (fun r e=>by cases e;exact⟨_,FK,rfl⟩);refine⟨by simp,.inl ⟨_,_,rfl,run_takeDeferred FK,?_⟩⟩;refine⟨jj (3,(cl last.2)),?_,by rw[HV.out],(hB).trans (belowK_b (w:=w) (nR _) _ D _ _ (by omega) FK rfl rfl)⟩;simp[results,Tryz.f78,go_sem,g0,g1,jj]
open Go.RowKit
def Co (p:Int×Int):Value:=.agg #[.int .i64 p.1,.int .i64 p.2,.int .i64 0,.int .i64 0,.slice none 0 0]
def Cells5 (V:World) (D:Nat) (x0 x1 x2 x3 x4:Value):Prop:=
  V.cell? ⟨D,0,none⟩=some x0∧V.cell? ⟨D,1,none⟩=some x1∧V.cell? ⟨D,2,none⟩=some x2∧V.cell? ⟨D,3,none⟩=some x3∧V.cell? ⟨D,4,none⟩=some x4∧
  V.frozen? ⟨D,0,none⟩=false∧V.frozen? ⟨D,1,none⟩=false∧V.frozen? ⟨D,2,none⟩=false∧V.frozen? ⟨D,3,none⟩=false∧V.frozen? ⟨D,4,none⟩=false∧D<V.heap.size
theorem Cells5.new (V:World) (t:TypeId) (x0 x1 x2 x3 x4:Value):Cells5 (V.alloc (.cells #[x0,x1,x2,x3,x4] t)) V.heap.size x0 x1 x2 x3 x4:=
  ⟨by rw[ah];rfl,by rw[ah];rfl,by rw[ah];rfl,by rw[ah];rfl,by rw[ah];rfl,by simp,by simp,by simp,by simp,by simp,by simp⟩
theorem Cells5.low {V V':World} {B D:Nat} {x0 x1 x2 x3 x4:Value} (h:Cells5 V D x0 x1 x2 x3 x4) (hb:Below B V V') (hD:D<B):Cells5 V' D x0 x1 x2 x3 x4:=by
  obtain⟨h0,h1,h2,h3,h4,z0,z1,z2,z3,z4,hs⟩:=h;exact⟨(hb.cell (p:=⟨D,0,none⟩) hD).trans h0,(hb.cell (p:=⟨D,1,none⟩) hD).trans h1,(hb.cell (p:=⟨D,2,none⟩) hD).trans h2,(hb.cell (p:=⟨D,3,none⟩) hD).trans h3,(hb.cell (p:=⟨D,4,none⟩) hD).trans h4,(hb.frozen (p:=⟨D,0,none⟩) hD).trans z0,(hb.frozen (p:=⟨D,1,none⟩) hD).trans z1,(hb.frozen (p:=⟨D,2,none⟩) hD).trans z2,(hb.frozen (p:=⟨D,3,none⟩) hD).trans z3,(hb.frozen (p:=⟨D,4,none⟩) hD).trans z4,nL hs hb.size⟩
theorem Cells5.below {V V':World} {D:Nat} {x0 x1 x2 x3 x4:Value} (h:Cells5 V D x0 x1 x2 x3 x4) (hb:Below V.heap.size V V'):Cells5 V' D x0 x1 x2 x3 x4:=h.low hb h.2.2.2.2.2.2.2.2.2.2
theorem nk (d:Dk) (r:Rq) (w:World) (hd:d.In w w.heap.size) (hr:r.In w w.heap.size) (hT:Nn.Tab w):Calls prog 39 #[d.v,r.val] w fun e w'=>e=.returned (Co (bI d r))∧Below w.heap.size w w':=by
  obtain⟨w0,hw0⟩:∃w0,w0=((w.alloc d.ob).alloc (.cells r.ob 30)).alloc (.cells #[.int .i64 0,.int .i64 0,.int .i64 0,.int .i64 0,.slice none 0 0] 56):=⟨_,rfl⟩;have CG:=aH (BC hw0);have IK:=aH (gr d r w0 (hd.then CG.out) (hr.then CG.out) (hT.below CG.out));generalize bI d r=V at *;obtain⟨v1,v2⟩:=V;unfold jj at IK;unfold Co;dsimp only at *;have HC:=aH (show Cells5 w0 (w.heap.size+2) (.int .i64 0) (.int .i64 0) (.int .i64 0) (.int .i64 0) (.slice none 0 0)by
    have h:=Cells5.new ((w.alloc d.ob).alloc (.cells r.ob 30)) 56 (.int .i64 0) (.int .i64 0) (.int .i64 0) (.int .i64 0) (.slice none 0 0);rw[World.size_alloc,World.size_alloc]at h;rw[hw0];exact h)
  clear hd hr hT;go_enter func39,ntmps39;go_wp2_with fail;rw[←hw0];clear hw0;refine IK.out.mono ?_;rintro e w1 ⟨rfl,CE⟩;have hz:=(HC.out.below CE).2.2.2.2.2.2.2.2.2.2;obtain⟨v3,hv3⟩:∃v3,v3=w1.alloc (.cells #[.int .i64 v1,.int .i64 v2] 122):=⟨_,rfl⟩;have CZ:=bL (bR w1.heap.size w1) (.cells #[.int .i64 v1,.int .i64 v2] 122);rw[←hv3]at CZ;obtain⟨c0,c1,c2,c3,c4,y0,y1,y2,y3,y4,-⟩:=(HC.out.below CE).below CZ;have Eb:=aH (bC CG.out (bC CE CZ));obtain⟨n0,n1,-⟩:Cells2 v3 w1.heap.size (.int .i64 v1) (.int .i64 v2):=by rw[hv3];exact Cells2.new w1 _ _ _
  have CJ:w1.heap.size≠w.heap.size+2:=by omega
  clear CE CZ
  go_upto_region 2 with (fail)
  rw[←hv3];clear hv3;go_wp2;refine bP (v:=.agg #[.int .i64 v1,.int .i64 v2,.int .i64 0,.int .i64 0,.slice none 0 0]) ?_ rfl ⟨rfl,?_⟩
  · simp[results,results39,go_sem,c0,c1,c2,c3,c4]
  · refine bS (bS (bS (bS (bS Eb.out ?_) ?_) ?_) ?_) ?_ <;>(simp;omega)
theorem e8 (d:Dk) (r:Rq) (w:World) (hd:d.In w w.heap.size) (hr:r.In w w.heap.size) (hT:Nn.Tab w):Calls prog 40 #[d.v,r.val] w fun e w'=>e=.returned (.bool (decide (bI d r=(0,0))))∧Below w.heap.size w w':=by
  obtain⟨w0,hw0⟩:∃w0,w0=(w.alloc d.ob).alloc (.cells r.ob 30):=⟨_,rfl⟩;have CG:=aH (gj hw0);have IK:=aH (gr d r w0 (hd.then CG.out) (hr.then CG.out) (hT.below CG.out));generalize bI d r=V at *;obtain⟨v1,v2⟩:=V;unfold jj at IK;dsimp only at *;clear hd hr hT;go_enter func40,ntmps40;go_wp2_with fail;rw[←hw0];clear hw0;refine IK.out.mono ?_;rintro e w1 ⟨rfl,CE⟩;have CH:=aH (bC CG.out CE);clear CE;go_wp2;all_goals
    go_ret
    exact⟨aj (by simp[*]),CH.out⟩
noncomputable def ke (d:Dk) (p:Int×Int):List Int:=bY (de d) p.1.toNat (p.2.toNat+1-p.1.toNat)
noncomputable def cy (d:Dk) (l:List (Int×Int)):List Int:=l.foldl (fun s p=>Two.mk (s++ke d p)) []
noncomputable def fU (d:Dk) (ids:List Int):List Int:=cy d (dr d ids)
theorem dX (d:Dk) {w:World} (hd:d.In w w.heap.size) (ids:List Int):∀p∈dr d ids,0≤p.1∧p.1≤p.2∧p.2≤23:=by
 intro p hp;unfold dr at hp;by_cases he:cS d ids=0
 ·rw[if_pos he]at hp;obtain⟨x,hx,rfl⟩:=List.mem_map.1 hp;unfold cS at he;by_cases hz:aA d=0
  ·rw[if_pos hz]at he;by_cases ha:ids.all (jH d)=true
   ·exact ms d hd hz x (List.all_eq_true.1 ha x hx)
   ·rw[if_neg ha]at he;exact absurd he (by decide)
  ·rw[if_neg hz]at he;exact absurd he hz
 ·rw[if_neg he]at hp;cases hp
theorem xE (d:Dk) (ids:List Int):(dr d ids).length≤ids.length:=by
 unfold dr
 split
 ·simp
 ·simp
theorem jN (F:Int) (lo n:Nat):Two.Inc (bY F lo n):=by
 unfold Two.Inc bY;rw[List.pairwise_map];exact List.pairwise_lt_range.imp fun h=>by omega
theorem rk (F:Int) (lo n:Nat):∀x∈bY F lo n,F+lo≤x∧x<F+lo+n:=by
 intro x hx;unfold bY at hx;obtain⟨i,hi,rfl⟩:=List.mem_map.1 hx;have:=List.mem_range.1 hi;omega
theorem xt (xs:List Int):∀(a:Int) (n:Nat),Two.Inc xs→(∀x∈xs,a≤x∧x<a+n)→xs.length≤n:=by
 induction xs with
 |nil=>intro a n _ _;exact Nat.zero_le _
 |cons x r ih=>
  intro a n hi hm;obtain⟨h1,h2⟩:=Two.inc_cons.1 hi;have hx:=hm x (by simp);have:=ih (x+1) (a+n-(x+1)).toNat h2 fun y hy=>by
   have:=h1 y hy;have:=hm y (by simp[hy]);omega
  rw[List.length_cons];omega
theorem gg (d:Dk) (l:List (Int×Int)) (h:∀p∈l,0≤p.1∧p.1≤p.2∧p.2≤23):Two.Inc (cy d l)∧∀x∈cy d l,de d≤x∧x<de d+24:=by
 unfold cy
 suffices ∀s:List Int,(Two.Inc s∧∀x∈s,de d≤x∧x<de d+24)→Two.Inc (l.foldl (fun s p=>Two.mk (s++ke d p)) s)∧∀x∈l.foldl (fun s p=>Two.mk (s++ke d p)) s,de d≤x∧x<de d+24 from this [] ⟨Two.inc_nil,fun x hx=>by cases hx⟩
 induction l with
 |nil=>intro s hs;exact hs
 |cons p l ih=>
  intro s hs;rw[List.foldl_cons];refine ih (fun q hq=>h q (by simp[hq])) _ ⟨Two.inc_mk _,fun x hx=>?_⟩;rw[Two.mem_mk]at hx;rcases List.mem_append.1 hx with hx|hx
  ·exact hs.2 x hx
  ·have h0:=h p (by simp);have:=rk _ _ _ x hx;omega
theorem my (d:Dk) (l:List (Int×Int)) (h:∀p∈l,0≤p.1∧p.1≤p.2∧p.2≤23):(cy d l).length≤24:=by
 obtain⟨h1,h2⟩:=gg d l h;exact xt _ (de d) 24 h1 h2
theorem qt (d:Dk) (l:List (Int×Int)) (k:Nat) (hk:k<l.length):cy d (l.take (k+1))=Two.mk (cy d (l.take k)++ke d (l.getD k (0,0))):=by
 rw[aX l k (0,0) hk];unfold cy;rw[List.foldl_append];rfl
theorem tS (d:Dk) (ids:List Int) (h:cS d ids≠0):dr d ids=[]:=by unfold dr;rw[if_neg h]
theorem qX (d:Dk) (v:Value) (ids:List Int) (w:World) (hd:d.In w w.heap.size) (hv:KI.IsL w w.heap.size v ids) (hl:ids.length≤1000):Calls prog 80 #[d.v,v] w fun e w'=>∃u,e=.returned (.tuple #[u,.int .i64 (cS d ids)])∧KI.IsL w' w'.heap.size u (fU d ids)∧Below w.heap.size w w':=by
 have HD:=aH hd;have Il:=aH (fun w h1 h2=>j4 d v ids w h1 h2 hl);have HV:=aH hv;have Iz:=aH (dX d hd ids);have CV:=aH (xE d ids);have Jj:=aH (tS d ids);have FR:=aH (show fU d ids=cy d (dr d ids)from rfl);obtain⟨w0,hw0⟩:∃w0,w0=w.alloc d.ob:=⟨_,rfl⟩;have CG:=aH (cI hw0);have CR:=aH (HD.out.then CG.out);have Lu:w.heap.size<w0.heap.size:=by rw[hw0];simp
 have HF:=aH (show ∀w1,Below w0.heap.size w0 w1→(w1.cell? ⟨w.heap.size,0,none⟩=some (.slice d.bA d.bn d.bc)∧w1.cell? ⟨w.heap.size,1,none⟩=some (.slice d.pA d.pn d.pc)∧w1.cell? ⟨w.heap.size,2,none⟩=some (.slice d.rA d.rn d.rc)∧w1.cell? ⟨w.heap.size,3,none⟩=some (.int .i64 d.arms))from by
   intro w1 hb;refine⟨kK hb ?_,kK hb ?_,kK hb ?_,kK hb ?_⟩;all_goals (rw[hw0];simp))
 rw[FR.out];clear FR hd hv;generalize dr d ids=SL at *;generalize cS d ids=SE at *;by_cases hz:SE=0
 ·subst hz;go_enter func80,ntmps80;go_wp2_with fail;rw[←hw0];clear hw0;refine(Il.out w0 CR.out (HV.out.then CG.out)).mono ?_;rintro e w1 ⟨tv,rfl,hown1,CE⟩;have CH:=aH CE;have Gl:=aH (hown1.isL (by have:=CV.out;omega));clear CE hown1;obtain⟨TA,tcap,rfl⟩:∃A cap,tv=.slice A SL.length cap:=by
   obtain⟨⟨A,cap,h,_⟩,_⟩:=Gl.out;exact⟨A,cap,h⟩
  go_wp2_with fail
  go_loopw [8,22] (fun u i wr=>∃k:Nat,k≤SL.length∧i=.int .i64 k∧KI.IsL wr wr.heap.size u (cy d (SL.take k))∧Below w1.heap.size w1 wr) (fun _ i _=>SL.length-(intOf i).toNat)
  case atStart=>exact⟨0,Nat.zero_le _,rfl,Lk.IsL.nil _ _ _ _,bR _ _⟩
  case round=>
   obtain⟨k,hk,rfl,hil,CP⟩:=hrel;have HU:=aH hil;have HB:=aH CP;have FZ:=CV.out;clear hil CP;by_cases CI:k<SL.length
   ·obtain⟨tb,toff,rfl,htb,htc,htcell⟩:=iU (Gl.out.below HB.out) (by omega);obtain⟨e1,e2⟩:=htcell k CI;obtain⟨d0,d1,d2,d3⟩:=HF.out wr (bC CH.out HB.out);have Tx:w.heap.size<wr.heap.size:=nL Lu (bC CH.out HB.out).size;have hg:=Iz.out _ (af SL k (0,0) CI);have FA:=aH (qt d SL k CI);have Jq:=aH (gg d (SL.take k) fun p hp=>Iz.out p (List.mem_of_mem_take hp));have MR:=aH (my d (SL.take k) fun p hp=>Iz.out p (List.mem_of_mem_take hp));have OV:ke d (SL.getD k (0,0))=bY (de d) (SL.getD k (0,0)).1.toNat ((SL.getD k (0,0)).2.toNat+1-(SL.getD k (0,0)).1.toNat):=rfl;rw[OV]at FA;clear htcell OV;generalize SL.getD k (0,0)=t at *;obtain⟨t1,t2⟩:=t;dsimp only at *;obtain⟨lo,rfl⟩:∃lo:Nat,t1=(lo:Int):=⟨t1.toNat,by omega⟩;obtain⟨hi,rfl⟩:∃hi:Nat,t2=(hi:Int):=⟨t2.toNat,by omega⟩;simp only[Int.toNat_natCast]at FA;obtain⟨w5,hw5⟩:∃w5,w5=wr.alloc (.cells #[.int .i64 lo,.int .i64 hi] 134):=⟨_,rfl⟩;have DH:=aH (show Below w1.heap.size w1 w5 by rw[hw5];exact bL HB.out _);have N8:=aH (show KI.IsL w5 w5.heap.size u8 (cy d (SL.take k))by rw[hw5];exact HU.out.then (bL (bR _ _) _));have Ej:=aH (j7 d lo hi (by omega) (by omega) w5 (CR.out.then (bC CH.out DH.out)));have N4:=aH (jN (de d) lo (hi+1-lo));have DJ:=aH (ew (de d) lo (hi+1-lo));generalize bY (de d) lo (hi+1-lo)=LL at *;generalize cy d (SL.take k)=S at *;go_wp2_with fail;rw[←hw5];clear hw5 d0 d1 d2 d3 e1 e2;refine Ej.out.mono ?_;rintro e w6 ⟨lv,rfl,hown6,hb6⟩;have Pi:=aH (hown6.isL (by have:=DJ.out;omega));have SO:=aH (N8.out.then hb6);have Ew:=aH (bC DH.out hb6);clear hown6 hb6;go_wp2_with fail;refine(Two.either_any _ _ S LL w6 (bo SO.out) (bo Pi.out) (by have:=DJ.out;have:=MR.out;omega) Jq.out.1 N4.out).mono ?_
    rintro e w7 ⟨nv,rfl,hnv,hb7⟩;have Sk:=aH (d9 hnv);have H9:=aH (bC Ew.out hb7);clear hnv hb7;go_wp2
    go_roundw
    case rel=>exact⟨k+1,by omega,ai (by omega),by rw[FA.out];exact Sk.out,H9.out⟩
    case measure=>simp[intOf];omega
   ·obtain rfl:k=SL.length:=(by omega);rw[List.take_length]at HU;go_wp2
    go_ret2
    exact⟨_,rfl,HU.out,bC CG.out (bC CH.out HB.out)⟩
 ·have hS:=Jj.out hz;subst hS;have GB:(SE != 0)=true:=by rw[bne_iff_ne];exact hz
  clear hz;go_enter func80,ntmps80;go_wp2_with fail;rw[←hw0];clear hw0;refine(Il.out w0 CR.out (HV.out.then CG.out)).mono ?_;rintro e w1 ⟨tv,rfl,_,CE⟩;have CH:=aH CE;clear CE;go_wp2
  go_ret2
  exact⟨_,rfl,Lk.IsL.nil _ _ _ _,bC CG.out CH.out⟩
noncomputable def dp (d:Dk) (a b:Int):List Int:=if cS d [a,b]=0 then bY (de d) (min (dg d a).1 (dg d b).1).toNat ((max (dg d a).2 (dg d b).2).toNat+1-(min (dg d a).1 (dg d b).1).toNat)else []
theorem Bl (d:Dk) (a b:Int) (h:cS d [a,b]=0):dr d [a,b]=[dg d a,dg d b]:=by unfold dr;rw[if_pos h];rfl
theorem dm {w:World} {B:Nat} {v:Value} {p q:Int×Int} (h:KS.IsL w B v [p,q]):∃b off cap,v=.slice (some ⟨b,off,none⟩) 2 cap∧b<B∧2≤cap∧w.cell? ⟨b,off,none⟩=some (.int .i64 p.1)∧w.cell? ⟨b,off+1,none⟩=some (.int .i64 p.2)∧w.cell? ⟨b,off+2,none⟩=some (.int .i64 q.1)∧w.cell? ⟨b,off+3,none⟩=some (.int .i64 q.2):=by
 obtain⟨⟨A,cap,rfl,hc,hA⟩,_,_⟩:=id h;obtain⟨b,off,rfl,hb,_,CD⟩:=iU h (by simp);have h0:=CD 0 (by simp);have h1:=CD 1 (by simp);simp only[Nat.zero_mul,Nat.add_zero,Nat.one_mul]at h0 h1;exact⟨b,off,cap,rfl,hb,hc,h0.1,h0.2,h1.1,h1.2⟩
theorem BO (w:World) (a b:Int) (ha:ae a) (hb:ae b) (H:Nat) (e:w.heap.size=H):KI.IsL (w.alloc (.cells #[.int .i64 a,.int .i64 b] 3)) (H+1) (.slice (some ⟨H,0,none⟩) 2 2) [a,b]:=
 Lk.IsL.lits (K:=KI) w [a,b] #[.int .i64 a,.int .i64 b] (fun x hx=>by rcases List.mem_cons.1 hx with rfl|hx;exact ha;rcases List.mem_cons.1 hx with rfl|hx;exact hb;cases hx) rfl (by simp) H e
theorem sX (d:Dk) (a b:Int) (ha:ae a) (hb:ae b) (w:World) (hd:d.In w w.heap.size):Calls prog 79 #[d.v,.int .i64 a,.int .i64 b] w fun e w'=>∃u,e=.returned (.tuple #[u,.int .i64 (cS d [a,b])])∧KI.IsL w' w'.heap.size u (dp d a b)∧Below w.heap.size w w':=by
 have HD:=aH hd;have Il:=aH (fun w v h1 h2=>j4 d v [a,b] w h1 h2 (by simp));have Iz:=aH (dX d hd [a,b]);have EG:=aH (Bl d a b);have Jj:=aH (tS d [a,b]);have G7:=aH (show dp d a b=if cS d [a,b]=0 then bY (de d) (min (dg d a).1 (dg d b).1).toNat ((max (dg d a).2 (dg d b).2).toNat+1-(min (dg d a).1 (dg d b).1).toNat)else []from rfl);rw[G7.out];obtain⟨w0,hw0⟩:∃w0,w0=(w.alloc d.ob).alloc (.cells #[.int .i64 a,.int .i64 b] 3):=⟨_,rfl⟩;have CG:=aH (gj hw0);have CR:=aH (HD.out.then CG.out);have NU:=aH (show KI.IsL w0 w0.heap.size (.slice (some ⟨w.heap.size+1,0,none⟩) 2 2) [a,b]by
  have:=BO (w.alloc d.ob) a b ha hb (w.heap.size+1) (by simp);rw[hw0];simpa using this)
 have Lu:w.heap.size<w0.heap.size:=by rw[hw0];simp;omega
 have HF:=aH (show ∀w1,Below w0.heap.size w0 w1→(w1.cell? ⟨w.heap.size,0,none⟩=some (.slice d.bA d.bn d.bc)∧w1.cell? ⟨w.heap.size,1,none⟩=some (.slice d.pA d.pn d.pc)∧w1.cell? ⟨w.heap.size,2,none⟩=some (.slice d.rA d.rn d.rc)∧w1.cell? ⟨w.heap.size,3,none⟩=some (.int .i64 d.arms))from by
   intro w1 hb;refine⟨kK hb ?_,kK hb ?_,kK hb ?_,kK hb ?_⟩;all_goals (rw[hw0];simp[go_sem]))
 clear G7 hd;by_cases hz:cS d [a,b]=0
 ·rw[EG.out hz,hz]at Il;rw[EG.out hz]at Iz;rw[hz,if_pos rfl];have g1:=Iz.out (dg d a) (by simp);have g2:=Iz.out (dg d b) (by simp);clear hz EG Jj Iz;generalize dg d a=p at *;generalize dg d b=q at *;obtain⟨p1,p2⟩:=p;obtain⟨q1,q2⟩:=q;dsimp only at *;obtain⟨p1,rfl⟩:∃k:Nat,p1=(k:Int):=⟨p1.toNat,by omega⟩;obtain⟨p2,rfl⟩:∃k:Nat,p2=(k:Int):=⟨p2.toNat,by omega⟩;obtain⟨q1,rfl⟩:∃k:Nat,q1=(k:Int):=⟨q1.toNat,by omega⟩;obtain⟨q2,rfl⟩:∃k:Nat,q2=(k:Int):=⟨q2.toNat,by omega⟩;have m1:min (p1:Int) q1=((min p1 q1:Nat):Int):=by omega
  have m2:max (p2:Int) q2=((max p2 q2:Nat):Int):=by omega
  rw[m1,m2,Int.toNat_natCast,Int.toNat_natCast];obtain⟨lo,LX⟩:∃lo,lo=min p1 q1:=⟨_,rfl⟩;obtain⟨hi,hhi⟩:∃hi,hi=max p2 q2:=⟨_,rfl⟩;rw[←LX,←hhi];have Na:hi≤23:=by omega
  have To:lo≤hi:=by omega
  have Pz:=aH LX;have Sb:=aH hhi;clear LX hhi;go_enter func79,ntmps79;go_wp2_with fail;rw[←hw0];clear hw0;refine(Il.out w0 _ CR.out NU.out).mono ?_;rintro e w1 ⟨tv,rfl,hown1,CE⟩;have CH:=aH CE;obtain⟨tb,toff,tcap,rfl,htb,htc,e0,e1,e2,e3⟩:=dm (hown1.isL (by simp));obtain⟨d0,d1,d2,d3⟩:=HF.out w1 CE;have Tx:w.heap.size<w1.heap.size:=nL Lu CE.size;clear CE hown1;have HH:=aH (fun w=>show Calls prog 147 #[.agg #[.int .i64 p1,.int .i64 p2],.agg #[.int .i64 q1,.int .i64 q2]] w fun e w'=>e=.returned (.agg #[.int .i64 lo,.int .i64 hi])∧Below w.heap.size w w' by
   have:=Sp.hull_any ((p1:Int),(p2:Int)) ((q1:Int),(q2:Int)) w;rw[Sp.hullV_yy (show ¬(p2:Int)<p1 by omega) (show ¬(q2:Int)<q1 by omega)]at this;dsimp only at this
   rwa [m1,m2,←Pz.out,←Sb.out]at this)
  have Ej:=aH (fun(V:World) (h:Below w0.heap.size w0 V)=>j7 d lo hi To Na V (CR.out.then h));clear m1 m2;go_wp2_with fail;refine Bn ⟨d0,d1,d2,d3,e0,e1,e2,e3⟩ (by kernel_rfl) (fun CC=>?_);refine wk [.k 0 21,.k 1 22,.k 2 23,.k 3 24,.k 4 25,.k 5 26,.k 6 27] (fun _ _ _ _ _ h=>h) CC ?_ (by kernel_rfl);repeat (refine .k (v:=?_) rfl (by kernel_rfl) ?_ ?_;rotate_left 1;(intro w h;go_simp<;>try rfl);try simp only[sp])
  refine .nil ?_;clear d0 d1 d2 d3 e0 e1 e2 e3;refine wQ 7 (some 28) rfl (fun K hK=>?_) (by kernel_rfl);go_simp;refine(HH.out _).mono ?_;rintro e w6 ⟨rfl,hb⟩;have Ew:=aH (bC CH.out.drew hb);go_wp2_with fail;refine hK.out _ _ ?_ (fun CC=>?_)
  ·exact⟨kK hb CC.1,kK hb CC.2.1,kK hb CC.2.2.1,kK hb CC.2.2.2.1,kK hb CC.2.2.2.2.1,kK hb CC.2.2.2.2.2.1,kK hb CC.2.2.2.2.2.2.1,kK hb CC.2.2.2.2.2.2.2⟩
  clear hK K hb;try simp only[sp]
  refine wQ 8 (some 29) rfl (fun K hK=>?_) (by kernel_rfl);go_simp;refine(Ej.out _ Ew.out).mono ?_;rintro e w7 ⟨lv,rfl,hown7,hb⟩;have Qm:=aH (hown7.isL (by rw[ew];omega));have H9:=aH (bC Ew.out hb);clear hown7;go_wp2_with fail;refine hK.out _ _ ?_ (fun CC=>?_)
  ·exact⟨kK hb CC.1,kK hb CC.2.1,kK hb CC.2.2.1,kK hb CC.2.2.2.1,kK hb CC.2.2.2.2.1,kK hb CC.2.2.2.2.2.1,kK hb CC.2.2.2.2.2.2.1,kK hb CC.2.2.2.2.2.2.2⟩
  clear hK K hb;try simp only[sp]
  refine wk [.k 9 6,.k 10 7] (fun _ _ _ _ _ h=>h) CC ?_ (by kernel_rfl);repeat (refine .k (v:=?_) rfl (by kernel_rfl) ?_ ?_;rotate_left 1;(intro w h;go_simp<;>try rfl);try simp only[sp])
  refine .nil ?_;refine wD (by kernel_rfl) ?_;go_wp2
  go_ret2
  exact⟨_,rfl,Qm.out,bC CG.out H9.out⟩
 ·rw[Jj.out hz]at Il;rw[if_neg hz];have GB:(cS d [a,b] != 0)=true:=by rw[bne_iff_ne];exact hz
  clear hz EG Jj Iz;generalize cS d [a,b]=SE at *;go_enter func79,ntmps79;go_wp2_with fail;rw[←hw0];clear hw0;refine(Il.out w0 _ CR.out NU.out).mono ?_;rintro e w1 ⟨tv,rfl,_,CE⟩;have CH:=aH CE;clear CE;go_wp2
  go_ret2
  exact⟨_,rfl,Lk.IsL.nil _ _ _ _,bC CG.out CH.out⟩
noncomputable def uH (d:Dk) (r:Rq):List Int:=if r.k=4 then Two.mk ([r.a,r.b]++dp d r.a r.b)else if r.k=5∨r.k=6∨r.k=7 then Two.mk ([r.a]++fU d [r.a])else if r.k=2 then Two.mk r.il else []
noncomputable def lj (d:Dk) (r:Rq):List Int:=if bI d r=(0,0)then uH d r else []
theorem xV (x y:List Int):Two.mk (Two.mk x++y)=Two.mk (x++y):=Two.mk_of (Two.inc_mk _) fun z=>by rw[Two.mem_mk,List.mem_append,Two.mem_mk,List.mem_append]
theorem yY (l:List Int) (h:jf l=(0,0)):l.length≤16:=by
  unfold jf at h;by_cases h0:l=[]
  · rw[h0];simp
  rw[if_neg h0]at h;by_cases h1:16<l.length
  · rw[if_pos h1]at h;cases h
  · omega
theorem vH {d:Dk} {r:Rq} (h:bI d r=(0,0)):je r=(0,0):=by
  unfold bI at h;by_cases hz:aA d=0
  · rw[if_neg (by simpa using hz)]at h
    by_cases hm:je r=(0,0)
    · exact hm
    · rw[if_pos hm]at h;exact h
  · rw[if_pos hz]at h
    injection h with h1 _
    exact absurd h1 hz
theorem oB {r:Rq} (h:je r=(0,0)):r.il.length≤16:=by
  unfold je at h;by_cases h0:r.k<1∨10<r.k
  · rw[if_pos h0]at h;cases h
  rw[if_neg h0]at h;by_cases h1:vM r=false
  · rw[if_pos h1]at h;cases h
  rw[if_neg h1]at h;by_cases h2:r.k=1∨r.k=2
  · rw[if_pos h2]at h;exact yY _ h
  · have hu:vM r=true:=by simpa using h1
    unfold vM at hu;rw[Bool.and_eq_true,decide_eq_true_eq]at hu;have:=hu.1;unfold uJ at this;rw[if_neg h2]at this;omega
theorem sI (d:Dk) (a b:Int):Two.Inc (dp d a b):=by
  unfold dp
  split
  · exact jN _ _ _
  · exact Two.inc_nil
theorem sS (d:Dk) {w:World} (hd:d.In w w.heap.size) (a b:Int):(dp d a b).length≤24:=by
  unfold dp
  split
  · rename_i h
    have hg:=dX d hd [a,b];rw[Bl d a b h]at hg;have h1:=hg (dg d a) (by simp);have h2:=hg (dg d b) (by simp);rw[ew];omega
  · simp
theorem sP (d:Dk) (r:Rq) (w:World) (hd:d.In w w.heap.size) (hr:r.In w w.heap.size) (hl:r.il.length≤900):Calls prog 41 #[d.v,r.val] w fun e w'=>∃v,e=.returned v∧KI.IsL w' w'.heap.size v (uH d r)∧Below w.heap.size w w':=by
  obtain⟨w0,hw0⟩:∃w0,w0=(w.alloc d.ob).alloc (.cells r.ob 30):=⟨_,rfl⟩;have CG:=aH (gj hw0);have CR:=aH (hd.then CG.out);have DD:=aH (hr.then CG.out);have Dq:=aH (show w0.heap.size=w.heap.size+2 by rw[hw0];simp);have DO:=aH (show dv w0 w.heap.size d by rw[hw0];exact(Cells4.new w _ _ _ _ _).below (bL (bR _ _) _));have JP:=aH (show nZ w0 (w.heap.size+1) r by
    have h:=Cells6.new (w.alloc d.ob) 30 (.int .i64 r.k) (.slice r.iA r.il.length r.ic) (.int .i64 r.a) (.int .i64 r.b) (.int .i64 r.u) (.int .u64 r.v);rw[World.size_alloc]at h;rw[hw0];exact h)
  have Ge:=aH (oF r w0 DD.out hl);have Io:=aH (show uH d r=if r.k=4 then Two.mk ([r.a,r.b]++dp d r.a r.b)else if r.k=5∨r.k=6∨r.k=7 then Two.mk ([r.a]++fU d [r.a])else if r.k=2 then Two.mk r.il else []from rfl);have FD:=aH (show Aj r=Two.mk ((eo r).map Prod.snd)from rfl);have Qc:=aH (show eo r=if r.k=1∨r.k=2 then r.il.map (fun x=>(0,x))else if r.k=4 then [(1,r.a),(1,r.b)]else if r.k=5∨r.k=6∨r.k=9∨r.k=10 then [(1,r.a)]else if r.k=7 then [(2,r.a)]else []from rfl);have LO:=aH (sI d r.a r.b);have GZ:=aH (sS d hd r.a r.b);have PJ:=aH (gg d (dr d [r.a]) (dX d hd [r.a]));have Ec:=aH (show(fU d [r.a]).length≤24 from my d (dr d [r.a]) (dX d hd [r.a]));have EZ:=aH (fun w h=>sX d r.a r.b hr.a hr.b w h);have DF:=aH (fun v w h h1=>qX d v [r.a] w h h1 (by simp));have DJ:=aH hl;have hk:(r.k==4)=true∨((r.k==4)=false∧((r.k==5)=true∨((r.k==5)=false∧((r.k==6)=true∨((r.k==6)=false∧(r.k==7)=true)))))∨((r.k==4)=false∧(r.k==5)=false∧(r.k==6)=false∧(r.k==7)=false∧(r.k==2)=true)∨((r.k==4)=false∧(r.k==5)=false∧(r.k==6)=false∧(r.k==7)=false∧(r.k==2)=false):=by
    simp only[lm,decide_eq_true_eq,decide_eq_false_iff_not];omega
  have Db:(Aj r).length≤902:=by
    rw[FD.out];have h1:=Two.mk_len_le ((eo r).map Prod.snd);have h2:=tE r;rw[List.length_map]at h1;omega
  have NG:=aH Db;have He:=aH (show Two.Inc (Aj r)by rw[FD.out];exact Two.inc_mk _);clear hd hr hl Db;obtain⟨M,hM⟩:∃M,uH d r=M:=⟨_,rfl⟩;obtain⟨PT,hPT⟩:∃PT,Aj r=PT:=⟨_,rfl⟩;rw[hM]at Io⊢;rw[hPT]at Ge FD NG He;clear hM hPT;go_enter func41,ntmps41;go_wp2_with fail;rw[←hw0];clear hw0;refine Ge.out.mono ?_;rintro e w1 ⟨pv,rfl,hpv,CE⟩;have ND:=aH hpv;have CH:=aH CE;obtain⟨q0,q1,q2,q3,q4,q5,-⟩:=JP.out.below CE;obtain⟨d0,d1,d2,d3,-⟩:=DO.out.below CE;clear hpv CE;rcases hk with k4|⟨k4,hk⟩|⟨k4,k5,k6,k7,k2⟩|⟨k4,k5,k6,k7,k2⟩
  case inl=>
    have K8:=aH (show M=Two.mk (PT++dp d r.a r.b)by
      simp only[lm,decide_eq_true_eq]at k4;rw[Io.out,if_pos k4,FD.out,Qc.out,if_neg (by omega),if_pos k4,xV];rfl)
    go_wp2_with fail;refine(EZ.out w1 (CR.out.then CH.out)).mono ?_;rintro e w2 ⟨lv,rfl,KW,CM⟩;have CL:=aH (bC CG.out (bC CH.out CM));have Ga:=aH KW;have OQ:=aH (ND.out.then CM);clear KW CM;go_wp2_with fail;refine(Two.either_any _ _ PT (dp d r.a r.b) w2 (bo OQ.out) (bo Ga.out) (by have:=NG.out;have:=GZ.out;omega) He.out LO.out).mono ?_;rintro e w3 ⟨nv,rfl,hnv,CO⟩;go_wp2
    go_ret
    exact⟨_,rfl,by rw[K8.out];exact d9 hnv,bC CL.out CO⟩
  case inr.inr.inr=>
    have K8:=aH (show M=[]by
      simp only[lm,decide_eq_false_iff_not]at k4 k5 k6 k7 k2;rw[Io.out,if_neg k4,if_neg (by omega),if_neg k2])
    go_wp2
    go_ret
    exact⟨_,rfl,by rw[K8.out];exact Lk.IsL.nil _ _ _ _,bC CG.out CH.out⟩
  case inr.inr.inl=>
    have K8:=aH (show M=Two.mk (PT++[])by
      simp only[lm,decide_eq_false_iff_not,decide_eq_true_eq]at k4 k5 k6 k7 k2;rw[Io.out,if_neg k4,if_neg (by omega),if_pos k2,FD.out,Qc.out,if_pos (.inr k2),List.map_map,xV,List.append_nil]
      congr 1
      exact(List.map_id _).symm)
    go_wp2_with fail;refine(Two.either_any _ _ PT [] w1 (bo ND.out) (bo (Lk.IsL.nil _ _ _ _)) (by have:=NG.out;simp;omega) He.out Two.inc_nil).mono ?_;rintro e w3 ⟨nv,rfl,hnv,CO⟩;go_wp2
    go_ret
    exact⟨_,rfl,by rw[K8.out];exact d9 hnv,bC CG.out (bC CH.out CO)⟩
  have Re:=aH (show PT=[r.a]by
    have IM:r.k≠4∧(r.k=5∨r.k=6∨r.k=7):=by
      simp only[lm,decide_eq_true_eq,decide_eq_false_iff_not]at k4 hk;omega
    rw[FD.out,Qc.out,if_neg (by omega),if_neg IM.1];by_cases h7:r.k=7
    · rw[if_neg (by omega),if_pos h7];rfl
    · rw[if_pos (by omega)];rfl)
  have K8:=aH (show M=Two.mk (PT++fU d [r.a])by
    have IM:r.k≠4∧(r.k=5∨r.k=6∨r.k=7):=by
      simp only[lm,decide_eq_true_eq,decide_eq_false_iff_not]at k4 hk;omega
    rw[Io.out,if_neg IM.1,if_pos IM.2,Re.out])
  rcases hk with k5|⟨k5,k6|⟨k6,k7⟩⟩
  all_goals
    go_wp2_with fail;refine(DF.out pv w1 (CR.out.then CH.out) (by rw[←Re.out];exact ND.out)).mono ?_;rintro e w2 ⟨lv,rfl,KW,CM⟩;have CL:=aH (bC CG.out (bC CH.out CM));have Ga:=aH KW;have OQ:=aH (ND.out.then CM);clear KW CM;go_wp2_with fail;refine(Two.either_any _ _ PT (fU d [r.a]) w2 (bo OQ.out) (bo Ga.out) (by have:=NG.out;have:=Ec.out;omega) He.out PJ.out.1).mono ?_;rintro e w3 ⟨nv,rfl,hnv,CO⟩;go_wp2
    go_ret
    exact⟨_,rfl,by rw[K8.out];exact d9 hnv,bC CL.out CO⟩
theorem su (d:Dk) (r:Rq) (w:World) (hd:d.In w w.heap.size) (hr:r.In w w.heap.size) (hT:Nn.Tab w):Calls prog 12 #[d.v,r.val] w fun e w'=>∃v,e=.returned v∧KI.IsL w' w'.heap.size v (lj d r)∧Below w.heap.size w w':=by
  obtain⟨w0,hw0⟩:∃w0,w0=(w.alloc d.ob).alloc (.cells r.ob 30):=⟨_,rfl⟩;have CG:=aH (gj hw0);have CR:=aH (hd.then CG.out);have DD:=aH (hr.then CG.out);have Dq:=aH (show w0.heap.size=w.heap.size+2 by rw[hw0];simp);have DO:=aH (show dv w0 w.heap.size d by rw[hw0];exact(Cells4.new w _ _ _ _ _).below (bL (bR _ _) _));have JP:=aH (show nZ w0 (w.heap.size+1) r by
    have h:=Cells6.new (w.alloc d.ob) 30 (.int .i64 r.k) (.slice r.iA r.il.length r.ic) (.int .i64 r.a) (.int .i64 r.b) (.int .i64 r.u) (.int .u64 r.v);rw[World.size_alloc]at h;rw[hw0];exact h)
  have Mi:=aH (e8 d r w0 CR.out DD.out (hT.below CG.out));have Io:=aH (show lj d r=if bI d r=(0,0)then uH d r else []from rfl);have RY:=aH (fun w h1 h2 h3=>sP d r w h1 h2 h3);have DJ:=aH (fun h:bI d r=(0,0)=>oB (vH h));obtain⟨V,hV⟩:∃V,bI d r=V:=⟨_,rfl⟩;rw[hV]at Mi Io DJ;obtain⟨M,hM⟩:∃M,lj d r=M:=⟨_,rfl⟩;rw[hM]at Io⊢;clear hd hr hT hV hM;by_cases h:V=(0,0)
  · have L0:=aH (show M=uH d r by rw[Io.out,if_pos h])
    have HL:=aH (DJ.out h);rw[dT h]at Mi;clear h;go_enter func12,ntmps12;go_wp2_with fail;rw[←hw0];clear hw0;refine Mi.out.mono ?_;rintro e w1 ⟨rfl,CE⟩;have CH:=aH CE;obtain⟨q0,q1,q2,q3,q4,q5,-⟩:=JP.out.below CE;obtain⟨d0,d1,d2,d3,-⟩:=DO.out.below CE;clear CE;go_wp2_with fail;refine(RY.out w1 (CR.out.then CH.out) (DD.out.then CH.out) (by have:=HL.out;omega)).mono ?_;rintro e w2 ⟨v,rfl,hv,CM⟩;go_wp2
    go_ret
    exact⟨_,rfl,by rw[L0.out];exact hv,bC CG.out (bC CH.out CM)⟩
  · have L0:=aH (show M=[]by rw[Io.out,if_neg h])
    rw[dF h]at Mi;clear h;go_enter func12,ntmps12;go_wp2_with fail;rw[←hw0];clear hw0;refine Mi.out.mono ?_;rintro e w1 ⟨rfl,CE⟩;go_wp2
    go_ret
    exact⟨_,rfl,by rw[L0.out];exact Lk.IsL.nil _ _ _ _,bC CG.out CE⟩
end Go.Proofs.YtmecohdedghiaaaGreatDoor
