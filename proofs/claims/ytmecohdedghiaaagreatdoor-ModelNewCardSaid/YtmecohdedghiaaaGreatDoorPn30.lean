/- Requests: Check and what may be. -/
import Derived.Test.YtmecohdedghiaaaGreatDoorPn00
import Derived.Test.YtmecohdedghiaaaGreatDoorPn29
import Derived.Test.YtmecohdedghiaaaGreatDoorPn10
import Derived.Deep.Cut
set_option maxRecDepth 100000
set_option maxHeartbeats 8000000
namespace Go.Proofs.YtmecohdedghiaaaGreatDoor
open Go.RowKit Go.Shelf
attribute [local go_sem] Oper.semAt_some
noncomputable def pwL (r:Rq):List Int:=Two.mk ((nmL r).map Prod.snd)
theorem nm_len (r:Rq):(nmL r).length≤r.il.length+2:=by
  unfold nmL
  repeat' split
  all_goals simp
theorem nm_fits {w:World} {B:Nat} {r:Rq} (h:r.In w B):∀x∈nmL r,fits x.2:=by
  intro x hx;unfold nmL at hx;have ha:=h.a;have hb:=h.b
  repeat' split at hx
  · obtain⟨y,hy,rfl⟩:=List.mem_map.1 hx
    exact h.l.2.1 y hy
  all_goals (simp at hx;try (rcases hx with rfl|rfl<;>assumption);try (subst hx;assumption))
theorem nm_cl {w:World} {B:Nat} {r:Rq} (h:r.In w B):(nmL r).map (fun x=>cl x.2)=(nmL r).map Prod.snd:=List.map_congr_left fun x hx=>cl_of (nm_fits h x hx)
theorem named_stops (n:Nat) (hn:1≤n) (Br n₀:Nat) (r:Rq) (w:World) (hBr:RqAt w Br r) (hB:Br<w.heap.size) (hn₀:n₀≤w.heap.size) (hr:r.In w n₀):
    SeqStopsK Fence.wide n Tryz.prog 153 #[.pointer (some ⟨Br,0,none⟩)] enc2 (Kq n₀ Br) (fun ys=>ys=nmL r) (fun pre=>pre<+:nmL r) (nmL r).length w:=
  fun l J Jx W hW _ _ hY h0=>named1_in n hn l Br n₀ r J Jx hY W (hBr.low hW hB) (hr.below (hW.mono hn₀)) h0
def clL (pre:List (Int×Int)):List Int:=pre.map fun x=>cl x.2
theorem clL_snoc (pre:List (Int×Int)) (x:Int×Int):clL (pre++[x])=clL pre++[cl x.2]:=by simp[clL]
theorem cells_own {β:Type} (B:Nat) (cs:Array Value) (t:TypeId):Go.Own (fun(_:β) W=>W.heap[B]? =some (.cells cs t (0,0))):=by
  intro s X Y row h hg hrow;refine(hg.block B (Array.getElem?_eq_some_iff.1 h).1 (fun e'=>?_)).trans h;obtain⟨o,ho,hc⟩:=hrow B e'.symm;rw[h]at ho;cases ho;cases hc
theorem cell_of_heap {W W':World} {B:Nat} {o:Obj} (h:W.heap[B]? =some o) (h':W'.heap[B]? =some o) (p:Nat):W'.cell? ⟨B,p,none⟩=W.cell? ⟨B,p,none⟩:=by simp[World.cell?,h,h']
theorem row_apart {W w1:World} {n₀ Br b:Nat} {t e:TypeId} {cs:Array Value} {m:Nat×Nat} {size k:Nat} {v v':Value} {xs:List Value} {tmp:Obj} (hte:t≠e) (hq:W.heap[Br]? =some (.cells cs t m)) (hrow:W.ownsRow n₀ e size v k xs) (hgrow:(W.alloc tmp).grownBy w1 v.ownBlock) (hb:Br≠b):
    (w1.setCell ⟨b,0,none⟩ v').heap[Br]? =some (.cells cs t m):=by
  have hlt:Br<W.heap.size:=(Array.getElem?_eq_some_iff.1 hq).1;have h1:(W.alloc tmp).heap[Br]? =some (.cells cs t m):=(Below.heap_alloc W tmp Br hlt).trans hq;have hne:some Br≠v.ownBlock:=by
    rcases hrow.2 with ⟨rfl,_⟩|⟨g,cap,cur,rfl,_,hgb,_⟩
    · intro h;cases h
    · intro h
      obtain rfl:Br=g:=(by simpa [Value.ownBlock]using h);rw[hgb]at hq;injection hq with hq
      injection hq with h1 h2
      exact hte h2.symm
  have h2:=(hgrow.block Br (Array.getElem?_eq_some_iff.1 h1).1 hne).trans h1;exact((grownBy_setCell' w1 b v').block Br (Array.getElem?_eq_some_iff.1 h2).1 (fun e'=>hb (Option.some.inj e'))).trans h2
theorem Lk.IsL.put {P:Program} {α:Type} {K:Lk P α} {w:World} {B D:Nat} {o o':Obj} {v:Value} {xs:List α} (h:K.IsL w B v xs) (hD:w.heap[D]? =some o) (ho:o.isCells=false):K.IsL (w.putObj D o') B v xs:=by
  obtain⟨⟨A,cap,rfl,hc,hA⟩,hf,hl⟩:=h;refine⟨⟨A,cap,rfl,hc,fun h0=>?_⟩,hf,hl⟩;obtain⟨b,off,rfl,hbB,hcell⟩:=hA h0;exact⟨b,off,rfl,hbB,fun i hi j u hu=>cell_kept (hcell i hi j u hu) (grownBy_putObj' w D o') (fun r e=>by cases e;exact⟨o,hD,ho⟩)⟩
theorem size_put (w:World) (D:Nat) (o:Obj):(w.putObj D o).heap.size=w.heap.size:=by simp[World.putObj]
theorem partsW_any (r:Rq) (w:World) (hr:r.In w w.heap.size) (hl:r.il.length≤900):Calls Tryz.prog 47 #[r.val] w fun e w'=>∃v,e=.returned v∧KI.IsL w' w'.heap.size v (pwL r)∧Below w.heap.size w w':=by
  obtain⟨i0,hi,hz0,hz1,hz2⟩:=info_parts Two.int_info;have HR:=aH hr;have HLN:=aH (nm_len r);have HCL:=aH (nm_cl hr);have HPT:=aH (show pwL r=Two.mk ((nmL r).map Prod.snd)from rfl);clear hr;refine(callsIn_wide (n:=6)).1 ?_;refine callsIn_of_wp_marks Tryz.func47 rfl trivial ?_ rfl;simp only[Tryz.ntmps47,List.size_toArray,List.length_cons,List.length_nil,Nat.reduceAdd,Nat.reduceSub,Array.replicate_succ,Array.replicate_zero,List.push_toArray,List.append_toArray,List.nil_append,List.cons_append]
  gi_wp2_with (refine⟨trivial,?_⟩;gi_at_call 91;refine(callsIn_wide.2 (named_any r _)).mono ?_;rintro e w' ⟨rfl,rfl⟩)
  obtain⟨W0,hW0⟩:∃W0,W0=((w.alloc (.cells r.ob 30)).alloc (.cells #[.slice none 0 0] 27)).alloc (.cells r.ob 30):=⟨_,rfl⟩;rw[←hW0];have hsz:W0.heap.size=w.heap.size+3:=by rw[hW0];simp
  have hB0:Below w.heap.size w W0:=by rw[hW0];exact bL (bL (bL (bR _ _) _) _) _
  have bO:Boxed W0 (w.heap.size+1) 27 (.slice none 0 0):=by
    have h:=Boxed.new (w.alloc (.cells r.ob 30)) 27 (.slice none 0 0);rw[World.size_alloc]at h;rw[hW0];exact h.alloc _
  have bRo:W0.heap[w.heap.size+1+1]? =some (.cells r.ob 30 (0,0)):=by
    have h:=World.alloc_heap_new ((w.alloc (.cells r.ob 30)).alloc (.cells #[.slice none 0 0] 27)) (.cells r.ob 30);rw[World.size_alloc,World.size_alloc]at h;rw[hW0];exact h
  have hRA:RqAt W0 (w.heap.size+1+1) r:=by
    have h:=Cells6.new ((w.alloc (.cells r.ob 30)).alloc (.cells #[.slice none 0 0] 27)) 30 (.int .i64 r.k) (.slice r.iA r.il.length r.ic) (.int .i64 r.a) (.int .i64 r.b) (.int .i64 r.u) (.int .u64 r.v);rw[World.size_alloc,World.size_alloc]at h;rw[hW0];exact h
  clear hW0;refine wpIn_rangeFunc_ownG rfl (by omega) (gf:=153) (lb:=#[.pointer (some ⟨w.heap.size+1+1,0,none⟩)]) rfl trivial (enters_of Tryz.func153 (by kernel_rfl) rfl)
    (named_stops 5 (by omega) (w.heap.size+1+1) w.heap.size r W0 hRA (by omega) (by omega) (HR.out.below hB0)) Kq.trans (Kq.put (by omega)) (bR _ _) (fun _=>rfl)
    (fun pre W=>((∃v,Boxed W (w.heap.size+1) 27 v∧W.ownsRow w.heap.size 3 1 v (clL pre).length ((clL pre).map Two.iv)∧True)∧W.heap[w.heap.size+1+1]? =some (.cells r.ob 30 (0,0)))∧Below w.heap.size w W)
    (fun _ _ _=>False)
    (OwnFrom.and (OwnFrom.and (Own.from (holdsRow_own w.heap.size (w.heap.size+1) 27 3 1 (fun pre=>(clL pre).length) (fun pre=>(clL pre).map Two.iv) (fun _ _=>True)) _) (Own.from (cells_own _ _ _) _)) (ownFrom_below (nR _) (by omega)))
    (fun _ _ _ _ _ hs _ _=>hs)
    ⟨⟨⟨_,bO,World.ownsRow_nil _ _ _ _,trivial⟩,bRo⟩,hB0⟩
    (fun x=>{tmps:=#[r.val,.pointer (some ⟨w.heap.size,0,none⟩),.slice none 0 0,.pointer (some ⟨w.heap.size+1,0,none⟩),undef,.int .i64 (cl x.2),r.val,.func (.func 153) #[] #[.pointer (some ⟨w.heap.size+1+1,0,none⟩)],.int .i64 x.1,.int .i64 (cl x.2),undef,undef,undef,undef,undef,undef],defers:=[]}) ?assign ?body ?done ?stop
  case assign=>
    intro l x W K hK
    gi_wp2
    exact hK
  case body=>
    rintro l pre x W ⟨⟨⟨v,hv,hrow,-⟩,hq⟩,hB⟩ hlt;have hc:=hv.cell;have hln:=HLN.out;have hpl:(clL pre).length≤pre.length:=(by simp[clL])
    gi_wp2_with (gi_at_builtin;refine wpListIn_append_own _ rfl _ _ 27 rfl w.heap.size 3 i0 (.int .i64 0) 1 8 Tryz.underlying27 hi hz0 hz1 hz2 rfl (by decide) _ _ _ rfl (hrow.alloc _) ⟨W.heap.size,0,none⟩ 1 1 [.int .i64 (cl x.2)] rfl rfl (cell_one_new _ _ _) (by simp[Value.oneCell']) (by unfold maxLen;omega) (by omega) (by have:=hB.size;simp;omega) ?_;intro v' w1 hown' hgrow _;obtain⟨g',cap',rfl⟩:=ownsRow_succ hown';obtain⟨hv1,hv2,hr2,hk2,hb2⟩:=hv.appended (by decide) hrow hB.size (by omega) hown' hgrow;have hc1:=hv1.cell;have hf1:=hv1.frozen;have hq1:=aH (row_apart (v':=.slice (some ⟨g',0,none⟩) ((clL pre).length+1) cap') (b:=w.heap.size+1) (by decide) hq hrow hgrow (by omega)))
    exact⟨hk2.from _,⟨hb2,fun o v e=>(cell_of_heap hq hq1.out o).trans e⟩,⟨⟨_,hv2,by rw[clL_snoc];simpa [Two.iv]using hr2,trivial⟩,hq1.out⟩,hB.trans hb2⟩
  case done=>
    rintro D ys W hD rfl ⟨⟨⟨v,hv,hrow,-⟩,hq⟩,hB⟩ hK;have hc:=hv.cell;have HX:=aH (show clL (nmL r)=(nmL r).map Prod.snd from HCL.out);have hIL:KI.IsL W W.heap.size v (clL (nmL r)):=by
      refine Lk.Own.isL (K:=KI) (base:=w.heap.size) ⟨?_,?_⟩ (by have:=HLN.out;simp[clL];omega)
      · have e:KI.flat (clL (nmL r))=(clL (nmL r)).map Two.iv:=by unfold Lk.flat;generalize clL (nmL r)=q;induction q with|nil=>rfl|cons a t ih=>rw[List.flatMap_cons,ih];rfl
        rw[e];exact hrow
      · intro y hy
        obtain⟨z,_,rfl⟩:=List.mem_map.1 hy;exact cl_fits _
    rw[HX.out]at hIL
    gi_wp2_with (refine⟨trivial,?_⟩;gi_at_call 48;refine(callsIn_wide.2 (Two.from_any v _ W (two_of hIL) (by have:=HLN.out;simp;omega))).mono ?_;rintro e w2 ⟨u,rfl,hu,hb2⟩)
    have hK2:w2.heap[D]? =some (.deferred (some [])):=(hb2.block D (Array.getElem?_eq_some_iff.1 hK).1).trans hK;refine⟨by simp,.inl ⟨_,_,rfl,run_takeDeferred hK2,?_⟩⟩;refine⟨_,results_tmp rfl _ _ _,u,rfl,?_,(hB.trans (hb2.mono hB.size)).trans (belowK_b (w:=w) (nR _) w2 D _ _ (by omega) hK2 rfl rfl)⟩;rw[HPT.out,size_put];exact(of_two hu).put hK2 rfl
  case stop=>
    rintro D c pre W _ _ h _;exact h.elim
attribute [local go_sem] Oper.semAt_some
def lastV (r:Rq):Int×Int:=if r.k=4∧r.a=r.b then(1,0)else if r.k=4∨r.k=5∨r.k=6 then(voE r.v,0)else(0,0)
noncomputable def nmF (d:Dk) (r:Rq):Option (Int×Int):=(nmL r).find? fun x=>!iwP d x.1 x.2
noncomputable def refV (d:Dk) (r:Rq):Int×Int:=if zchk d≠0 then(zchk d,0)else if mfV r≠(0,0)then mfV r else match nmF d r with|some x=>(3,x.2)|none=>lastV r
theorem find_pre {α:Type} (f:α→Bool) (l ini:List α) (x:α) (h:ini++[x]<+:l) (h0:∀p∈ini,f p=false) (h1:f x=true):l.find? f=some x:=by
  obtain⟨t,rfl⟩:=h;rw[List.append_assoc,List.find?_append];have e:ini.find? f=none:=List.find?_eq_none.2 fun p hp=>by simp[h0 p hp]
  rw[e];simp[h1]
theorem keepsO {W W':World} (h:Below W.heap.size W W'):KeepsOthers W W':=⟨h.size,fun j _ ho _=>(h.block j (Array.getElem?_eq_some_iff.1 ho).1).trans ho⟩
theorem refused_any (d:Dk) (r:Rq) (w:World) (hd:d.In w w.heap.size) (hr:r.In w w.heap.size) (hT:Nn.Tab w):Calls Tryz.prog 78 #[d.v,r.val] w fun e w'=>e=.returned (rfv (refV d r))∧Below w.heap.size w w':=by
  obtain⟨w0,hw0⟩:∃w0,w0=((w.alloc d.ob).alloc (.cells r.ob 30)).alloc (.cells #[.int .i64 0,.int .i64 0] 122):=⟨_,rfl⟩;have HB0:=aH (show Below w.heap.size w w0 by rw[hw0];exact bL (bL (bL (bR _ _) _) _) _);have HD0:=aH (hd.then HB0.out);have HR0:=aH (hr.then HB0.out);have HS0:=aH (show w0.heap.size=w.heap.size+3 by rw[hw0];simp);have HK0:=aH (show DkAt w0 w.heap.size d by rw[hw0];exact((Cells4.new w _ _ _ _ _).below (bL (bR _ _) _)).below (bL (bR _ _) _));have HQ0:=aH (show RqAt w0 (w.heap.size+1) r by
    have h:=(Cells6.new (w.alloc d.ob) 30 (.int .i64 r.k) (.slice r.iA r.il.length r.ic) (.int .i64 r.a) (.int .i64 r.b) (.int .i64 r.u) (.int .u64 r.v)).below (bL (bR _ _) (.cells #[.int .i64 0,.int .i64 0] 122));rw[World.size_alloc]at h;rw[hw0];exact h)
  have HC0:=aH (show Cells2 w0 (w.heap.size+2) (.int .i64 0) (.int .i64 0)by
    have h:=Cells2.new ((w.alloc d.ob).alloc (.cells r.ob 30)) 122 (.int .i64 0) (.int .i64 0);rw[World.size_alloc,World.size_alloc]at h;rw[hw0];exact h)
  have HT0:=aH (hT.below HB0.out);have HZ:=aH (fun w h=>zcheck_any d w h);have HM:=aH (fun w h=>misformed_any r w h);have HRV:=aH (show refV d r=if zchk d≠0 then(zchk d,0)else if mfV r≠(0,0)then mfV r else match nmF d r with|some x=>(3,x.2)|none=>lastV r from rfl);generalize zchk d=z at *;obtain⟨m,hm⟩:∃m,mfV r=m:=⟨_,rfl⟩;rw[hm]at HM HRV;generalize refV d r=V at *;clear hm hd hr hT;obtain⟨d0,d1,d2,d3,-⟩:=HK0.out;rw[hw0]at d0 d1 d2 d3;refine(callsIn_wide (n:=6)).1 ?_;refine callsIn_of_wp_marks Tryz.func78 rfl trivial ?_ rfl;simp only[Tryz.ntmps78,List.size_toArray,List.length_cons,List.length_nil,Nat.reduceAdd,Nat.reduceSub,Array.replicate_succ,Array.replicate_zero,List.push_toArray,List.append_toArray,List.nil_append,List.cons_append];by_cases hz:z=0
  case neg=>
    obtain rfl:V=(z,0):=(by rw[HRV.out,if_pos hz]);have hz':(z != 0)=true:=(by simpa using hz);clear hz
    gi_wp2_with (refine⟨trivial,?_⟩;gi_at_call 93;rw[←hw0];clear hw0 d0 d1 d2 d3;refine(callsIn_wide.2 (HZ.out w0 HD0.out)).mono ?_;rintro e w1 ⟨rfl,hb1⟩;obtain⟨c0,c1,y0,y1,-⟩:=HC0.out.below hb1;have HB1:=aH (bC HB0.out hb1);clear hb1)
    refine⟨rfv (z,0),?_,rfl,bS (bS HB1.out (by simp;omega)) (by simp;omega)⟩;simp[results,Tryz.f78,go_sem,c0,c1,rfv]
  subst hz
  gi_wp2_with (refine⟨trivial,?_⟩;gi_at_call 93;rw[←hw0];clear hw0 d0 d1 d2 d3;refine(callsIn_wide.2 (HZ.out w0 HD0.out)).mono ?_;rintro e w1 ⟨rfl,hb1⟩;obtain⟨c0,c1,y0,y1,-⟩:=HC0.out.below hb1;obtain⟨q0,q1,q2,q3,q4,q5,-⟩:=HQ0.out.below hb1;have HB1:=aH hb1;clear hb1)
  refine⟨trivial,?_⟩
  gi_at_call 143
  refine(callsIn_wide.2 (HM.out w1 (HR0.out.then HB1.out))).mono ?_;obtain⟨m1,m2⟩:=m;unfold rfv;rintro e w2 ⟨rfl,hb2⟩;obtain⟨v2,hv2⟩:∃v2,v2=w2.alloc (.cells #[.int .i64 m1,.int .i64 m2] 122):=⟨_,rfl⟩;have HB3:=aH (show Below w0.heap.size w0 v2 by rw[hv2];exact bL (bC HB1.out hb2) _);have HS2:=aH (show w.heap.size+2<w2.heap.size by have:=(bC HB1.out hb2).size;have:=HS0.out;omega);have hn:Cells2 v2 w2.heap.size (.int .i64 m1) (.int .i64 m2):=by rw[hv2];exact Cells2.new w2 _ _ _
  obtain⟨n0,n1,-⟩:=hn;obtain⟨c0,c1,y0,y1,-⟩:=HC0.out.below HB3.out;obtain⟨q0,q1,q2,q3,q4,q5,-⟩:=HQ0.out.below HB3.out;clear hb2;rw[hv2]at c0 c1 y0 y1 q0 q1 q2 q3 q4 q5 n0 n1;dsimp only;by_cases hm:m1=0∧m2=0
  case neg=>
    obtain rfl:V=(m1,m2):=(by rw[HRV.out,if_neg (by simp),if_pos (by intro h;injection h with h1 h2;exact hm ⟨h1,h2⟩)]);have hm':m1≠0∨(m1=0∧m2≠0):=(by omega);clear hm;rcases hm' with hm|⟨rfl,hm⟩
    all_goals
      gi_wp2
      refine⟨rfv (_,_),?_,rfl,?_⟩
      · simp[results,Tryz.f78,go_sem,c0,c1,rfv]
      · rw[←hv2];exact bS (bS (bC HB0.out HB3.out) (by simp;omega)) (by simp;omega)
  obtain⟨rfl,rfl⟩:=hm
  gi_wp2_with (refine⟨trivial,?_⟩;gi_at_call 91;refine(callsIn_wide.2 (named_any r _)).mono ?_;rintro e w' ⟨rfl,rfl⟩)
  rw[←hv2];obtain⟨X0,hX0⟩:∃X0,X0=v2.alloc (.cells r.ob 30):=⟨_,rfl⟩;rw[←hX0];have hv2s:v2.heap.size=w2.heap.size+1:=by rw[hv2];simp
  have HBX:=aH (show Below w0.heap.size w0 X0 by rw[hX0];exact bL HB3.out _);have hRA:RqAt X0 (w2.heap.size+1) r:=by
    have h:=Cells6.new v2 30 (.int .i64 r.k) (.slice r.iA r.il.length r.ic) (.int .i64 r.a) (.int .i64 r.b) (.int .i64 r.u) (.int .u64 r.v);rw[hv2s]at h;rw[hX0];exact h
  have hXs:X0.heap.size=w2.heap.size+2:=by rw[hX0];simp[hv2s]
  have HW2:=aH (show w0.heap.size≤X0.heap.size from HBX.out.size);have hw2s:=HW2.out;have hs0:=HS0.out;clear hv2 hX0 c0 c1 y0 y1 q0 q1 q2 q3 q4 q5 n0 n1 HB3 HB1 hv2s;have HP:=aH (fun k id h w h2=>isPartW_any d k id h w h2);have HNF:=aH (nm_fits HR0.out);refine wpIn_rangeFunc_ownG rfl (by omega) (gf:=153) (lb:=#[.pointer (some ⟨w2.heap.size+1,0,none⟩)]) rfl trivial (enters_of Tryz.func153 (by kernel_rfl) rfl)
    (named_stops 5 (by omega) (w2.heap.size+1) w0.heap.size r X0 hRA (by omega) (by omega) (HR0.out.below HBX.out)) Kq.trans (Kq.put (by omega)) (bR _ _) (fun _=>rfl)
    (fun pre W=>(∀p∈pre,iwP d p.1 (cl p.2)=true)∧Below w0.heap.size w0 W)
    (fun c pre W=>(c=.ret∧∃ini last,pre=ini++[last]∧(∀p∈ini,iwP d p.1 (cl p.2)=true)∧iwP d last.1 (cl last.2)=false∧W.cell? ⟨w.heap.size+2,0,none⟩=some (.int .i64 3)∧W.cell? ⟨w.heap.size+2,1,none⟩=some (.int .i64 (cl last.2)))∧Below w.heap.size w W)
    (OwnFrom.and (ownFrom_pure _ (fun pre:List (Int×Int)=>∀p∈pre,iwP d p.1 (cl p.2)=true)) (ownFrom_below (nR _) (by omega)))
    (fun c=>OwnFrom.and (Own.from (fun s A B row hs hg hr=>by obtain⟨hc,ini,last,e1,e2,e3,e4,e5⟩:=hs;exact⟨hc,ini,last,e1,e2,e3,cell_kept e4 hg hr,cell_kept e5 hg hr⟩) _) (ownFrom_below (nR _) (by omega)))
    ⟨by simp,HBX.out⟩
    (fun x=>{tmps:=#[d.v,r.val,.pointer (some ⟨w.heap.size,0,none⟩),.pointer (some ⟨w.heap.size+1,0,none⟩),.pointer (some ⟨w.heap.size+1+1,0,none⟩),.int .i64 0,.pointer (some ⟨w2.heap.size,0,none⟩),.int .i64 x.1,.int .i64 (cl x.2),undef,undef,.agg #[.slice d.bA d.bn d.bc,.slice d.pA d.pn d.pc,.slice d.rA d.rn d.rc,.int .i64 d.arms],.int .i64 0,.int .i64 0,.bool false,undef,undef,r.val,.agg #[.int .i64 0,.int .i64 0],.agg #[.int .i64 0,.int .i64 0],.agg #[.int .i64 0,.int .i64 0],.bool false,undef,r.val,.func (.func 153) #[] #[.pointer (some ⟨w2.heap.size+1,0,none⟩)],.int .i64 x.1,.int .i64 (cl x.2),undef,undef,undef,undef,undef,undef,undef,undef,undef,undef,undef,undef,undef,undef,undef,undef,undef,undef,undef,undef,undef,undef,undef,undef,undef,undef,undef,undef],defers:=[]}) ?assign ?body ?done ?stop
  case assign=>
    intro l x W K hK
    gi_wp2
    exact hK
  case body=>
    rintro l pre x W ⟨hp,hB⟩ -;have HPR:=aH hp;have HBW:=aH hB;have HPX:=aH (HP.out x.1 (cl x.2) (cl_fits _) W (HD0.out.then hB));obtain⟨bb,hbb⟩:∃bb,iwP d x.1 (cl x.2)=bb:=⟨_,rfl⟩;rw[hbb]at HPX;have HBB:=aH hbb;obtain⟨d0,d1,d2,d3,-⟩:=HK0.out.below hB;clear hp hB hbb
    cases bb
    all_goals
      gi_wp2_with (refine⟨trivial,?_⟩;gi_at_call 144;refine(CallsIn.inRound l (callsIn_wide.2 HPX.out)).mono ?_;rintro e w' ⟨rfl,hb⟩;obtain⟨c0,c1,y0,y1,-⟩:=HC0.out.below (bC HBW.out hb);have HBC:=aH hb;clear hb)
      first
        |exact⟨(((keepsO HBC.out).trans (KeepsOthers.setCell _ _ _)).trans (KeepsOthers.setCell _ _ _)).from _,⟨rfl,pre,x,rfl,HPR.out,HBB.out,sO (st_same c0) (by simp),st_same (sO c1 (by simp))⟩,bS (bS (bC HB0.out (bC HBW.out HBC.out)) (by simp;omega)) (by simp;omega)⟩
        |exact⟨(keepsO HBC.out).from _,⟨HBC.out.mono HBW.out.size,fun o v e=>kK HBC.out e⟩,fun p hp=>(List.mem_append.1 hp).elim (HPR.out p) (fun e=>by simp at e;subst e;exact HBB.out),bC HBW.out HBC.out⟩
  case done=>
    rintro D ys W hD rfl ⟨hp,hB⟩ hK;have HBW:=aH hB;have HKD:=aH hK;have hVL:V=lastV r:=by
      have hn:nmF d r=none:=List.find?_eq_none.2 fun p hp'=>by
        have h:=hp p hp';rw[cl_of (HNF.out p hp')]at h;simp[h]
      rw[HRV.out,hn];simp
    have HL:=aH (show lastV r=if r.k=4∧r.a=r.b then(1,0)else if r.k=4∨r.k=5∨r.k=6 then(voE r.v,0)else(0,0)from rfl);have HL:=aH (show V=if r.k=4∧r.a=r.b then(1,0)else if r.k=4∨r.k=5∨r.k=6 then(voE r.v,0)else(0,0)from hVL);have HVO:=aH (volume_any r W HR0.out.v (HT0.out.below hB));obtain⟨q0,q1,q2,q3,q4,q5,-⟩:=HQ0.out.below hB;obtain⟨c0,c1,y0,y1,-⟩:=HC0.out.below hB;clear hp hB hK hVL HRV;have hk:((r.k==4)=true∧(r.a==r.b)=true)∨((r.k==4)=true∧(r.a==r.b)=false)∨((r.k==4)=false∧(r.k==5)=true)∨((r.k==4)=false∧(r.k==5)=false∧(r.k==6)=true)∨((r.k==4)=false∧(r.k==5)=false∧(r.k==6)=false):=by
      simp only[kEq,decide_eq_true_eq,decide_eq_false_iff_not];omega
    rcases hk with ⟨k4,kab⟩|⟨k4,kab⟩|⟨k4,k5⟩|⟨k4,k5,k6⟩|⟨k4,k5,k6⟩
    case inl=>
      have HV:=aH (show V=(1,0)by simp only[kEq,decide_eq_true_eq]at k4 kab;rw[HL.out,if_pos ⟨k4,kab⟩])
      gi_wp2
      have hK9:((W.setCell ⟨w.heap.size+1+1,0,none⟩ (.int .i64 1)).setCell ⟨w.heap.size+1+1,1,none⟩ (.int .i64 0)).heap[D]? =some (.deferred (some [])):=((KeepsOthers.setCell _ _ _).trans (KeepsOthers.setCell _ _ _)).same D _ HKD.out rfl;have e0:(((W.setCell ⟨w.heap.size+1+1,0,none⟩ (.int .i64 1)).setCell ⟨w.heap.size+1+1,1,none⟩ (.int .i64 0)).putObj D (.deferred none)).cell? ⟨w.heap.size+2,0,none⟩=some (.int .i64 1):=cell_kept (sO (st_same c0) (by simp)) (grownBy_putObj' _ D (.deferred none)) (fun r e=>by cases e;exact⟨_,hK9,rfl⟩);have e1:(((W.setCell ⟨w.heap.size+1+1,0,none⟩ (.int .i64 1)).setCell ⟨w.heap.size+1+1,1,none⟩ (.int .i64 0)).putObj D (.deferred none)).cell? ⟨w.heap.size+2,1,none⟩=some (.int .i64 0):=cell_kept (st_same (sO c1 (by simp))) (grownBy_putObj' _ D (.deferred none)) (fun r e=>by cases e;exact⟨_,hK9,rfl⟩);refine⟨by simp,.inl ⟨_,_,rfl,run_takeDeferred hK9,?_⟩⟩;refine⟨rfv (1,0),?_,by rw[HV.out],(bS (bS (bC HB0.out HBW.out) (by simp;omega)) (by simp;omega)).trans (belowK_b (w:=w) (nR _) _ D _ _ (by omega) hK9 rfl rfl)⟩;simp[results,Tryz.f78,go_sem,e0,e1,rfv]
    case inr.inr.inr.inr=>
      have HV:=aH (show V=(0,0)by simp only[kEq,decide_eq_false_iff_not]at k4 k5 k6;rw[HL.out,if_neg (by omega),if_neg (by omega)])
      gi_wp2
      have hK9:((W.setCell ⟨w.heap.size+1+1,0,none⟩ (.int .i64 0)).setCell ⟨w.heap.size+1+1,1,none⟩ (.int .i64 0)).heap[D]? =some (.deferred (some [])):=((KeepsOthers.setCell _ _ _).trans (KeepsOthers.setCell _ _ _)).same D _ HKD.out rfl;have e0:(((W.setCell ⟨w.heap.size+1+1,0,none⟩ (.int .i64 0)).setCell ⟨w.heap.size+1+1,1,none⟩ (.int .i64 0)).putObj D (.deferred none)).cell? ⟨w.heap.size+2,0,none⟩=some (.int .i64 0):=cell_kept (sO (st_same c0) (by simp)) (grownBy_putObj' _ D (.deferred none)) (fun r e=>by cases e;exact⟨_,hK9,rfl⟩);have e1:(((W.setCell ⟨w.heap.size+1+1,0,none⟩ (.int .i64 0)).setCell ⟨w.heap.size+1+1,1,none⟩ (.int .i64 0)).putObj D (.deferred none)).cell? ⟨w.heap.size+2,1,none⟩=some (.int .i64 0):=cell_kept (st_same (sO c1 (by simp))) (grownBy_putObj' _ D (.deferred none)) (fun r e=>by cases e;exact⟨_,hK9,rfl⟩);refine⟨by simp,.inl ⟨_,_,rfl,run_takeDeferred hK9,?_⟩⟩;refine⟨rfv (0,0),?_,by rw[HV.out],(bS (bS (bC HB0.out HBW.out) (by simp;omega)) (by simp;omega)).trans (belowK_b (w:=w) (nR _) _ D _ _ (by omega) hK9 rfl rfl)⟩;simp[results,Tryz.f78,go_sem,e0,e1,rfv]
    all_goals
      have HV:=aH (show V=(voE r.v,0)by
        first
          |(simp only[kEq,decide_eq_true_eq,decide_eq_false_iff_not]at k4 kab;rw[HL.out,if_neg (by omega),if_pos (by omega)])
          |(simp only[kEq,decide_eq_true_eq,decide_eq_false_iff_not]at k4 k5 k6;rw[HL.out,if_neg (by omega),if_pos (by omega)])
          |(simp only[kEq,decide_eq_true_eq,decide_eq_false_iff_not]at k4 k5;rw[HL.out,if_neg (by omega),if_pos (by omega)]))
      gi_wp2_with (refine⟨trivial,?_⟩;gi_at_call 38;refine(callsIn_wide.2 HVO.out).mono ?_;rintro e w3 ⟨rfl,hb3⟩;obtain⟨c0,c1,y0,y1,-⟩:=HC0.out.below (bC HBW.out hb3);have HB3:=aH hb3;clear hb3)
      have hk3:w3.heap[D]? =some (.deferred (some [])):=(HB3.out.block D (Array.getElem?_eq_some_iff.1 HKD.out).1).trans HKD.out;have hK9:((w3.setCell ⟨w.heap.size+1+1,0,none⟩ (.int .i64 (voE r.v))).setCell ⟨w.heap.size+1+1,1,none⟩ (.int .i64 0)).heap[D]? =some (.deferred (some [])):=((KeepsOthers.setCell _ _ _).trans (KeepsOthers.setCell _ _ _)).same D _ hk3 rfl;have e0:(((w3.setCell ⟨w.heap.size+1+1,0,none⟩ (.int .i64 (voE r.v))).setCell ⟨w.heap.size+1+1,1,none⟩ (.int .i64 0)).putObj D (.deferred none)).cell? ⟨w.heap.size+2,0,none⟩=some (.int .i64 (voE r.v)):=cell_kept (sO (st_same c0) (by simp)) (grownBy_putObj' _ D (.deferred none)) (fun r e=>by cases e;exact⟨_,hK9,rfl⟩);have e1:(((w3.setCell ⟨w.heap.size+1+1,0,none⟩ (.int .i64 (voE r.v))).setCell ⟨w.heap.size+1+1,1,none⟩ (.int .i64 0)).putObj D (.deferred none)).cell? ⟨w.heap.size+2,1,none⟩=some (.int .i64 0):=cell_kept (st_same (sO c1 (by simp))) (grownBy_putObj' _ D (.deferred none)) (fun r e=>by cases e;exact⟨_,hK9,rfl⟩);refine⟨by simp,.inl ⟨_,_,rfl,run_takeDeferred hK9,?_⟩⟩;refine⟨rfv ((voE r.v),0),?_,by rw[HV.out],(bS (bS (bC HB0.out (bC HBW.out HB3.out)) (by simp;omega)) (by simp;omega)).trans (belowK_b (w:=w) (nR _) _ D _ _ (by omega) hK9 rfl rfl)⟩;simp[results,Tryz.f78,go_sem,e0,e1,rfv]
  case stop=>
    rintro D c pre W hD hpre ⟨⟨rfl,ini,last,e1,e2,e3,e4,e5⟩,hB⟩ hK;have HV:=aH (show V=(3,cl last.2)by
      subst e1;have hin:=hpre.subset;have hc:∀p∈ini++[last],cl p.2=p.2:=fun p hp=>cl_of (HNF.out p (hin hp));have hn:nmF d r=some last:=find_pre _ _ ini last hpre (fun p hp=>by have h:=e2 p hp;rw[hc p (by simp[hp])]at h;simp[h]) (by rw[hc last (by simp)]at e3;simp[e3]);rw[HRV.out,hn,hc last (by simp)];simp)
    clear HRV
    gi_wp2
    have hK9:W.heap[D]? =some (.deferred (some [])):=hK;have g0:(W.putObj D (.deferred none)).cell? ⟨w.heap.size+2,0,none⟩=some (.int .i64 3):=cell_kept e4 (grownBy_putObj' _ D (.deferred none)) (fun r e=>by cases e;exact⟨_,hK9,rfl⟩);have g1:(W.putObj D (.deferred none)).cell? ⟨w.heap.size+2,1,none⟩=some (.int .i64 (cl last.2)):=cell_kept e5 (grownBy_putObj' _ D (.deferred none)) (fun r e=>by cases e;exact⟨_,hK9,rfl⟩);refine⟨by simp,.inl ⟨_,_,rfl,run_takeDeferred hK9,?_⟩⟩;refine⟨rfv (3,(cl last.2)),?_,by rw[HV.out],(hB).trans (belowK_b (w:=w) (nR _) _ D _ _ (by omega) hK9 rfl rfl)⟩;simp[results,Tryz.f78,go_sem,g0,g1,rfv]
open Go.RowKit
def rsv (p:Int×Int):Value:=.agg #[.int .i64 p.1,.int .i64 p.2,.int .i64 0,.int .i64 0,.slice none 0 0]
def Cells5 (V:World) (D:Nat) (x0 x1 x2 x3 x4:Value):Prop:=
  V.cell? ⟨D,0,none⟩=some x0∧V.cell? ⟨D,1,none⟩=some x1∧V.cell? ⟨D,2,none⟩=some x2∧V.cell? ⟨D,3,none⟩=some x3∧V.cell? ⟨D,4,none⟩=some x4∧
  V.frozen? ⟨D,0,none⟩=false∧V.frozen? ⟨D,1,none⟩=false∧V.frozen? ⟨D,2,none⟩=false∧V.frozen? ⟨D,3,none⟩=false∧V.frozen? ⟨D,4,none⟩=false∧D<V.heap.size
theorem Cells5.new (V:World) (t:TypeId) (x0 x1 x2 x3 x4:Value):Cells5 (V.alloc (.cells #[x0,x1,x2,x3,x4] t)) V.heap.size x0 x1 x2 x3 x4:=
  ⟨by rw[alloc_at];rfl,by rw[alloc_at];rfl,by rw[alloc_at];rfl,by rw[alloc_at];rfl,by rw[alloc_at];rfl,by simp,by simp,by simp,by simp,by simp,by simp⟩
theorem Cells5.low {V V':World} {B D:Nat} {x0 x1 x2 x3 x4:Value} (h:Cells5 V D x0 x1 x2 x3 x4) (hb:Below B V V') (hD:D<B):Cells5 V' D x0 x1 x2 x3 x4:=by
  obtain⟨h0,h1,h2,h3,h4,z0,z1,z2,z3,z4,hs⟩:=h;exact⟨(hb.cell (p:=⟨D,0,none⟩) hD).trans h0,(hb.cell (p:=⟨D,1,none⟩) hD).trans h1,(hb.cell (p:=⟨D,2,none⟩) hD).trans h2,(hb.cell (p:=⟨D,3,none⟩) hD).trans h3,(hb.cell (p:=⟨D,4,none⟩) hD).trans h4,(hb.frozen (p:=⟨D,0,none⟩) hD).trans z0,(hb.frozen (p:=⟨D,1,none⟩) hD).trans z1,(hb.frozen (p:=⟨D,2,none⟩) hD).trans z2,(hb.frozen (p:=⟨D,3,none⟩) hD).trans z3,(hb.frozen (p:=⟨D,4,none⟩) hD).trans z4,nL hs hb.size⟩
theorem Cells5.below {V V':World} {D:Nat} {x0 x1 x2 x3 x4:Value} (h:Cells5 V D x0 x1 x2 x3 x4) (hb:Below V.heap.size V V'):Cells5 V' D x0 x1 x2 x3 x4:=h.low hb h.2.2.2.2.2.2.2.2.2.2
theorem checkW_any (d:Dk) (r:Rq) (w:World) (hd:d.In w w.heap.size) (hr:r.In w w.heap.size) (hT:Nn.Tab w):Calls Tryz.prog 39 #[d.v,r.val] w fun e w'=>e=.returned (rsv (refV d r))∧Below w.heap.size w w':=by
  obtain⟨w0,hw0⟩:∃w0,w0=((w.alloc d.ob).alloc (.cells r.ob 30)).alloc (.cells #[.int .i64 0,.int .i64 0,.int .i64 0,.int .i64 0,.slice none 0 0] 56):=⟨_,rfl⟩;have HB0:=aH (show Below w.heap.size w w0 by rw[hw0];exact bL (bL (bL (bR _ _) _) _) _);have HRF:=aH (refused_any d r w0 (hd.then HB0.out) (hr.then HB0.out) (hT.below HB0.out));generalize refV d r=V at *;obtain⟨v1,v2⟩:=V;unfold rfv at HRF;unfold rsv;dsimp only at *;have HC:=aH (show Cells5 w0 (w.heap.size+2) (.int .i64 0) (.int .i64 0) (.int .i64 0) (.int .i64 0) (.slice none 0 0)by
    have h:=Cells5.new ((w.alloc d.ob).alloc (.cells r.ob 30)) 56 (.int .i64 0) (.int .i64 0) (.int .i64 0) (.int .i64 0) (.slice none 0 0);rw[World.size_alloc,World.size_alloc]at h;rw[hw0];exact h)
  clear hd hr hT;go_enter Tryz.func39,Tryz.ntmps39;go_wp2_with fail;rw[←hw0];clear hw0;refine HRF.out.mono ?_;rintro e w1 ⟨rfl,hb1⟩;have hz:=(HC.out.below hb1).2.2.2.2.2.2.2.2.2.2;obtain⟨v3,hv3⟩:∃v3,v3=w1.alloc (.cells #[.int .i64 v1,.int .i64 v2] 122):=⟨_,rfl⟩;have hba:=bL (bR w1.heap.size w1) (.cells #[.int .i64 v1,.int .i64 v2] 122);rw[←hv3]at hba;obtain⟨c0,c1,c2,c3,c4,y0,y1,y2,y3,y4,-⟩:=(HC.out.below hb1).below hba;have HV3:=aH (bC HB0.out (bC hb1 hba));obtain⟨n0,n1,-⟩:Cells2 v3 w1.heap.size (.int .i64 v1) (.int .i64 v2):=by rw[hv3];exact Cells2.new w1 _ _ _
  have hne:w1.heap.size≠w.heap.size+2:=by omega
  clear hb1 hba
  go_upto_region 2 with (fail)
  rw[←hv3];clear hv3;go_wp2;refine bP (v:=.agg #[.int .i64 v1,.int .i64 v2,.int .i64 0,.int .i64 0,.slice none 0 0]) ?_ rfl ⟨rfl,?_⟩
  · simp[results,Tryz.results39,go_sem,c0,c1,c2,c3,c4]
  · refine bS (bS (bS (bS (bS HV3.out ?_) ?_) ?_) ?_) ?_ <;>(simp;omega)
theorem may_any (d:Dk) (r:Rq) (w:World) (hd:d.In w w.heap.size) (hr:r.In w w.heap.size) (hT:Nn.Tab w):Calls Tryz.prog 40 #[d.v,r.val] w fun e w'=>e=.returned (.bool (decide (refV d r=(0,0))))∧Below w.heap.size w w':=by
  obtain⟨w0,hw0⟩:∃w0,w0=(w.alloc d.ob).alloc (.cells r.ob 30):=⟨_,rfl⟩;have HB0:=aH (show Below w.heap.size w w0 by rw[hw0];exact bL (bL (bR _ _) _) _);have HRF:=aH (refused_any d r w0 (hd.then HB0.out) (hr.then HB0.out) (hT.below HB0.out));generalize refV d r=V at *;obtain⟨v1,v2⟩:=V;unfold rfv at HRF;dsimp only at *;clear hd hr hT;go_enter Tryz.func40,Tryz.ntmps40;go_wp2_with fail;rw[←hw0];clear hw0;refine HRF.out.mono ?_;rintro e w1 ⟨rfl,hb1⟩;have HB1:=aH (bC HB0.out hb1);clear hb1;go_wp2;all_goals
    go_ret
    exact⟨ret_b (by simp[*]),HB1.out⟩
end Go.Proofs.YtmecohdedghiaaaGreatDoor
