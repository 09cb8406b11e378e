/- A stock whose rows are the call's own. -/
import Derived.Test.YtmecohdedghiaaaGreatDoorPn00
import Derived.Test.YtmecohdedghiaaaGreatDoorPn19
import Derived.Test.YtmecohdedghiaaaGreatDoorPn20
import Derived.Deep.Cut
import Derived.Test.YtmecohdedghiaaaGreatDoorPn12
import Derived.Test.YtmecohdedghiaaaGreatDoorPn15
set_option maxRecDepth 100000
set_option maxHeartbeats 8000000
namespace Go.Proofs.YtmecohdedghiaaaGreatDoor
open Go.RowKit
noncomputable def rgS (d:Dk) (a:Ab):Bool:=decide (zchk d=0)&&(rwB a (newA d)&&decide (a.t.length=(newA d).t.length)&&rtB a.t d.arms&&rsB a (newA d))
theorem newA_len (d:Dk) (h:zchk d=0):(newA d).c.length=wellN d∧(newA d).l.length=wellN d∧wellN d≤384∧(newA d).t.length=tipN d∧tipN d≤384:=by
 have hok:=dchk_ok d (zchk_d d h);have h1:=wellN_eq d hok;have h2:=tipN_eq d hok;exact⟨h1.2.2,by show(List.replicate _ _).length=_;rw[List.length_replicate],h1.2.1,by show(List.replicate _ _).length=_;rw[List.length_replicate],h2.2⟩
theorem rw_len {a f:Ab} (h:rwB a f=true):a.c.length=f.c.length∧a.l.length=f.l.length:=by
 unfold rwB at h;rw[Bool.and_eq_true,Bool.and_eq_true,decide_eq_true_eq,decide_eq_true_eq]at h;exact h.1
theorem right_s (d:Dk) (s:Stk) (w:World) (hd:d.In w w.heap.size) (hs:s.In w w.heap.size):Calls Tryz.prog 58 #[d.v,s.v] w fun e w'=>e=.returned (.bool (rgS d s.ab))∧Below w.heap.size w w':=by
 obtain⟨w0,hw0⟩:∃w0,w0=(w.alloc d.ob).alloc s.ob:=⟨_,rfl⟩;have HB0:=aH (show Below w.heap.size w w0 by rw[hw0];exact bL (bL (bR _ _) _) _);have HD0:=aH (hd.then HB0.out);have HS0:=aH (hs.then HB0.out);have HK0:=aH (show DkAt w0 w.heap.size d by rw[hw0];exact(Cells4.new w _ _ _ _ _).below (bL (bR _ _) _));have HT0:=aH (show SkAt w0 (w.heap.size+1) s by
  have h:=Cells6.new (w.alloc d.ob) 41 (.slice s.cA s.cl.length s.cc) (.slice s.lA s.ll.length s.lc) (.slice s.tA s.tl.length s.tc) (.int .i64 s.st) (.int .i64 s.inn) (.int .i64 s.out);rw[←hw0,show(w.alloc d.ob).heap.size=w.heap.size+1 by simp]at h;exact h)
 have HNW:=aH (fun w h=>new_any d w h);have HE:=aH (show rgS d s.ab=(decide (zchk d=0)&&(rwB s.ab (newA d)&&decide (s.ab.t.length=(newA d).t.length)&&rtB s.ab.t d.arms&&rsB s.ab (newA d)))from rfl);generalize hr:rgS d s.ab=r at *;clear hr hd hs;by_cases hz:zchk d=0
 case neg=>
  have hr:r=false:=by rw[HE.out,dF hz];rfl
  subst hr;have hz':(zchk d==0)=false:=by simpa using hz
  clear hz HE;generalize zchk d=E at *;go_enter Tryz.func58,Tryz.ntmps58;go_wp2_with fail;rw[←hw0];clear hw0;refine(HNW.out _ HD0.out).mono ?_;rintro e w1 ⟨f,rfl,hf,_,hb1⟩;have HB1:=aH (bC HB0.out hb1);clear hb1 hf HNW;dsimp only[Stk.v];go_wp2
  go_ret
  exact⟨rfl,by first|exact bL HB1.out _|exact HB1.out⟩
 rw[dT hz,Bool.true_and]at HE;have HLN:=aH (newA_len d hz);rw[hz]at HNW;simp only[if_pos]at HNW;clear hz;have HRW:=aH (fun f w h1 h2 h3=>rightWells_any s f w h1 h2 h3);have HRT:=aH (fun w h=>rightTips_any (.slice s.tA s.tl.length s.tc) s.tl d.arms w h);have HRS:=aH (fun f w h1 h2=>rightSums_any s f w h1 h2);rw[show s.ab.t=s.tl from rfl]at HE;obtain⟨t0,t1,t2,t3,t4,t5,_⟩:=HT0.out;obtain⟨d0,d1,d2,d3,_⟩:=HK0.out;have HAR:=aH (show w0.cell? ⟨w.heap.size,3,none⟩=some (.int .i64 d.arms)from d3);clear t0 t1 t2 t3 t4 t5 d0 d1 d2 d3;go_enter Tryz.func58,Tryz.ntmps58;go_wp2_with fail;rw[←hw0];clear hw0;refine(HNW.out _ HD0.out).mono ?_;rintro e w1 ⟨f,rfl,hf,hab,hb1⟩;have HAB:=aH hab;rw[←hab]at HE HLN;have hba:=bL (bR w1.heap.size w1) f.ob;have HB1:=aH (bC HB0.out (bC hb1 hba));have HS1:=aH ((HS0.out.then hb1).then hba);have HF1:=aH (hf.then hba);have HT1:=aH ((HT0.out.below hb1).below hba);have HK1:=aH ((HK0.out.below hb1).below hba);have HX1:=aH (show SkAt (w1.alloc f.ob) w1.heap.size f from Cells6.new w1 _ _ _ _ _ _ _);have hfl:f.cl.length=f.ll.length:=by
  have h:=HLN.out;have e1:f.ab.c=f.cl:=rfl;have e2:f.ab.l.length=f.ll.length:=by show(f.ll.map Lo.ab).length=_;rw[List.length_map]
  rw[e1,e2]at h;omega
 have HFL:=aH hfl;have HC:=aH (show f.cl.length≤384 from by have h:=HLN.out;rw[show f.ab.c=f.cl from rfl]at h;omega);have HSC:=aH (show rwB s.ab f.ab=true→s.cl.length≤100000 from fun h=>by
  have h1:=(rw_len h).1;rw[show s.ab.c=s.cl from rfl,show f.ab.c=f.cl from rfl]at h1;have:=HC.out;omega)
 rw[show f.ab.t=f.tl from rfl]at HE;obtain⟨Fb,hFb⟩:∃Fb,w1.heap.size=Fb:=⟨_,rfl⟩;have htl9:=HS1.out.t.2.2;have hfl9:=HF1.out.t.2.2;clear hf hab hb1 hba hfl HNW HS0 HT0 HK0 HD0 HB0;dsimp only[Stk.v]
 go_upto_region 2 with fail
 generalize w1.alloc f.ob=V at *;rw[hFb]at HX1;try simp only[hFb]
 clear hFb;have HRW:=aH (HRW.out f);have HRS:=aH (HRS.out f);generalize rwB s.ab f.ab=q1 at *;generalize rsB s.ab f.ab=q3 at *;generalize rtB s.tl d.arms=q2 at *;obtain⟨t0,t1,t2,t3,t4,t5,_⟩:=HT1.out;obtain⟨d0,d1,d2,d3,_⟩:=HK1.out;obtain⟨x0,x1,x2,x3,x4,x5,_⟩:=HX1.out;have HLNs:=aH (show True from trivial);go_wp2_with fail;refine(HRW.out _ HS1.out HF1.out HFL.out).mono ?_;rintro e V2 ⟨rfl,hb⟩;have HB2:=aH (bC HB1.out hb);have HS2:=aH (HS1.out.then hb);have HF2:=aH (HF1.out.then hb);have HT2:=aH (HT1.out.below hb);have HK2:=aH (HK1.out.below hb);have HX2:=aH (HX1.out.below hb);clear t0 t1 t2 t3 t4 t5 d0 d1 d2 d3 x0 x1 x2 x3 x4 x5 hb HS1 HF1 HT1 HK1 HX1;obtain⟨t0,t1,t2,t3,t4,t5,_⟩:=HT2.out;obtain⟨d0,d1,d2,d3,_⟩:=HK2.out;obtain⟨x0,x1,x2,x3,x4,x5,_⟩:=HX2.out
 cases q1
 ·have hr:r=false:=by rw[HE.out];rfl
  subst hr;go_wp2
  go_ret
  exact⟨rfl,HB2.out⟩
 by_cases hlt:s.tl.length=f.tl.length
 case neg=>
  have hr:r=false:=by rw[HE.out,dF hlt];rfl
  subst hr;have hlt':((s.tl.length:Int)==(f.tl.length:Int))=false:=by simp;omega
  clear hlt;go_wp2
  go_ret
  exact⟨rfl,HB2.out⟩
 rw[dT hlt,Bool.and_self,Bool.true_and]at HE;have hlt':((s.tl.length:Int)==(f.tl.length:Int))=true:=by simp;omega
 clear hlt;go_wp2_with fail;refine(HRT.out _ HS2.out.t).mono ?_;rintro e V3 ⟨rfl,hb⟩;have HB3:=aH (bC HB2.out hb);have HS3:=aH (HS2.out.then hb);have HF3:=aH (HF2.out.then hb);have HT3:=aH (HT2.out.below hb);have HX3:=aH (HX2.out.below hb);clear t0 t1 t2 t3 t4 t5 d0 d1 d2 d3 x0 x1 x2 x3 x4 x5 hb HS2 HF2 HT2 HK2 HX2 hlt';obtain⟨t0,t1,t2,t3,t4,t5,_⟩:=HT3.out;obtain⟨x0,x1,x2,x3,x4,x5,_⟩:=HX3.out
 cases q2
 ·have hr:r=false:=by rw[HE.out];rfl
  subst hr;go_wp2
  go_ret
  exact⟨rfl,HB3.out⟩
 rw[Bool.true_and]at HE;go_wp2_with fail;refine(HRS.out _ HS3.out (HSC.out (by trivial))).mono ?_;rintro e V4 ⟨rfl,hb⟩;have HB4:=aH (bC HB3.out hb);clear hb;go_wp2
 go_ret
 exact⟨by rw[HE.out];rfl,HB4.out⟩
theorem clone_e (v:Value) (o:List Cel.Ce) (w:World) (hv:KE.IsL w w.heap.size v o) (hl:o.length≤100000):Calls Tryz.prog 173 #[v] w fun e w'=>∃v',e=.returned v'∧KE.Own w' w.heap.size v' o∧Below w.heap.size w w':=by
 have HV:=aH hv;have q:∀(w:World) (a:Option Addr) (n c n' c':Nat),(binOp .eql 37 (.slice a n c) (.slice none n' c')).run Tryz.prog w=.ok (.bool a.isNone) w:=fun w a n c n' c'=>Lib.run_eql_slice_nil w _ _ a n c n' c' Tryz.underlying37;obtain⟨A,c,rfl,hc⟩:=hv.shape;clear hv
 match A with
 |none=>
  have h0:o.length=0:=by
   rcases Nat.eq_zero_or_pos o.length with h|h
   ·exact h
   ·obtain⟨b,off,e,_⟩:=HV.out.elem h
    cases e
  obtain rfl:=List.eq_nil_of_length_eq_zero h0;clear HV h0 hc;simp only[List.length_nil];go_enter Tryz.func173,Tryz.ntmps173;go_wp2
  go_ret
  exact⟨_,rfl,Lk.Own.nil _ _,bR _ _⟩
 |some a=>
  go_enter Tryz.func173,Tryz.ntmps173;go_wp2_with (at_builtin;refine Lk.wpList_app (K:=KE) _ rfl _ _ rfl rfl w.heap.size w.heap.size _ _ [] o rfl rfl (Lk.Own.made w w.heap.size 0 #[] (nR _) (by unfold maxLen;omega) rfl) (HV.out.below (bL (bR _ w) _)) ?c1 ?c2 ?_)
  case c1=>simp;omega
  case c2=>simp
  intro v1 w4 hown hgrow _;have HB4:=aH (Lk.Own.grow' (K:=KE) (Lk.Own.made w w.heap.size 0 #[] (nR _) (by unfold maxLen;omega) rfl) (bL (bR _ w) _) (by simp) hgrow);have HO4:=aH hown;clear hown hgrow;go_wp2
  go_ret
  exact⟨_,rfl,by simpa using HO4.out,HB4.out⟩
theorem clone_l (v:Value) (o:List Lo) (w:World) (hv:KL.IsL w w.heap.size v o) (hl:o.length≤100000):Calls Tryz.prog 174 #[v] w fun e w'=>∃v',e=.returned v'∧KL.Own w' w.heap.size v' o∧Below w.heap.size w w':=by
 have HV:=aH hv;have q:∀(w:World) (a:Option Addr) (n c n' c':Nat),(binOp .eql 38 (.slice a n c) (.slice none n' c')).run Tryz.prog w=.ok (.bool a.isNone) w:=fun w a n c n' c'=>Lib.run_eql_slice_nil w _ _ a n c n' c' Tryz.underlying38;obtain⟨A,c,rfl,hc⟩:=hv.shape;clear hv
 match A with
 |none=>
  have h0:o.length=0:=by
   rcases Nat.eq_zero_or_pos o.length with h|h
   ·exact h
   ·obtain⟨b,off,e,_⟩:=HV.out.elem h
    cases e
  obtain rfl:=List.eq_nil_of_length_eq_zero h0;clear HV h0 hc;simp only[List.length_nil];go_enter Tryz.func174,Tryz.ntmps174;go_wp2
  go_ret
  exact⟨_,rfl,Lk.Own.nil _ _,bR _ _⟩
 |some a=>
  go_enter Tryz.func174,Tryz.ntmps174;go_wp2_with (at_builtin;refine Lk.wpList_app (K:=KL) _ rfl _ _ rfl rfl w.heap.size w.heap.size _ _ [] o rfl rfl (Lk.Own.made w w.heap.size 0 #[] (nR _) (by unfold maxLen;omega) rfl) (HV.out.below (bL (bR _ w) _)) ?c1 ?c2 ?_)
  case c1=>simp;omega
  case c2=>simp
  intro v1 w4 hown hgrow _;have HB4:=aH (Lk.Own.grow' (K:=KL) (Lk.Own.made w w.heap.size 0 #[] (nR _) (by unfold maxLen;omega) rfl) (bL (bR _ w) _) (by simp) hgrow);have HO4:=aH hown;clear hown hgrow;go_wp2
  go_ret
  exact⟨_,rfl,by simpa using HO4.out,HB4.out⟩
theorem clone_c (v:Value) (o:List Ch) (w:World) (hv:KC.IsL w w.heap.size v o) (hl:o.length≤100000):Calls Tryz.prog 175 #[v] w fun e w'=>∃v',e=.returned v'∧KC.Own w' w.heap.size v' o∧Below w.heap.size w w':=by
 have HV:=aH hv;have q:∀(w:World) (a:Option Addr) (n c n' c':Nat),(binOp .eql 54 (.slice a n c) (.slice none n' c')).run Tryz.prog w=.ok (.bool a.isNone) w:=fun w a n c n' c'=>Lib.run_eql_slice_nil w _ _ a n c n' c' Tryz.underlying54;obtain⟨A,c,rfl,hc⟩:=hv.shape;clear hv
 match A with
 |none=>
  have h0:o.length=0:=by
   rcases Nat.eq_zero_or_pos o.length with h|h
   ·exact h
   ·obtain⟨b,off,e,_⟩:=HV.out.elem h
    cases e
  obtain rfl:=List.eq_nil_of_length_eq_zero h0;clear HV h0 hc;simp only[List.length_nil];go_enter Tryz.func175,Tryz.ntmps175;go_wp2
  go_ret
  exact⟨_,rfl,Lk.Own.nil _ _,bR _ _⟩
 |some a=>
  go_enter Tryz.func175,Tryz.ntmps175;go_wp2_with (at_builtin;refine Lk.wpList_app (K:=KC) _ rfl _ _ rfl rfl w.heap.size w.heap.size _ _ [] o rfl rfl (Lk.Own.made w w.heap.size 0 #[] (nR _) (by unfold maxLen;omega) rfl) (HV.out.below (bL (bR _ w) _)) ?c1 ?c2 ?_)
  case c1=>simp;omega
  case c2=>simp
  intro v1 w4 hown hgrow _;have HB4:=aH (Lk.Own.grow' (K:=KC) (Lk.Own.made w w.heap.size 0 #[] (nR _) (by unfold maxLen;omega) rfl) (bL (bR _ w) _) (by simp) hgrow);have HO4:=aH hown;clear hown hgrow;go_wp2
  go_ret
  exact⟨_,rfl,by simpa using HO4.out,HB4.out⟩
theorem clone_t (v:Value) (o:List (Int×Int)) (w:World) (hv:KT.IsL w w.heap.size v o) (hl:o.length≤100000):Calls Tryz.prog 176 #[v] w fun e w'=>∃v',e=.returned v'∧KT.Own w' w.heap.size v' o∧Below w.heap.size w w':=by
 have HV:=aH hv;have q:∀(w:World) (a:Option Addr) (n c n' c':Nat),(binOp .eql 39 (.slice a n c) (.slice none n' c')).run Tryz.prog w=.ok (.bool a.isNone) w:=fun w a n c n' c'=>Lib.run_eql_slice_nil w _ _ a n c n' c' Tryz.underlying39;obtain⟨A,c,rfl,hc⟩:=hv.shape;clear hv
 match A with
 |none=>
  have h0:o.length=0:=by
   rcases Nat.eq_zero_or_pos o.length with h|h
   ·exact h
   ·obtain⟨b,off,e,_⟩:=HV.out.elem h
    cases e
  obtain rfl:=List.eq_nil_of_length_eq_zero h0;clear HV h0 hc;simp only[List.length_nil];go_enter Tryz.func176,Tryz.ntmps176;go_wp2
  go_ret
  exact⟨_,rfl,Lk.Own.nil _ _,bR _ _⟩
 |some a=>
  go_enter Tryz.func176,Tryz.ntmps176;go_wp2_with (at_builtin;refine Lk.wpList_app (K:=KT) _ rfl _ _ rfl rfl w.heap.size w.heap.size _ _ [] o rfl rfl (Lk.Own.made w w.heap.size 0 #[] (nR _) (by unfold maxLen;omega) rfl) (HV.out.below (bL (bR _ w) _)) ?c1 ?c2 ?_)
  case c1=>simp;omega
  case c2=>simp
  intro v1 w4 hown hgrow _;have HB4:=aH (Lk.Own.grow' (K:=KT) (Lk.Own.made w w.heap.size 0 #[] (nR _) (by unfold maxLen;omega) rfl) (bL (bR _ w) _) (by simp) hgrow);have HO4:=aH hown;clear hown hgrow;go_wp2
  go_ret
  exact⟨_,rfl,by simpa using HO4.out,HB4.out⟩
theorem Lk.IsL.far {P:Program} {α:Type} {K:Lk P α} {w:World} {B:Nat} {A:Option Addr} {n c:Nat} {xs:List α} (h:K.IsL w B (.slice A n c) xs) {D:Nat} (hne:∀a,A=some a→a.block≠D) (o:Nat) (u:Value):K.IsL (w.setCell ⟨D,o,none⟩ u) B (.slice A n c) xs:=by
 obtain⟨⟨A',c',hv,hc,hA⟩,hf,hl⟩:=h;refine⟨⟨A',c',hv,hc,fun h0=>?_⟩,hf,hl⟩;obtain⟨b,off,e,hb,hcell⟩:=hA h0;injection hv with e1 e2 e3
 refine⟨b,off,e,hb,fun i hi j u' hu=>sO (hcell i hi j u' hu) (aN (.inl ?_))⟩;exact(hne ⟨b,off,none⟩ (by rw[e1,e])).symm
structure Mine (V:World) (B D:Nat) (s:Stk):Prop where
 at':SkAt V D s
 c:KE.Own V B (.slice s.cA s.cl.length s.cc) s.cl
 l:KL.Own V B (.slice s.lA s.ll.length s.lc) s.ll
 t:KT.Own V B (.slice s.tA s.tl.length s.tc) s.tl
 x:∀q∈s.ll,KC.IsL V V.heap.size (.slice q.A q.xs.length q.c) q.xs
 y:∀q∈s.ll,∀a,q.A=some a→some a.block≠bk s.cA∧some a.block≠bk s.lA∧some a.block≠bk s.tA∧B≤a.block
 n1:∀b,bk s.cA=some b→bk s.lA≠some b
 n2:∀b,bk s.cA=some b→bk s.tA≠some b
 n3:∀b,bk s.lA=some b→bk s.tA≠some b
 lt:D<B
 le:B≤V.heap.size
 f:fits s.st∧fits s.inn∧fits s.out
theorem own_bk {A:Option Addr} {n c b:Nat} (h:(Value.slice A n c).ownBlock=some b):bk A=some b:=by
 cases A with
 |none=>cases h
 |some a=>exact h
theorem Mine.inn {V:World} {B D:Nat} {s:Stk} (h:Mine V B D s) (h1:s.cl.length≤100000) (h2:s.ll.length≤100000) (h3:s.tl.length≤100000):s.In V V.heap.size:=
 ⟨h.c.isL (by omega),h.l.isL (by omega),h.t.isL (by omega),h.x,h.f⟩
theorem Mine.below {V V':World} {B D:Nat} {s:Stk} (h:Mine V B D s) (hb:Below V.heap.size V V'):Mine V' B D s where
 at':=h.at'.below hb
 c:=h.c.below hb
 l:=h.l.below hb
 t:=h.t.below hb
 x:=fun q hq=>(h.x q hq).then hb
 y:=h.y
 n1:=h.n1
 n2:=h.n2
 n3:=h.n3
 lt:=h.lt
 le:=Nat.le_trans h.le hb.size
 f:=h.f
theorem Mine.tAt {V:World} {B D:Nat} {s:Stk} (h:Mine V B D s) (h0:0<s.tl.length):∃g,s.tA=some ⟨g,0,none⟩∧B≤g∧g<V.heap.size∧s.tl.length≤s.tc:=by
 obtain⟨g,cap,e,h1,h2,h3⟩:=h.t.shape h0;simp only[Value.slice.injEq]at e;exact⟨g,e.1,h1,h2,by omega⟩
theorem Mine.putT {V:World} {B D:Nat} {s:Stk} (h:Mine V B D s) (k:Nat) (hk:k<s.tl.length) (g:Nat) (hg:s.tA=some ⟨g,0,none⟩) (q:Int×Int) (hq:fits q.1∧fits q.2):
  Mine ((V.setCell ⟨g,k*2,none⟩ (.int .i64 q.1)).setCell ⟨g,k*2+1,none⟩ (.int .i64 q.2)) B D {s with tl:=s.tl.set k q}:=by
 have hgB:B≤g:=(h.t.lt g (bk_own (by rw[hg];rfl))).1;have hgD:g≠D:=by have:=h.lt;omega
 have hc:=h.t;rw[hg]at hc;have hl:((Value.slice s.cA s.cl.length s.cc)).ownBlock≠some g:=fun e=>h.n2 g (own_bk e) (by rw[hg];rfl);have ht:((Value.slice s.lA s.ll.length s.lc)).ownBlock≠some g:=fun e=>h.n3 g (own_bk e) (by rw[hg];rfl);refine⟨?_,?_,?_,?_,fun p hp=>?_,h.y,h.n1,h.n2,h.n3,h.lt,by simpa using h.le,h.f⟩
 ·have:=h.at'.apart2 hgD (k*2) (k*2+1) (.int .i64 q.1) (.int .i64 q.2);simpa [SkAt]using this
 ·exact h.c.far2o (fun b hb e=>hl (by rw[hb,e])) _ _ _ _
 ·exact h.l.far2o (fun b hb e=>ht (by rw[hb,e])) _ _ _ _
 ·have:=hc.put2 (K:=KT) rfl rfl k hk q _ _ rfl hq;show KT.Own _ B (.slice s.tA (s.tl.set k q).length s.tc) (s.tl.set k q);rw[List.length_set,hg];exact this
 ·have hy:=h.y p hp;have hne:∀a,p.A=some a→a.block≠g:=fun a ha e=>(hy a ha).2.2.1 (by rw[e,hg];rfl);have:=((h.x p hp).far hne (k*2) (.int .i64 q.1)).far hne (k*2+1) (.int .i64 q.2);simpa using this
def Tl (V:World) (D:Nat) (d:Dk) (by':Int):Prop:=V.cell? ⟨D,6,none⟩=some (.slice d.bA d.bn d.bc)∧V.cell? ⟨D,7,none⟩=some (.slice d.pA d.pn d.pc)∧V.cell? ⟨D,8,none⟩=some (.slice d.rA d.rn d.rc)∧V.cell? ⟨D,9,none⟩=some (.int .i64 d.arms)∧V.cell? ⟨D,10,none⟩=some (.int .i64 by')∧D<V.heap.size
theorem Tl.below {V V':World} {D:Nat} {d:Dk} {b:Int} (h:Tl V D d b) (hb:Below V.heap.size V V'):Tl V' D d b:=⟨kK hb h.1,kK hb h.2.1,kK hb h.2.2.1,kK hb h.2.2.2.1,kK hb h.2.2.2.2.1,nL h.2.2.2.2.2 hb.size⟩
theorem Tl.off {V:World} {D g o:Nat} {d:Dk} {b:Int} (h:Tl V D d b) (hne:g≠D∨o<6) (v:Value):Tl (V.setCell ⟨g,o,none⟩ v) D d b:=by
 have:∀i,6≤i→(⟨g,o,none⟩:Addr)≠⟨D,i,none⟩:=fun i hi=>aN (by omega);exact⟨sO h.1 (this 6 (by omega)),sO h.2.1 (this 7 (by omega)),sO h.2.2.1 (this 8 (by omega)),sO h.2.2.2.1 (this 9 (by omega)),sO h.2.2.2.2.1 (this 10 (by omega)),by simpa using h.2.2.2.2.2⟩
end Go.Proofs.YtmecohdedghiaaaGreatDoor
