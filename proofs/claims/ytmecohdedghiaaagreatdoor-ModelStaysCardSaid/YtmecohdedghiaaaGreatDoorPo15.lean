/- The sum of numbers: the program and the reference. -/
import Derived.Test.YtmecohdedghiaaaGreatDoorPo14
import Derived.Laws.StructEq
import Derived.Deep.RegionHeld3
import Derived.RegionTactic
set_option maxRecDepth 100000
set_option maxHeartbeats 8000000
open Go.Proofs.Tryz
namespace Go.Proofs.YtmecohdedghiaaaGreatDoor
open Go.RowKit
theorem Cells4.low {V V':World} {B D:Nat} {x0 x1 x2 x3:Value} (h:Cells4 V D x0 x1 x2 x3) (hb:Below B V V') (hD:D<B):Cells4 V' D x0 x1 x2 x3:=by
 obtain⟨h0,h1,h2,h3,z0,z1,z2,z3,hs⟩:=h;exact⟨(hb.cell (p:=⟨D,0,none⟩) hD).trans h0,(hb.cell (p:=⟨D,1,none⟩) hD).trans h1,(hb.cell (p:=⟨D,2,none⟩) hD).trans h2,(hb.cell (p:=⟨D,3,none⟩) hD).trans h3,(hb.frozen (p:=⟨D,0,none⟩) hD).trans z0,(hb.frozen (p:=⟨D,1,none⟩) hD).trans z1,(hb.frozen (p:=⟨D,2,none⟩) hD).trans z2,(hb.frozen (p:=⟨D,3,none⟩) hD).trans z3,nL hs hb.size⟩
theorem Cells6.low {V V':World} {B D:Nat} {x0 x1 x2 x3 x4 x5:Value} (h:Cells6 V D x0 x1 x2 x3 x4 x5) (hb:Below B V V') (hD:D<B):Cells6 V' D x0 x1 x2 x3 x4 x5:=by
 obtain⟨h0,h1,h2,h3,h4,h5,z0,z1,z2,z3,z4,z5,hs⟩:=h;exact⟨(hb.cell (p:=⟨D,0,none⟩) hD).trans h0,(hb.cell (p:=⟨D,1,none⟩) hD).trans h1,(hb.cell (p:=⟨D,2,none⟩) hD).trans h2,(hb.cell (p:=⟨D,3,none⟩) hD).trans h3,(hb.cell (p:=⟨D,4,none⟩) hD).trans h4,(hb.cell (p:=⟨D,5,none⟩) hD).trans h5,(hb.frozen (p:=⟨D,0,none⟩) hD).trans z0,(hb.frozen (p:=⟨D,1,none⟩) hD).trans z1,(hb.frozen (p:=⟨D,2,none⟩) hD).trans z2,(hb.frozen (p:=⟨D,3,none⟩) hD).trans z3,(hb.frozen (p:=⟨D,4,none⟩) hD).trans z4,(hb.frozen (p:=⟨D,5,none⟩) hD).trans z5,nL hs hb.size⟩
def PlAt (V:World) (P:Nat) (r c cap:Int) (sv:Value):Prop:=V.cell? ⟨P,0,none⟩=some (.int .i64 r)∧V.cell? ⟨P,1,none⟩=some (.int .i64 c)∧V.cell? ⟨P,5,none⟩=some (.int .i64 cap)∧V.cell? ⟨P,6,none⟩=some sv∧P<V.heap.size
theorem PlAt.below {V V':World} {P:Nat} {r c cap:Int} {sv:Value} (h:PlAt V P r c cap sv) (hb:Below V.heap.size V V'):PlAt V' P r c cap sv:=⟨kK hb h.1,kK hb h.2.1,kK hb h.2.2.1,kK hb h.2.2.2.1,nL h.2.2.2.2 hb.size⟩
theorem PlAt.grown {V V':World} {P:Nat} {r c cap:Int} {sv:Value} {row:Option Nat} (h:PlAt V P r c cap sv) (hg:V.grownBy V' row) (CJ:some P≠row):PlAt V' P r c cap sv:=
 ⟨(hg.cell_far ⟨P,0,none⟩ h.2.2.2.2 CJ).trans h.1,(hg.cell_far ⟨P,1,none⟩ h.2.2.2.2 CJ).trans h.2.1,(hg.cell_far ⟨P,5,none⟩ h.2.2.2.2 CJ).trans h.2.2.1,(hg.cell_far ⟨P,6,none⟩ h.2.2.2.2 CJ).trans h.2.2.2.1,nL h.2.2.2.2 hg.size⟩
theorem PlAt.off {V:World} {P D o:Nat} {r c cap:Int} {sv:Value} (h:PlAt V P r c cap sv) (CJ:D≠P) (v:Value):PlAt (V.setCell ⟨D,o,none⟩ v) P r c cap sv:=
 ⟨sO h.1 (aN (.inl CJ)),sO h.2.1 (aN (.inl CJ)),sO h.2.2.1 (aN (.inl CJ)),sO h.2.2.2.1 (aN (.inl CJ)),by simpa using h.2.2.2.2⟩
theorem kE (v:Value) (o:List (Nat)) (w:World) (hv:KF.IsL w w.heap.size v o) (hl:o.length≤100000):Calls prog 98 #[v] w fun e w'=>∃v',e=.returned v'∧KF.Own w' w.heap.size v' o∧Below w.heap.size w w':=by
 have HV:=aH hv;have q:∀(w:World) (a:Option Addr) (n c n' c':Nat),(binOp .eql 22 (.slice a n c) (.slice none n' c')).run prog w=.ok (.bool a.isNone) w:=fun w a n c n' c'=>Lib.run_eql_slice_nil w _ _ a n c n' c' underlying22;obtain⟨A,c,rfl,hc⟩:=hv.shape;clear hv
 match A with
 |none=>
  have h0:o.length=0:=by
   rcases Nat.eq_zero_or_pos o.length with h|h
   ·exact h
   ·obtain⟨b,off,e,_⟩:=HV.out.elem h
    cases e
  obtain rfl:=List.eq_nil_of_length_eq_zero h0;clear HV h0 hc;simp only[List.length_nil];go_enter func98,ntmps98;go_wp2
  go_ret
  exact⟨_,rfl,Lk.Own.nil _ _,bR _ _⟩
 |some a=>
  have hn:KF.n≤7:=by decide
  go_enter func98,ntmps98;go_wp2_with (at_builtin;refine Lk.wpList_app (K:=KF) _ rfl _ _ rfl rfl w.heap.size w.heap.size _ _ [] o rfl rfl (Lk.Own.made w w.heap.size 0 #[] (nR _) (by unfold maxLen;omega) rfl) (HV.out.below (bL (bR _ w) _)) ?c1 ?c2 ?_)
  case c1=>simp;omega
  case c2=>simp
  intro v1 w4 CF hgrow _;have CW:=aH (Lk.Own.grow' (K:=KF) (Lk.Own.made w w.heap.size 0 #[] (nR _) (by unfold maxLen;omega) rfl) (bL (bR _ w) _) (by simp) hgrow);have DB:=aH CF;clear CF hgrow;go_wp2
  go_ret
  exact⟨_,rfl,by simpa using DB.out,CW.out⟩
theorem km (v:Value) (o:List (Pl)) (w:World) (hv:KP.IsL w w.heap.size v o) (hl:o.length≤100000):Calls prog 99 #[v] w fun e w'=>∃v',e=.returned v'∧KP.Own w' w.heap.size v' o∧Below w.heap.size w w':=by
 have HV:=aH hv;have q:∀(w:World) (a:Option Addr) (n c n' c':Nat),(binOp .eql 23 (.slice a n c) (.slice none n' c')).run prog w=.ok (.bool a.isNone) w:=fun w a n c n' c'=>Lib.run_eql_slice_nil w _ _ a n c n' c' underlying23;obtain⟨A,c,rfl,hc⟩:=hv.shape;clear hv
 match A with
 |none=>
  have h0:o.length=0:=by
   rcases Nat.eq_zero_or_pos o.length with h|h
   ·exact h
   ·obtain⟨b,off,e,_⟩:=HV.out.elem h
    cases e
  obtain rfl:=List.eq_nil_of_length_eq_zero h0;clear HV h0 hc;simp only[List.length_nil];go_enter func99,ntmps99;go_wp2
  go_ret
  exact⟨_,rfl,Lk.Own.nil _ _,bR _ _⟩
 |some a=>
  have hn:KP.n≤7:=by decide
  go_enter func99,ntmps99;go_wp2_with (at_builtin;refine Lk.wpList_app (K:=KP) _ rfl _ _ rfl rfl w.heap.size w.heap.size _ _ [] o rfl rfl (Lk.Own.made w w.heap.size 0 #[] (nR _) (by unfold maxLen;omega) rfl) (HV.out.below (bL (bR _ w) _)) ?c1 ?c2 ?_)
  case c1=>simp;omega
  case c2=>simp
  intro v1 w4 CF hgrow _;have CW:=aH (Lk.Own.grow' (K:=KP) (Lk.Own.made w w.heap.size 0 #[] (nR _) (by unfold maxLen;omega) rfl) (bL (bR _ w) _) (by simp) hgrow);have DB:=aH CF;clear CF hgrow;go_wp2
  go_ret
  exact⟨_,rfl,by simpa using DB.out,CW.out⟩
theorem lr (v:Value) (o:List (Rk)) (w:World) (hv:KR.IsL w w.heap.size v o) (hl:o.length≤100000):Calls prog 101 #[v] w fun e w'=>∃v',e=.returned v'∧KR.Own w' w.heap.size v' o∧Below w.heap.size w w':=by
 have HV:=aH hv;have q:∀(w:World) (a:Option Addr) (n c n' c':Nat),(binOp .eql 24 (.slice a n c) (.slice none n' c')).run prog w=.ok (.bool a.isNone) w:=fun w a n c n' c'=>Lib.run_eql_slice_nil w _ _ a n c n' c' underlying24;obtain⟨A,c,rfl,hc⟩:=hv.shape;clear hv
 match A with
 |none=>
  have h0:o.length=0:=by
   rcases Nat.eq_zero_or_pos o.length with h|h
   ·exact h
   ·obtain⟨b,off,e,_⟩:=HV.out.elem h
    cases e
  obtain rfl:=List.eq_nil_of_length_eq_zero h0;clear HV h0 hc;simp only[List.length_nil];go_enter func101,ntmps101;go_wp2
  go_ret
  exact⟨_,rfl,Lk.Own.nil _ _,bR _ _⟩
 |some a=>
  have hn:KR.n≤7:=by decide
  go_enter func101,ntmps101;go_wp2_with (at_builtin;refine Lk.wpList_app (K:=KR) _ rfl _ _ rfl rfl w.heap.size w.heap.size _ _ [] o rfl rfl (Lk.Own.made w w.heap.size 0 #[] (nR _) (by unfold maxLen;omega) rfl) (HV.out.below (bL (bR _ w) _)) ?c1 ?c2 ?_)
  case c1=>simp;omega
  case c2=>simp
  intro v1 w4 CF hgrow _;have CW:=aH (Lk.Own.grow' (K:=KR) (Lk.Own.made w w.heap.size 0 #[] (nR _) (by unfold maxLen;omega) rfl) (bL (bR _ w) _) (by simp) hgrow);have DB:=aH CF;clear CF hgrow;go_wp2
  go_ret
  exact⟨_,rfl,by simpa using DB.out,CW.out⟩
theorem ly (v:Value) (o:List (Cel.Ce)) (w:World) (hv:KE.IsL w w.heap.size v o) (hl:o.length≤100000):Calls prog 173 #[v] w fun e w'=>∃v',e=.returned v'∧KE.Own w' w.heap.size v' o∧Below w.heap.size w w':=by
 have HV:=aH hv;have q:∀(w:World) (a:Option Addr) (n c n' c':Nat),(binOp .eql 37 (.slice a n c) (.slice none n' c')).run prog w=.ok (.bool a.isNone) w:=fun w a n c n' c'=>Lib.run_eql_slice_nil w _ _ a n c n' c' underlying37;obtain⟨A,c,rfl,hc⟩:=hv.shape;clear hv
 match A with
 |none=>
  have h0:o.length=0:=by
   rcases Nat.eq_zero_or_pos o.length with h|h
   ·exact h
   ·obtain⟨b,off,e,_⟩:=HV.out.elem h
    cases e
  obtain rfl:=List.eq_nil_of_length_eq_zero h0;clear HV h0 hc;simp only[List.length_nil];go_enter func173,ntmps173;go_wp2
  go_ret
  exact⟨_,rfl,Lk.Own.nil _ _,bR _ _⟩
 |some a=>
  have hn:KE.n≤7:=by decide
  go_enter func173,ntmps173;go_wp2_with (at_builtin;refine Lk.wpList_app (K:=KE) _ rfl _ _ rfl rfl w.heap.size w.heap.size _ _ [] o rfl rfl (Lk.Own.made w w.heap.size 0 #[] (nR _) (by unfold maxLen;omega) rfl) (HV.out.below (bL (bR _ w) _)) ?c1 ?c2 ?_)
  case c1=>simp;omega
  case c2=>simp
  intro v1 w4 CF hgrow _;have CW:=aH (Lk.Own.grow' (K:=KE) (Lk.Own.made w w.heap.size 0 #[] (nR _) (by unfold maxLen;omega) rfl) (bL (bR _ w) _) (by simp) hgrow);have DB:=aH CF;clear CF hgrow;go_wp2
  go_ret
  exact⟨_,rfl,by simpa using DB.out,CW.out⟩
theorem nE (v:Value) (o:List (Lo)) (w:World) (hv:KL.IsL w w.heap.size v o) (hl:o.length≤100000):Calls prog 174 #[v] w fun e w'=>∃v',e=.returned v'∧KL.Own w' w.heap.size v' o∧Below w.heap.size w w':=by
 have HV:=aH hv;have q:∀(w:World) (a:Option Addr) (n c n' c':Nat),(binOp .eql 38 (.slice a n c) (.slice none n' c')).run prog w=.ok (.bool a.isNone) w:=fun w a n c n' c'=>Lib.run_eql_slice_nil w _ _ a n c n' c' underlying38;obtain⟨A,c,rfl,hc⟩:=hv.shape;clear hv
 match A with
 |none=>
  have h0:o.length=0:=by
   rcases Nat.eq_zero_or_pos o.length with h|h
   ·exact h
   ·obtain⟨b,off,e,_⟩:=HV.out.elem h
    cases e
  obtain rfl:=List.eq_nil_of_length_eq_zero h0;clear HV h0 hc;simp only[List.length_nil];go_enter func174,ntmps174;go_wp2
  go_ret
  exact⟨_,rfl,Lk.Own.nil _ _,bR _ _⟩
 |some a=>
  have hn:KL.n≤7:=by decide
  go_enter func174,ntmps174;go_wp2_with (at_builtin;refine Lk.wpList_app (K:=KL) _ rfl _ _ rfl rfl w.heap.size w.heap.size _ _ [] o rfl rfl (Lk.Own.made w w.heap.size 0 #[] (nR _) (by unfold maxLen;omega) rfl) (HV.out.below (bL (bR _ w) _)) ?c1 ?c2 ?_)
  case c1=>simp;omega
  case c2=>simp
  intro v1 w4 CF hgrow _;have CW:=aH (Lk.Own.grow' (K:=KL) (Lk.Own.made w w.heap.size 0 #[] (nR _) (by unfold maxLen;omega) rfl) (bL (bR _ w) _) (by simp) hgrow);have DB:=aH CF;clear CF hgrow;go_wp2
  go_ret
  exact⟨_,rfl,by simpa using DB.out,CW.out⟩
theorem jq (v:Value) (o:List (Ch)) (w:World) (hv:KC.IsL w w.heap.size v o) (hl:o.length≤100000):Calls prog 175 #[v] w fun e w'=>∃v',e=.returned v'∧KC.Own w' w.heap.size v' o∧Below w.heap.size w w':=by
 have HV:=aH hv;have q:∀(w:World) (a:Option Addr) (n c n' c':Nat),(binOp .eql 54 (.slice a n c) (.slice none n' c')).run prog w=.ok (.bool a.isNone) w:=fun w a n c n' c'=>Lib.run_eql_slice_nil w _ _ a n c n' c' underlying54;obtain⟨A,c,rfl,hc⟩:=hv.shape;clear hv
 match A with
 |none=>
  have h0:o.length=0:=by
   rcases Nat.eq_zero_or_pos o.length with h|h
   ·exact h
   ·obtain⟨b,off,e,_⟩:=HV.out.elem h
    cases e
  obtain rfl:=List.eq_nil_of_length_eq_zero h0;clear HV h0 hc;simp only[List.length_nil];go_enter func175,ntmps175;go_wp2
  go_ret
  exact⟨_,rfl,Lk.Own.nil _ _,bR _ _⟩
 |some a=>
  have hn:KC.n≤7:=by decide
  go_enter func175,ntmps175;go_wp2_with (at_builtin;refine Lk.wpList_app (K:=KC) _ rfl _ _ rfl rfl w.heap.size w.heap.size _ _ [] o rfl rfl (Lk.Own.made w w.heap.size 0 #[] (nR _) (by unfold maxLen;omega) rfl) (HV.out.below (bL (bR _ w) _)) ?c1 ?c2 ?_)
  case c1=>simp;omega
  case c2=>simp
  intro v1 w4 CF hgrow _;have CW:=aH (Lk.Own.grow' (K:=KC) (Lk.Own.made w w.heap.size 0 #[] (nR _) (by unfold maxLen;omega) rfl) (bL (bR _ w) _) (by simp) hgrow);have DB:=aH CF;clear CF hgrow;go_wp2
  go_ret
  exact⟨_,rfl,by simpa using DB.out,CW.out⟩
theorem nW (v:Value) (o:List (Int×Int)) (w:World) (hv:KT.IsL w w.heap.size v o) (hl:o.length≤100000):Calls prog 176 #[v] w fun e w'=>∃v',e=.returned v'∧KT.Own w' w.heap.size v' o∧Below w.heap.size w w':=by
 have HV:=aH hv;have q:∀(w:World) (a:Option Addr) (n c n' c':Nat),(binOp .eql 39 (.slice a n c) (.slice none n' c')).run prog w=.ok (.bool a.isNone) w:=fun w a n c n' c'=>Lib.run_eql_slice_nil w _ _ a n c n' c' underlying39;obtain⟨A,c,rfl,hc⟩:=hv.shape;clear hv
 match A with
 |none=>
  have h0:o.length=0:=by
   rcases Nat.eq_zero_or_pos o.length with h|h
   ·exact h
   ·obtain⟨b,off,e,_⟩:=HV.out.elem h
    cases e
  obtain rfl:=List.eq_nil_of_length_eq_zero h0;clear HV h0 hc;simp only[List.length_nil];go_enter func176,ntmps176;go_wp2
  go_ret
  exact⟨_,rfl,Lk.Own.nil _ _,bR _ _⟩
 |some a=>
  have hn:KT.n≤7:=by decide
  go_enter func176,ntmps176;go_wp2_with (at_builtin;refine Lk.wpList_app (K:=KT) _ rfl _ _ rfl rfl w.heap.size w.heap.size _ _ [] o rfl rfl (Lk.Own.made w w.heap.size 0 #[] (nR _) (by unfold maxLen;omega) rfl) (HV.out.below (bL (bR _ w) _)) ?c1 ?c2 ?_)
  case c1=>simp;omega
  case c2=>simp
  intro v1 w4 CF hgrow _;have CW:=aH (Lk.Own.grow' (K:=KT) (Lk.Own.made w w.heap.size 0 #[] (nR _) (by unfold maxLen;omega) rfl) (bL (bR _ w) _) (by simp) hgrow);have DB:=aH CF;clear CF hgrow;go_wp2
  go_ret
  exact⟨_,rfl,by simpa using DB.out,CW.out⟩
end Go.Proofs.YtmecohdedghiaaaGreatDoor
namespace Go.Proofs.YtmecohdedghiaaaGreatDoor.Two
open Go.RowKit
theorem uP (w:World) (a b c d:Int):(Op.equalIn 10000 246 (.agg #[.int .u64 a,.int .u64 b]) (.agg #[.int .u64 c,.int .u64 d])).run prog w=.ok (a==c&&b==d) w:=by
  have hs:(sizeOf 28).run prog w=.ok 1 w:=by kernel_rfl
  show(Op.equalIn (9999+1) 246 (.agg #[.int .u64 a,.int .u64 b]) (.agg #[.int .u64 c,.int .u64 d])).run prog w=_;have p0:∀x y:Value,(part 28 #[x,y] 0).run prog w=.ok x w:=fun x y=>by kernel_rfl
  have p1:∀x y:Value,(part 28 #[x,y] 1).run prog w=.ok y w:=fun x y=>by kernel_rfl
  have q:∀x y:Int,(Op.equalIn 9999 28 (.int .u64 x) (.int .u64 y)).run prog w=.ok (x==y) w:=fun x y=>run_equalIn_int w 9998 28 .u64 .u64 x y underlying28;rw[Op.equalIn];simp only[Sem.run_bind,run_underlying underlying246,Result.andThen_ok,hs];rw[Std.Legacy.Range.forIn_eq_forIn_range'];simp only[Std.Legacy.Range.size,List.range',Nat.sub_zero,Nat.add_sub_cancel,Nat.div_one,List.forIn_cons,List.forIn_nil,Sem.run_bind,p0,q,Nat.zero_mul,Result.andThen_ok];by_cases h1:a=c
  · by_cases h2:b=d
    · subst h1;subst h2;simp[Sem.run_bind,Sem.run_pure,p1,q,Result.andThen]
    · subst h1;simp[h2,Sem.run_bind,Sem.run_pure,p1,q,Result.andThen]
  · simp[h1,Sem.run_pure,Result.andThen]
def sumL (l:List Int):Int:=l.foldl (· + ·) 0
theorem sumL_snoc (l:List Int) (x:Int):sumL (l++[x])=sumL l+x:=by unfold sumL;rw[List.foldl_append];rfl
theorem ri (l:List Int) (k:Nat) (h:k<l.length):sumL (l.take (k+1))=sumL (l.take k)+l.getD k 0:=by
  rw[List.take_succ_eq_append_getElem h,sumL_snoc,List.getD_eq_getElem?_getD,List.getElem?_eq_getElem h];rfl
theorem om (x:Int):ae (wrap64 x):=by unfold wrap64;constructor<;>omega
theorem n9 (l:List Int) (h:∀x∈l,ae x): -(9223372036854775808*(l.length:Int))≤sumL l∧sumL l≤9223372036854775808*(l.length:Int):=by
  suffices hh:∀(l:List Int) (a:Int),(∀x∈l,ae x)→a-9223372036854775808*(l.length:Int)≤l.foldl (· + ·) a∧l.foldl (· + ·) a≤a+9223372036854775808*(l.length:Int)by
    have:=hh l 0 h;unfold sumL;omega
  intro l
  induction l with
  |nil=>intro a _;simp
  |cons x r ih=>
    intro a h;have h1:=h x (by simp);have h2:=ih (a+x) (fun y hy=>h y (by simp[hy]));unfold ae at h1;rw[List.foldl_cons,List.length_cons];omega
theorem qk (s:Int) (h:ae s):((wrap64 (s%18446744073709551616)%18446744073709551616==s%18446744073709551616)&&(wrap64 (s%18446744073709551616)/18446744073709551616%18446744073709551616==s/18446744073709551616%18446744073709551616))=true∧wrap64 (s%18446744073709551616)=s:=by
  have e:wrap64 (s%18446744073709551616)=s:=by unfold ae at h;unfold wrap64;omega
  rw[e];simp
theorem qK (s:Int) (h:¬ae s) (h1: -85070591730234615865843651857942052864≤s) (h2:s≤85070591730234615865843651857942052864):((wrap64 (s%18446744073709551616)%18446744073709551616==s%18446744073709551616)&&(wrap64 (s%18446744073709551616)/18446744073709551616%18446744073709551616==s/18446744073709551616%18446744073709551616))=false:=by
  rw[Bool.and_eq_false_iff];right;rw[beq_eq_false_iff_ne];unfold ae at h;unfold wrap64;omega
def Cu (x:Int):Array Value:=#[.int .u64 (x%18446744073709551616),.int .u64 (x/18446744073709551616%18446744073709551616)]
theorem sum_any (v:Value) (xs:List Int) (w:World) (h:IsL w w.heap.size v xs):
    Calls prog 160 #[v] w fun e w'=>e=.returned (.tuple #[.int .i64 (bW (sumL xs)),.int .i64 (cj (sumL xs))])∧Below w.heap.size w w':=by
  obtain⟨⟨A,cap,rfl,hcap,hA⟩,De,Db⟩:=h;obtain⟨B,hB⟩:∃B,B=w.heap.size:=⟨_,rfl⟩;rw[←hB]at hA⊢;have HA:=aH hA;have HF:=aH De;have HB:=aH hB;clear hA De;go_enter func160,ntmps160;go_wp2;rw[←hB];clear hB
  go_loopw [10] (fun i wr=>∃k:Nat,k≤xs.length∧i=.int .i64 (k:Int)∧wr.heap[B]? =some (Obj.cells (Cu (sumL (xs.take k))) 246)∧Below B w wr) (fun i _=>xs.length-(intOf i).toNat)
  case atStart=>exact⟨0,Nat.zero_le _,rfl,by rw[HB.out,heap_alloc_new];rfl,by rw[HB.out];exact(bR _ _).alloc (nR _) _⟩
  case round=>
    obtain⟨k,hk,rfl,DK,Dy⟩:=hrel;have HR:=aH DK;have HL:=aH Dy;by_cases CI:k<xs.length
    · obtain⟨b,off,rfl,hbB,CD⟩:=HA.out (by omega)
      have hx:=CD k CI;rw[←Dy.cell (p:=⟨b,off+k,none⟩) hbB]at hx;have Nt:=dq HF.out k;have FR:=aH (ri xs k CI);generalize xs.getD k 0=x at *;generalize sumL (xs.take k)=s at *;have I4:=aH Nt;have FN:B<wr.heap.size:=(Array.getElem?_eq_some_iff.1 DK).1;have c0:wr.cell? ⟨B,0,none⟩=some (.int .u64 (s%18446744073709551616)):=cell_of_row wr B 0 _ _ _ DK;have c1:wr.cell? ⟨B,1,none⟩=some (.int .u64 (s/18446744073709551616%18446744073709551616)):=cell_of_row wr B 1 _ _ _ DK;have f0:wr.frozen? ⟨B,0,none⟩=false:=frozen_of_row wr B 0 _ _ DK;have f1:wr.frozen? ⟨B,1,none⟩=false:=frozen_of_row wr B 1 _ _ DK;clear DK Dy Nt CD;go_wp2
      go_region_with (first
        |(
          go_at_call 222;refine(fO x I4.out _).mono ?_;rintro e w1 ⟨rfl,CE⟩
          have c0':w1.cell? ⟨B,0,none⟩=_:=(CE.cell (p:=⟨B,0,none⟩) FN).trans c0;have c1':w1.cell? ⟨B,1,none⟩=_:=(CE.cell (p:=⟨B,1,none⟩) FN).trans c1;have f0':w1.frozen? ⟨B,0,none⟩=_:=(CE.frozen (p:=⟨B,0,none⟩) FN).trans f0;have f1':w1.frozen? ⟨B,1,none⟩=_:=(CE.frozen (p:=⟨B,1,none⟩) FN).trans f1;have CH:=aH CE;clear CE)
        |(
          go_at_call 221;refine(uq s x _).mono ?_;rintro e w2 ⟨rfl,CM⟩
          have c0'':w2.cell? ⟨B,0,none⟩=_:=(CM.cell (p:=⟨B,0,none⟩) (nL FN CH.out.size)).trans c0';have c1'':w2.cell? ⟨B,1,none⟩=_:=(CM.cell (p:=⟨B,1,none⟩) (nL FN CH.out.size)).trans c1';have f0'':w2.frozen? ⟨B,0,none⟩=_:=(CM.frozen (p:=⟨B,0,none⟩) (nL FN CH.out.size)).trans f0';have f1'':w2.frozen? ⟨B,1,none⟩=_:=(CM.frozen (p:=⟨B,1,none⟩) (nL FN CH.out.size)).trans f1';have CL:=aH CM;clear CM;unfold W2))
      all_goals
        go_wp2
        go_roundw
        case rel=>
          have r1:=(CH.out.block B FN).trans HR.out;have r2:=(CL.out.block B (nL FN CH.out.size)).trans r1;refine⟨k+1,by omega,ai (by omega),by rw[FR.out];exact dm _ _ _ _ _ _ r2,?_⟩;exact Below.setCell (Below.setCell ((HL.out.drew.trans (CH.out.mono (Nat.le_of_lt FN))).trans (CL.out.mono (Nat.le_of_lt (nL FN CH.out.size)))) (nR _) _) (nR _) _
        case measure=>simp[intOf];omega
    · obtain rfl:k=xs.length:=by omega
      rw[List.take_length]at *;have FN:B<wr.heap.size:=(Array.getElem?_eq_some_iff.1 DK).1;have LW:=aH (n9 xs HF.out);generalize hS:sumL xs=s at *;have EU:=aH hS;have c0:wr.cell? ⟨B,0,none⟩=some (.int .u64 (s%18446744073709551616)):=cell_of_row wr B 0 _ _ _ DK;have c1:wr.cell? ⟨B,1,none⟩=some (.int .u64 (s/18446744073709551616%18446744073709551616)):=cell_of_row wr B 1 _ _ _ DK;have NX:=aH (om (s%18446744073709551616));have Me: -85070591730234615865843651857942052864≤s∧s≤85070591730234615865843651857942052864:=by
        have:=LW.out;omega
      have FG:=aH Me;have QA:=fun w=>uP w (wrap64 (s%18446744073709551616)%18446744073709551616) (wrap64 (s%18446744073709551616)/18446744073709551616%18446744073709551616) (s%18446744073709551616) (s/18446744073709551616%18446744073709551616);clear DK Dy hS Me;by_cases Gx:ae s
      · obtain⟨e1,e2⟩:=qk s Gx
        rw[e1]at QA;have HV:=aH (show bW s=s from if_pos Gx);have HE:=aH (show cj s=0 from if_pos Gx);have H2:=aH e2;clear e1 e2 Gx;go_wp2
        go_region_with (first
          |(
            go_at_call 222;refine(fO _ NX.out _).mono ?_;rintro e w1 ⟨rfl,CE⟩
            have c0':w1.cell? ⟨B,0,none⟩=_:=(CE.cell (p:=⟨B,0,none⟩) FN).trans c0;have c1':w1.cell? ⟨B,1,none⟩=_:=(CE.cell (p:=⟨B,1,none⟩) FN).trans c1;have CH:=aH CE;clear CE;unfold W2))
        all_goals
          go_wp2
          go_ret2
          exact⟨bd (by rw[EU.out,H2.out,HV.out]) (by rw[EU.out,HE.out]),HL.out.drew.trans (CH.out.mono (Nat.le_of_lt FN))⟩
      · have e1:=qK s Gx FG.out.1 FG.out.2
        rw[e1]at QA;have HV:=aH (show bW s=0 from if_neg Gx);have HE:=aH (show cj s=4 from if_neg Gx);clear e1 Gx;go_wp2
        go_region_with (first
          |(
            go_at_call 222;refine(fO _ NX.out _).mono ?_;rintro e w1 ⟨rfl,CE⟩
            have c0':w1.cell? ⟨B,0,none⟩=_:=(CE.cell (p:=⟨B,0,none⟩) FN).trans c0;have c1':w1.cell? ⟨B,1,none⟩=_:=(CE.cell (p:=⟨B,1,none⟩) FN).trans c1;have CH:=aH CE;clear CE;unfold W2))
        all_goals
          go_wp2
          go_ret2
          exact⟨bd (by rw[EU.out,HV.out]) (by rw[EU.out,HE.out]),HL.out.drew.trans (CH.out.mono (Nat.le_of_lt FN))⟩
theorem cQ (x:Int) (l:List Int):sumL (x::l)=x+sumL l:=by
  suffices h:∀(l:List Int) (a b:Int),l.foldl (· + ·) (a+b)=a+l.foldl (· + ·) b by
    have:=h l x 0;unfold sumL;rw[List.foldl_cons,Int.zero_add]
    rwa [Int.add_zero]at this
  intro l
  induction l with
  |nil=>intro a b;rfl
  |cons y r ih=>intro a b;rw[List.foldl_cons,List.foldl_cons,Int.add_assoc,ih]
theorem uS (l:List Int) (h:∀x∈l,0≤x):0≤sumL l:=by
  induction l with
  |nil=>decide
  |cons x r ih=>rw[cQ];have:=h x (by simp);have:=ih (fun y hy=>h y (by simp[hy]));omega
theorem uU (l:List Int) (h:∀x∈l,x<0):sumL l≤0:=by
  induction l with
  |nil=>decide
  |cons x r ih=>rw[cQ];have:=h x (by simp);have:=ih (fun y hy=>h y (by simp[hy]));omega
theorem IsL.tail {w:World} {B b off cap:Nat} {x:Int} {r:List Int} (hb:b<B) (hc:∀i,i<(x::r).length→w.cell? ⟨b,off+i,none⟩=some (.int .i64 ((x::r).getD i 0)))
    (hcap:(x::r).length≤cap) (hf:∀y∈x::r,ae y) (hl:(x::r).length≤9223372036854775807):
    (cap=1→IsL w B (.slice (some ⟨b,off,none⟩) r.length 0) r)∧IsL w B (.slice (some ⟨b,off+1,none⟩) r.length (cap-1)) r:=by
  rw[List.length_cons]at hcap hl;refine⟨fun h1=>⟨⟨_,0,rfl,by omega,fun h0=>by omega⟩,fun y hy=>hf y (by simp[hy]),by omega⟩,⟨⟨_,cap-1,rfl,by omega,fun _=>⟨b,off+1,rfl,hb,fun i hi=>?_⟩⟩,fun y hy=>hf y (by simp[hy]),by omega⟩⟩;rw[show off+1+i=off+(i+1)by omega,hc (i+1) (by simp;omega)];rfl
def lenV:Value→Nat|.slice _ n _=>n|_=>0
theorem IsL.lenV {w:World} {B:Nat} {v:Value} {xs:List Int} (h:IsL w B v xs):lenV v=xs.length:=by
  obtain⟨⟨A,cap,rfl,_⟩,_⟩:=h;rfl
def Off2 (u v:Value):Prop:=∀k,u.ownBlock=some k→v.ownBlock≠some k
theorem Off2.symm {u v:Value} (h:Off2 u v):Off2 v u:=fun k h1 h2=>h k h2 h1
theorem Off2.grown {u v u':Value} {w:World} {base:Nat} {ys:List Int} (h:Off2 u v) (hv:Own w base v ys) (hu:u'.ownBlock=u.ownBlock∨u'.ownBlock=some w.heap.size):Off2 u' v:=by
  intro k hk IM;rcases hu with hu|hu
  · exact h k (hu▸hk) IM
  · rw[hu]at hk
    injection hk with hk
    have:=(hv.lt k IM).2;omega
theorem Own.apart {w w':World} {base:Nat} {u v:Value} {ys:List Int} (h:Own w base v ys) (hu:Off2 u v) (hg:w.grownBy w' u.ownBlock):Own w' base v ys:=by
  refine h.kept hg ?_
  cases hv:v.ownBlock with
  |none=>exact .inl rfl
  |some k=>
    refine .inr fun e=>?_;exact hu k e.symm hv
theorem Own.grow {S:Nat} {X W W':World} {v:Value} {xs:List Int} (h:Own W S v xs) (hb:Below S X W) (hs:S≤W.heap.size) (hg:W.grownBy W' v.ownBlock):Below S X W':=hb.grown hg hs fun k hk=>(h.lt k hk).1
structure Parts (l ups downs:List Int):Prop where
  sum:sumL ups+sumL downs=sumL l
  len:ups.length+downs.length=l.length
  up:∀x∈ups,0≤x
  down:∀x∈downs,x<0
theorem Parts.nil:Parts [] [] []:=⟨rfl,rfl,fun x hx=>by simp at hx,fun x hx=>by simp at hx⟩
theorem Parts.addUp {l ups downs:List Int} (h:Parts l ups downs) (x:Int) (hx:0≤x):Parts (l++[x]) (ups++[x]) downs:=
  ⟨by rw[sumL_snoc,sumL_snoc,←h.sum];omega,by simp;have:=h.len;omega,fun y hy=>by
    rcases List.mem_append.1 hy with hy|hy
    · exact h.up y hy
    · simp at hy;omega,h.down⟩
theorem Parts.addDown {l ups downs:List Int} (h:Parts l ups downs) (x:Int) (hx:x<0):Parts (l++[x]) ups (downs++[x]):=
  ⟨by rw[sumL_snoc,sumL_snoc,←h.sum];omega,by simp;have:=h.len;omega,h.up,fun y hy=>by
    rcases List.mem_append.1 hy with hy|hy
    · exact h.down y hy
    · simp at hy;omega⟩
structure Rest (S s:Int) (ups downs:List Int):Prop where
  sum:s+(sumL ups+sumL downs)=S
  fit:ae s
  up:∀x∈ups,0≤x
  down:∀x∈downs,x<0
  fup:∀x∈ups,ae x
  fdown:∀x∈downs,ae x
theorem Rest.takeUp {S s a:Int} {ra downs:List Int} (h:Rest S s (a::ra) downs) (hf:ae (s+a)):Rest S (s+a) ra downs:=
  ⟨by have:=h.sum;rw[cQ]at this;omega,hf,fun x hx=>h.up x (by simp[hx]),h.down,fun x hx=>h.fup x (by simp[hx]),h.fdown⟩
theorem Rest.takeDown {S s a:Int} {ups ra:List Int} (h:Rest S s ups (a::ra)) (hf:ae (s+a)):Rest S (s+a) ups ra:=
  ⟨by have:=h.sum;rw[cQ]at this;omega,hf,h.up,fun x hx=>h.down x (by simp[hx]),h.fup,fun x hx=>h.fdown x (by simp[hx])⟩
theorem Rest.overUp {S s a:Int} {ra downs:List Int} (h:Rest S s (a::ra) downs) (hc:downs=[]∨s<0) (hf:¬ae (s+a)):¬ae S:=by
  have h1:=h.fup a (by simp);have h2:=h.up a (by simp);have h3:=h.fit;have h4:=h.sum;have h5:=uS ra (fun x hx=>h.up x (by simp[hx]));rw[cQ]at h4;rcases hc with hc|hc
  · rw[hc,show sumL []=0 from rfl]at h4
    unfold ae at *;omega
  · unfold ae at *
    omega
theorem Rest.overDown {S s a:Int} {ups ra:List Int} (h:Rest S s ups (a::ra)) (hc:ups=[]∨0≤s) (hf:¬ae (s+a)):¬ae S:=by
  have h1:=h.fdown a (by simp);have h2:=h.down a (by simp);have h3:=h.fit;have h4:=h.sum;have h5:=uU ra (fun x hx=>h.down x (by simp[hx]));rw[cQ]at h4;rcases hc with hc|hc
  · rw[hc,show sumL []=0 from rfl]at h4
    unfold ae at *;omega
  · unfold ae at *
    omega
theorem Rest.done {S s:Int} (h:Rest S s [] []):S=s∧ae s:=by
  have:=h.sum;rw[show sumL []=0 from rfl]at this;exact⟨by omega,h.fit⟩
theorem rsum_any (v:Value) (xs:List Int) (w:World) (h:IsL w w.heap.size v xs) (hl:xs.length≤1000000):
    Calls prog 170 #[v] w fun e w'=>e=.returned (.tuple #[.int .i64 (bW (sumL xs)),.int .i64 (cj (sumL xs))])∧Below w.heap.size w w':=by
  obtain⟨⟨A,cap,rfl,hcap,hA⟩,De,Db⟩:=h;obtain⟨B,hB⟩:∃B,B=w.heap.size:=⟨_,rfl⟩;rw[←hB]at hA⊢;have HA:=aH hA;have HF:=aH De;have HB:=aH hB;have Nu:=aH (Nat.le_of_eq hB);clear hA De hB;go_enter func170,ntmps170;go_wp2
  go_loopw [4,5,6] (fun u d i wr=>∃(k:Nat) (ups downs:List Int),k≤xs.length∧i=.int .i64 (k:Int)∧Parts (xs.take k) ups downs∧Own wr B u ups∧Own wr B d downs∧Off2 u d∧Below B w wr) (fun _ _ i _=>xs.length-(intOf i).toNat)
  case atStart=>exact⟨0,[],[],Nat.zero_le _,rfl,Parts.nil,Own.nil _ _,Own.nil _ _,fun k hk=>by simp[Value.ownBlock]at hk,bR _ _⟩
  case round=>
    obtain⟨k,ups,downs,hk,rfl,hparts,hou,hod,hoff,Dy⟩:=hrel;have HP:=aH hparts;have HU:=aH hou;have HD:=aH hod;have HO:=aH hoff;have HL:=aH Dy;have Nm:B≤wr.heap.size:=Nat.le_trans Nu.out Dy.size;have FT:=hparts.len;rw[List.length_take]at FT;by_cases CI:k<xs.length
    · obtain⟨b,off,rfl,hbB,CD⟩:=HA.out (by omega)
      have hx:=CD k CI;rw[←Dy.cell (p:=⟨b,off+k,none⟩) hbB]at hx;have Nt:=dq HF.out k;have QP:xs.take (k+1)=xs.take k++[xs.getD k 0]:=by
        rw[List.take_succ_eq_append_getElem CI,List.getD_eq_getElem?_getD,List.getElem?_eq_getElem CI];rfl
      have FU:=aH QP;generalize xs.getD k 0=x at *;have I4:=aH Nt;have FD:=aH FT;have D7:=aH Nm;clear hparts hou hod hoff Dy Nt CD QP FT Nm;by_cases hx0:x<0
      · go_wp2_with (at_builtin;refine wpList_app _ rfl _ _ rfl B (wr.heap.size+1) _ _ downs [x] rfl rfl (HD.out.alloc _) (IsL.lit wr x I4.out) ?c1 ?c2 ?_)
        case c1=>have:=FD.out;simp;omega
        case c2=>have:=D7.out;simp;omega
        intro d' w1 hown' hgrow hat;have I7:=(HU.out.alloc (.cells #[.int .i64 x] 3)).apart HO.out.symm hgrow;have Gd:=(HO.out.symm.grown (HU.out.alloc (.cells #[.int .i64 x] 3)) (by rw[size_alloc];exact hat)).symm;have CE:=Own.grow (HD.out.alloc (.cells #[.int .i64 x] 3)) (HL.out.alloc D7.out _) (by have:=D7.out;simp;omega) hgrow;have H1:=aH hown';have H2:=aH I7;have H3:=aH Gd;have H4:=aH CE;clear hown' I7 Gd CE hgrow hat;go_wp2
        go_roundw
        case rel=>exact⟨k+1,ups,downs++[x],by omega,ai (by omega),by rw[FU.out];exact HP.out.addDown x hx0,H2.out,H1.out,H3.out,H4.out⟩
        case measure=>simp[intOf];omega
      · go_wp2_with (at_builtin;refine wpList_app _ rfl _ _ rfl B (wr.heap.size+1) _ _ ups [x] rfl rfl (HU.out.alloc _) (IsL.lit wr x I4.out) ?c1 ?c2 ?_)
        case c1=>have:=FD.out;simp;omega
        case c2=>have:=D7.out;simp;omega
        intro d' w1 hown' hgrow hat;have I7:=(HD.out.alloc (.cells #[.int .i64 x] 3)).apart HO.out hgrow;have Gd:=(HO.out.grown (HD.out.alloc (.cells #[.int .i64 x] 3)) (by rw[size_alloc];exact hat));have CE:=Own.grow (HU.out.alloc (.cells #[.int .i64 x] 3)) (HL.out.alloc D7.out _) (by have:=D7.out;simp;omega) hgrow;have H1:=aH hown';have H2:=aH I7;have H3:=aH Gd;have H4:=aH CE;clear hown' I7 Gd CE hgrow hat;go_wp2
        go_roundw
        case rel=>exact⟨k+1,ups++[x],downs,by omega,ai (by omega),by rw[FU.out];exact HP.out.addUp x (by omega),H1.out,H2.out,H3.out,H4.out⟩
        case measure=>simp[intOf];omega
    · obtain rfl:k=xs.length:=by omega
      rw[List.take_length]at *;have QV:=HU.out.isL (by omega);have DU:=HD.out.isL (by omega);have QW:=aH QV;have JX:=aH DU;have Ks:Rest (sumL xs) 0 ups downs:=⟨by have:=hparts.sum;omega,by decide,hparts.up,hparts.down,HU.out.2,HD.out.2⟩;have QN:=aH Ks;clear hparts hou hod hoff Dy FT QV DU Ks;obtain⟨w1,Fs⟩:∃w1,w1=wr:=⟨_,rfl⟩;subst Fs;go_wp2
      go_loopw [4,5,7] (fun u d i wr=>∃(ups downs:List Int) (s:Int) (n:Nat),IsL w1 w1.heap.size u ups∧IsL w1 w1.heap.size d downs∧i=.int .i64 s∧Rest (sumL xs) s ups downs∧wr=w1.drewN n) (fun u d _ _=>lenV u+lenV d)
      case atStart=>exact⟨ups,downs,0,0,QW.out,JX.out,rfl,QN.out,rfl⟩
      case round=>
        clear QW JX QN HU HD HP HO;obtain⟨ups,downs,s,n,hu,hd,rfl,hre,hw⟩:=hrel;have HU:=aH hu;have HD:=aH hd;have HR:=aH hre;have HW:=aH hw;obtain⟨⟨Au,cu,rfl,hcu,hAu⟩,_,hlu⟩:=hu;obtain⟨⟨Ad,cd,rfl,hcd,hAd⟩,_,hld⟩:=hd;have Ry:=aH hAu;have JB:=aH hAd;clear hre hw hAu hAd
        match hup:ups,hdn:downs with
        |[],[]=>
          have hd:=HR.out.done;obtain⟨hS,hf⟩:=hd;have HS:=aH hS;have Ij:=aH hf;clear hS hf;go_wp2
          go_ret2
          exact⟨bd (by rw[bW,HS.out,if_pos Ij.out]) (by rw[cj,HS.out,if_pos Ij.out]),by rw[HW.out];exact aa HL.out _⟩
        |a::ra,[]=>
          obtain⟨b,off,rfl,hbB,CD⟩:=Ry.out (by simp);have hx:wr.cell? ⟨b,off,none⟩=some (.int .i64 a):=by
            have e:=CD 0 (by simp);rw[HW.out];exact e
          have HT:=aH (IsL.tail hbB CD hcu HU.out.2.1 hlu);have FA:=aH HR.out.fit;have DL:=aH (HR.out.fup a (by simp));clear CD;go_wp2;go_quiet (fail);go_wp2_with fail;all_goals
            refine(dY s a FA.out DL.out _).mono ?_;rintro e w' ⟨rfl,rfl⟩;by_cases hf:ae (s+a)
            · have hv:bW (s+a)=s+a:=if_pos hf
              have he:cj (s+a)=0:=if_pos hf;have Ij:=aH hf;clear hf;go_wp2
              go_roundw
              case rel=>
                have hf:=Ij.out;have e:=HW.out
                first
                  |exact⟨ra,[],s+a,_,HT.out.1 ‹_›,HD.out,rfl,HR.out.takeUp hf,by rw[e];exact World.drewN_drewN _ _ _⟩
                  |exact⟨ra,[],s+a,_,HT.out.2,HD.out,rfl,HR.out.takeUp hf,by rw[e];exact World.drewN_drewN _ _ _⟩
              case measure=>simp[lenV]
            · have hv:bW (s+a)=0:=if_neg hf
              have he:cj (s+a)=4:=if_neg hf;have G8:=HR.out.overUp (Or.inl rfl) hf;have Fc:=aH G8;clear hf G8;go_wp2
              go_ret2
              exact⟨bd (by rw[bW,if_neg Fc.out]) (by rw[cj,if_neg Fc.out]),by rw[HW.out];exact aa (aa HL.out _) _⟩
        |[],c::rc=>
          by_cases Iw:s<0
          · have Dq:=aH Iw
            obtain⟨b,off,rfl,hbB,CD⟩:=JB.out (by simp);have hx:wr.cell? ⟨b,off,none⟩=some (.int .i64 c):=by
              have e:=CD 0 (by simp);rw[HW.out];exact e
            have HT:=aH (IsL.tail hbB CD hcd HD.out.2.1 hld);have FA:=aH HR.out.fit;have DL:=aH (HR.out.fdown c (by simp));clear CD;go_wp2;go_quiet (fail);go_wp2_with fail;all_goals
              refine(dY s c FA.out DL.out _).mono ?_;rintro e w' ⟨rfl,rfl⟩;by_cases hf:ae (s+c)
              · have hv:bW (s+c)=s+c:=if_pos hf
                have he:cj (s+c)=0:=if_pos hf;have Ij:=aH hf;clear hf;go_wp2
                go_roundw
                case rel=>
                  have hf:=Ij.out;have e:=HW.out
                  first
                    |exact⟨[],rc,s+c,_,HU.out,HT.out.1 ‹_›,rfl,HR.out.takeDown hf,by rw[e];exact World.drewN_drewN _ _ _⟩
                    |exact⟨[],rc,s+c,_,HU.out,HT.out.2,rfl,HR.out.takeDown hf,by rw[e];exact World.drewN_drewN _ _ _⟩
                case measure=>simp[lenV]
              · have hv:bW (s+c)=0:=if_neg hf
                have he:cj (s+c)=4:=if_neg hf;have G8:=HR.out.overDown (Or.inl rfl) hf;have Fc:=aH G8;clear hf G8;go_wp2
                go_ret2
                exact⟨bd (by rw[bW,if_neg Fc.out]) (by rw[cj,if_neg Fc.out]),by rw[HW.out];exact aa (aa HL.out _) _⟩
          · have Dq:=aH Iw
            obtain⟨b,off,rfl,hbB,CD⟩:=JB.out (by simp);have hx:wr.cell? ⟨b,off,none⟩=some (.int .i64 c):=by
              have e:=CD 0 (by simp);rw[HW.out];exact e
            have HT:=aH (IsL.tail hbB CD hcd HD.out.2.1 hld);have FA:=aH HR.out.fit;have DL:=aH (HR.out.fdown c (by simp));clear CD;go_wp2;go_quiet (fail);go_wp2_with fail;all_goals
              refine(dY s c FA.out DL.out _).mono ?_;rintro e w' ⟨rfl,rfl⟩;by_cases hf:ae (s+c)
              · have hv:bW (s+c)=s+c:=if_pos hf
                have he:cj (s+c)=0:=if_pos hf;have Ij:=aH hf;clear hf;go_wp2
                go_roundw
                case rel=>
                  have hf:=Ij.out;have e:=HW.out
                  first
                    |exact⟨[],rc,s+c,_,HU.out,HT.out.1 ‹_›,rfl,HR.out.takeDown hf,by rw[e];exact World.drewN_drewN _ _ _⟩
                    |exact⟨[],rc,s+c,_,HU.out,HT.out.2,rfl,HR.out.takeDown hf,by rw[e];exact World.drewN_drewN _ _ _⟩
                case measure=>simp[lenV]
              · have hv:bW (s+c)=0:=if_neg hf
                have he:cj (s+c)=4:=if_neg hf;have G8:=HR.out.overDown (Or.inl rfl) hf;have Fc:=aH G8;clear hf G8;go_wp2
                go_ret2
                exact⟨bd (by rw[bW,if_neg Fc.out]) (by rw[cj,if_neg Fc.out]),by rw[HW.out];exact aa (aa HL.out _) _⟩
        |a::ra,c::rc=>
          have CJ:((ra.length:Int)+1==0)=false:=(by rw[beq_eq_false_iff_ne];omega);by_cases Iw:s<0
          · have Dq:=aH Iw
            obtain⟨b,off,rfl,hbB,CD⟩:=Ry.out (by simp);have hx:wr.cell? ⟨b,off,none⟩=some (.int .i64 a):=by
              have e:=CD 0 (by simp);rw[HW.out];exact e
            have HT:=aH (IsL.tail hbB CD hcu HU.out.2.1 hlu);have FA:=aH HR.out.fit;have DL:=aH (HR.out.fup a (by simp));clear CD;go_wp2;go_quiet (fail);go_wp2_with fail;all_goals
              refine(dY s a FA.out DL.out _).mono ?_;rintro e w' ⟨rfl,rfl⟩;by_cases hf:ae (s+a)
              · have hv:bW (s+a)=s+a:=if_pos hf
                have he:cj (s+a)=0:=if_pos hf;have Ij:=aH hf;clear hf;go_wp2
                go_roundw
                case rel=>
                  have hf:=Ij.out;have e:=HW.out
                  first
                    |exact⟨ra,c::rc,s+a,_,HT.out.1 ‹_›,HD.out,rfl,HR.out.takeUp hf,by rw[e];exact World.drewN_drewN _ _ _⟩
                    |exact⟨ra,c::rc,s+a,_,HT.out.2,HD.out,rfl,HR.out.takeUp hf,by rw[e];exact World.drewN_drewN _ _ _⟩
                case measure=>simp[lenV]
              · have hv:bW (s+a)=0:=if_neg hf
                have he:cj (s+a)=4:=if_neg hf;have G8:=HR.out.overUp (Or.inr Dq.out) hf;have Fc:=aH G8;clear hf G8;go_wp2
                go_ret2
                exact⟨bd (by rw[bW,if_neg Fc.out]) (by rw[cj,if_neg Fc.out]),by rw[HW.out];exact aa (aa HL.out _) _⟩
          · have Dq:=aH Iw
            obtain⟨b,off,rfl,hbB,CD⟩:=JB.out (by simp);have hx:wr.cell? ⟨b,off,none⟩=some (.int .i64 c):=by
              have e:=CD 0 (by simp);rw[HW.out];exact e
            have HT:=aH (IsL.tail hbB CD hcd HD.out.2.1 hld);have FA:=aH HR.out.fit;have DL:=aH (HR.out.fdown c (by simp));clear CD;go_wp2;go_quiet (fail);go_wp2_with fail;all_goals
              refine(dY s c FA.out DL.out _).mono ?_;rintro e w' ⟨rfl,rfl⟩;by_cases hf:ae (s+c)
              · have hv:bW (s+c)=s+c:=if_pos hf
                have he:cj (s+c)=0:=if_pos hf;have Ij:=aH hf;clear hf;go_wp2
                go_roundw
                case rel=>
                  have hf:=Ij.out;have e:=HW.out
                  first
                    |exact⟨a::ra,rc,s+c,_,HU.out,HT.out.1 ‹_›,rfl,HR.out.takeDown hf,by rw[e];exact World.drewN_drewN _ _ _⟩
                    |exact⟨a::ra,rc,s+c,_,HU.out,HT.out.2,rfl,HR.out.takeDown hf,by rw[e];exact World.drewN_drewN _ _ _⟩
                case measure=>simp[lenV]
              · have hv:bW (s+c)=0:=if_neg hf
                have he:cj (s+c)=4:=if_neg hf;have G8:=HR.out.overDown (Or.inr (by have:=Dq.out;omega)) hf;have Fc:=aH G8;clear hf G8;go_wp2
                go_ret2
                exact⟨bd (by rw[bW,if_neg Fc.out]) (by rw[cj,if_neg Fc.out]),by rw[HW.out];exact aa (aa HL.out _) _⟩
end Go.Proofs.YtmecohdedghiaaaGreatDoor.Two
