/- Lists copied. -/
import Derived.Test.YtmecohdedghiaaaGreatDoorPn00
import Derived.Test.YtmecohdedghiaaaGreatDoorPn13
import Derived.Test.YtmecohdedghiaaaGreatDoorPn15
import Derived.Test.YtmecohdedghiaaaGreatDoorPn14
set_option maxRecDepth 100000
set_option maxHeartbeats 8000000
namespace Go.Proofs.YtmecohdedghiaaaGreatDoor
open Go.RowKit
theorem clone_floats (v:Value) (o:List (Nat)) (w:World) (hv:KF.IsL w w.heap.size v o) (hl:o.length≤100000):Calls Tryz.prog 98 #[v] w fun e w'=>∃v',e=.returned v'∧KF.Own w' w.heap.size v' o∧Below w.heap.size w w':=by
 have HV:=aH hv;have q:∀(w:World) (a:Option Addr) (n c n' c':Nat),(binOp .eql 22 (.slice a n c) (.slice none n' c')).run Tryz.prog w=.ok (.bool a.isNone) w:=fun w a n c n' c'=>Lib.run_eql_slice_nil w _ _ a n c n' c' Tryz.underlying22;obtain⟨A,c,rfl,hc⟩:=hv.shape;clear hv
 match A with
 |none=>
  have h0:o.length=0:=by
   rcases Nat.eq_zero_or_pos o.length with h|h
   ·exact h
   ·obtain⟨b,off,e,_⟩:=HV.out.elem h
    cases e
  obtain rfl:=List.eq_nil_of_length_eq_zero h0;clear HV h0 hc;simp only[List.length_nil];go_enter Tryz.func98,Tryz.ntmps98;go_wp2
  go_ret
  exact⟨_,rfl,Lk.Own.nil _ _,bR _ _⟩
 |some a=>
  have hn:KF.n≤7:=by decide
  go_enter Tryz.func98,Tryz.ntmps98;go_wp2_with (at_builtin;refine Lk.wpList_app (K:=KF) _ rfl _ _ rfl rfl w.heap.size w.heap.size _ _ [] o rfl rfl (Lk.Own.made w w.heap.size 0 #[] (nR _) (by unfold maxLen;omega) rfl) (HV.out.below (bL (bR _ w) _)) ?c1 ?c2 ?_)
  case c1=>simp;omega
  case c2=>simp
  intro v1 w4 hown hgrow _;have HB4:=aH (Lk.Own.grow' (K:=KF) (Lk.Own.made w w.heap.size 0 #[] (nR _) (by unfold maxLen;omega) rfl) (bL (bR _ w) _) (by simp) hgrow);have HO4:=aH hown;clear hown hgrow;go_wp2
  go_ret
  exact⟨_,rfl,by simpa using HO4.out,HB4.out⟩
theorem clone_plates (v:Value) (o:List (Pl)) (w:World) (hv:KP.IsL w w.heap.size v o) (hl:o.length≤100000):Calls Tryz.prog 99 #[v] w fun e w'=>∃v',e=.returned v'∧KP.Own w' w.heap.size v' o∧Below w.heap.size w w':=by
 have HV:=aH hv;have q:∀(w:World) (a:Option Addr) (n c n' c':Nat),(binOp .eql 23 (.slice a n c) (.slice none n' c')).run Tryz.prog w=.ok (.bool a.isNone) w:=fun w a n c n' c'=>Lib.run_eql_slice_nil w _ _ a n c n' c' Tryz.underlying23;obtain⟨A,c,rfl,hc⟩:=hv.shape;clear hv
 match A with
 |none=>
  have h0:o.length=0:=by
   rcases Nat.eq_zero_or_pos o.length with h|h
   ·exact h
   ·obtain⟨b,off,e,_⟩:=HV.out.elem h
    cases e
  obtain rfl:=List.eq_nil_of_length_eq_zero h0;clear HV h0 hc;simp only[List.length_nil];go_enter Tryz.func99,Tryz.ntmps99;go_wp2
  go_ret
  exact⟨_,rfl,Lk.Own.nil _ _,bR _ _⟩
 |some a=>
  have hn:KP.n≤7:=by decide
  go_enter Tryz.func99,Tryz.ntmps99;go_wp2_with (at_builtin;refine Lk.wpList_app (K:=KP) _ rfl _ _ rfl rfl w.heap.size w.heap.size _ _ [] o rfl rfl (Lk.Own.made w w.heap.size 0 #[] (nR _) (by unfold maxLen;omega) rfl) (HV.out.below (bL (bR _ w) _)) ?c1 ?c2 ?_)
  case c1=>simp;omega
  case c2=>simp
  intro v1 w4 hown hgrow _;have HB4:=aH (Lk.Own.grow' (K:=KP) (Lk.Own.made w w.heap.size 0 #[] (nR _) (by unfold maxLen;omega) rfl) (bL (bR _ w) _) (by simp) hgrow);have HO4:=aH hown;clear hown hgrow;go_wp2
  go_ret
  exact⟨_,rfl,by simpa using HO4.out,HB4.out⟩
theorem clone_racks (v:Value) (o:List (Rk)) (w:World) (hv:KR.IsL w w.heap.size v o) (hl:o.length≤100000):Calls Tryz.prog 101 #[v] w fun e w'=>∃v',e=.returned v'∧KR.Own w' w.heap.size v' o∧Below w.heap.size w w':=by
 have HV:=aH hv;have q:∀(w:World) (a:Option Addr) (n c n' c':Nat),(binOp .eql 24 (.slice a n c) (.slice none n' c')).run Tryz.prog w=.ok (.bool a.isNone) w:=fun w a n c n' c'=>Lib.run_eql_slice_nil w _ _ a n c n' c' Tryz.underlying24;obtain⟨A,c,rfl,hc⟩:=hv.shape;clear hv
 match A with
 |none=>
  have h0:o.length=0:=by
   rcases Nat.eq_zero_or_pos o.length with h|h
   ·exact h
   ·obtain⟨b,off,e,_⟩:=HV.out.elem h
    cases e
  obtain rfl:=List.eq_nil_of_length_eq_zero h0;clear HV h0 hc;simp only[List.length_nil];go_enter Tryz.func101,Tryz.ntmps101;go_wp2
  go_ret
  exact⟨_,rfl,Lk.Own.nil _ _,bR _ _⟩
 |some a=>
  have hn:KR.n≤7:=by decide
  go_enter Tryz.func101,Tryz.ntmps101;go_wp2_with (at_builtin;refine Lk.wpList_app (K:=KR) _ rfl _ _ rfl rfl w.heap.size w.heap.size _ _ [] o rfl rfl (Lk.Own.made w w.heap.size 0 #[] (nR _) (by unfold maxLen;omega) rfl) (HV.out.below (bL (bR _ w) _)) ?c1 ?c2 ?_)
  case c1=>simp;omega
  case c2=>simp
  intro v1 w4 hown hgrow _;have HB4:=aH (Lk.Own.grow' (K:=KR) (Lk.Own.made w w.heap.size 0 #[] (nR _) (by unfold maxLen;omega) rfl) (bL (bR _ w) _) (by simp) hgrow);have HO4:=aH hown;clear hown hgrow;go_wp2
  go_ret
  exact⟨_,rfl,by simpa using HO4.out,HB4.out⟩
theorem clone_cells (v:Value) (o:List (Cel.Ce)) (w:World) (hv:KE.IsL w w.heap.size v o) (hl:o.length≤100000):Calls Tryz.prog 173 #[v] w fun e w'=>∃v',e=.returned v'∧KE.Own w' w.heap.size v' o∧Below w.heap.size w w':=by
 have HV:=aH hv;have q:∀(w:World) (a:Option Addr) (n c n' c':Nat),(binOp .eql 37 (.slice a n c) (.slice none n' c')).run Tryz.prog w=.ok (.bool a.isNone) w:=fun w a n c n' c'=>Lib.run_eql_slice_nil w _ _ a n c n' c' Tryz.underlying37;obtain⟨A,c,rfl,hc⟩:=hv.shape;clear hv
 match A with
 |none=>
  have h0:o.length=0:=by
   rcases Nat.eq_zero_or_pos o.length with h|h
   ·exact h
   ·obtain⟨b,off,e,_⟩:=HV.out.elem h
    cases e
  obtain rfl:=List.eq_nil_of_length_eq_zero h0;clear HV h0 hc;simp only[List.length_nil];go_enter Tryz.func173,Tryz.ntmps173;go_wp2
  go_ret
  exact⟨_,rfl,Lk.Own.nil _ _,bR _ _⟩
 |some a=>
  have hn:KE.n≤7:=by decide
  go_enter Tryz.func173,Tryz.ntmps173;go_wp2_with (at_builtin;refine Lk.wpList_app (K:=KE) _ rfl _ _ rfl rfl w.heap.size w.heap.size _ _ [] o rfl rfl (Lk.Own.made w w.heap.size 0 #[] (nR _) (by unfold maxLen;omega) rfl) (HV.out.below (bL (bR _ w) _)) ?c1 ?c2 ?_)
  case c1=>simp;omega
  case c2=>simp
  intro v1 w4 hown hgrow _;have HB4:=aH (Lk.Own.grow' (K:=KE) (Lk.Own.made w w.heap.size 0 #[] (nR _) (by unfold maxLen;omega) rfl) (bL (bR _ w) _) (by simp) hgrow);have HO4:=aH hown;clear hown hgrow;go_wp2
  go_ret
  exact⟨_,rfl,by simpa using HO4.out,HB4.out⟩
theorem clone_logs (v:Value) (o:List (Lo)) (w:World) (hv:KL.IsL w w.heap.size v o) (hl:o.length≤100000):Calls Tryz.prog 174 #[v] w fun e w'=>∃v',e=.returned v'∧KL.Own w' w.heap.size v' o∧Below w.heap.size w w':=by
 have HV:=aH hv;have q:∀(w:World) (a:Option Addr) (n c n' c':Nat),(binOp .eql 38 (.slice a n c) (.slice none n' c')).run Tryz.prog w=.ok (.bool a.isNone) w:=fun w a n c n' c'=>Lib.run_eql_slice_nil w _ _ a n c n' c' Tryz.underlying38;obtain⟨A,c,rfl,hc⟩:=hv.shape;clear hv
 match A with
 |none=>
  have h0:o.length=0:=by
   rcases Nat.eq_zero_or_pos o.length with h|h
   ·exact h
   ·obtain⟨b,off,e,_⟩:=HV.out.elem h
    cases e
  obtain rfl:=List.eq_nil_of_length_eq_zero h0;clear HV h0 hc;simp only[List.length_nil];go_enter Tryz.func174,Tryz.ntmps174;go_wp2
  go_ret
  exact⟨_,rfl,Lk.Own.nil _ _,bR _ _⟩
 |some a=>
  have hn:KL.n≤7:=by decide
  go_enter Tryz.func174,Tryz.ntmps174;go_wp2_with (at_builtin;refine Lk.wpList_app (K:=KL) _ rfl _ _ rfl rfl w.heap.size w.heap.size _ _ [] o rfl rfl (Lk.Own.made w w.heap.size 0 #[] (nR _) (by unfold maxLen;omega) rfl) (HV.out.below (bL (bR _ w) _)) ?c1 ?c2 ?_)
  case c1=>simp;omega
  case c2=>simp
  intro v1 w4 hown hgrow _;have HB4:=aH (Lk.Own.grow' (K:=KL) (Lk.Own.made w w.heap.size 0 #[] (nR _) (by unfold maxLen;omega) rfl) (bL (bR _ w) _) (by simp) hgrow);have HO4:=aH hown;clear hown hgrow;go_wp2
  go_ret
  exact⟨_,rfl,by simpa using HO4.out,HB4.out⟩
theorem clone_changes (v:Value) (o:List (Ch)) (w:World) (hv:KC.IsL w w.heap.size v o) (hl:o.length≤100000):Calls Tryz.prog 175 #[v] w fun e w'=>∃v',e=.returned v'∧KC.Own w' w.heap.size v' o∧Below w.heap.size w w':=by
 have HV:=aH hv;have q:∀(w:World) (a:Option Addr) (n c n' c':Nat),(binOp .eql 54 (.slice a n c) (.slice none n' c')).run Tryz.prog w=.ok (.bool a.isNone) w:=fun w a n c n' c'=>Lib.run_eql_slice_nil w _ _ a n c n' c' Tryz.underlying54;obtain⟨A,c,rfl,hc⟩:=hv.shape;clear hv
 match A with
 |none=>
  have h0:o.length=0:=by
   rcases Nat.eq_zero_or_pos o.length with h|h
   ·exact h
   ·obtain⟨b,off,e,_⟩:=HV.out.elem h
    cases e
  obtain rfl:=List.eq_nil_of_length_eq_zero h0;clear HV h0 hc;simp only[List.length_nil];go_enter Tryz.func175,Tryz.ntmps175;go_wp2
  go_ret
  exact⟨_,rfl,Lk.Own.nil _ _,bR _ _⟩
 |some a=>
  have hn:KC.n≤7:=by decide
  go_enter Tryz.func175,Tryz.ntmps175;go_wp2_with (at_builtin;refine Lk.wpList_app (K:=KC) _ rfl _ _ rfl rfl w.heap.size w.heap.size _ _ [] o rfl rfl (Lk.Own.made w w.heap.size 0 #[] (nR _) (by unfold maxLen;omega) rfl) (HV.out.below (bL (bR _ w) _)) ?c1 ?c2 ?_)
  case c1=>simp;omega
  case c2=>simp
  intro v1 w4 hown hgrow _;have HB4:=aH (Lk.Own.grow' (K:=KC) (Lk.Own.made w w.heap.size 0 #[] (nR _) (by unfold maxLen;omega) rfl) (bL (bR _ w) _) (by simp) hgrow);have HO4:=aH hown;clear hown hgrow;go_wp2
  go_ret
  exact⟨_,rfl,by simpa using HO4.out,HB4.out⟩
theorem clone_tips (v:Value) (o:List (Int×Int)) (w:World) (hv:KT.IsL w w.heap.size v o) (hl:o.length≤100000):Calls Tryz.prog 176 #[v] w fun e w'=>∃v',e=.returned v'∧KT.Own w' w.heap.size v' o∧Below w.heap.size w w':=by
 have HV:=aH hv;have q:∀(w:World) (a:Option Addr) (n c n' c':Nat),(binOp .eql 39 (.slice a n c) (.slice none n' c')).run Tryz.prog w=.ok (.bool a.isNone) w:=fun w a n c n' c'=>Lib.run_eql_slice_nil w _ _ a n c n' c' Tryz.underlying39;obtain⟨A,c,rfl,hc⟩:=hv.shape;clear hv
 match A with
 |none=>
  have h0:o.length=0:=by
   rcases Nat.eq_zero_or_pos o.length with h|h
   ·exact h
   ·obtain⟨b,off,e,_⟩:=HV.out.elem h
    cases e
  obtain rfl:=List.eq_nil_of_length_eq_zero h0;clear HV h0 hc;simp only[List.length_nil];go_enter Tryz.func176,Tryz.ntmps176;go_wp2
  go_ret
  exact⟨_,rfl,Lk.Own.nil _ _,bR _ _⟩
 |some a=>
  have hn:KT.n≤7:=by decide
  go_enter Tryz.func176,Tryz.ntmps176;go_wp2_with (at_builtin;refine Lk.wpList_app (K:=KT) _ rfl _ _ rfl rfl w.heap.size w.heap.size _ _ [] o rfl rfl (Lk.Own.made w w.heap.size 0 #[] (nR _) (by unfold maxLen;omega) rfl) (HV.out.below (bL (bR _ w) _)) ?c1 ?c2 ?_)
  case c1=>simp;omega
  case c2=>simp
  intro v1 w4 hown hgrow _;have HB4:=aH (Lk.Own.grow' (K:=KT) (Lk.Own.made w w.heap.size 0 #[] (nR _) (by unfold maxLen;omega) rfl) (bL (bR _ w) _) (by simp) hgrow);have HO4:=aH hown;clear hown hgrow;go_wp2
  go_ret
  exact⟨_,rfl,by simpa using HO4.out,HB4.out⟩
end Go.Proofs.YtmecohdedghiaaaGreatDoor
