/- Cells: moves. -/
import Derived.Test.YtacjonncakhhmaaGreatPy00
import Derived.Test.YtacjonncakhhmaaGreatPy01
set_option maxRecDepth 100000
set_option maxHeartbeats 8000000
namespace Go.Proofs.YtacjonncakhhmaaGreat.Cel
open Go.RowKit
def wpIn (P:Program) (c:Code) (Q:Exit→Act→World→Prop) (a:Act) (w:World):Prop:=
 ∀(b:Frame) (k:List Item) (cs:List Frame),∃e a' w',Q e a' w'∧Arrives P (lone (b.at a (.code c:: .inLoop c::k)) cs w) b k cs e a' w'
theorem wp_loop_in {P:Program} {c:Code} {Q:Exit→Act→World→Prop} {a:Act} {w:World} (h:wpIn P c Q a w):(Code.loop c).wp P Q a w:=by
 intro b k cs;obtain⟨e,a',w',hq,harr⟩:=h b k cs;exact⟨e,a',w',hq,.of_steps (.one step_loop) harr⟩
theorem wp_round {P:Program} {c:Code} {Q:Exit→Act→World→Prop} {a:Act} {w:World} (round:c.wp P (Exit.then (wpIn P c Q) Q) a w):wpIn P c Q a w:=by
 intro b k cs;obtain⟨e,a₁,w₁,hq,harr⟩:=round b (.inLoop c::k) cs
 cases e with
 | normal=>
  obtain⟨e₂,a₂,w₂,hq₂,harr₂⟩:=hq b k cs;exact⟨e₂,a₂,w₂,hq₂,.of_steps (Steps.trans harr (.one step_inLoop)) harr₂⟩
 | exit id=>exact⟨_,a₁,w₁,hq,.pass (x:=.inLoop c) rfl (fun _ _=>.inl (by simp)) harr⟩
 | goto l=>exact⟨_,a₁,w₁,hq,.pass (x:=.inLoop c) rfl (fun _ _=>.inl (by simp)) harr⟩
 | ret=>exact⟨_,a₁,w₁,hq,.pass (x:=.inLoop c) rfl (fun _ _=>.inl (by simp)) harr⟩
 | panic ch=>exact⟨_,a₁,w₁,hq,.pass (x:=.inLoop c) rfl (fun _ _=>.inl (by simp)) harr⟩
 | outgrown=>exact⟨_,a₁,w₁,hq,.pass (x:=.inLoop c) rfl (fun _ _=>.inl (by simp)) harr⟩
theorem run_at0 (a b c f g h:Int) (w:World):(Instr.index 117 (.agg #[.int .i64 a,.int .i64 b,.int .i64 c,.int .i64 f,.int .i64 g,.int .i64 h]) (.int .i64 0)).run Tryz.prog w=.ok (.agg #[.int .i64 a,.int .i64 b,.int .i64 c]) w:=by kernel_rfl
theorem run_at1 (a b c f g h:Int) (w:World):(Instr.index 117 (.agg #[.int .i64 a,.int .i64 b,.int .i64 c,.int .i64 f,.int .i64 g,.int .i64 h]) (.int .i64 1)).run Tryz.prog w=.ok (.agg #[.int .i64 f,.int .i64 g,.int .i64 h]) w:=by kernel_rfl
theorem aN {b b' o o':Nat} (h:b≠b'∨o≠o'):(⟨b,o,none⟩:Addr)≠⟨b',o',none⟩:=by
 intro e
 cases e
 rcases h with h | h <;> exact h rfl
def mvE (x y:Ce) (n:Int):Int:=if chE x (-(max n 0))=0 then chE y (max n 0)else chE x (-(max n 0))
def mvX (x y:Ce) (n:Int):Ce:=if mvE x y n=0 then chV x (-(max n 0))else nought
def mvY (x y:Ce) (n:Int):Ce:=if mvE x y n=0 then chV y (max n 0)else nought
abbrev ceEE (x y:Ce) (e:Int):Value:=.tuple #[.agg #[.int .i64 x.a,.int .i64 x.b,.int .i64 x.c],.agg #[.int .i64 y.a,.int .i64 y.b,.int .i64 y.c],.int .i64 e]
theorem move_any (x y:Ce) (n:Int) (hx:x.Fit) (hy:y.Fit) (hn:fits n) (w:World):Calls Tryz.prog 37 #[x.v,y.v,.int .i64 n] w fun e w'=>e=.returned (ceEE (mvX x y n) (mvY x y n) (mvE x y n))∧Below w.heap.size w w':=by
 obtain⟨a,b,c⟩:=x;obtain⟨f,g,h⟩:=y;have HK:=aH (fun w=>draw_any ⟨a,b,c⟩ n hx hn w);have HP:=aH (fun w=>pour_any ⟨f,g,h⟩ n hy hn w);by_cases e1:chE ⟨a,b,c⟩ (-(max n 0))=0
 ·rw[e1]at HK;have T0:mvE ⟨a,b,c⟩ ⟨f,g,h⟩ n=chE ⟨f,g,h⟩ (max n 0):=by unfold mvE;rw[if_pos e1]
  by_cases e2:chE ⟨f,g,h⟩ (max n 0)=0
  ·have T:=T0.trans e2;have U:mvX ⟨a,b,c⟩ ⟨f,g,h⟩ n=chV ⟨a,b,c⟩ (-(max n 0)):=by unfold mvX;rw[if_pos T]
   have V:mvY ⟨a,b,c⟩ ⟨f,g,h⟩ n=chV ⟨f,g,h⟩ (max n 0):=by unfold mvY;rw[if_pos T]
   rw[T,U,V];rw[e2]at HP;generalize chV ⟨a,b,c⟩ (-(max n 0))=r at *;generalize chV ⟨f,g,h⟩ (max n 0)=t at *;obtain⟨p,q,r⟩:=r;obtain⟨s,t,u⟩:=t;clear T0 T U V e1 e2 hx hy hn;have hq2:w.heap.size<w.heap.size+1+1:=by omega
   have hq3:w.heap.size<w.heap.size+1+1+1:=by omega
   have hq4:w.heap.size<w.heap.size+1+1+1+1:=by omega
   have hq5:w.heap.size<w.heap.size+1+1+1+1+1:=by omega
   have hi0:=fun w=>run_at0 a b c f g h w;have hi1:=fun w=>run_at1 a b c f g h w;go_enter Tryz.func37,Tryz.ntmps37;go_wp2_with fail
   go_step3
   go_wp2_with fail
   go_step3
   go_wp2_with fail;refine wp_loop_in (wp_round ?_);go_wp2_with fail;refine(HK.out _).mono ?_;rintro e w1 ⟨rfl,hb1⟩;have k2_0:w1.cell? ⟨w.heap.size+1+1,0,none⟩=some (.int .i64 0):=by exact kK hb1 (by simp[go_sem, *])
   have z2_0:w1.frozen? ⟨w.heap.size+1+1,0,none⟩=false:=by rw[hb1.frozen (p:=⟨w.heap.size+1+1,0,none⟩) (by simp[go_sem, *])];simp[go_sem, *]
   have k2_1:w1.cell? ⟨w.heap.size+1+1,1,none⟩=some (.int .i64 0):=by exact kK hb1 (by simp[go_sem, *])
   have z2_1:w1.frozen? ⟨w.heap.size+1+1,1,none⟩=false:=by rw[hb1.frozen (p:=⟨w.heap.size+1+1,1,none⟩) (by simp[go_sem, *])];simp[go_sem, *]
   have k2_2:w1.cell? ⟨w.heap.size+1+1,2,none⟩=some (.int .i64 0):=by exact kK hb1 (by simp[go_sem, *])
   have z2_2:w1.frozen? ⟨w.heap.size+1+1,2,none⟩=false:=by rw[hb1.frozen (p:=⟨w.heap.size+1+1,2,none⟩) (by simp[go_sem, *])];simp[go_sem, *]
   have k3_0:w1.cell? ⟨w.heap.size+1+1+1,0,none⟩=some (.int .i64 0):=by exact kK hb1 (by simp[go_sem, *])
   have z3_0:w1.frozen? ⟨w.heap.size+1+1+1,0,none⟩=false:=by rw[hb1.frozen (p:=⟨w.heap.size+1+1+1,0,none⟩) (by simp[go_sem, *])];simp[go_sem, *]
   have k3_1:w1.cell? ⟨w.heap.size+1+1+1,1,none⟩=some (.int .i64 0):=by exact kK hb1 (by simp[go_sem, *])
   have z3_1:w1.frozen? ⟨w.heap.size+1+1+1,1,none⟩=false:=by rw[hb1.frozen (p:=⟨w.heap.size+1+1+1,1,none⟩) (by simp[go_sem, *])];simp[go_sem, *]
   have k3_2:w1.cell? ⟨w.heap.size+1+1+1,2,none⟩=some (.int .i64 0):=by exact kK hb1 (by simp[go_sem, *])
   have z3_2:w1.frozen? ⟨w.heap.size+1+1+1,2,none⟩=false:=by rw[hb1.frozen (p:=⟨w.heap.size+1+1+1,2,none⟩) (by simp[go_sem, *])];simp[go_sem, *]
   have k4_0:w1.cell? ⟨w.heap.size+1+1+1+1,0,none⟩=some (.int .i64 0):=by exact kK hb1 (by simp[go_sem, *])
   have z4_0:w1.frozen? ⟨w.heap.size+1+1+1+1,0,none⟩=false:=by rw[hb1.frozen (p:=⟨w.heap.size+1+1+1+1,0,none⟩) (by simp[go_sem, *])];simp[go_sem, *]
   have k4_1:w1.cell? ⟨w.heap.size+1+1+1+1,1,none⟩=some (.int .i64 0):=by exact kK hb1 (by simp[go_sem, *])
   have z4_1:w1.frozen? ⟨w.heap.size+1+1+1+1,1,none⟩=false:=by rw[hb1.frozen (p:=⟨w.heap.size+1+1+1+1,1,none⟩) (by simp[go_sem, *])];simp[go_sem, *]
   have k4_2:w1.cell? ⟨w.heap.size+1+1+1+1,2,none⟩=some (.int .i64 0):=by exact kK hb1 (by simp[go_sem, *])
   have z4_2:w1.frozen? ⟨w.heap.size+1+1+1+1,2,none⟩=false:=by rw[hb1.frozen (p:=⟨w.heap.size+1+1+1+1,2,none⟩) (by simp[go_sem, *])];simp[go_sem, *]
   have k4_3:w1.cell? ⟨w.heap.size+1+1+1+1,3,none⟩=some (.int .i64 0):=by exact kK hb1 (by simp[go_sem, *])
   have z4_3:w1.frozen? ⟨w.heap.size+1+1+1+1,3,none⟩=false:=by rw[hb1.frozen (p:=⟨w.heap.size+1+1+1+1,3,none⟩) (by simp[go_sem, *])];simp[go_sem, *]
   have k4_4:w1.cell? ⟨w.heap.size+1+1+1+1,4,none⟩=some (.int .i64 0):=by exact kK hb1 (by simp[go_sem, *])
   have z4_4:w1.frozen? ⟨w.heap.size+1+1+1+1,4,none⟩=false:=by rw[hb1.frozen (p:=⟨w.heap.size+1+1+1+1,4,none⟩) (by simp[go_sem, *])];simp[go_sem, *]
   have k4_5:w1.cell? ⟨w.heap.size+1+1+1+1,5,none⟩=some (.int .i64 0):=by exact kK hb1 (by simp[go_sem, *])
   have z4_5:w1.frozen? ⟨w.heap.size+1+1+1+1,5,none⟩=false:=by rw[hb1.frozen (p:=⟨w.heap.size+1+1+1+1,5,none⟩) (by simp[go_sem, *])];simp[go_sem, *]
   have HB1:=aH (bC (bL (bL (bL (bL (bL (bL (bR _ _) _) _) _) _) _) _) hb1);clear hb1;go_wp2_with fail;obtain⟨W,hW⟩:∃W,W=(((w1.setCell ⟨w.heap.size+1+1+1+1,0,none⟩ (.int .i64 p)).setCell ⟨w.heap.size+1+1+1+1,1,none⟩ (.int .i64 q)).setCell ⟨w.heap.size+1+1+1+1,2,none⟩ (.int .i64 r)):=⟨_,rfl⟩;rw[←hW];have HBW:=aH (show Below w.heap.size w W by rw[hW];exact bS (bS (bS (HB1.out) (by show w.heap.size≤w.heap.size+1+1+1+1;omega)) (by show w.heap.size≤w.heap.size+1+1+1+1;omega)) (by show w.heap.size≤w.heap.size+1+1+1+1;omega));have k2_0w:W.cell? ⟨w.heap.size+1+1,0,none⟩=some (.int .i64 0):=by rw[hW];exact(sO (sO (sO k2_0 (aN (by omega))) (aN (by omega))) (aN (by omega)))
   have z2_0w:W.frozen? ⟨w.heap.size+1+1,0,none⟩=false:=by rw[hW];exact sF (sF (sF (z2_0)))
   have k2_1w:W.cell? ⟨w.heap.size+1+1,1,none⟩=some (.int .i64 0):=by rw[hW];exact(sO (sO (sO k2_1 (aN (by omega))) (aN (by omega))) (aN (by omega)))
   have z2_1w:W.frozen? ⟨w.heap.size+1+1,1,none⟩=false:=by rw[hW];exact sF (sF (sF (z2_1)))
   have k2_2w:W.cell? ⟨w.heap.size+1+1,2,none⟩=some (.int .i64 0):=by rw[hW];exact(sO (sO (sO k2_2 (aN (by omega))) (aN (by omega))) (aN (by omega)))
   have z2_2w:W.frozen? ⟨w.heap.size+1+1,2,none⟩=false:=by rw[hW];exact sF (sF (sF (z2_2)))
   have k3_0w:W.cell? ⟨w.heap.size+1+1+1,0,none⟩=some (.int .i64 0):=by rw[hW];exact(sO (sO (sO k3_0 (aN (by omega))) (aN (by omega))) (aN (by omega)))
   have z3_0w:W.frozen? ⟨w.heap.size+1+1+1,0,none⟩=false:=by rw[hW];exact sF (sF (sF (z3_0)))
   have k3_1w:W.cell? ⟨w.heap.size+1+1+1,1,none⟩=some (.int .i64 0):=by rw[hW];exact(sO (sO (sO k3_1 (aN (by omega))) (aN (by omega))) (aN (by omega)))
   have z3_1w:W.frozen? ⟨w.heap.size+1+1+1,1,none⟩=false:=by rw[hW];exact sF (sF (sF (z3_1)))
   have k3_2w:W.cell? ⟨w.heap.size+1+1+1,2,none⟩=some (.int .i64 0):=by rw[hW];exact(sO (sO (sO k3_2 (aN (by omega))) (aN (by omega))) (aN (by omega)))
   have z3_2w:W.frozen? ⟨w.heap.size+1+1+1,2,none⟩=false:=by rw[hW];exact sF (sF (sF (z3_2)))
   have k4_0w:W.cell? ⟨w.heap.size+1+1+1+1,0,none⟩=some (.int .i64 p):=by rw[hW];exact(sO (sO (st_same k4_0) (aN (by omega))) (aN (by omega)))
   have z4_0w:W.frozen? ⟨w.heap.size+1+1+1+1,0,none⟩=false:=by rw[hW];exact sF (sF (sF (z4_0)))
   have k4_1w:W.cell? ⟨w.heap.size+1+1+1+1,1,none⟩=some (.int .i64 q):=by rw[hW];exact(sO (st_same (sO k4_1 (aN (by omega)))) (aN (by omega)))
   have z4_1w:W.frozen? ⟨w.heap.size+1+1+1+1,1,none⟩=false:=by rw[hW];exact sF (sF (sF (z4_1)))
   have k4_2w:W.cell? ⟨w.heap.size+1+1+1+1,2,none⟩=some (.int .i64 r):=by rw[hW];exact(st_same (sO (sO k4_2 (aN (by omega))) (aN (by omega))))
   have z4_2w:W.frozen? ⟨w.heap.size+1+1+1+1,2,none⟩=false:=by rw[hW];exact sF (sF (sF (z4_2)))
   have k4_3w:W.cell? ⟨w.heap.size+1+1+1+1,3,none⟩=some (.int .i64 0):=by rw[hW];exact(sO (sO (sO k4_3 (aN (by omega))) (aN (by omega))) (aN (by omega)))
   have z4_3w:W.frozen? ⟨w.heap.size+1+1+1+1,3,none⟩=false:=by rw[hW];exact sF (sF (sF (z4_3)))
   have k4_4w:W.cell? ⟨w.heap.size+1+1+1+1,4,none⟩=some (.int .i64 0):=by rw[hW];exact(sO (sO (sO k4_4 (aN (by omega))) (aN (by omega))) (aN (by omega)))
   have z4_4w:W.frozen? ⟨w.heap.size+1+1+1+1,4,none⟩=false:=by rw[hW];exact sF (sF (sF (z4_4)))
   have k4_5w:W.cell? ⟨w.heap.size+1+1+1+1,5,none⟩=some (.int .i64 0):=by rw[hW];exact(sO (sO (sO k4_5 (aN (by omega))) (aN (by omega))) (aN (by omega)))
   have z4_5w:W.frozen? ⟨w.heap.size+1+1+1+1,5,none⟩=false:=by rw[hW];exact sF (sF (sF (z4_5)))
   clear k2_0 z2_0 k2_1 z2_1 k2_2 z2_2 k3_0 z3_0 k3_1 z3_1 k3_2 z3_2 k4_0 z4_0 k4_1 z4_1 k4_2 z4_2 k4_3 z4_3 k4_4 z4_4 k4_5 z4_5;clear hW HB1;refine wp_round ?_;go_wp2_with fail;refine(HP.out _).mono ?_;rintro e w2 ⟨rfl,hb2⟩;have hb3:=bC (bL (bR _ _) _) hb2;clear hb2;have k2_0:w2.cell? ⟨w.heap.size+1+1,0,none⟩=some (.int .i64 0):=kK hb3 k2_0w;have z2_0:w2.frozen? ⟨w.heap.size+1+1,0,none⟩=false:=by rw[hb3.frozen (p:=⟨w.heap.size+1+1,0,none⟩) (wB _ _ k2_0w)];exact z2_0w
   have k2_1:w2.cell? ⟨w.heap.size+1+1,1,none⟩=some (.int .i64 0):=kK hb3 k2_1w;have z2_1:w2.frozen? ⟨w.heap.size+1+1,1,none⟩=false:=by rw[hb3.frozen (p:=⟨w.heap.size+1+1,1,none⟩) (wB _ _ k2_1w)];exact z2_1w
   have k2_2:w2.cell? ⟨w.heap.size+1+1,2,none⟩=some (.int .i64 0):=kK hb3 k2_2w;have z2_2:w2.frozen? ⟨w.heap.size+1+1,2,none⟩=false:=by rw[hb3.frozen (p:=⟨w.heap.size+1+1,2,none⟩) (wB _ _ k2_2w)];exact z2_2w
   have k3_0:w2.cell? ⟨w.heap.size+1+1+1,0,none⟩=some (.int .i64 0):=kK hb3 k3_0w;have z3_0:w2.frozen? ⟨w.heap.size+1+1+1,0,none⟩=false:=by rw[hb3.frozen (p:=⟨w.heap.size+1+1+1,0,none⟩) (wB _ _ k3_0w)];exact z3_0w
   have k3_1:w2.cell? ⟨w.heap.size+1+1+1,1,none⟩=some (.int .i64 0):=kK hb3 k3_1w;have z3_1:w2.frozen? ⟨w.heap.size+1+1+1,1,none⟩=false:=by rw[hb3.frozen (p:=⟨w.heap.size+1+1+1,1,none⟩) (wB _ _ k3_1w)];exact z3_1w
   have k3_2:w2.cell? ⟨w.heap.size+1+1+1,2,none⟩=some (.int .i64 0):=kK hb3 k3_2w;have z3_2:w2.frozen? ⟨w.heap.size+1+1+1,2,none⟩=false:=by rw[hb3.frozen (p:=⟨w.heap.size+1+1+1,2,none⟩) (wB _ _ k3_2w)];exact z3_2w
   have k4_0:w2.cell? ⟨w.heap.size+1+1+1+1,0,none⟩=some (.int .i64 p):=kK hb3 k4_0w;have z4_0:w2.frozen? ⟨w.heap.size+1+1+1+1,0,none⟩=false:=by rw[hb3.frozen (p:=⟨w.heap.size+1+1+1+1,0,none⟩) (wB _ _ k4_0w)];exact z4_0w
   have k4_1:w2.cell? ⟨w.heap.size+1+1+1+1,1,none⟩=some (.int .i64 q):=kK hb3 k4_1w;have z4_1:w2.frozen? ⟨w.heap.size+1+1+1+1,1,none⟩=false:=by rw[hb3.frozen (p:=⟨w.heap.size+1+1+1+1,1,none⟩) (wB _ _ k4_1w)];exact z4_1w
   have k4_2:w2.cell? ⟨w.heap.size+1+1+1+1,2,none⟩=some (.int .i64 r):=kK hb3 k4_2w;have z4_2:w2.frozen? ⟨w.heap.size+1+1+1+1,2,none⟩=false:=by rw[hb3.frozen (p:=⟨w.heap.size+1+1+1+1,2,none⟩) (wB _ _ k4_2w)];exact z4_2w
   have k4_3:w2.cell? ⟨w.heap.size+1+1+1+1,3,none⟩=some (.int .i64 0):=kK hb3 k4_3w;have z4_3:w2.frozen? ⟨w.heap.size+1+1+1+1,3,none⟩=false:=by rw[hb3.frozen (p:=⟨w.heap.size+1+1+1+1,3,none⟩) (wB _ _ k4_3w)];exact z4_3w
   have k4_4:w2.cell? ⟨w.heap.size+1+1+1+1,4,none⟩=some (.int .i64 0):=kK hb3 k4_4w;have z4_4:w2.frozen? ⟨w.heap.size+1+1+1+1,4,none⟩=false:=by rw[hb3.frozen (p:=⟨w.heap.size+1+1+1+1,4,none⟩) (wB _ _ k4_4w)];exact z4_4w
   have k4_5:w2.cell? ⟨w.heap.size+1+1+1+1,5,none⟩=some (.int .i64 0):=kK hb3 k4_5w;have z4_5:w2.frozen? ⟨w.heap.size+1+1+1+1,5,none⟩=false:=by rw[hb3.frozen (p:=⟨w.heap.size+1+1+1+1,5,none⟩) (wB _ _ k4_5w)];exact z4_5w
   clear k2_0w z2_0w k2_1w z2_1w k2_2w z2_2w k3_0w z3_0w k3_1w z3_1w k3_2w z3_2w k4_0w z4_0w k4_1w z4_1w k4_2w z4_2w k4_3w z4_3w k4_4w z4_4w k4_5w z4_5w;have HB2:=aH (bC HBW.out hb3);clear hb3 HBW;go_wp2_with fail;refine wp_round ?_;go_wp2_with fail;obtain⟨X,hX⟩:∃W,W=(((w2.setCell ⟨w.heap.size+1+1+1+1,3,none⟩ (.int .i64 s)).setCell ⟨w.heap.size+1+1+1+1,4,none⟩ (.int .i64 t)).setCell ⟨w.heap.size+1+1+1+1,5,none⟩ (.int .i64 u)):=⟨_,rfl⟩;rw[←hX];have HBX:=aH (show Below w.heap.size w X by rw[hX];exact bS (bS (bS (HB2.out) (by show w.heap.size≤w.heap.size+1+1+1+1;omega)) (by show w.heap.size≤w.heap.size+1+1+1+1;omega)) (by show w.heap.size≤w.heap.size+1+1+1+1;omega));have k2_0x:X.cell? ⟨w.heap.size+1+1,0,none⟩=some (.int .i64 0):=by rw[hX];exact(sO (sO (sO k2_0 (aN (by omega))) (aN (by omega))) (aN (by omega)))
   have z2_0x:X.frozen? ⟨w.heap.size+1+1,0,none⟩=false:=by rw[hX];exact sF (sF (sF (z2_0)))
   have k2_1x:X.cell? ⟨w.heap.size+1+1,1,none⟩=some (.int .i64 0):=by rw[hX];exact(sO (sO (sO k2_1 (aN (by omega))) (aN (by omega))) (aN (by omega)))
   have z2_1x:X.frozen? ⟨w.heap.size+1+1,1,none⟩=false:=by rw[hX];exact sF (sF (sF (z2_1)))
   have k2_2x:X.cell? ⟨w.heap.size+1+1,2,none⟩=some (.int .i64 0):=by rw[hX];exact(sO (sO (sO k2_2 (aN (by omega))) (aN (by omega))) (aN (by omega)))
   have z2_2x:X.frozen? ⟨w.heap.size+1+1,2,none⟩=false:=by rw[hX];exact sF (sF (sF (z2_2)))
   have k3_0x:X.cell? ⟨w.heap.size+1+1+1,0,none⟩=some (.int .i64 0):=by rw[hX];exact(sO (sO (sO k3_0 (aN (by omega))) (aN (by omega))) (aN (by omega)))
   have z3_0x:X.frozen? ⟨w.heap.size+1+1+1,0,none⟩=false:=by rw[hX];exact sF (sF (sF (z3_0)))
   have k3_1x:X.cell? ⟨w.heap.size+1+1+1,1,none⟩=some (.int .i64 0):=by rw[hX];exact(sO (sO (sO k3_1 (aN (by omega))) (aN (by omega))) (aN (by omega)))
   have z3_1x:X.frozen? ⟨w.heap.size+1+1+1,1,none⟩=false:=by rw[hX];exact sF (sF (sF (z3_1)))
   have k3_2x:X.cell? ⟨w.heap.size+1+1+1,2,none⟩=some (.int .i64 0):=by rw[hX];exact(sO (sO (sO k3_2 (aN (by omega))) (aN (by omega))) (aN (by omega)))
   have z3_2x:X.frozen? ⟨w.heap.size+1+1+1,2,none⟩=false:=by rw[hX];exact sF (sF (sF (z3_2)))
   have k4_0x:X.cell? ⟨w.heap.size+1+1+1+1,0,none⟩=some (.int .i64 p):=by rw[hX];exact(sO (sO (sO k4_0 (aN (by omega))) (aN (by omega))) (aN (by omega)))
   have z4_0x:X.frozen? ⟨w.heap.size+1+1+1+1,0,none⟩=false:=by rw[hX];exact sF (sF (sF (z4_0)))
   have k4_1x:X.cell? ⟨w.heap.size+1+1+1+1,1,none⟩=some (.int .i64 q):=by rw[hX];exact(sO (sO (sO k4_1 (aN (by omega))) (aN (by omega))) (aN (by omega)))
   have z4_1x:X.frozen? ⟨w.heap.size+1+1+1+1,1,none⟩=false:=by rw[hX];exact sF (sF (sF (z4_1)))
   have k4_2x:X.cell? ⟨w.heap.size+1+1+1+1,2,none⟩=some (.int .i64 r):=by rw[hX];exact(sO (sO (sO k4_2 (aN (by omega))) (aN (by omega))) (aN (by omega)))
   have z4_2x:X.frozen? ⟨w.heap.size+1+1+1+1,2,none⟩=false:=by rw[hX];exact sF (sF (sF (z4_2)))
   have k4_3x:X.cell? ⟨w.heap.size+1+1+1+1,3,none⟩=some (.int .i64 s):=by rw[hX];exact(sO (sO (st_same k4_3) (aN (by omega))) (aN (by omega)))
   have z4_3x:X.frozen? ⟨w.heap.size+1+1+1+1,3,none⟩=false:=by rw[hX];exact sF (sF (sF (z4_3)))
   have k4_4x:X.cell? ⟨w.heap.size+1+1+1+1,4,none⟩=some (.int .i64 t):=by rw[hX];exact(sO (st_same (sO k4_4 (aN (by omega)))) (aN (by omega)))
   have z4_4x:X.frozen? ⟨w.heap.size+1+1+1+1,4,none⟩=false:=by rw[hX];exact sF (sF (sF (z4_4)))
   have k4_5x:X.cell? ⟨w.heap.size+1+1+1+1,5,none⟩=some (.int .i64 u):=by rw[hX];exact(st_same (sO (sO k4_5 (aN (by omega))) (aN (by omega))))
   have z4_5x:X.frozen? ⟨w.heap.size+1+1+1+1,5,none⟩=false:=by rw[hX];exact sF (sF (sF (z4_5)))
   clear k2_0 z2_0 k2_1 z2_1 k2_2 z2_2 k3_0 z3_0 k3_1 z3_1 k3_2 z3_2 k4_0 z4_0 k4_1 z4_1 k4_2 z4_2 k4_3 z4_3 k4_4 z4_4 k4_5 z4_5;clear hX HB2
   go_region
   go_wp2;rw[Exit.noGoto_ret];refine bP (v:=.tuple #[.agg #[.int .i64 p,.int .i64 q,.int .i64 r],.agg #[.int .i64 s,.int .i64 t,.int .i64 u],.int .i64 0]) (by simp[results,Tryz.results37,go_sem, *]) rfl ⟨rfl,?_⟩;exact(bS ((bS ((bS ((bS ((bS ((bS (HBX.out) (by show w.heap.size≤w.heap.size+1+1;omega))) (by show w.heap.size≤w.heap.size+1+1;omega))) (by show w.heap.size≤w.heap.size+1+1;omega))) (by show w.heap.size≤w.heap.size+1+1+1;omega))) (by show w.heap.size≤w.heap.size+1+1+1;omega))) (by show w.heap.size≤w.heap.size+1+1+1;omega)).drew
  ·have U:mvX ⟨a,b,c⟩ ⟨f,g,h⟩ n=nought:=by unfold mvX;rw[if_neg (by rw[T0];exact e2)]
   have V:mvY ⟨a,b,c⟩ ⟨f,g,h⟩ n=nought:=by unfold mvY;rw[if_neg (by rw[T0];exact e2)]
   rw[T0,U,V];have q1:(chE ⟨f,g,h⟩ (max n 0) != 0)=true:=by rw[bne_iff_ne];exact e2
   generalize chE ⟨f,g,h⟩ (max n 0)=z at *;generalize chV ⟨a,b,c⟩ (-(max n 0))=r at *;generalize chV ⟨f,g,h⟩ (max n 0)=t at *;obtain⟨p,q,r⟩:=r;obtain⟨s,t,u⟩:=t;clear T0 U V e1 e2 hx hy hn;have hq2:w.heap.size<w.heap.size+1+1:=by omega
   have hq3:w.heap.size<w.heap.size+1+1+1:=by omega
   have hq4:w.heap.size<w.heap.size+1+1+1+1:=by omega
   have hq5:w.heap.size<w.heap.size+1+1+1+1+1:=by omega
   have hi0:=fun w=>run_at0 a b c f g h w;have hi1:=fun w=>run_at1 a b c f g h w;go_enter Tryz.func37,Tryz.ntmps37;go_wp2_with fail
   go_step3
   go_wp2_with fail
   go_step3
   go_wp2_with fail;refine wp_loop_in (wp_round ?_);go_wp2_with fail;refine(HK.out _).mono ?_;rintro e w1 ⟨rfl,hb1⟩;have k2_0:w1.cell? ⟨w.heap.size+1+1,0,none⟩=some (.int .i64 0):=by exact kK hb1 (by simp[go_sem, *])
   have z2_0:w1.frozen? ⟨w.heap.size+1+1,0,none⟩=false:=by rw[hb1.frozen (p:=⟨w.heap.size+1+1,0,none⟩) (by simp[go_sem, *])];simp[go_sem, *]
   have k2_1:w1.cell? ⟨w.heap.size+1+1,1,none⟩=some (.int .i64 0):=by exact kK hb1 (by simp[go_sem, *])
   have z2_1:w1.frozen? ⟨w.heap.size+1+1,1,none⟩=false:=by rw[hb1.frozen (p:=⟨w.heap.size+1+1,1,none⟩) (by simp[go_sem, *])];simp[go_sem, *]
   have k2_2:w1.cell? ⟨w.heap.size+1+1,2,none⟩=some (.int .i64 0):=by exact kK hb1 (by simp[go_sem, *])
   have z2_2:w1.frozen? ⟨w.heap.size+1+1,2,none⟩=false:=by rw[hb1.frozen (p:=⟨w.heap.size+1+1,2,none⟩) (by simp[go_sem, *])];simp[go_sem, *]
   have k3_0:w1.cell? ⟨w.heap.size+1+1+1,0,none⟩=some (.int .i64 0):=by exact kK hb1 (by simp[go_sem, *])
   have z3_0:w1.frozen? ⟨w.heap.size+1+1+1,0,none⟩=false:=by rw[hb1.frozen (p:=⟨w.heap.size+1+1+1,0,none⟩) (by simp[go_sem, *])];simp[go_sem, *]
   have k3_1:w1.cell? ⟨w.heap.size+1+1+1,1,none⟩=some (.int .i64 0):=by exact kK hb1 (by simp[go_sem, *])
   have z3_1:w1.frozen? ⟨w.heap.size+1+1+1,1,none⟩=false:=by rw[hb1.frozen (p:=⟨w.heap.size+1+1+1,1,none⟩) (by simp[go_sem, *])];simp[go_sem, *]
   have k3_2:w1.cell? ⟨w.heap.size+1+1+1,2,none⟩=some (.int .i64 0):=by exact kK hb1 (by simp[go_sem, *])
   have z3_2:w1.frozen? ⟨w.heap.size+1+1+1,2,none⟩=false:=by rw[hb1.frozen (p:=⟨w.heap.size+1+1+1,2,none⟩) (by simp[go_sem, *])];simp[go_sem, *]
   have k4_0:w1.cell? ⟨w.heap.size+1+1+1+1,0,none⟩=some (.int .i64 0):=by exact kK hb1 (by simp[go_sem, *])
   have z4_0:w1.frozen? ⟨w.heap.size+1+1+1+1,0,none⟩=false:=by rw[hb1.frozen (p:=⟨w.heap.size+1+1+1+1,0,none⟩) (by simp[go_sem, *])];simp[go_sem, *]
   have k4_1:w1.cell? ⟨w.heap.size+1+1+1+1,1,none⟩=some (.int .i64 0):=by exact kK hb1 (by simp[go_sem, *])
   have z4_1:w1.frozen? ⟨w.heap.size+1+1+1+1,1,none⟩=false:=by rw[hb1.frozen (p:=⟨w.heap.size+1+1+1+1,1,none⟩) (by simp[go_sem, *])];simp[go_sem, *]
   have k4_2:w1.cell? ⟨w.heap.size+1+1+1+1,2,none⟩=some (.int .i64 0):=by exact kK hb1 (by simp[go_sem, *])
   have z4_2:w1.frozen? ⟨w.heap.size+1+1+1+1,2,none⟩=false:=by rw[hb1.frozen (p:=⟨w.heap.size+1+1+1+1,2,none⟩) (by simp[go_sem, *])];simp[go_sem, *]
   have k4_3:w1.cell? ⟨w.heap.size+1+1+1+1,3,none⟩=some (.int .i64 0):=by exact kK hb1 (by simp[go_sem, *])
   have z4_3:w1.frozen? ⟨w.heap.size+1+1+1+1,3,none⟩=false:=by rw[hb1.frozen (p:=⟨w.heap.size+1+1+1+1,3,none⟩) (by simp[go_sem, *])];simp[go_sem, *]
   have k4_4:w1.cell? ⟨w.heap.size+1+1+1+1,4,none⟩=some (.int .i64 0):=by exact kK hb1 (by simp[go_sem, *])
   have z4_4:w1.frozen? ⟨w.heap.size+1+1+1+1,4,none⟩=false:=by rw[hb1.frozen (p:=⟨w.heap.size+1+1+1+1,4,none⟩) (by simp[go_sem, *])];simp[go_sem, *]
   have k4_5:w1.cell? ⟨w.heap.size+1+1+1+1,5,none⟩=some (.int .i64 0):=by exact kK hb1 (by simp[go_sem, *])
   have z4_5:w1.frozen? ⟨w.heap.size+1+1+1+1,5,none⟩=false:=by rw[hb1.frozen (p:=⟨w.heap.size+1+1+1+1,5,none⟩) (by simp[go_sem, *])];simp[go_sem, *]
   have HB1:=aH (bC (bL (bL (bL (bL (bL (bL (bR _ _) _) _) _) _) _) _) hb1);clear hb1;go_wp2_with fail;obtain⟨W,hW⟩:∃W,W=(((w1.setCell ⟨w.heap.size+1+1+1+1,0,none⟩ (.int .i64 p)).setCell ⟨w.heap.size+1+1+1+1,1,none⟩ (.int .i64 q)).setCell ⟨w.heap.size+1+1+1+1,2,none⟩ (.int .i64 r)):=⟨_,rfl⟩;rw[←hW];have HBW:=aH (show Below w.heap.size w W by rw[hW];exact bS (bS (bS (HB1.out) (by show w.heap.size≤w.heap.size+1+1+1+1;omega)) (by show w.heap.size≤w.heap.size+1+1+1+1;omega)) (by show w.heap.size≤w.heap.size+1+1+1+1;omega));have k2_0w:W.cell? ⟨w.heap.size+1+1,0,none⟩=some (.int .i64 0):=by rw[hW];exact(sO (sO (sO k2_0 (aN (by omega))) (aN (by omega))) (aN (by omega)))
   have z2_0w:W.frozen? ⟨w.heap.size+1+1,0,none⟩=false:=by rw[hW];exact sF (sF (sF (z2_0)))
   have k2_1w:W.cell? ⟨w.heap.size+1+1,1,none⟩=some (.int .i64 0):=by rw[hW];exact(sO (sO (sO k2_1 (aN (by omega))) (aN (by omega))) (aN (by omega)))
   have z2_1w:W.frozen? ⟨w.heap.size+1+1,1,none⟩=false:=by rw[hW];exact sF (sF (sF (z2_1)))
   have k2_2w:W.cell? ⟨w.heap.size+1+1,2,none⟩=some (.int .i64 0):=by rw[hW];exact(sO (sO (sO k2_2 (aN (by omega))) (aN (by omega))) (aN (by omega)))
   have z2_2w:W.frozen? ⟨w.heap.size+1+1,2,none⟩=false:=by rw[hW];exact sF (sF (sF (z2_2)))
   have k3_0w:W.cell? ⟨w.heap.size+1+1+1,0,none⟩=some (.int .i64 0):=by rw[hW];exact(sO (sO (sO k3_0 (aN (by omega))) (aN (by omega))) (aN (by omega)))
   have z3_0w:W.frozen? ⟨w.heap.size+1+1+1,0,none⟩=false:=by rw[hW];exact sF (sF (sF (z3_0)))
   have k3_1w:W.cell? ⟨w.heap.size+1+1+1,1,none⟩=some (.int .i64 0):=by rw[hW];exact(sO (sO (sO k3_1 (aN (by omega))) (aN (by omega))) (aN (by omega)))
   have z3_1w:W.frozen? ⟨w.heap.size+1+1+1,1,none⟩=false:=by rw[hW];exact sF (sF (sF (z3_1)))
   have k3_2w:W.cell? ⟨w.heap.size+1+1+1,2,none⟩=some (.int .i64 0):=by rw[hW];exact(sO (sO (sO k3_2 (aN (by omega))) (aN (by omega))) (aN (by omega)))
   have z3_2w:W.frozen? ⟨w.heap.size+1+1+1,2,none⟩=false:=by rw[hW];exact sF (sF (sF (z3_2)))
   have k4_0w:W.cell? ⟨w.heap.size+1+1+1+1,0,none⟩=some (.int .i64 p):=by rw[hW];exact(sO (sO (st_same k4_0) (aN (by omega))) (aN (by omega)))
   have z4_0w:W.frozen? ⟨w.heap.size+1+1+1+1,0,none⟩=false:=by rw[hW];exact sF (sF (sF (z4_0)))
   have k4_1w:W.cell? ⟨w.heap.size+1+1+1+1,1,none⟩=some (.int .i64 q):=by rw[hW];exact(sO (st_same (sO k4_1 (aN (by omega)))) (aN (by omega)))
   have z4_1w:W.frozen? ⟨w.heap.size+1+1+1+1,1,none⟩=false:=by rw[hW];exact sF (sF (sF (z4_1)))
   have k4_2w:W.cell? ⟨w.heap.size+1+1+1+1,2,none⟩=some (.int .i64 r):=by rw[hW];exact(st_same (sO (sO k4_2 (aN (by omega))) (aN (by omega))))
   have z4_2w:W.frozen? ⟨w.heap.size+1+1+1+1,2,none⟩=false:=by rw[hW];exact sF (sF (sF (z4_2)))
   have k4_3w:W.cell? ⟨w.heap.size+1+1+1+1,3,none⟩=some (.int .i64 0):=by rw[hW];exact(sO (sO (sO k4_3 (aN (by omega))) (aN (by omega))) (aN (by omega)))
   have z4_3w:W.frozen? ⟨w.heap.size+1+1+1+1,3,none⟩=false:=by rw[hW];exact sF (sF (sF (z4_3)))
   have k4_4w:W.cell? ⟨w.heap.size+1+1+1+1,4,none⟩=some (.int .i64 0):=by rw[hW];exact(sO (sO (sO k4_4 (aN (by omega))) (aN (by omega))) (aN (by omega)))
   have z4_4w:W.frozen? ⟨w.heap.size+1+1+1+1,4,none⟩=false:=by rw[hW];exact sF (sF (sF (z4_4)))
   have k4_5w:W.cell? ⟨w.heap.size+1+1+1+1,5,none⟩=some (.int .i64 0):=by rw[hW];exact(sO (sO (sO k4_5 (aN (by omega))) (aN (by omega))) (aN (by omega)))
   have z4_5w:W.frozen? ⟨w.heap.size+1+1+1+1,5,none⟩=false:=by rw[hW];exact sF (sF (sF (z4_5)))
   clear k2_0 z2_0 k2_1 z2_1 k2_2 z2_2 k3_0 z3_0 k3_1 z3_1 k3_2 z3_2 k4_0 z4_0 k4_1 z4_1 k4_2 z4_2 k4_3 z4_3 k4_4 z4_4 k4_5 z4_5;clear hW HB1;refine wp_round ?_;go_wp2_with fail;refine(HP.out _).mono ?_;rintro e w2 ⟨rfl,hb2⟩;have hb3:=bC (bL (bR _ _) _) hb2;clear hb2;have k2_0:w2.cell? ⟨w.heap.size+1+1,0,none⟩=some (.int .i64 0):=kK hb3 k2_0w;have z2_0:w2.frozen? ⟨w.heap.size+1+1,0,none⟩=false:=by rw[hb3.frozen (p:=⟨w.heap.size+1+1,0,none⟩) (wB _ _ k2_0w)];exact z2_0w
   have k2_1:w2.cell? ⟨w.heap.size+1+1,1,none⟩=some (.int .i64 0):=kK hb3 k2_1w;have z2_1:w2.frozen? ⟨w.heap.size+1+1,1,none⟩=false:=by rw[hb3.frozen (p:=⟨w.heap.size+1+1,1,none⟩) (wB _ _ k2_1w)];exact z2_1w
   have k2_2:w2.cell? ⟨w.heap.size+1+1,2,none⟩=some (.int .i64 0):=kK hb3 k2_2w;have z2_2:w2.frozen? ⟨w.heap.size+1+1,2,none⟩=false:=by rw[hb3.frozen (p:=⟨w.heap.size+1+1,2,none⟩) (wB _ _ k2_2w)];exact z2_2w
   have k3_0:w2.cell? ⟨w.heap.size+1+1+1,0,none⟩=some (.int .i64 0):=kK hb3 k3_0w;have z3_0:w2.frozen? ⟨w.heap.size+1+1+1,0,none⟩=false:=by rw[hb3.frozen (p:=⟨w.heap.size+1+1+1,0,none⟩) (wB _ _ k3_0w)];exact z3_0w
   have k3_1:w2.cell? ⟨w.heap.size+1+1+1,1,none⟩=some (.int .i64 0):=kK hb3 k3_1w;have z3_1:w2.frozen? ⟨w.heap.size+1+1+1,1,none⟩=false:=by rw[hb3.frozen (p:=⟨w.heap.size+1+1+1,1,none⟩) (wB _ _ k3_1w)];exact z3_1w
   have k3_2:w2.cell? ⟨w.heap.size+1+1+1,2,none⟩=some (.int .i64 0):=kK hb3 k3_2w;have z3_2:w2.frozen? ⟨w.heap.size+1+1+1,2,none⟩=false:=by rw[hb3.frozen (p:=⟨w.heap.size+1+1+1,2,none⟩) (wB _ _ k3_2w)];exact z3_2w
   have k4_0:w2.cell? ⟨w.heap.size+1+1+1+1,0,none⟩=some (.int .i64 p):=kK hb3 k4_0w;have z4_0:w2.frozen? ⟨w.heap.size+1+1+1+1,0,none⟩=false:=by rw[hb3.frozen (p:=⟨w.heap.size+1+1+1+1,0,none⟩) (wB _ _ k4_0w)];exact z4_0w
   have k4_1:w2.cell? ⟨w.heap.size+1+1+1+1,1,none⟩=some (.int .i64 q):=kK hb3 k4_1w;have z4_1:w2.frozen? ⟨w.heap.size+1+1+1+1,1,none⟩=false:=by rw[hb3.frozen (p:=⟨w.heap.size+1+1+1+1,1,none⟩) (wB _ _ k4_1w)];exact z4_1w
   have k4_2:w2.cell? ⟨w.heap.size+1+1+1+1,2,none⟩=some (.int .i64 r):=kK hb3 k4_2w;have z4_2:w2.frozen? ⟨w.heap.size+1+1+1+1,2,none⟩=false:=by rw[hb3.frozen (p:=⟨w.heap.size+1+1+1+1,2,none⟩) (wB _ _ k4_2w)];exact z4_2w
   have k4_3:w2.cell? ⟨w.heap.size+1+1+1+1,3,none⟩=some (.int .i64 0):=kK hb3 k4_3w;have z4_3:w2.frozen? ⟨w.heap.size+1+1+1+1,3,none⟩=false:=by rw[hb3.frozen (p:=⟨w.heap.size+1+1+1+1,3,none⟩) (wB _ _ k4_3w)];exact z4_3w
   have k4_4:w2.cell? ⟨w.heap.size+1+1+1+1,4,none⟩=some (.int .i64 0):=kK hb3 k4_4w;have z4_4:w2.frozen? ⟨w.heap.size+1+1+1+1,4,none⟩=false:=by rw[hb3.frozen (p:=⟨w.heap.size+1+1+1+1,4,none⟩) (wB _ _ k4_4w)];exact z4_4w
   have k4_5:w2.cell? ⟨w.heap.size+1+1+1+1,5,none⟩=some (.int .i64 0):=kK hb3 k4_5w;have z4_5:w2.frozen? ⟨w.heap.size+1+1+1+1,5,none⟩=false:=by rw[hb3.frozen (p:=⟨w.heap.size+1+1+1+1,5,none⟩) (wB _ _ k4_5w)];exact z4_5w
   clear k2_0w z2_0w k2_1w z2_1w k2_2w z2_2w k3_0w z3_0w k3_1w z3_1w k3_2w z3_2w k4_0w z4_0w k4_1w z4_1w k4_2w z4_2w k4_3w z4_3w k4_4w z4_4w k4_5w z4_5w;have HB2:=aH (bC HBW.out hb3);clear hb3 HBW;go_wp2_with fail;obtain⟨X,hX⟩:∃W,W=(((((((((w2.setCell ⟨w.heap.size+1+1+1+1,3,none⟩ (.int .i64 s)).setCell ⟨w.heap.size+1+1+1+1,4,none⟩ (.int .i64 t)).setCell ⟨w.heap.size+1+1+1+1,5,none⟩ (.int .i64 u)).setCell ⟨w.heap.size+1+1+1+1,0,none⟩ (.int .i64 0)).setCell ⟨w.heap.size+1+1+1+1,1,none⟩ (.int .i64 0)).setCell ⟨w.heap.size+1+1+1+1,2,none⟩ (.int .i64 0)).setCell ⟨w.heap.size+1+1+1+1,3,none⟩ (.int .i64 0)).setCell ⟨w.heap.size+1+1+1+1,4,none⟩ (.int .i64 0)).setCell ⟨w.heap.size+1+1+1+1,5,none⟩ (.int .i64 0)):=⟨_,rfl⟩;rw[←hX];have HBX:=aH (show Below w.heap.size w X by rw[hX];exact bS (bS (bS (bS (bS (bS (bS (bS (bS (HB2.out) (by show w.heap.size≤w.heap.size+1+1+1+1;omega)) (by show w.heap.size≤w.heap.size+1+1+1+1;omega)) (by show w.heap.size≤w.heap.size+1+1+1+1;omega)) (by show w.heap.size≤w.heap.size+1+1+1+1;omega)) (by show w.heap.size≤w.heap.size+1+1+1+1;omega)) (by show w.heap.size≤w.heap.size+1+1+1+1;omega)) (by show w.heap.size≤w.heap.size+1+1+1+1;omega)) (by show w.heap.size≤w.heap.size+1+1+1+1;omega)) (by show w.heap.size≤w.heap.size+1+1+1+1;omega));have k2_0x:X.cell? ⟨w.heap.size+1+1,0,none⟩=some (.int .i64 0):=by rw[hX];exact(sO (sO (sO (sO (sO (sO (sO (sO (sO k2_0 (aN (by omega))) (aN (by omega))) (aN (by omega))) (aN (by omega))) (aN (by omega))) (aN (by omega))) (aN (by omega))) (aN (by omega))) (aN (by omega)))
   have z2_0x:X.frozen? ⟨w.heap.size+1+1,0,none⟩=false:=by rw[hX];exact sF (sF (sF (sF (sF (sF (sF (sF (sF (z2_0)))))))))
   have k2_1x:X.cell? ⟨w.heap.size+1+1,1,none⟩=some (.int .i64 0):=by rw[hX];exact(sO (sO (sO (sO (sO (sO (sO (sO (sO k2_1 (aN (by omega))) (aN (by omega))) (aN (by omega))) (aN (by omega))) (aN (by omega))) (aN (by omega))) (aN (by omega))) (aN (by omega))) (aN (by omega)))
   have z2_1x:X.frozen? ⟨w.heap.size+1+1,1,none⟩=false:=by rw[hX];exact sF (sF (sF (sF (sF (sF (sF (sF (sF (z2_1)))))))))
   have k2_2x:X.cell? ⟨w.heap.size+1+1,2,none⟩=some (.int .i64 0):=by rw[hX];exact(sO (sO (sO (sO (sO (sO (sO (sO (sO k2_2 (aN (by omega))) (aN (by omega))) (aN (by omega))) (aN (by omega))) (aN (by omega))) (aN (by omega))) (aN (by omega))) (aN (by omega))) (aN (by omega)))
   have z2_2x:X.frozen? ⟨w.heap.size+1+1,2,none⟩=false:=by rw[hX];exact sF (sF (sF (sF (sF (sF (sF (sF (sF (z2_2)))))))))
   have k3_0x:X.cell? ⟨w.heap.size+1+1+1,0,none⟩=some (.int .i64 0):=by rw[hX];exact(sO (sO (sO (sO (sO (sO (sO (sO (sO k3_0 (aN (by omega))) (aN (by omega))) (aN (by omega))) (aN (by omega))) (aN (by omega))) (aN (by omega))) (aN (by omega))) (aN (by omega))) (aN (by omega)))
   have z3_0x:X.frozen? ⟨w.heap.size+1+1+1,0,none⟩=false:=by rw[hX];exact sF (sF (sF (sF (sF (sF (sF (sF (sF (z3_0)))))))))
   have k3_1x:X.cell? ⟨w.heap.size+1+1+1,1,none⟩=some (.int .i64 0):=by rw[hX];exact(sO (sO (sO (sO (sO (sO (sO (sO (sO k3_1 (aN (by omega))) (aN (by omega))) (aN (by omega))) (aN (by omega))) (aN (by omega))) (aN (by omega))) (aN (by omega))) (aN (by omega))) (aN (by omega)))
   have z3_1x:X.frozen? ⟨w.heap.size+1+1+1,1,none⟩=false:=by rw[hX];exact sF (sF (sF (sF (sF (sF (sF (sF (sF (z3_1)))))))))
   have k3_2x:X.cell? ⟨w.heap.size+1+1+1,2,none⟩=some (.int .i64 0):=by rw[hX];exact(sO (sO (sO (sO (sO (sO (sO (sO (sO k3_2 (aN (by omega))) (aN (by omega))) (aN (by omega))) (aN (by omega))) (aN (by omega))) (aN (by omega))) (aN (by omega))) (aN (by omega))) (aN (by omega)))
   have z3_2x:X.frozen? ⟨w.heap.size+1+1+1,2,none⟩=false:=by rw[hX];exact sF (sF (sF (sF (sF (sF (sF (sF (sF (z3_2)))))))))
   have k4_0x:X.cell? ⟨w.heap.size+1+1+1+1,0,none⟩=some (.int .i64 0):=by rw[hX];exact(sO (sO (sO (sO (sO (st_same (sO (sO (sO k4_0 (aN (by omega))) (aN (by omega))) (aN (by omega)))) (aN (by omega))) (aN (by omega))) (aN (by omega))) (aN (by omega))) (aN (by omega)))
   have z4_0x:X.frozen? ⟨w.heap.size+1+1+1+1,0,none⟩=false:=by rw[hX];exact sF (sF (sF (sF (sF (sF (sF (sF (sF (z4_0)))))))))
   have k4_1x:X.cell? ⟨w.heap.size+1+1+1+1,1,none⟩=some (.int .i64 0):=by rw[hX];exact(sO (sO (sO (sO (st_same (sO (sO (sO (sO k4_1 (aN (by omega))) (aN (by omega))) (aN (by omega))) (aN (by omega)))) (aN (by omega))) (aN (by omega))) (aN (by omega))) (aN (by omega)))
   have z4_1x:X.frozen? ⟨w.heap.size+1+1+1+1,1,none⟩=false:=by rw[hX];exact sF (sF (sF (sF (sF (sF (sF (sF (sF (z4_1)))))))))
   have k4_2x:X.cell? ⟨w.heap.size+1+1+1+1,2,none⟩=some (.int .i64 0):=by rw[hX];exact(sO (sO (sO (st_same (sO (sO (sO (sO (sO k4_2 (aN (by omega))) (aN (by omega))) (aN (by omega))) (aN (by omega))) (aN (by omega)))) (aN (by omega))) (aN (by omega))) (aN (by omega)))
   have z4_2x:X.frozen? ⟨w.heap.size+1+1+1+1,2,none⟩=false:=by rw[hX];exact sF (sF (sF (sF (sF (sF (sF (sF (sF (z4_2)))))))))
   have k4_3x:X.cell? ⟨w.heap.size+1+1+1+1,3,none⟩=some (.int .i64 0):=by rw[hX];exact(sO (sO (st_same (sO (sO (sO (sO (sO (st_same k4_3) (aN (by omega))) (aN (by omega))) (aN (by omega))) (aN (by omega))) (aN (by omega)))) (aN (by omega))) (aN (by omega)))
   have z4_3x:X.frozen? ⟨w.heap.size+1+1+1+1,3,none⟩=false:=by rw[hX];exact sF (sF (sF (sF (sF (sF (sF (sF (sF (z4_3)))))))))
   have k4_4x:X.cell? ⟨w.heap.size+1+1+1+1,4,none⟩=some (.int .i64 0):=by rw[hX];exact(sO (st_same (sO (sO (sO (sO (sO (st_same (sO k4_4 (aN (by omega)))) (aN (by omega))) (aN (by omega))) (aN (by omega))) (aN (by omega))) (aN (by omega)))) (aN (by omega)))
   have z4_4x:X.frozen? ⟨w.heap.size+1+1+1+1,4,none⟩=false:=by rw[hX];exact sF (sF (sF (sF (sF (sF (sF (sF (sF (z4_4)))))))))
   have k4_5x:X.cell? ⟨w.heap.size+1+1+1+1,5,none⟩=some (.int .i64 0):=by rw[hX];exact(st_same (sO (sO (sO (sO (sO (st_same (sO (sO k4_5 (aN (by omega))) (aN (by omega)))) (aN (by omega))) (aN (by omega))) (aN (by omega))) (aN (by omega))) (aN (by omega))))
   have z4_5x:X.frozen? ⟨w.heap.size+1+1+1+1,5,none⟩=false:=by rw[hX];exact sF (sF (sF (sF (sF (sF (sF (sF (sF (z4_5)))))))))
   clear k2_0 z2_0 k2_1 z2_1 k2_2 z2_2 k3_0 z3_0 k3_1 z3_1 k3_2 z3_2 k4_0 z4_0 k4_1 z4_1 k4_2 z4_2 k4_3 z4_3 k4_4 z4_4 k4_5 z4_5;clear hX HB2
   go_region
   go_wp2;rw[Exit.noGoto_ret];refine bP (v:=.tuple #[.agg #[.int .i64 0,.int .i64 0,.int .i64 0],.agg #[.int .i64 0,.int .i64 0,.int .i64 0],.int .i64 z]) (by simp[results,Tryz.results37,go_sem, *]) rfl ⟨rfl,?_⟩;exact(bS ((bS ((bS ((bS ((bS ((bS (HBX.out) (by show w.heap.size≤w.heap.size+1+1;omega))) (by show w.heap.size≤w.heap.size+1+1;omega))) (by show w.heap.size≤w.heap.size+1+1;omega))) (by show w.heap.size≤w.heap.size+1+1+1;omega))) (by show w.heap.size≤w.heap.size+1+1+1;omega))) (by show w.heap.size≤w.heap.size+1+1+1;omega)).drew
 ·have T:mvE ⟨a,b,c⟩ ⟨f,g,h⟩ n=chE ⟨a,b,c⟩ (-(max n 0)):=by unfold mvE;rw[if_neg e1]
  have U:mvX ⟨a,b,c⟩ ⟨f,g,h⟩ n=nought:=by unfold mvX;rw[if_neg (by rw[T];exact e1)]
  have V:mvY ⟨a,b,c⟩ ⟨f,g,h⟩ n=nought:=by unfold mvY;rw[if_neg (by rw[T];exact e1)]
  rw[T,U,V];have q1:(chE ⟨a,b,c⟩ (-(max n 0)) != 0)=true:=by rw[bne_iff_ne];exact e1
  generalize chE ⟨a,b,c⟩ (-(max n 0))=z at *;generalize chV ⟨a,b,c⟩ (-(max n 0))=r at *;obtain⟨p,q,r⟩:=r;clear T U V e1 HP hx hy hn;have hq2:w.heap.size<w.heap.size+1+1:=by omega
  have hq3:w.heap.size<w.heap.size+1+1+1:=by omega
  have hq4:w.heap.size<w.heap.size+1+1+1+1:=by omega
  have hq5:w.heap.size<w.heap.size+1+1+1+1+1:=by omega
  have hi0:=fun w=>run_at0 a b c f g h w;have hi1:=fun w=>run_at1 a b c f g h w;go_enter Tryz.func37,Tryz.ntmps37;go_wp2_with fail
  go_step3
  go_wp2_with fail
  go_step3
  go_wp2_with fail;refine wp_loop_in (wp_round ?_);go_wp2_with fail;refine(HK.out _).mono ?_;rintro e w1 ⟨rfl,hb1⟩;have k2_0:w1.cell? ⟨w.heap.size+1+1,0,none⟩=some (.int .i64 0):=by exact kK hb1 (by simp[go_sem, *])
  have z2_0:w1.frozen? ⟨w.heap.size+1+1,0,none⟩=false:=by rw[hb1.frozen (p:=⟨w.heap.size+1+1,0,none⟩) (by simp[go_sem, *])];simp[go_sem, *]
  have k2_1:w1.cell? ⟨w.heap.size+1+1,1,none⟩=some (.int .i64 0):=by exact kK hb1 (by simp[go_sem, *])
  have z2_1:w1.frozen? ⟨w.heap.size+1+1,1,none⟩=false:=by rw[hb1.frozen (p:=⟨w.heap.size+1+1,1,none⟩) (by simp[go_sem, *])];simp[go_sem, *]
  have k2_2:w1.cell? ⟨w.heap.size+1+1,2,none⟩=some (.int .i64 0):=by exact kK hb1 (by simp[go_sem, *])
  have z2_2:w1.frozen? ⟨w.heap.size+1+1,2,none⟩=false:=by rw[hb1.frozen (p:=⟨w.heap.size+1+1,2,none⟩) (by simp[go_sem, *])];simp[go_sem, *]
  have k3_0:w1.cell? ⟨w.heap.size+1+1+1,0,none⟩=some (.int .i64 0):=by exact kK hb1 (by simp[go_sem, *])
  have z3_0:w1.frozen? ⟨w.heap.size+1+1+1,0,none⟩=false:=by rw[hb1.frozen (p:=⟨w.heap.size+1+1+1,0,none⟩) (by simp[go_sem, *])];simp[go_sem, *]
  have k3_1:w1.cell? ⟨w.heap.size+1+1+1,1,none⟩=some (.int .i64 0):=by exact kK hb1 (by simp[go_sem, *])
  have z3_1:w1.frozen? ⟨w.heap.size+1+1+1,1,none⟩=false:=by rw[hb1.frozen (p:=⟨w.heap.size+1+1+1,1,none⟩) (by simp[go_sem, *])];simp[go_sem, *]
  have k3_2:w1.cell? ⟨w.heap.size+1+1+1,2,none⟩=some (.int .i64 0):=by exact kK hb1 (by simp[go_sem, *])
  have z3_2:w1.frozen? ⟨w.heap.size+1+1+1,2,none⟩=false:=by rw[hb1.frozen (p:=⟨w.heap.size+1+1+1,2,none⟩) (by simp[go_sem, *])];simp[go_sem, *]
  have k4_0:w1.cell? ⟨w.heap.size+1+1+1+1,0,none⟩=some (.int .i64 0):=by exact kK hb1 (by simp[go_sem, *])
  have z4_0:w1.frozen? ⟨w.heap.size+1+1+1+1,0,none⟩=false:=by rw[hb1.frozen (p:=⟨w.heap.size+1+1+1+1,0,none⟩) (by simp[go_sem, *])];simp[go_sem, *]
  have k4_1:w1.cell? ⟨w.heap.size+1+1+1+1,1,none⟩=some (.int .i64 0):=by exact kK hb1 (by simp[go_sem, *])
  have z4_1:w1.frozen? ⟨w.heap.size+1+1+1+1,1,none⟩=false:=by rw[hb1.frozen (p:=⟨w.heap.size+1+1+1+1,1,none⟩) (by simp[go_sem, *])];simp[go_sem, *]
  have k4_2:w1.cell? ⟨w.heap.size+1+1+1+1,2,none⟩=some (.int .i64 0):=by exact kK hb1 (by simp[go_sem, *])
  have z4_2:w1.frozen? ⟨w.heap.size+1+1+1+1,2,none⟩=false:=by rw[hb1.frozen (p:=⟨w.heap.size+1+1+1+1,2,none⟩) (by simp[go_sem, *])];simp[go_sem, *]
  have k4_3:w1.cell? ⟨w.heap.size+1+1+1+1,3,none⟩=some (.int .i64 0):=by exact kK hb1 (by simp[go_sem, *])
  have z4_3:w1.frozen? ⟨w.heap.size+1+1+1+1,3,none⟩=false:=by rw[hb1.frozen (p:=⟨w.heap.size+1+1+1+1,3,none⟩) (by simp[go_sem, *])];simp[go_sem, *]
  have k4_4:w1.cell? ⟨w.heap.size+1+1+1+1,4,none⟩=some (.int .i64 0):=by exact kK hb1 (by simp[go_sem, *])
  have z4_4:w1.frozen? ⟨w.heap.size+1+1+1+1,4,none⟩=false:=by rw[hb1.frozen (p:=⟨w.heap.size+1+1+1+1,4,none⟩) (by simp[go_sem, *])];simp[go_sem, *]
  have k4_5:w1.cell? ⟨w.heap.size+1+1+1+1,5,none⟩=some (.int .i64 0):=by exact kK hb1 (by simp[go_sem, *])
  have z4_5:w1.frozen? ⟨w.heap.size+1+1+1+1,5,none⟩=false:=by rw[hb1.frozen (p:=⟨w.heap.size+1+1+1+1,5,none⟩) (by simp[go_sem, *])];simp[go_sem, *]
  have HB1:=aH (bC (bL (bL (bL (bL (bL (bL (bR _ _) _) _) _) _) _) _) hb1);clear hb1;go_wp2_with fail;obtain⟨W,hW⟩:∃W,W=(((((((((w1.setCell ⟨w.heap.size+1+1+1+1,0,none⟩ (.int .i64 p)).setCell ⟨w.heap.size+1+1+1+1,1,none⟩ (.int .i64 q)).setCell ⟨w.heap.size+1+1+1+1,2,none⟩ (.int .i64 r)).setCell ⟨w.heap.size+1+1+1+1,0,none⟩ (.int .i64 0)).setCell ⟨w.heap.size+1+1+1+1,1,none⟩ (.int .i64 0)).setCell ⟨w.heap.size+1+1+1+1,2,none⟩ (.int .i64 0)).setCell ⟨w.heap.size+1+1+1+1,3,none⟩ (.int .i64 0)).setCell ⟨w.heap.size+1+1+1+1,4,none⟩ (.int .i64 0)).setCell ⟨w.heap.size+1+1+1+1,5,none⟩ (.int .i64 0)):=⟨_,rfl⟩;rw[←hW];have HBW:=aH (show Below w.heap.size w W by rw[hW];exact bS (bS (bS (bS (bS (bS (bS (bS (bS (HB1.out) (by show w.heap.size≤w.heap.size+1+1+1+1;omega)) (by show w.heap.size≤w.heap.size+1+1+1+1;omega)) (by show w.heap.size≤w.heap.size+1+1+1+1;omega)) (by show w.heap.size≤w.heap.size+1+1+1+1;omega)) (by show w.heap.size≤w.heap.size+1+1+1+1;omega)) (by show w.heap.size≤w.heap.size+1+1+1+1;omega)) (by show w.heap.size≤w.heap.size+1+1+1+1;omega)) (by show w.heap.size≤w.heap.size+1+1+1+1;omega)) (by show w.heap.size≤w.heap.size+1+1+1+1;omega));have k2_0w:W.cell? ⟨w.heap.size+1+1,0,none⟩=some (.int .i64 0):=by rw[hW];exact(sO (sO (sO (sO (sO (sO (sO (sO (sO k2_0 (aN (by omega))) (aN (by omega))) (aN (by omega))) (aN (by omega))) (aN (by omega))) (aN (by omega))) (aN (by omega))) (aN (by omega))) (aN (by omega)))
  have z2_0w:W.frozen? ⟨w.heap.size+1+1,0,none⟩=false:=by rw[hW];exact sF (sF (sF (sF (sF (sF (sF (sF (sF (z2_0)))))))))
  have k2_1w:W.cell? ⟨w.heap.size+1+1,1,none⟩=some (.int .i64 0):=by rw[hW];exact(sO (sO (sO (sO (sO (sO (sO (sO (sO k2_1 (aN (by omega))) (aN (by omega))) (aN (by omega))) (aN (by omega))) (aN (by omega))) (aN (by omega))) (aN (by omega))) (aN (by omega))) (aN (by omega)))
  have z2_1w:W.frozen? ⟨w.heap.size+1+1,1,none⟩=false:=by rw[hW];exact sF (sF (sF (sF (sF (sF (sF (sF (sF (z2_1)))))))))
  have k2_2w:W.cell? ⟨w.heap.size+1+1,2,none⟩=some (.int .i64 0):=by rw[hW];exact(sO (sO (sO (sO (sO (sO (sO (sO (sO k2_2 (aN (by omega))) (aN (by omega))) (aN (by omega))) (aN (by omega))) (aN (by omega))) (aN (by omega))) (aN (by omega))) (aN (by omega))) (aN (by omega)))
  have z2_2w:W.frozen? ⟨w.heap.size+1+1,2,none⟩=false:=by rw[hW];exact sF (sF (sF (sF (sF (sF (sF (sF (sF (z2_2)))))))))
  have k3_0w:W.cell? ⟨w.heap.size+1+1+1,0,none⟩=some (.int .i64 0):=by rw[hW];exact(sO (sO (sO (sO (sO (sO (sO (sO (sO k3_0 (aN (by omega))) (aN (by omega))) (aN (by omega))) (aN (by omega))) (aN (by omega))) (aN (by omega))) (aN (by omega))) (aN (by omega))) (aN (by omega)))
  have z3_0w:W.frozen? ⟨w.heap.size+1+1+1,0,none⟩=false:=by rw[hW];exact sF (sF (sF (sF (sF (sF (sF (sF (sF (z3_0)))))))))
  have k3_1w:W.cell? ⟨w.heap.size+1+1+1,1,none⟩=some (.int .i64 0):=by rw[hW];exact(sO (sO (sO (sO (sO (sO (sO (sO (sO k3_1 (aN (by omega))) (aN (by omega))) (aN (by omega))) (aN (by omega))) (aN (by omega))) (aN (by omega))) (aN (by omega))) (aN (by omega))) (aN (by omega)))
  have z3_1w:W.frozen? ⟨w.heap.size+1+1+1,1,none⟩=false:=by rw[hW];exact sF (sF (sF (sF (sF (sF (sF (sF (sF (z3_1)))))))))
  have k3_2w:W.cell? ⟨w.heap.size+1+1+1,2,none⟩=some (.int .i64 0):=by rw[hW];exact(sO (sO (sO (sO (sO (sO (sO (sO (sO k3_2 (aN (by omega))) (aN (by omega))) (aN (by omega))) (aN (by omega))) (aN (by omega))) (aN (by omega))) (aN (by omega))) (aN (by omega))) (aN (by omega)))
  have z3_2w:W.frozen? ⟨w.heap.size+1+1+1,2,none⟩=false:=by rw[hW];exact sF (sF (sF (sF (sF (sF (sF (sF (sF (z3_2)))))))))
  have k4_0w:W.cell? ⟨w.heap.size+1+1+1+1,0,none⟩=some (.int .i64 0):=by rw[hW];exact(sO (sO (sO (sO (sO (st_same (sO (sO (st_same k4_0) (aN (by omega))) (aN (by omega)))) (aN (by omega))) (aN (by omega))) (aN (by omega))) (aN (by omega))) (aN (by omega)))
  have z4_0w:W.frozen? ⟨w.heap.size+1+1+1+1,0,none⟩=false:=by rw[hW];exact sF (sF (sF (sF (sF (sF (sF (sF (sF (z4_0)))))))))
  have k4_1w:W.cell? ⟨w.heap.size+1+1+1+1,1,none⟩=some (.int .i64 0):=by rw[hW];exact(sO (sO (sO (sO (st_same (sO (sO (st_same (sO k4_1 (aN (by omega)))) (aN (by omega))) (aN (by omega)))) (aN (by omega))) (aN (by omega))) (aN (by omega))) (aN (by omega)))
  have z4_1w:W.frozen? ⟨w.heap.size+1+1+1+1,1,none⟩=false:=by rw[hW];exact sF (sF (sF (sF (sF (sF (sF (sF (sF (z4_1)))))))))
  have k4_2w:W.cell? ⟨w.heap.size+1+1+1+1,2,none⟩=some (.int .i64 0):=by rw[hW];exact(sO (sO (sO (st_same (sO (sO (st_same (sO (sO k4_2 (aN (by omega))) (aN (by omega)))) (aN (by omega))) (aN (by omega)))) (aN (by omega))) (aN (by omega))) (aN (by omega)))
  have z4_2w:W.frozen? ⟨w.heap.size+1+1+1+1,2,none⟩=false:=by rw[hW];exact sF (sF (sF (sF (sF (sF (sF (sF (sF (z4_2)))))))))
  have k4_3w:W.cell? ⟨w.heap.size+1+1+1+1,3,none⟩=some (.int .i64 0):=by rw[hW];exact(sO (sO (st_same (sO (sO (sO (sO (sO (sO k4_3 (aN (by omega))) (aN (by omega))) (aN (by omega))) (aN (by omega))) (aN (by omega))) (aN (by omega)))) (aN (by omega))) (aN (by omega)))
  have z4_3w:W.frozen? ⟨w.heap.size+1+1+1+1,3,none⟩=false:=by rw[hW];exact sF (sF (sF (sF (sF (sF (sF (sF (sF (z4_3)))))))))
  have k4_4w:W.cell? ⟨w.heap.size+1+1+1+1,4,none⟩=some (.int .i64 0):=by rw[hW];exact(sO (st_same (sO (sO (sO (sO (sO (sO (sO k4_4 (aN (by omega))) (aN (by omega))) (aN (by omega))) (aN (by omega))) (aN (by omega))) (aN (by omega))) (aN (by omega)))) (aN (by omega)))
  have z4_4w:W.frozen? ⟨w.heap.size+1+1+1+1,4,none⟩=false:=by rw[hW];exact sF (sF (sF (sF (sF (sF (sF (sF (sF (z4_4)))))))))
  have k4_5w:W.cell? ⟨w.heap.size+1+1+1+1,5,none⟩=some (.int .i64 0):=by rw[hW];exact(st_same (sO (sO (sO (sO (sO (sO (sO (sO k4_5 (aN (by omega))) (aN (by omega))) (aN (by omega))) (aN (by omega))) (aN (by omega))) (aN (by omega))) (aN (by omega))) (aN (by omega))))
  have z4_5w:W.frozen? ⟨w.heap.size+1+1+1+1,5,none⟩=false:=by rw[hW];exact sF (sF (sF (sF (sF (sF (sF (sF (sF (z4_5)))))))))
  clear hW HB1
  go_region
  go_wp2;rw[Exit.noGoto_ret];refine bP (v:=.tuple #[.agg #[.int .i64 0,.int .i64 0,.int .i64 0],.agg #[.int .i64 0,.int .i64 0,.int .i64 0],.int .i64 z]) (by simp[results,Tryz.results37,go_sem, *]) rfl ⟨rfl,?_⟩;exact(bS ((bS ((bS ((bS ((bS ((bS (HBW.out) (by show w.heap.size≤w.heap.size+1+1;omega))) (by show w.heap.size≤w.heap.size+1+1;omega))) (by show w.heap.size≤w.heap.size+1+1;omega))) (by show w.heap.size≤w.heap.size+1+1+1;omega))) (by show w.heap.size≤w.heap.size+1+1+1;omega))) (by show w.heap.size≤w.heap.size+1+1+1;omega)).drew
end Go.Proofs.YtacjonncakhhmaaGreat.Cel
