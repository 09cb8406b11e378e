/- Two parts that may have no number, spans, and where a part lies: what the program and the reference answer. -/
import Derived.Test.YtmecohdedghiaaaGreatDoorPo00
import Derived.Test.YtmecohdedghiaaaGreatDoorPo04
import Derived.Test.YtmecohdedghiaaaGreatDoorPo07
import Derived.Deep.Cut
set_option maxRecDepth 100000
set_option maxHeartbeats 8000000
open Go.Proofs.Tryz
namespace Go.Proofs.YtmecohdedghiaaaGreatDoor
open Go.RowKit
def xO (x y:Nat) (w:World):Nat:=(Ieee.double.mul x y).getD (nd x y w)
def A8 (x y:Nat):Nat:=if (Ieee.double.mul x y).isSome then 0 else 1
def uW (x y:Nat) (w:World):Nat:=(Ieee.double.add x y).getD (nd x y w)
def Bk (x y:Nat):Nat:=if (Ieee.double.add x y).isSome then 0 else 1
theorem pu (x y:Nat) (w:World):(binOp .mul 84 (.float .f64 x) (.float .f64 y)).run prog w=.ok (.float .f64 (xO x y w)) (w.drewN (A8 x y)):=by
 unfold xO A8;rcases he:Ieee.double.mul x y with _|p
 ·have Lx:FloatKind.f64.format.mul x y=none:=he;simp[binOp,Op.floatArith,Lx,Question.forced];exact⟨rfl,rfl⟩
 ·exact run_float_arith (P:=prog) w .mul 84 .f64 _ _ _ he
theorem mq (x y:Nat) (w:World):(binOp .add 84 (.float .f64 x) (.float .f64 y)).run prog w=.ok (.float .f64 (uW x y w)) (w.drewN (Bk x y)):=by
 unfold uW Bk;rcases he:Ieee.double.add x y with _|p
 ·have Lx:FloatKind.f64.format.add x y=none:=he;simp[binOp,Op.floatArith,Lx,Question.forced];exact⟨rfl,rfl⟩
 ·exact run_float_arith (P:=prog) w .add 84 .f64 _ _ _ he
def xI (X P c:Nat):Option Nat:=(Ieee.double.mul c P).bind fun p=>Ieee.double.add X p
def yr (X P c m:Nat):Prop:=match xI X P c with|some v=>m=v|none=>aR m=true
theorem nn (X P c:Nat) (w w':World):yr X P c (uW X (xO c P w) w'):=by
 unfold yr xI xO uW;rcases hm:Ieee.double.mul c P with _|p
 ·have hn:nan (nd c P w):=of_decide_eq_true (iO c P w);have ha:=fo X (nd c P w) (.inr (.inl hn));show aR ((Ieee.double.add X (nd c P w)).getD (nd X (nd c P w) w'))=true;rw[show Ieee.double.add X (nd c P w)=none from ha];exact iO _ _ _
 ·show match Ieee.double.add X p with|some v=>(Ieee.double.add X p).getD (nd X p w')=v|none=>aR ((Ieee.double.add X p).getD (nd X p w'))=true
  rcases ha:Ieee.double.add X p with _|q
  ·exact iO _ _ _
  ·rfl
def cv (l:List Nat) (X P R c:Nat):Nat×Nat×Int:=dQ l ((xI X P c).getD 9221120237041090560) R
theorem oQ (l:List Nat) (X P R c m:Nat) (h:yr X P c m):dQ l m R=cv l X P R c:=by
 unfold yr at h;unfold cv;rcases e:xI X P c with _|v
 ·rw[e]at h;have h':aR m=true:=h;have h9:aR 9221120237041090560=true:=by decide+kernel
  show dQ l m R=dQ l 9221120237041090560 R;unfold dQ;rw[h',h9];simp
 ·rw[e]at h;have h':m=v:=h;rw[h'];rfl
def cf (n:Int):Nat:=floatOfInt FloatKind.f64 n
abbrev Rk.v (q:Rk):Value:=.agg #[.int .i64 q.rows,.int .i64 q.cols,.float .f64 q.x,.float .f64 q.p,.float .f64 q.r]
theorem nI (q:Rk) (c:Int) (w:World):Calls prog 219 #[q.v,.int .i64 c] w fun e w'=>∃m,e=.returned (.float .f64 m)∧yr q.x q.p (cf c) m∧Bw w w':=by
 obtain⟨a,b,X,P,R⟩:=q;have hm:=fun x y w=>pu x y w;have ha:=fun x y w=>mq x y w;go_enter func219,ntmps219;go_wp2
 go_ret
 exact⟨_,rfl,nn _ _ _ _ _,aa (bL (bR _ _) _) _⟩
theorem fq (q:Pl) (w:World):Calls prog 217 #[q.v] w fun e w'=>e=.returned (.agg #[.int .i64 q.rows,.int .i64 q.cols,.float .f64 q.x,.float .f64 q.p,.float .f64 q.r])∧Bw w w':=by
 obtain⟨a,b,X,P,R,cap,sA,sn,sc,st⟩:=q;have G5:=fun(w:World) (a:Addr) (m:Mode) (b:Nat)=>aq (P:=prog) (w:=w) (a:=a) (m:=m) .f64 b;go_enter func217,ntmps217;go_wp2;refine bP (v:=.agg #[.int .i64 a,.int .i64 b,.float .f64 X,.float .f64 P,.float .f64 R]) (by simp[results,results217,go_sem]) rfl ⟨rfl,?_⟩;(repeat (first|exact bR _ _|(with_reducible refine bS ?_ (by simp<;>omega))|(with_reducible refine bL ?_ _)))
theorem vg (k:Int) (w:World):Calls prog 243 #[.int .i64 k] w fun e w'=>e=.returned (.agg #[.int .i64 k,.int .i64 k])∧Bw w w':=by
 go_enter func243,ntmps243;go_wp2;refine bP (v:=.agg #[.int .i64 k,.int .i64 k]) (by simp[results,results243,go_sem]) rfl ⟨rfl,?_⟩;(repeat (first|exact bR _ _|(with_reducible refine bS ?_ (by simp<;>omega))|(with_reducible refine bL ?_ _)))
theorem gE (v:Value) (xs:List Nat) (q:Rk) (c:Int) (w:World) (h:KF.IsL w w.heap.size v xs) (hr:q.r<18446744073709551616):Calls prog 156 #[v,q.v,.int .i64 c] w fun e w'=>e=.returned (aG (cv xs q.x q.p q.r (cf c)))∧Bw w w':=by
 obtain⟨a,b,X,P,R⟩:=q;have HR:=aH (fun m (hm:yr X P (cf c) m) (w:World) (h:KF.IsL w w.heap.size v xs)=>show Calls prog 218 #[v,.float .f64 m,.float .f64 R] w fun e w'=>e=.returned (aG (cv xs X P R (cf c)))∧Bw w w' by
  have:=rz v xs m R hr w h
  rwa [oQ xs X P R (cf c) m hm]at this)
 show Calls prog 156 #[v,.agg #[.int .i64 a,.int .i64 b,.float .f64 X,.float .f64 P,.float .f64 R],.int .i64 c] w fun e w'=>e=.returned (aG (cv xs X P R (cf c)))∧Bw w w';generalize cv xs X P R (cf c)=t at *;obtain⟨t1,t2,t3⟩:=t;unfold aG at *;dsimp only at HR⊢;have HL:=aH h;clear h hr;obtain⟨w0,hw0⟩:∃w0,w0=(w.alloc (.cells #[.int .i64 a,.int .i64 b,.float .f64 X,.float .f64 P,.float .f64 R] 118)).alloc (.cells #[.int .i64 0,.int .i64 0] 134):=⟨_,rfl⟩;go_enter func156,ntmps156;go_wp2_with fail;rw[←hw0];have CG:=aH (show Bw w w0.drew by rw[hw0];exact(bL (bL (bR _ _) _) _).drew);have NU:=aH (show KF.IsL w0.drew w0.drew.heap.size v xs from HL.out.then CG.out);have c0:w0.cell? ⟨w.heap.size,0,none⟩=some (.int .i64 a):=by rw[hw0];simp
 have c1:w0.cell? ⟨w.heap.size,1,none⟩=some (.int .i64 b):=by rw[hw0];simp
 have c2:w0.cell? ⟨w.heap.size,2,none⟩=some (.float .f64 X):=by rw[hw0];simp
 have c3:w0.cell? ⟨w.heap.size,3,none⟩=some (.float .f64 P):=by rw[hw0];simp
 have c4:w0.cell? ⟨w.heap.size,4,none⟩=some (.float .f64 R):=by rw[hw0];simp
 have r0:w0.drew.cell? ⟨w.heap.size+1,0,none⟩=some (.int .i64 0):=by rw[hw0];simp[go_sem]
 have r1:w0.drew.cell? ⟨w.heap.size+1,1,none⟩=some (.int .i64 0):=by rw[hw0];simp[go_sem]
 have z0:w0.drew.frozen? ⟨w.heap.size+1,0,none⟩=false:=by rw[hw0];simp[go_sem]
 have z1:w0.drew.frozen? ⟨w.heap.size+1,1,none⟩=false:=by rw[hw0];simp[go_sem]
 clear hw0 HL;refine Ba ⟨c0,c1,c2,c3,c4⟩ (by kernel_rfl) (fun CC=>?_);refine wk [.k 0 8,.k 1 9,.k 2 10,.k 4 12,.k 5 13] (fun _ _ _ _ _ h=>h) CC ?_ (by kernel_rfl);repeat (refine .k (v:=?_) rfl (by kernel_rfl) ?_ ?_;rotate_left 1;(intro w h;go_simp<;>try rfl);try simp only[sp])
 refine .nil ?_;clear c0 c1 c2 c3 c4;refine wQ 3 (some 11) rfl (fun K hK=>?_) (by kernel_rfl);go_simp;refine(nI ⟨a,b,X,P,R⟩ c _).mono ?_;rintro e v1 ⟨m,rfl,hm,hb⟩;have HM:=aH hm;have CH:=aH (bC CG.out hb);have ES:=aH (NU.out.then hb);have k0:=kK hb r0;have k1:=kK hb r1;have y0:=(hb.frozen (p:=⟨w.heap.size+1,0,none⟩) (wB _ _ r0)).trans z0;have y1:=(hb.frozen (p:=⟨w.heap.size+1,1,none⟩) (wB _ _ r1)).trans z1;clear hm r0 r1 z0 z1;go_wp2_with fail;refine hK.out _ _ ?_ (fun CC=>?_)
 ·exact⟨kK hb CC.1,kK hb CC.2.1,kK hb CC.2.2.1,kK hb CC.2.2.2.1,kK hb CC.2.2.2.2⟩
 clear hK K hb;try simp only[sp]
 refine wQ 6 (some 14) rfl (fun K hK=>?_) (by kernel_rfl);go_simp;refine(HR.out m HM.out v1 ES.out).mono ?_;rintro e v2 ⟨rfl,hb⟩;have CL:=aH (bC CH.out hb);have j0:=kK hb k0;have j1:=kK hb k1;have x0:=(hb.frozen (p:=⟨w.heap.size+1,0,none⟩) (wB _ _ k0)).trans y0;have x1:=(hb.frozen (p:=⟨w.heap.size+1,1,none⟩) (wB _ _ k1)).trans y1;clear k0 k1 y0 y1 ES CH;go_wp2_with fail;refine hK.out _ _ ?_ (fun CC=>?_)
 ·exact⟨kK hb CC.1,kK hb CC.2.1,kK hb CC.2.2.1,kK hb CC.2.2.2.1,kK hb CC.2.2.2.2⟩
 clear hK K hb;try simp only[sp]
 refine wk [.k 7 15,.k 8 16] (fun _ _ _ _ _ h=>h) CC ?_ (by kernel_rfl);repeat (refine .k (v:=?_) rfl (by kernel_rfl) ?_ ?_;rotate_left 1;(intro w h;go_simp<;>try rfl);try simp only[sp])
 refine .nil ?_;refine wQ 9 none rfl (fun K hK=>?_) (by kernel_rfl);go_simp;refine hK.out _ _ ?_ (fun CC=>?_)
 ·exact⟨sO (sO CC.1 (by simp)) (by simp),sO (sO CC.2.1 (by simp)) (by simp),sO (sO CC.2.2.1 (by simp)) (by simp),sO (sO CC.2.2.2.1 (by simp)) (by simp),sO (sO CC.2.2.2.2 (by simp)) (by simp)⟩
 clear hK K;try simp only[sp]
 refine wk [.k 10 7] (fun _ _ _ _ _ h=>h) CC ?_ (by kernel_rfl);repeat (refine .k (v:=?_) rfl (by kernel_rfl) ?_ ?_;rotate_left 1;(intro w h;go_simp<;>try rfl);try simp only[sp])
 refine .nil ?_;refine wD (by kernel_rfl) ?_;go_wp2;have s0:((v2.setCell ⟨w.heap.size+1,0,none⟩ (.int .i64 t1)).setCell ⟨w.heap.size+1,1,none⟩ (.int .i64 t2)).cell? ⟨w.heap.size+1,0,none⟩=some (.int .i64 t1):=sO (ag j0) (by simp);have s1:((v2.setCell ⟨w.heap.size+1,0,none⟩ (.int .i64 t1)).setCell ⟨w.heap.size+1,1,none⟩ (.int .i64 t2)).cell? ⟨w.heap.size+1,1,none⟩=some (.int .i64 t2):=ag (sO j1 (by simp));exact bP (v:=.tuple #[.agg #[.int .i64 t1,.int .i64 t2],.int .i64 t3]) (by simp[results,results156,go_sem,s0,s1]) rfl ⟨rfl,bS (bS CL.out (by show w.heap.size≤w.heap.size+1;omega)) (by show w.heap.size≤w.heap.size+1;omega)⟩
def dW (q:Pl):Rk:=⟨q.rows,q.cols,q.x,q.p,q.r⟩
noncomputable def bs (d:Dk) (p:Q4):Rk:=if p.a=1 then dW (d.pl.getD p.b.toNat KP.dflt)else d.rl.getD p.b.toNat KR.dflt
def ni (d:Dk) (p:Q4):Prop:=(p.a=1∧0≤p.b∧p.b.toNat<d.pl.length)∨(p.a=2∧0≤p.b∧p.b.toNat<d.rl.length)
theorem ku {w:World} {d:Dk} (hd:d.In w w.heap.size) (p:Q4) (h:ni d p):(bs d p).r<18446744073709551616:=by
 unfold bs;rcases h with ⟨h,_,hl⟩|⟨h,_,hl⟩
 ·rw[if_pos h];exact(hd.p.okAt _ hl).2.2.2.2.1
 ·rw[if_neg (by omega)];exact(hd.r.okAt _ hl).2.2.2.2
theorem oo (d:Dk) (p:Q4) (w:World) (hd:d.In w w.heap.size) (hp:ni d p):Calls prog 244 #[d.v,p.v] w fun e w'=>e=.returned (bs d p).v∧Bw w w':=by
 obtain⟨pa,pb,pc',pd⟩:=p;have HD:=aH hd;have e0:=hd.b.len;have e1:=hd.p.len;have e2:=hd.r.len;unfold ni at hp;dsimp only at hp;obtain⟨k,rfl⟩:∃k:Nat,pb=(k:Int):=⟨pb.toNat,by omega⟩;rw[Int.toNat_natCast]at hp;have T:bs d ⟨pa,k,pc',pd⟩=if pa=1 then dW (d.pl.getD k KP.dflt)else d.rl.getD k KR.dflt:=by unfold bs;dsimp only;rw[Int.toNat_natCast]
 rw[T];clear T;obtain⟨bA,bn,bc,bl,pA,pn,pc,pl,rA,rn,rc,rl,arms⟩:=d;dsimp only at *;subst e0 e1 e2;clear hd;have G5:=fun(w:World) (a:Addr) (m:Mode) (b:Nat)=>aq (P:=prog) (w:=w) (a:=a) (m:=m) .f64 b;rcases hp with ⟨rfl,_,hl⟩|⟨rfl,_,hl⟩
 ·rw[if_pos rfl];have DI:=bL (bL (bL (bR w.heap.size w) (.cells #[.slice bA bl.length bc,.slice pA pl.length pc,.slice rA rl.length rc,.int .i64 arms] 26)) (.cells #[.int .i64 1,.int .i64 k,.int .i64 pc',.int .i64 pd] 153)) (.cells #[.int .i64 0,.int .i64 0,.float .f64 0,.float .f64 0,.float .f64 0] 118);obtain⟨w0,hw0⟩:∃w0,w0=((w.alloc (.cells #[.slice bA bl.length bc,.slice pA pl.length pc,.slice rA rl.length rc,.int .i64 arms] 26)).alloc (.cells #[.int .i64 1,.int .i64 k,.int .i64 pc',.int .i64 pd] 153)).alloc (.cells #[.int .i64 0,.int .i64 0,.float .f64 0,.float .f64 0,.float .f64 0] 118):=⟨_,rfl⟩;rw[←hw0]at DI;obtain⟨b,off,rfl,hb,hc,CD⟩:=aQ (HD.out.p.below DI) (by dsimp only;omega);obtain⟨c0,c1,c2,c3,c4,c5,c6⟩:=CD k hl;have H7:=aH (fun w=>fq (pl.getD k KP.dflt) w);clear CD;dsimp only at *;generalize pl.getD k KP.dflt=q at *;obtain⟨a1,a2,X,P,R,cap,sA,sn,sc,st⟩:=q;dsimp only at *;unfold dW;rw[hw0]at c0 c1 c2 c3 c4 c5 c6;go_enter func244,ntmps244;go_wp2_with fail;refine(H7.out _).mono ?_;rintro e w1 ⟨rfl,CE⟩;have r0:w1.cell? ⟨w.heap.size+1+1,0,none⟩=some (.int .i64 0):=kK CE (by simp[go_sem]);have r1:w1.cell? ⟨w.heap.size+1+1,1,none⟩=some (.int .i64 0):=kK CE (by simp[go_sem]);have r2:w1.cell? ⟨w.heap.size+1+1,2,none⟩=some (.float .f64 0):=kK CE (by simp[go_sem]);have r3:w1.cell? ⟨w.heap.size+1+1,3,none⟩=some (.float .f64 0):=kK CE (by simp[go_sem]);have r4:w1.cell? ⟨w.heap.size+1+1,4,none⟩=some (.float .f64 0):=kK CE (by simp[go_sem]);have z0:w1.frozen? ⟨w.heap.size+1+1,0,none⟩=false:=by rw[CE.frozen (p:=⟨w.heap.size+1+1,0,none⟩) (by simp[go_sem])];simp[go_sem]
  have z1:w1.frozen? ⟨w.heap.size+1+1,1,none⟩=false:=by rw[CE.frozen (p:=⟨w.heap.size+1+1,1,none⟩) (by simp[go_sem])];simp[go_sem]
  have z2:w1.frozen? ⟨w.heap.size+1+1,2,none⟩=false:=by rw[CE.frozen (p:=⟨w.heap.size+1+1,2,none⟩) (by simp[go_sem])];simp[go_sem]
  have z3:w1.frozen? ⟨w.heap.size+1+1,3,none⟩=false:=by rw[CE.frozen (p:=⟨w.heap.size+1+1,3,none⟩) (by simp[go_sem])];simp[go_sem]
  have z4:w1.frozen? ⟨w.heap.size+1+1,4,none⟩=false:=by rw[CE.frozen (p:=⟨w.heap.size+1+1,4,none⟩) (by simp[go_sem])];simp[go_sem]
  rw[hw0]at DI;have CH:=aH (bC DI CE);clear CE DI hw0 c0 c1 c2 c3 c4 c5 c6;go_wp2;refine bP (v:=.agg #[.int .i64 a1,.int .i64 a2,.float .f64 X,.float .f64 P,.float .f64 R]) (by simp[results,results244,go_sem,r0,r1,r2,r3,r4]) rfl ⟨rfl,?_⟩;exact bS (bS (bS (bS (bS CH.out (by show w.heap.size≤w.heap.size+1+1;omega)) (by show w.heap.size≤w.heap.size+1+1;omega)) (by show w.heap.size≤w.heap.size+1+1;omega)) (by show w.heap.size≤w.heap.size+1+1;omega)) (by show w.heap.size≤w.heap.size+1+1;omega)
 ·rw[if_neg (by decide)];have DI:=bL (bL (bL (bR w.heap.size w) (.cells #[.slice bA bl.length bc,.slice pA pl.length pc,.slice rA rl.length rc,.int .i64 arms] 26)) (.cells #[.int .i64 2,.int .i64 k,.int .i64 pc',.int .i64 pd] 153)) (.cells #[.int .i64 0,.int .i64 0,.float .f64 0,.float .f64 0,.float .f64 0] 118);obtain⟨w0,hw0⟩:∃w0,w0=((w.alloc (.cells #[.slice bA bl.length bc,.slice pA pl.length pc,.slice rA rl.length rc,.int .i64 arms] 26)).alloc (.cells #[.int .i64 2,.int .i64 k,.int .i64 pc',.int .i64 pd] 153)).alloc (.cells #[.int .i64 0,.int .i64 0,.float .f64 0,.float .f64 0,.float .f64 0] 118):=⟨_,rfl⟩;rw[←hw0]at DI;obtain⟨b,off,rfl,hb,hc,CD⟩:=bu (HD.out.r.below DI) (by dsimp only;omega);obtain⟨c0,c1,c2,c3,c4⟩:=CD k hl;clear CD;dsimp only at *;generalize rl.getD k KR.dflt=q at *;obtain⟨a1,a2,X,P,R⟩:=q;dsimp only at *;rw[hw0]at c0 c1 c2 c3 c4 DI;have CG:=aH DI;clear DI hw0;go_enter func244,ntmps244;go_wp2;refine bP (v:=.agg #[.int .i64 a1,.int .i64 a2,.float .f64 X,.float .f64 P,.float .f64 R]) (by simp[results,results244,go_sem]) rfl ⟨rfl,?_⟩;(repeat (first|exact bR _ _|(with_reducible refine bS ?_ (by simp<;>omega))|(with_reducible refine bL ?_ _)))
theorem aW {b b' o o':Nat} (h:b≠b'∨o≠o'):(⟨b,o,none⟩:Addr)≠⟨b',o',none⟩:=by
 intro e
 cases e
 rcases h with h|h<;>exact h rfl
theorem gp (d:Dk) (p:Q4) (hp:p∈ak d):(p.a=3∧0≤p.b)∨ni d p:=by
 have UE:=hp;unfold ak at hp;by_cases hz:aJ d=0
 ·rw[if_pos hz]at hp;unfold bM ar bD at hp;obtain⟨u,hu,hp⟩:=List.mem_flatMap.1 hp;have Hq:p.a=u.a∧p.b=u.b:=by
   unfold aw at hp;obtain⟨i,_,rfl⟩:=List.mem_map.1 hp;exact⟨rfl,rfl⟩
  rcases List.mem_append.1 hu with hu|hu
  ·rcases List.mem_append.1 hu with hu|hu
   ·obtain⟨i,hi,rfl⟩:=List.mem_map.1 hu;have hi:=List.mem_range.1 hi;have e1:p.a=1:=Hq.1;have e2:p.b=(i:Int):=Hq.2;exact .inr (.inl ⟨e1,by omega,by rw[e2,Int.toNat_natCast];exact hi⟩)
   ·obtain⟨i,hi,rfl⟩:=List.mem_map.1 hu;have hi:=List.mem_range.1 hi;have e1:p.a=2:=Hq.1;have e2:p.b=(i:Int):=Hq.2;exact .inr (.inr ⟨e1,by omega,by rw[e2,Int.toNat_natCast];exact hi⟩)
  ·obtain⟨i,hi,rfl⟩:=List.mem_map.1 hu;have e1:p.a=3:=Hq.1;have e2:p.b=(i:Int):=Hq.2;exact .inl ⟨e1,by omega⟩
 ·rw[if_neg hz]at hp
  cases hp
noncomputable def cr (d:Dk) (p:Q4):Nat×Nat×Int:=if p.a=3 then(p.b.toNat,p.b.toNat,0)else cv d.bl (bs d p).x (bs d p).p (bs d p).r (cf p.d)
noncomputable def pQ (d:Dk) (id:Int):Nat×Nat×Int:=if (bh d id).2=0 then cr d (bh d id).1 else(0,0,(bh d id).2)
theorem mK (d:Dk) (id:Int) (DU:ae id) (w:World) (hd:d.In w w.heap.size):Calls prog 206 #[d.v,.int .i64 id] w fun e w'=>e=.returned (aG (pQ d id))∧Bw w w':=by
 have HD:=aH hd;have HP:=aH (fun w h=>iY d id DU w h);have Dh:=aH (sD d id);have HS:=aH (show pQ d id=if (bh d id).2=0 then cr d (bh d id).1 else(0,0,(bh d id).2)from rfl);rw[HS.out];clear HS;generalize bh d id=t at *;obtain⟨p,err⟩:=t;dsimp only at *;unfold ft at HP;dsimp only at HP;by_cases he:err=0
 ·subst he;rw[if_pos rfl];obtain⟨Dj,GV,hz,_,_⟩:=Dh.out rfl;clear Dh;rcases gp d p GV with ⟨h3,DI⟩|hl
  ·have T:cr d p=(p.b.toNat,p.b.toNat,0):=(by unfold cr;rw[if_pos h3]);rw[T];have q3:(p.a==3)=true:=(by rw[beq_iff_eq];exact h3);have HB:=aH (show((p.b.toNat:Nat):Int)=p.b by omega);clear T h3 Dj GV hz hd DI;have HO:=aH (fun k w=>vg k w);obtain⟨a,b,c,dd⟩:=p;dsimp only at *;unfold aG;dsimp only;rw[HB.out];go_enter func206,ntmps206;go_wp2_with fail;refine(HP.out _ (HD.out.then (bL (bL (bR _ _) _) _))).mono ?_;rintro e w1 ⟨rfl,CE⟩;have c0:w1.cell? ⟨w.heap.size,0,none⟩=some (.slice d.bA d.bn d.bc):=kK CE (by simp[go_sem]);have c1:w1.cell? ⟨w.heap.size,1,none⟩=some (.slice d.pA d.pn d.pc):=kK CE (by simp[go_sem]);have c2:w1.cell? ⟨w.heap.size,2,none⟩=some (.slice d.rA d.rn d.rc):=kK CE (by simp[go_sem]);have c3:w1.cell? ⟨w.heap.size,3,none⟩=some (.int .i64 d.arms):=kK CE (by simp[go_sem]);have r0:w1.cell? ⟨w.heap.size+1,0,none⟩=some (.int .i64 0):=kK CE (by simp[go_sem]);have z0:w1.frozen? ⟨w.heap.size+1,0,none⟩=false:=(by rw[CE.frozen (p:=⟨w.heap.size+1,0,none⟩) (by simp[go_sem])];simp[go_sem]);have r1:w1.cell? ⟨w.heap.size+1,1,none⟩=some (.int .i64 0):=kK CE (by simp[go_sem]);have z1:w1.frozen? ⟨w.heap.size+1,1,none⟩=false:=(by rw[CE.frozen (p:=⟨w.heap.size+1,1,none⟩) (by simp[go_sem])];simp[go_sem]);have hs:=CE.size;simp at hs;have CH:=aH (bC (bL (bL (bR _ _) d.ob) (.cells #[.int .i64 0,.int .i64 0] 134)) CE);clear CE;go_wp2_with fail;refine(HO.out _ _).mono ?_;rintro e w2 ⟨rfl,CM⟩;have CO:=bC (bL (bR _ _) _) CM;have s0:=kK CO r0;have s1:=kK CO r1;have y0:=(CO.frozen (p:=⟨w.heap.size+1,0,none⟩) (wB _ _ r0)).trans z0;have y1:=(CO.frozen (p:=⟨w.heap.size+1,1,none⟩) (wB _ _ r1)).trans z1;have CL:=aH (bC CH.out CO);clear CM CO r0 r1 z0 z1 c0 c1 c2 c3;go_wp2
   exact bP (v:=.tuple #[.agg #[.int .i64 b,.int .i64 b],.int .i64 0]) (by simp[results,results206,go_sem,s0,s1]) rfl ⟨rfl,bS (bS CL.out (by show w.heap.size≤w.heap.size+1;omega)) (by show w.heap.size≤w.heap.size+1;omega)⟩
  ·have h3:p.a≠3:=(by rcases hl with h|h<;>omega);have T:cr d p=cv d.bl (bs d p).x (bs d p).p (bs d p).r (cf p.d):=(by unfold cr;rw[if_neg h3]);rw[T];have q3:(p.a==3)=false:=(by rw[beq_eq_false_iff_ne];exact h3);have H6:=aH (fun w h=>oo d p w h hl);have RT:=aH (fun(w:World) (h:d.In w w.heap.size)=>ku h p hl);have HC:=aH (fun(w:World) (h:d.In w w.heap.size)=>gE (.slice d.bA d.bn d.bc) d.bl (bs d p) p.d w h.b (RT.out w h));clear T h3 Dj GV hz hd hl RT;generalize cv d.bl (bs d p).x (bs d p).p (bs d p).r (cf p.d)=t at *;generalize bs d p=q at *;obtain⟨t1,t2,t3⟩:=t;unfold aG at *;dsimp only at *;go_enter func206,ntmps206;go_wp2_with fail;refine(HP.out _ (HD.out.then (bL (bL (bR _ _) _) _))).mono ?_;rintro e w1 ⟨rfl,CE⟩;have c0:w1.cell? ⟨w.heap.size,0,none⟩=some (.slice d.bA d.bn d.bc):=kK CE (by simp[go_sem]);have c1:w1.cell? ⟨w.heap.size,1,none⟩=some (.slice d.pA d.pn d.pc):=kK CE (by simp[go_sem]);have c2:w1.cell? ⟨w.heap.size,2,none⟩=some (.slice d.rA d.rn d.rc):=kK CE (by simp[go_sem]);have c3:w1.cell? ⟨w.heap.size,3,none⟩=some (.int .i64 d.arms):=kK CE (by simp[go_sem]);have r0:w1.cell? ⟨w.heap.size+1,0,none⟩=some (.int .i64 0):=kK CE (by simp[go_sem]);have z0:w1.frozen? ⟨w.heap.size+1,0,none⟩=false:=(by rw[CE.frozen (p:=⟨w.heap.size+1,0,none⟩) (by simp[go_sem])];simp[go_sem]);have r1:w1.cell? ⟨w.heap.size+1,1,none⟩=some (.int .i64 0):=kK CE (by simp[go_sem]);have z1:w1.frozen? ⟨w.heap.size+1,1,none⟩=false:=(by rw[CE.frozen (p:=⟨w.heap.size+1,1,none⟩) (by simp[go_sem])];simp[go_sem]);have hs:=CE.size;simp at hs;have CH:=aH (bC (bL (bL (bR _ _) d.ob) (.cells #[.int .i64 0,.int .i64 0] 134)) CE);clear CE;obtain⟨G,hG⟩:∃G,G=w1.heap.size:=⟨_,rfl⟩;have CJ:w.heap.size+1<G:=(by omega)
   go_upto_region 6 with fail
   rw[←hG];obtain⟨W,hW⟩:∃W,W=w1.alloc (.cells #[.int .i64 p.a,.int .i64 p.b,.int .i64 p.c,.int .i64 p.d] 153):=⟨_,rfl⟩;rw[←hW];have hb:=(show Bw w1 W by rw[hW];exact bL (bR _ _) _);have Dt:=aH (bC CH.out hb);have c0':W.cell? ⟨w.heap.size,0,none⟩=some (.slice d.bA d.bn d.bc):=kK hb c0;have c1':W.cell? ⟨w.heap.size,1,none⟩=some (.slice d.pA d.pn d.pc):=kK hb c1;have c2':W.cell? ⟨w.heap.size,2,none⟩=some (.slice d.rA d.rn d.rc):=kK hb c2;have c3':W.cell? ⟨w.heap.size,3,none⟩=some (.int .i64 d.arms):=kK hb c3;have r0':W.cell? ⟨w.heap.size+1,0,none⟩=some (.int .i64 0):=kK hb r0;have z0':W.frozen? ⟨w.heap.size+1,0,none⟩=false:=(hb.frozen (p:=⟨w.heap.size+1,0,none⟩) (wB _ _ r0)).trans z0;have r1':W.cell? ⟨w.heap.size+1,1,none⟩=some (.int .i64 0):=kK hb r1;have z1':W.frozen? ⟨w.heap.size+1,1,none⟩=false:=(hb.frozen (p:=⟨w.heap.size+1,1,none⟩) (wB _ _ r1)).trans z1;have p0:W.cell? ⟨G,0,none⟩=some (.int .i64 p.a):=(by rw[hW,hG];simp);have p1:W.cell? ⟨G,1,none⟩=some (.int .i64 p.b):=(by rw[hW,hG];simp);have p2:W.cell? ⟨G,2,none⟩=some (.int .i64 p.c):=(by rw[hW,hG];simp);have p3:W.cell? ⟨G,3,none⟩=some (.int .i64 p.d):=(by rw[hW,hG];simp);clear hb hW CH c0 c1 c2 c3 r0 r1 z0 z1;have Fo:=aH (show Bw w W.drew from Dt.out.drew);have Js:=aH (show d.In W.drew W.drew.heap.size from HD.out.then Fo.out);clear hG hs Dt;refine Bn ⟨c0',c1',c2',c3',p0,p1,p2,p3⟩ (by kernel_rfl) (fun CC=>?_);clear c0' c1' c2' c3' p0 p1 p2 p3;refine wk [.k 0 26,.k 1 27,.k 2 28,.k 3 29,.k 5 31,.k 6 32] (fun _ _ _ _ _ h=>h) CC ?_ (by kernel_rfl);repeat (refine .k (v:=?_) rfl (by kernel_rfl) ?_ ?_;rotate_left 1;(intro w h;go_simp<;>try rfl);try simp only[sp])
   refine .nil ?_;refine wQ 4 (some 30) rfl (fun K hK=>?_) (by kernel_rfl);go_simp;refine(H6.out _ Js.out).mono ?_;rintro e v1 ⟨rfl,hb⟩;have Ka:=aH (bC Fo.out hb);have IA:=aH (Js.out.then hb);have r0_1:=kK hb r0';have z0_1:=(hb.frozen (p:=⟨w.heap.size+1,0,none⟩) (wB _ _ r0')).trans z0';have r1_1:=kK hb r1';have z1_1:=(hb.frozen (p:=⟨w.heap.size+1,1,none⟩) (wB _ _ r1')).trans z1';go_wp2_with fail;refine hK.out _ _ ?_ (fun CC=>?_)
   ·exact⟨kK hb CC.1,kK hb CC.2.1,kK hb CC.2.2.1,kK hb CC.2.2.2.1,kK hb CC.2.2.2.2.1,kK hb CC.2.2.2.2.2.1,kK hb CC.2.2.2.2.2.2.1,kK hb CC.2.2.2.2.2.2.2⟩
   clear hK K hb Fo Js r0' z0' r1' z1';(try simp only[sp]);refine wQ 7 (some 33) rfl (fun K hK=>?_) (by kernel_rfl);go_simp;refine(HC.out _ IA.out).mono ?_;rintro e v2 ⟨rfl,hb⟩;have Mf:=aH (bC Ka.out hb);have Ro:=aH (IA.out.then hb);have r0_2:=kK hb r0_1;have z0_2:=(hb.frozen (p:=⟨w.heap.size+1,0,none⟩) (wB _ _ r0_1)).trans z0_1;have r1_2:=kK hb r1_1;have z1_2:=(hb.frozen (p:=⟨w.heap.size+1,1,none⟩) (wB _ _ r1_1)).trans z1_1;go_wp2_with fail;refine hK.out _ _ ?_ (fun CC=>?_)
   ·exact⟨kK hb CC.1,kK hb CC.2.1,kK hb CC.2.2.1,kK hb CC.2.2.2.1,kK hb CC.2.2.2.2.1,kK hb CC.2.2.2.2.2.1,kK hb CC.2.2.2.2.2.2.1,kK hb CC.2.2.2.2.2.2.2⟩
   clear hK K hb Ka IA r0_1 z0_1 r1_1 z1_1;(try simp only[sp]);refine wk [.k 8 34,.k 9 35] (fun _ _ _ _ _ h=>h) CC ?_ (by kernel_rfl);repeat (refine .k (v:=?_) rfl (by kernel_rfl) ?_ ?_;rotate_left 1;(intro w h;go_simp<;>try rfl);try simp only[sp])
   refine .nil ?_;refine wQ 10 none rfl (fun K hK=>?_) (by kernel_rfl);go_simp;refine hK.out _ _ ?_ (fun CC=>?_)
   ·exact⟨sO (sO (CC.1) (aW (by omega))) (aW (by omega)),sO (sO (CC.2.1) (aW (by omega))) (aW (by omega)),sO (sO (CC.2.2.1) (aW (by omega))) (aW (by omega)),sO (sO (CC.2.2.2.1) (aW (by omega))) (aW (by omega)),sO (sO (CC.2.2.2.2.1) (aW (by omega))) (aW (by omega)),sO (sO (CC.2.2.2.2.2.1) (aW (by omega))) (aW (by omega)),sO (sO (CC.2.2.2.2.2.2.1) (aW (by omega))) (aW (by omega)),sO (sO (CC.2.2.2.2.2.2.2) (aW (by omega))) (aW (by omega))⟩
   clear hK K;(try simp only[sp]);refine wk [.k 11 5] (fun _ _ _ _ _ h=>h) CC ?_ (by kernel_rfl);repeat (refine .k (v:=?_) rfl (by kernel_rfl) ?_ ?_;rotate_left 1;(intro w h;go_simp<;>try rfl);try simp only[sp])
   refine .nil ?_;refine wD (by kernel_rfl) ?_;go_wp2;have s0:((v2.setCell ⟨w.heap.size+1,0,none⟩ (.int .i64 t1)).setCell ⟨w.heap.size+1,1,none⟩ (.int .i64 t2)).cell? ⟨w.heap.size+1,0,none⟩=some (.int .i64 t1):=sO (ag r0_2) (by simp);have s1:((v2.setCell ⟨w.heap.size+1,0,none⟩ (.int .i64 t1)).setCell ⟨w.heap.size+1,1,none⟩ (.int .i64 t2)).cell? ⟨w.heap.size+1,1,none⟩=some (.int .i64 t2):=ag (sO r1_2 (by simp));exact bP (v:=.tuple #[.agg #[.int .i64 t1,.int .i64 t2],.int .i64 t3]) (by simp[results,results206,go_sem,s0,s1]) rfl ⟨rfl,bS (bS Mf.out (by show w.heap.size≤w.heap.size+1;omega)) (by show w.heap.size≤w.heap.size+1;omega)⟩
 ·rw[if_neg he];have q1:(err != 0)=true:=by rw[bne_iff_ne];exact he
  clear Dh hd he;obtain⟨a,b,c,dd⟩:=p;dsimp only at *;unfold aG;dsimp only;go_enter func206,ntmps206;go_wp2_with fail;refine(HP.out _ (HD.out.then (bL (bL (bR _ _) _) _))).mono ?_;rintro e w1 ⟨rfl,CE⟩;have c0:w1.cell? ⟨w.heap.size,0,none⟩=some (.slice d.bA d.bn d.bc):=kK CE (by simp[go_sem]);have c1:w1.cell? ⟨w.heap.size,1,none⟩=some (.slice d.pA d.pn d.pc):=kK CE (by simp[go_sem]);have c2:w1.cell? ⟨w.heap.size,2,none⟩=some (.slice d.rA d.rn d.rc):=kK CE (by simp[go_sem]);have c3:w1.cell? ⟨w.heap.size,3,none⟩=some (.int .i64 d.arms):=kK CE (by simp[go_sem]);have r0:w1.cell? ⟨w.heap.size+1,0,none⟩=some (.int .i64 0):=kK CE (by simp[go_sem]);have z0:w1.frozen? ⟨w.heap.size+1,0,none⟩=false:=by rw[CE.frozen (p:=⟨w.heap.size+1,0,none⟩) (by simp[go_sem])];simp[go_sem]
  have r1:w1.cell? ⟨w.heap.size+1,1,none⟩=some (.int .i64 0):=kK CE (by simp[go_sem]);have z1:w1.frozen? ⟨w.heap.size+1,1,none⟩=false:=by rw[CE.frozen (p:=⟨w.heap.size+1,1,none⟩) (by simp[go_sem])];simp[go_sem]
  have hs:=CE.size;simp at hs;have CH:=aH (bC (bL (bL (bR _ _) d.ob) (.cells #[.int .i64 0,.int .i64 0] 134)) CE);clear CE
  go_upto_region 3 with fail
  obtain⟨W,hW⟩:∃W,W=w1.alloc (.cells #[.int .i64 a,.int .i64 b,.int .i64 c,.int .i64 dd] 153):=⟨_,rfl⟩;rw[←hW];have hb:=(show Bw w1 W by rw[hW];exact bL (bR _ _) _);have Dt:=aH (bC CH.out hb);have s0:=kK hb r0;have s1:=kK hb r1;have y0:=(hb.frozen (p:=⟨w.heap.size+1,0,none⟩) (wB _ _ r0)).trans z0;have y1:=(hb.frozen (p:=⟨w.heap.size+1,1,none⟩) (wB _ _ r1)).trans z1;clear hb hW CH c0 c1 c2 c3 r0 r1 z0 z1;go_wp2;exact bP (v:=.tuple #[.agg #[.int .i64 0,.int .i64 0],.int .i64 err]) (by simp[results,results206,go_sem,s0,s1]) rfl ⟨rfl,bS (bS Dt.out (by show w.heap.size≤w.heap.size+1;omega)) (by show w.heap.size≤w.heap.size+1;omega)⟩
theorem vU (d:Dk) (p:Q4) (w:World) (hd:d.In w w.heap.size) (hp:ni d p):Calls prog 245 #[d.v,p.v] w fun e w'=>∃m,e=.returned (.tuple #[.float .f64 m,.float .f64 (bs d p).r])∧yr (bs d p).x (bs d p).p (cf p.d) m∧Bw w w':=by
 obtain⟨pa,pb,pc',pd⟩:=p;have HD:=aH hd;have e0:=hd.b.len;have e1:=hd.p.len;have e2:=hd.r.len;unfold ni at hp;dsimp only at hp;obtain⟨k,rfl⟩:∃k:Nat,pb=(k:Int):=⟨pb.toNat,by omega⟩;rw[Int.toNat_natCast]at hp;have T:bs d ⟨pa,k,pc',pd⟩=if pa=1 then dW (d.pl.getD k KP.dflt)else d.rl.getD k KR.dflt:=by unfold bs;dsimp only;rw[Int.toNat_natCast]
 rw[T];clear T;obtain⟨bA,bn,bc,bl,pA,pn,pc,pl,rA,rn,rc,rl,arms⟩:=d;dsimp only at *;subst e0 e1 e2;clear hd;have G5:=fun(w:World) (a:Addr) (m:Mode) (b:Nat)=>aq (P:=prog) (w:=w) (a:=a) (m:=m) .f64 b;have hm:=fun x y w=>pu x y w;have ha:=fun x y w=>mq x y w;rcases hp with ⟨rfl,_,hl⟩|⟨rfl,_,hl⟩
 ·rw[if_pos rfl];have DI:=bL (bL (bR w.heap.size w) (.cells #[.slice bA bl.length bc,.slice pA pl.length pc,.slice rA rl.length rc,.int .i64 arms] 26)) (.cells #[.int .i64 1,.int .i64 k,.int .i64 pc',.int .i64 pd] 153);obtain⟨w0,hw0⟩:∃w0,w0=(w.alloc (.cells #[.slice bA bl.length bc,.slice pA pl.length pc,.slice rA rl.length rc,.int .i64 arms] 26)).alloc (.cells #[.int .i64 1,.int .i64 k,.int .i64 pc',.int .i64 pd] 153):=⟨_,rfl⟩;rw[←hw0]at DI;obtain⟨b,off,rfl,hb,hc,CD⟩:=aQ (HD.out.p.below DI) (by dsimp only;omega);obtain⟨c0,c1,c2,c3,c4,c5,c6⟩:=CD k hl;clear CD;dsimp only at *;generalize pl.getD k KP.dflt=q at *;obtain⟨a1,a2,X,P,R,cap,sA,sn,sc,st⟩:=q;dsimp only at *;unfold dW;rw[hw0]at c0 c1 c2 c3 c4 c5 c6 DI;have CG:=aH DI;clear DI hw0;go_enter func245,ntmps245;go_wp2;go_quiet (fail);go_wp2
  go_ret2
  exact⟨_,rfl,nn _ _ _ _ _,aa (by(repeat (first|exact bR _ _|(with_reducible refine bL ?_ _)))) _⟩
 ·rw[if_neg (by decide)];have DI:=bL (bL (bR w.heap.size w) (.cells #[.slice bA bl.length bc,.slice pA pl.length pc,.slice rA rl.length rc,.int .i64 arms] 26)) (.cells #[.int .i64 2,.int .i64 k,.int .i64 pc',.int .i64 pd] 153);obtain⟨w0,hw0⟩:∃w0,w0=(w.alloc (.cells #[.slice bA bl.length bc,.slice pA pl.length pc,.slice rA rl.length rc,.int .i64 arms] 26)).alloc (.cells #[.int .i64 2,.int .i64 k,.int .i64 pc',.int .i64 pd] 153):=⟨_,rfl⟩;rw[←hw0]at DI;obtain⟨b,off,rfl,hb,hc,CD⟩:=bu (HD.out.r.below DI) (by dsimp only;omega);obtain⟨c0,c1,c2,c3,c4⟩:=CD k hl;clear CD;dsimp only at *;generalize rl.getD k KR.dflt=q at *;obtain⟨a1,a2,X,P,R⟩:=q;dsimp only at *
  skip
  rw[hw0]at c0 c1 c2 c3 c4 DI;have CG:=aH DI;clear DI hw0;go_enter func245,ntmps245;go_wp2;go_quiet (fail);go_wp2
  go_ret2
  exact⟨_,rfl,nn _ _ _ _ _,aa (by(repeat (first|exact bR _ _|(with_reducible refine bL ?_ _)))) _⟩
end Go.Proofs.YtmecohdedghiaaaGreatDoor
