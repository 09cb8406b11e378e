/- The whole table of a deck's spans, in mathematics; lists of spans; racks. -/
import Derived.Test.YtacjonncakhhmaaGreatPy00
import Derived.Test.YtacjonncakhhmaaGreatPy18
import Derived.Test.YtacjonncakhhmaaGreatPy17
import Derived.Deep.Cut
set_option maxRecDepth 100000
set_option maxHeartbeats 8000000
namespace Go.Proofs.YtacjonncakhhmaaGreat
open Go.RowKit
def mulS (x y:Nat) (w:World):Nat:=(Ieee.double.mul x y).getD (nd x y w)
def mulD (x y:Nat):Nat:=if (Ieee.double.mul x y).isSome then 0 else 1
def addS (x y:Nat) (w:World):Nat:=(Ieee.double.add x y).getD (nd x y w)
def addD (x y:Nat):Nat:=if (Ieee.double.add x y).isSome then 0 else 1
theorem mul_run (x y:Nat) (w:World):(binOp .mul 44 (.float .f64 x) (.float .f64 y)).run Tryz.prog w=.ok (.float .f64 (mulS x y w)) (w.drewN (mulD x y)):=by
 unfold mulS mulD;rcases he:Ieee.double.mul x y with _ | p
 ·have he':FloatKind.f64.format.mul x y=none:=he;simp[binOp,Op.floatArith,he',Question.forced];exact⟨rfl,rfl⟩
 ·exact run_float_arith (P:=Tryz.prog) w .mul 44 .f64 _ _ _ he
theorem add_run' (x y:Nat) (w:World):(binOp .add 44 (.float .f64 x) (.float .f64 y)).run Tryz.prog w=.ok (.float .f64 (addS x y w)) (w.drewN (addD x y)):=by
 unfold addS addD;rcases he:Ieee.double.add x y with _ | p
 ·have he':FloatKind.f64.format.add x y=none:=he;simp[binOp,Op.floatArith,he',Question.forced];exact⟨rfl,rfl⟩
 ·exact run_float_arith (P:=Tryz.prog) w .add 44 .f64 _ _ _ he
def midO (X P c:Nat):Option Nat:=(Ieee.double.mul c P).bind fun p=>Ieee.double.add X p
def Mid (X P c m:Nat):Prop:=match midO X P c with | some v=>m=v | none=>nanb m=true
theorem mid_of (X P c:Nat) (w w':World):Mid X P c (addS X (mulS c P w) w'):=by
 unfold Mid midO mulS addS;rcases hm:Ieee.double.mul c P with _ | p
 ·have hn:nan (nd c P w):=of_decide_eq_true (nd_nan c P w);have ha:=add_none X (nd c P w) (.inr (.inl hn));show nanb ((Ieee.double.add X (nd c P w)).getD (nd X (nd c P w) w'))=true;rw[show Ieee.double.add X (nd c P w)=none from ha];exact nd_nan _ _ _
 ·show match Ieee.double.add X p with | some v=>(Ieee.double.add X p).getD (nd X p w')=v | none=>nanb ((Ieee.double.add X p).getD (nd X p w'))=true
  rcases ha:Ieee.double.add X p with _ | q
  ·exact nd_nan _ _ _
  ·rfl
def covV (l:List Nat) (X P R c:Nat):Nat×Nat×Int:=rch l ((midO X P c).getD 9221120237041090560) R
theorem cov_mid (l:List Nat) (X P R c m:Nat) (h:Mid X P c m):rch l m R=covV l X P R c:=by
 unfold Mid at h;unfold covV;rcases e:midO X P c with _ | v
 ·rw[e]at h;have h':nanb m=true:=h;have h9:nanb 9221120237041090560=true:=by decide+kernel
  show rch l m R=rch l 9221120237041090560 R;unfold rch;rw[h',h9];simp
 ·rw[e]at h;have h':m=v:=h;rw[h'];rfl
def cf (n:Int):Nat:=floatOfInt FloatKind.f64 n
abbrev Rk.v (q:Rk):Value:=.agg #[.int .i64 q.rows,.int .i64 q.cols,.float .f64 q.x,.float .f64 q.p,.float .f64 q.r]
theorem middle_any (q:Rk) (c:Int) (w:World):Calls Tryz.prog 91 #[q.v,.int .i64 c] w fun e w'=>∃m,e=.returned (.float .f64 m)∧Mid q.x q.p (cf c) m∧Below w.heap.size w w':=by
 obtain⟨a,b,X,P,R⟩:=q;have hm:=fun x y w=>mul_run x y w;have ha:=fun x y w=>add_run' x y w;go_enter Tryz.func91,Tryz.ntmps91;go_wp2
 go_ret
 exact⟨_,rfl,mid_of _ _ _ _ _,below_drewN (bL (bR _ _) _) _⟩
theorem rackLike_any (q:Pl) (w:World):Calls Tryz.prog 89 #[q.v] w fun e w'=>e=.returned (.agg #[.int .i64 q.rows,.int .i64 q.cols,.float .f64 q.x,.float .f64 q.p,.float .f64 q.r])∧Below w.heap.size w w':=by
 obtain⟨a,b,X,P,R,cap,sA,sn,sc,st⟩:=q;have hsf:=fun(w:World) (a:Addr) (m:Mode) (b:Nat)=>run_store_float (P:=Tryz.prog) (w:=w) (a:=a) (m:=m) .f64 b;go_enter Tryz.func89,Tryz.ntmps89;go_wp2;refine bP (v:=.agg #[.int .i64 a,.int .i64 b,.float .f64 X,.float .f64 P,.float .f64 R]) (by simp[results,Tryz.results89,go_sem]) rfl ⟨rfl,?_⟩
 (repeat (first | exact bR _ _ | (with_reducible refine bS ?_ (by simp <;> omega)) | (with_reducible refine bL ?_ _)))
theorem covered_any (v:Value) (xs:List Nat) (q:Rk) (c:Int) (w:World) (h:KF.IsL w w.heap.size v xs) (hr:q.r<18446744073709551616):Calls Tryz.prog 66 #[v,q.v,.int .i64 c] w fun e w'=>e=.returned (rchVal (covV xs q.x q.p q.r (cf c)))∧Below w.heap.size w w':=by
 obtain⟨a,b,X,P,R⟩:=q;have HR:=aH (fun m (hm:Mid X P (cf c) m) (w:World) (h:KF.IsL w w.heap.size v xs)=>show Calls Tryz.prog 90 #[v,.float .f64 m,.float .f64 R] w fun e w'=>e=.returned (rchVal (covV xs X P R (cf c)))∧Below w.heap.size w w' by
  have:=reach_any v xs m R hr w h
  rwa [cov_mid xs X P R (cf c) m hm]at this)
 show Calls Tryz.prog 66 #[v,.agg #[.int .i64 a,.int .i64 b,.float .f64 X,.float .f64 P,.float .f64 R],.int .i64 c] w fun e w'=>e=.returned (rchVal (covV xs X P R (cf c)))∧Below w.heap.size w w';generalize covV xs X P R (cf c)=t at *;obtain⟨t1,t2,t3⟩:=t;unfold rchVal at *;dsimp only at HR⊢;have HL:=aH h;clear h hr;obtain⟨w0,hw0⟩:∃w0,w0=(w.alloc (.cells #[.int .i64 a,.int .i64 b,.float .f64 X,.float .f64 P,.float .f64 R] 52)).alloc (.cells #[.int .i64 0,.int .i64 0] 107):=⟨_,rfl⟩;go_enter Tryz.func66,Tryz.ntmps66;go_wp2_with fail;rw[←hw0];have HB0:=aH (show Below w.heap.size w w0.drew by rw[hw0];exact(bL (bL (bR _ _) _) _).drew);have HL0:=aH (show KF.IsL w0.drew w0.drew.heap.size v xs from HL.out.then HB0.out);have c0:w0.cell? ⟨w.heap.size,0,none⟩=some (.int .i64 a):=by rw[hw0];simp
 have c1:w0.cell? ⟨w.heap.size,1,none⟩=some (.int .i64 b):=by rw[hw0];simp
 have c2:w0.cell? ⟨w.heap.size,2,none⟩=some (.float .f64 X):=by rw[hw0];simp
 have c3:w0.cell? ⟨w.heap.size,3,none⟩=some (.float .f64 P):=by rw[hw0];simp
 have c4:w0.cell? ⟨w.heap.size,4,none⟩=some (.float .f64 R):=by rw[hw0];simp
 have r0:w0.drew.cell? ⟨w.heap.size+1,0,none⟩=some (.int .i64 0):=by rw[hw0];simp[go_sem]
 have r1:w0.drew.cell? ⟨w.heap.size+1,1,none⟩=some (.int .i64 0):=by rw[hw0];simp[go_sem]
 have z0:w0.drew.frozen? ⟨w.heap.size+1,0,none⟩=false:=by rw[hw0];simp[go_sem]
 have z1:w0.drew.frozen? ⟨w.heap.size+1,1,none⟩=false:=by rw[hw0];simp[go_sem]
 clear hw0 HL;refine wp_region_held_drew (S:=fun w'=>w'.cell? ⟨w.heap.size,0,none⟩=some (.int .i64 a)∧w'.cell? ⟨w.heap.size,1,none⟩=some (.int .i64 b)∧w'.cell? ⟨w.heap.size,2,none⟩=some (.float .f64 X)∧w'.cell? ⟨w.heap.size,3,none⟩=some (.float .f64 P)∧w'.cell? ⟨w.heap.size,4,none⟩=some (.float .f64 R)) (by kernel_rfl) ?_ (fun hHeld=>?_)
 ·exact⟨c0,c1,c2,c3,c4⟩
 refine wk [.k 0 8,.k 1 9,.k 2 10,.k 4 12,.k 5 13] (fun _ _ _ _ _ h=>h) hHeld ?_ (by kernel_rfl)
 repeat (first | (refine .k (v:=?_) rfl (by kernel_rfl) ?_ ?_;rotate_left 1;((intro w hSw;(try dsimp only at hSw);go_simp) <;> (try with_reducible rfl));(try simp only[sp])) | (refine .u rfl (by kernel_rfl) ?_;(try simp only[sp])))
 refine .nil ?_;clear c0 c1 c2 c3 c4;refine wQ 3 (some 11) rfl (fun K hK=>?_) (by kernel_rfl);go_simp;refine(middle_any ⟨a,b,X,P,R⟩ c _).mono ?_;rintro e v1 ⟨m,rfl,hm,hb⟩;have HM:=aH hm;have HB1:=aH (bC HB0.out hb);have HL1:=aH (HL0.out.then hb);have k0:=kK hb r0;have k1:=kK hb r1;have y0:=(hb.frozen (p:=⟨w.heap.size+1,0,none⟩) (wB _ _ r0)).trans z0;have y1:=(hb.frozen (p:=⟨w.heap.size+1,1,none⟩) (wB _ _ r1)).trans z1;clear hm r0 r1 z0 z1;go_wp2_with fail;refine hK.out _ _ ?_ (fun hHeld=>?_)
 ·exact⟨kK hb hHeld.1,kK hb hHeld.2.1,kK hb hHeld.2.2.1,kK hb hHeld.2.2.2.1,kK hb hHeld.2.2.2.2⟩
 clear hK K hb
 try simp only[sp]
 refine wQ 6 (some 14) rfl (fun K hK=>?_) (by kernel_rfl);go_simp;refine(HR.out m HM.out v1 HL1.out).mono ?_;rintro e v2 ⟨rfl,hb⟩;have HB2:=aH (bC HB1.out hb);have j0:=kK hb k0;have j1:=kK hb k1;have x0:=(hb.frozen (p:=⟨w.heap.size+1,0,none⟩) (wB _ _ k0)).trans y0;have x1:=(hb.frozen (p:=⟨w.heap.size+1,1,none⟩) (wB _ _ k1)).trans y1;clear k0 k1 y0 y1 HL1 HB1;go_wp2_with fail;refine hK.out _ _ ?_ (fun hHeld=>?_)
 ·exact⟨kK hb hHeld.1,kK hb hHeld.2.1,kK hb hHeld.2.2.1,kK hb hHeld.2.2.2.1,kK hb hHeld.2.2.2.2⟩
 clear hK K hb
 try simp only[sp]
 refine wk [.k 7 15,.k 8 16] (fun _ _ _ _ _ h=>h) hHeld ?_ (by kernel_rfl)
 repeat (first | (refine .k (v:=?_) rfl (by kernel_rfl) ?_ ?_;rotate_left 1;((intro w hSw;(try dsimp only at hSw);go_simp) <;> (try with_reducible rfl));(try simp only[sp])) | (refine .u rfl (by kernel_rfl) ?_;(try simp only[sp])))
 refine .nil ?_;refine wQ 9 none rfl (fun K hK=>?_) (by kernel_rfl);go_simp;refine hK.out _ _ ?_ (fun hHeld=>?_)
 ·exact⟨sO (sO hHeld.1 (by simp)) (by simp),sO (sO hHeld.2.1 (by simp)) (by simp),sO (sO hHeld.2.2.1 (by simp)) (by simp),sO (sO hHeld.2.2.2.1 (by simp)) (by simp),sO (sO hHeld.2.2.2.2 (by simp)) (by simp)⟩
 clear hK K
 try simp only[sp]
 refine wk [.k 10 7] (fun _ _ _ _ _ h=>h) hHeld ?_ (by kernel_rfl)
 repeat (first | (refine .k (v:=?_) rfl (by kernel_rfl) ?_ ?_;rotate_left 1;((intro w hSw;(try dsimp only at hSw);go_simp) <;> (try with_reducible rfl));(try simp only[sp])) | (refine .u rfl (by kernel_rfl) ?_;(try simp only[sp])))
 refine .nil ?_;refine wD (by kernel_rfl) ?_;go_wp2;have s0:((v2.setCell ⟨w.heap.size+1,0,none⟩ (.int .i64 t1)).setCell ⟨w.heap.size+1,1,none⟩ (.int .i64 t2)).cell? ⟨w.heap.size+1,0,none⟩=some (.int .i64 t1):=sO (st_same j0) (by simp);have s1:((v2.setCell ⟨w.heap.size+1,0,none⟩ (.int .i64 t1)).setCell ⟨w.heap.size+1,1,none⟩ (.int .i64 t2)).cell? ⟨w.heap.size+1,1,none⟩=some (.int .i64 t2):=st_same (sO j1 (by simp));exact bP (v:=.tuple #[.agg #[.int .i64 t1,.int .i64 t2],.int .i64 t3]) (by simp[results,Tryz.results66,go_sem,s0,s1]) rfl ⟨rfl,bS (bS HB2.out (by show w.heap.size≤w.heap.size+1;omega)) (by show w.heap.size≤w.heap.size+1;omega)⟩
def rkPl (q:Pl):Rk:=⟨q.rows,q.cols,q.x,q.p,q.r⟩
noncomputable def rkOf (d:Dk) (p:Q4):Rk:=if p.a=1 then rkPl (d.pl.getD p.b.toNat KP.dflt)else d.rl.getD p.b.toNat KR.dflt
def Lies (d:Dk) (p:Q4):Prop:=(p.a=1∧0≤p.b∧p.b.toNat<d.pl.length)∨(p.a=2∧0≤p.b∧p.b.toNat<d.rl.length)
theorem rkOf_ok {w:World} {d:Dk} (hd:d.In w w.heap.size) (p:Q4) (h:Lies d p):(rkOf d p).r<18446744073709551616:=by
 unfold rkOf;rcases h with ⟨h,_,hl⟩ | ⟨h,_,hl⟩
 ·rw[if_pos h];exact(hd.p.okAt _ hl).2.2.2.2.1
 ·rw[if_neg (by omega)];exact(hd.r.okAt _ hl).2.2.2.2
theorem ad_nf {b b' o o':Nat} (h:b≠b'∨o≠o'):(⟨b,o,none⟩:Addr)≠⟨b',o',none⟩:=by
 intro e
 cases e
 rcases h with h | h <;> exact h rfl
theorem part_lies (d:Dk) (p:Q4) (hp:p∈partsK d):(p.a=3∧0≤p.b)∨Lies d p:=by
 have hp0:=hp;unfold partsK at hp;by_cases hz:dchk d=0
 ·rw[if_pos hz]at hp;unfold partsL partsU unitsL at hp;obtain⟨u,hu,hp⟩:=List.mem_flatMap.1 hp;have hpar:p.a=u.a∧p.b=u.b:=by
   unfold unitParts at hp;obtain⟨i,_,rfl⟩:=List.mem_map.1 hp;exact⟨rfl,rfl⟩
  rcases List.mem_append.1 hu with hu | hu
  ·rcases List.mem_append.1 hu with hu | hu
   ·obtain⟨i,hi,rfl⟩:=List.mem_map.1 hu;have hi:=List.mem_range.1 hi;have e1:p.a=1:=hpar.1;have e2:p.b=(i:Int):=hpar.2;exact .inr (.inl ⟨e1,by omega,by rw[e2,Int.toNat_natCast];exact hi⟩)
   ·obtain⟨i,hi,rfl⟩:=List.mem_map.1 hu;have hi:=List.mem_range.1 hi;have e1:p.a=2:=hpar.1;have e2:p.b=(i:Int):=hpar.2;exact .inr (.inr ⟨e1,by omega,by rw[e2,Int.toNat_natCast];exact hi⟩)
  ·obtain⟨i,hi,rfl⟩:=List.mem_map.1 hu;have e1:p.a=3:=hpar.1;have e2:p.b=(i:Int):=hpar.2;exact .inl ⟨e1,by omega⟩
 ·rw[if_neg hz]at hp
  cases hp
noncomputable def spnP (d:Dk) (p:Q4):Nat×Nat×Int:=if p.a=3 then(p.b.toNat,p.b.toNat,0)else covV d.bl (rkOf d p).x (rkOf d p).p (rkOf d p).r (cf p.d)
theorem rat_any (d:Dk) (p:Q4) (w:World) (hd:d.In w w.heap.size) (hp:Lies d p):Calls Tryz.prog 122 #[d.v,p.v] w fun e w'=>∃m,e=.returned (.tuple #[.float .f64 m,.float .f64 (rkOf d p).r])∧Mid (rkOf d p).x (rkOf d p).p (cf p.d) m∧Below w.heap.size w w':=by
 obtain⟨pa,pb,pc',pd⟩:=p;have HD:=aH hd;have e0:=hd.b.len;have e1:=hd.p.len;have e2:=hd.r.len;unfold Lies at hp;dsimp only at hp;obtain⟨k,rfl⟩:∃k:Nat,pb=(k:Int):=⟨pb.toNat,by omega⟩;rw[Int.toNat_natCast]at hp;have T:rkOf d ⟨pa,k,pc',pd⟩=if pa=1 then rkPl (d.pl.getD k KP.dflt)else d.rl.getD k KR.dflt:=by unfold rkOf;dsimp only;rw[Int.toNat_natCast]
 rw[T];clear T;obtain⟨bA,bn,bc,bl,pA,pn,pc,pl,rA,rn,rc,rl,arms⟩:=d;dsimp only at *;subst e0 e1 e2;clear hd;have hsf:=fun(w:World) (a:Addr) (m:Mode) (b:Nat)=>run_store_float (P:=Tryz.prog) (w:=w) (a:=a) (m:=m) .f64 b;have hm:=fun x y w=>mul_run x y w;have ha:=fun x y w=>add_run' x y w;rcases hp with ⟨rfl,_,hl⟩ | ⟨rfl,_,hl⟩
 ·rw[if_pos rfl];have hb0:=bL (bL (bR w.heap.size w) (.cells #[.slice bA bl.length bc,.slice pA pl.length pc,.slice rA rl.length rc,.int .i64 arms] 26)) (.cells #[.int .i64 1,.int .i64 k,.int .i64 pc',.int .i64 pd] 114);obtain⟨w0,hw0⟩:∃w0,w0=(w.alloc (.cells #[.slice bA bl.length bc,.slice pA pl.length pc,.slice rA rl.length rc,.int .i64 arms] 26)).alloc (.cells #[.int .i64 1,.int .i64 k,.int .i64 pc',.int .i64 pd] 114):=⟨_,rfl⟩;rw[←hw0]at hb0;obtain⟨b,off,rfl,hb,hc,hcell⟩:=plate_cells (HD.out.p.below hb0) (by dsimp only;omega);obtain⟨c0,c1,c2,c3,c4,c5,c6⟩:=hcell k hl;clear hcell;dsimp only at *;generalize pl.getD k KP.dflt=q at *;obtain⟨a1,a2,X,P,R,cap,sA,sn,sc,st⟩:=q;dsimp only at *;unfold rkPl;rw[hw0]at c0 c1 c2 c3 c4 c5 c6 hb0;have HB0:=aH hb0;clear hb0 hw0;go_enter Tryz.func122,Tryz.ntmps122;go_wp2;go_quiet (fail);go_wp2
  go_ret2
  exact⟨_,rfl,mid_of _ _ _ _ _,below_drewN (by(repeat (first | exact bR _ _ | (with_reducible refine bL ?_ _)))) _⟩
 ·rw[if_neg (by decide)];have hb0:=bL (bL (bR w.heap.size w) (.cells #[.slice bA bl.length bc,.slice pA pl.length pc,.slice rA rl.length rc,.int .i64 arms] 26)) (.cells #[.int .i64 2,.int .i64 k,.int .i64 pc',.int .i64 pd] 114);obtain⟨w0,hw0⟩:∃w0,w0=(w.alloc (.cells #[.slice bA bl.length bc,.slice pA pl.length pc,.slice rA rl.length rc,.int .i64 arms] 26)).alloc (.cells #[.int .i64 2,.int .i64 k,.int .i64 pc',.int .i64 pd] 114):=⟨_,rfl⟩;rw[←hw0]at hb0;obtain⟨b,off,rfl,hb,hc,hcell⟩:=rack_cells (HD.out.r.below hb0) (by dsimp only;omega);obtain⟨c0,c1,c2,c3,c4⟩:=hcell k hl;clear hcell;dsimp only at *;generalize rl.getD k KR.dflt=q at *;obtain⟨a1,a2,X,P,R⟩:=q;dsimp only at *
  skip
  rw[hw0]at c0 c1 c2 c3 c4 hb0;have HB0:=aH hb0;clear hb0 hw0;go_enter Tryz.func122,Tryz.ntmps122;go_wp2;go_quiet (fail);go_wp2
  go_ret2
  exact⟨_,rfl,mid_of _ _ _ _ _,below_drewN (by(repeat (first | exact bR _ _ | (with_reducible refine bL ?_ _)))) _⟩
def Part0 (d:Dk) (p:Q4):Prop:=(p.a=3∧0≤p.b)∨Lies d p
theorem rpartS_any (d:Dk) (p:Q4) (w:World) (hd:d.In w w.heap.size) (hp:Part0 d p):Calls Tryz.prog 117 #[d.v,p.v] w fun e w'=>e=.returned (rchVal (spnP d p))∧Below w.heap.size w w':=by
 have HD:=aH hd;rcases hp with ⟨h3,hb0⟩ | hl
 ·have T:spnP d p=(p.b.toNat,p.b.toNat,0):=by unfold spnP;rw[if_pos h3]
  rw[T];have q3:(p.a==3)=true:=by rw[beq_iff_eq];exact h3
  have HB:=aH (show((p.b.toNat:Nat):Int)=p.b by omega);clear T h3 hd hb0;obtain⟨a,b,c,dd⟩:=p;dsimp only at *;unfold rchVal;dsimp only;rw[HB.out];go_enter Tryz.func117,Tryz.ntmps117;go_wp2;refine bP (v:=.tuple #[.agg #[.int .i64 b,.int .i64 b],.int .i64 0]) (by simp[results,Tryz.results117,go_sem]) rfl ⟨rfl,?_⟩
  (repeat (first | exact bR _ _ | (with_reducible refine bS ?_ (by simp <;> omega)) | (with_reducible refine bL ?_ _)))
 ·have h3:p.a≠3:=by rcases hl with h | h <;> omega
  have T:spnP d p=covV d.bl (rkOf d p).x (rkOf d p).p (rkOf d p).r (cf p.d):=by unfold spnP;rw[if_neg h3]
  rw[T];have q3:(p.a==3)=false:=by rw[beq_eq_false_iff_ne];exact h3
  have HA:=aH (fun w h=>rat_any d p w h hl);have HC:=aH (fun(m:Nat) (hm:Mid (rkOf d p).x (rkOf d p).p (cf p.d) m) (w:World) (h:d.In w w.heap.size)=>show Calls Tryz.prog 123 #[.slice d.bA d.bn d.bc,.float .f64 m,.float .f64 (rkOf d p).r] w fun e w'=>e=.returned (rchVal (covV d.bl (rkOf d p).x (rkOf d p).p (rkOf d p).r (cf p.d)))∧Below w.heap.size w w' by
   have:=rreach_any (.slice d.bA d.bn d.bc) d.bl m (rkOf d p).r (rkOf_ok h p hl) w h.b
   rwa [cov_mid _ _ _ _ _ _ hm]at this)
  clear T h3 hd hl;generalize covV d.bl (rkOf d p).x (rkOf d p).p (rkOf d p).r (cf p.d)=t at *;generalize rkOf d p=q at *;obtain⟨t1,t2,t3⟩:=t;unfold rchVal at *;dsimp only at *;obtain⟨w0,hw0⟩:∃w0,w0=((w.alloc (.cells #[.slice d.bA d.bn d.bc,.slice d.pA d.pn d.pc,.slice d.rA d.rn d.rc,.int .i64 d.arms] 26)).alloc (.cells #[.int .i64 p.a,.int .i64 p.b,.int .i64 p.c,.int .i64 p.d] 114)).alloc (.cells #[.int .i64 0,.int .i64 0] 107):=⟨_,rfl⟩;have HB0:=aH (show Below w.heap.size w w0 by rw[hw0];exact bL (bL (bL (bR _ _) _) _) _);have HD0:=aH (HD.out.then HB0.out);have c0:w0.cell? ⟨w.heap.size,0,none⟩=some (.slice d.bA d.bn d.bc):=by rw[hw0];simp[go_sem]
  have r0:w0.cell? ⟨w.heap.size+1+1,0,none⟩=some (.int .i64 0):=by rw[hw0];simp[go_sem]
  have r1:w0.cell? ⟨w.heap.size+1+1,1,none⟩=some (.int .i64 0):=by rw[hw0];simp[go_sem]
  have z0:w0.frozen? ⟨w.heap.size+1+1,0,none⟩=false:=by rw[hw0];simp[go_sem]
  have z1:w0.frozen? ⟨w.heap.size+1+1,1,none⟩=false:=by rw[hw0];simp[go_sem]
  have F:=aH (aI c0 (aI r0 (aI r1 (aI z0 z1))));clear c0 r0 r1 z0 z1;go_enter Tryz.func117,Tryz.ntmps117;go_wp2_with fail;rw[←hw0];clear hw0;refine(HA.out _ HD0.out).mono ?_;rintro e w1 ⟨m,rfl,hm,hb1⟩;have HM:=aH hm;have HB1:=aH hb1;have HD1:=aH (HD0.out.then hb1);have c0:=kK hb1 F.out.1;clear hm hb1;go_wp2_with fail;refine(HC.out m HM.out _ HD1.out).mono ?_;rintro e w2 ⟨rfl,hb2⟩;have hb:=bC HB1.out hb2;have s0:=kK hb F.out.2.1;have s1:=kK hb F.out.2.2.1;have y0:=(hb.frozen (p:=⟨w.heap.size+1+1,0,none⟩) (wB _ _ F.out.2.1)).trans F.out.2.2.2.1;have y1:=(hb.frozen (p:=⟨w.heap.size+1+1,1,none⟩) (wB _ _ F.out.2.2.1)).trans F.out.2.2.2.2;have HB2:=aH (bC HB0.out hb);clear hb hb2 c0;go_wp2;exact bP (v:=.tuple #[.agg #[.int .i64 t1,.int .i64 t2],.int .i64 t3]) (by simp[results,Tryz.results117,go_sem,s0,s1]) rfl ⟨rfl,bS (bS HB2.out (by show w.heap.size≤w.heap.size+1+1;omega)) (by show w.heap.size≤w.heap.size+1+1;omega)⟩
abbrev T3:Type:=Nat×Nat×Int
def fstE:List T3→Int
 | []=>0
 | t::ts=>if t.2.2=0 then fstE ts else t.2.2
theorem fst_append (a b:List T3):fstE (a++b)=if fstE a=0 then fstE b else fstE a:=by
 induction a with
 | nil=>rfl
 | cons t ts ih=>
  rw[List.cons_append,fstE,fstE,ih];by_cases h:t.2.2=0
  ·rw[if_pos h,if_pos h]
  ·rw[if_neg h,if_neg h,if_neg h]
theorem fst_all (l:List T3) (h:∀t∈l,t.2.2=0):fstE l=0:=by
 induction l with
 | nil=>rfl
 | cons t ts ih=>rw[fstE,if_pos (h t (by simp)),ih fun x hx=>h x (by simp[hx])]
theorem fst_rep (L:List T3) (r:Nat):fstE (List.replicate (r+1) L).flatten=fstE L:=by
 induction r with
 | zero=>simp
 | succ r ih=>
  rw[List.replicate_succ,List.flatten_cons,fst_append,ih];by_cases h:fstE L=0
  ·rw[if_pos h]
  ·rw[if_neg h]
def pairs (l:List T3):List (Int×Int):=l.map fun t=>((t.1:Int),(t.2.1:Int))
noncomputable def racksL (d:Dk):List Rk:=d.pl.map rkPl++d.rl
def rowV (bl:List Nat) (q:Rk):List T3:=(List.range q.cols.toNat).map fun c:Nat=>covV bl q.x q.p q.r (cf ((c:Nat):Int))
def blkV (bl:List Nat) (q:Rk):List T3:=(List.replicate q.rows.toNat (rowV bl q)).flatten
def lanesV (n:Nat):List T3:=(List.range n).map fun i=>(i,i,0)
noncomputable def tabP (d:Dk):List T3:=(partsL d).map (spnP d)
theorem range_rows {α:Type} (f:Nat→α) (c r:Nat):(List.range (r * c)).map (fun j=>f (j % c))=(List.replicate r ((List.range c).map f)).flatten:=by
 induction r with
 | zero=>simp
 | succ r ih=>
  rw[Nat.succ_mul,List.range_add,List.map_append,ih,List.replicate_succ',List.flatten_append,List.map_map]
  congr 1
  rw[List.flatten_cons,List.flatten_nil,List.append_nil];apply List.map_congr_left;intro x hx;have hx:=List.mem_range.1 hx;show f ((r * c+x) % c)=f x;rw[Nat.mul_comm,Nat.mul_add_mod,Nat.mod_eq_of_lt hx]
theorem list_range {α:Type} (l:List α) (z:α):(List.range l.length).map (fun i=>l.getD i z)=l:=by
 apply List.ext_getElem
 ·simp
 ·intro i h1 h2;simp only[List.length_map,List.length_range]at h1;simp[List.getElem?_eq_getElem h1]
theorem flatMap_range {α β:Type} (l:List α) (z:α) (f:α→List β):l.flatMap f=(List.range l.length).flatMap fun i=>f (l.getD i z):=by
 have:=congrArg (fun x=>x.flatMap f) (list_range l z);rw[←this,List.flatMap_map]
theorem fm_congr {α β:Type} (l:List α) (f g:α→List β) (h:∀x∈l,f x=g x):l.flatMap f=l.flatMap g:=by
 induction l with
 | nil=>rfl
 | cons x l ih=>rw[List.flatMap_cons,List.flatMap_cons,h x (by simp),ih fun y hy=>h y (by simp[hy])]
theorem unit_tab (d:Dk) (u:Q4) (q:Rk) (ha:u.a≠3) (hc:u.c=q.rows) (hd:u.d=q.cols) (hq:∀j,rkOf d (unitF u j)=q):(unitParts u).map (spnP d)=blkV d.bl q:=by
 unfold unitParts unitN blkV rowV;rw[List.map_map,hc,hd,←range_rows];apply List.map_congr_left;intro j _;show spnP d (unitF u j)=_;unfold spnP;rw[if_neg (show ¬(unitF u j).a=3 from ha),hq j];unfold unitF;rw[hd]
theorem tab_eq (d:Dk):tabP d=(racksL d).flatMap (blkV d.bl)++lanesV (d.bl.length - 1):=by
 unfold tabP partsL partsU unitsL racksL;rw[List.map_flatMap,List.flatMap_append,List.flatMap_append,List.flatMap_append]
 congr 1
 ·congr 1
  ·rw[List.flatMap_map,List.flatMap_map,flatMap_range d.pl KP.dflt];apply fm_congr;intro i hi;refine unit_tab d _ _ (by show(1:Int)≠3;decide) rfl rfl fun j=>?_;unfold rkOf;rw[if_pos (show(unitF (plateU d.pl i) j).a=1 from rfl)];show rkPl (d.pl.getD ((i:Nat):Int).toNat KP.dflt)=_;rw[Int.toNat_natCast]
  ·rw[List.flatMap_map,flatMap_range d.rl KR.dflt];apply fm_congr;intro i hi;refine unit_tab d _ _ (by show(2:Int)≠3;decide) rfl rfl fun j=>?_;unfold rkOf;rw[if_neg (show ¬(unitF (rackU d.rl i) j).a=1 from by show(2:Int)≠1;decide)];show d.rl.getD ((i:Nat):Int).toNat KR.dflt=_;rw[Int.toNat_natCast]
 ·unfold lanesV;rw[List.flatMap_map]
  induction (d.bl.length - 1)with
  | zero=>rfl
  | succ n ih=>
   rw[List.range_succ,List.flatMap_append,List.map_append,ih]
   congr 1
noncomputable def zE (d:Dk):Int:=fstE ((racksL d).flatMap (rowV d.bl))
noncomputable def zchk (d:Dk):Int:=if dchk d=0 then zE d else dchk d
theorem racks_ok (d:Dk) (h:OkD d):∀q∈racksL d,1≤q.rows∧q.rows≤32∧1≤q.cols∧q.cols≤48:=by
 intro q hq;rcases List.mem_append.1 hq with hq | hq
 ·obtain⟨p,hp,rfl⟩:=List.mem_map.1 hq;obtain⟨i,hi,rfl⟩:=List.mem_iff_getElem.1 hp;have:=h.pl i hi;rw[List.getD_eq_getElem?_getD,List.getElem?_eq_getElem hi]at this;exact size_of (plate_size this)
 ·obtain⟨i,hi,rfl⟩:=List.mem_iff_getElem.1 hq;have:=h.rl i hi;rw[List.getD_eq_getElem?_getD,List.getElem?_eq_getElem hi]at this;exact size_of this
theorem fst_blk (bl:List Nat) (l:List Rk) (h:∀q∈l,1≤q.rows):fstE (l.flatMap (blkV bl))=fstE (l.flatMap (rowV bl)):=by
 induction l with
 | nil=>rfl
 | cons q l ih=>
  rw[List.flatMap_cons,List.flatMap_cons,fst_append,fst_append,ih fun x hx=>h x (by simp[hx])];have e:fstE (blkV bl q)=fstE (rowV bl q):=by
   unfold blkV;have:=h q (by simp);obtain⟨r,hr⟩:∃r,q.rows.toNat=r+1:=⟨q.rows.toNat - 1,by omega⟩;rw[hr,fst_rep]
  rw[e]
theorem fst_tab (d:Dk) (h:OkD d):fstE (tabP d)=zE d:=by
 rw[tab_eq,fst_append,fst_blk _ _ fun q hq=>(racks_ok d h q hq).1,fst_all (lanesV _)]
 ·unfold zE;by_cases e:fstE ((racksL d).flatMap (rowV d.bl))=0
  ·rw[if_pos e,e]
  ·rw[if_neg e]
 ·intro t ht;unfold lanesV at ht;obtain⟨i,_,rfl⟩:=List.mem_map.1 ht;rfl
noncomputable def tabV (d:Dk):List (Int×Int):=if zchk d=0 then pairs (tabP d)else []
theorem pairs_append (a b:List T3):pairs (a++b)=pairs a++pairs b:=by unfold pairs;rw[List.map_append]
theorem row_len (bl:List Nat) (q:Rk):(rowV bl q).length=q.cols.toNat:=by unfold rowV;simp
theorem tab_len0 (d:Dk):(tabP d).length=(partsL d).length:=by unfold tabP;simp
def spCells (q:Int×Int):List Value:=[.int .i64 q.1,.int .i64 q.2]
noncomputable def KS:Lk Tryz.prog (Int×Int) where
 S:=151
 E:=107
 n:=2
 zero:=.agg #[.int .i64 0,.int .i64 0]
 bytes:=16
 cells:=spCells
 dflt:=(0,0)
 ok q:=fits q.1∧fits q.2
 und:=Tryz.underlying151
 info:=by kernel_rfl
 zs:=rfl
 pos:=by decide
 small:=by decide
 len _:=rfl
 one x u hu:=by
  simp only[spCells,List.mem_cons,List.not_mem_nil,or_false]at hu;rcases hu with rfl | rfl <;> rfl
namespace Lk
variable {P:Program} {α:Type} {K:Lk P α}
end Lk
open Go.RowKit
theorem racks_any (d:Dk) (w:World) (hd:d.In w w.heap.size) (hp:d.pl.length≤4) (hr:d.rl.length≤4):
  Calls Tryz.prog 65 #[d.v] w fun e w'=>∃v,e=.returned v∧KR.Own w' w.heap.size v (racksL d)∧Below w.heap.size w w':=by
 have HD:=aH hd;have e0:=hd.b.len;have e1:=hd.p.len;have e2:=hd.r.len;have HU:=aH (show racksL d=d.pl.map rkPl++d.rl from rfl);obtain⟨U,hU⟩:∃U,U=racksL d:=⟨_,rfl⟩;rw[←hU]at HU⊢;clear hU;obtain⟨bA,bn,bc,bl,pA,pn,pc,pl,rA,rn,rc,rl,arms⟩:=d;dsimp only at *;subst e0 e1 e2;clear hd;have hsf:=fun(w:World) (a:Addr) (m:Mode) (b:Nat)=>run_store_float (P:=Tryz.prog) (w:=w) (a:=a) (m:=m) .f64 b;obtain⟨w0,hw0⟩:∃w0,w0=w.alloc (.cells #[.slice bA bl.length bc,.slice pA pl.length pc,.slice rA rl.length rc,.int .i64 arms] 26):=⟨_,rfl⟩;have f1:w0.cell? ⟨w.heap.size,1,none⟩=some (.slice pA pl.length pc):=by rw[hw0];exact alloc_cell _ _ _ _ _ rfl
 have f2:w0.cell? ⟨w.heap.size,2,none⟩=some (.slice rA rl.length rc):=by rw[hw0];exact alloc_cell _ _ _ _ _ rfl
 have HB0:=aH (show Below w.heap.size w w0 by rw[hw0];exact bL (bR _ _) _);have HD0:=aH (HD.out.then HB0.out);obtain⟨i0,hi,hz0,hz1,hz2⟩:=info_parts KR.info;obtain⟨w1,hmk,hown,hgr⟩:=run_make_own (P:=Tryz.prog) w0 w0.heap.size 24 52 i0 _ 5 Tryz.underlying24 hi hz0 hz1 .i64 .i64 8 (by rw[hz2];decide) (by decide) (nR _);have hsz:w0.heap.size=w.heap.size+1:=by rw[hw0];simp
 rw[show(Value.slice (some ⟨w0.heap.size,0,none⟩) 0 8)=Value.slice (some ⟨w.heap.size+1,0,none⟩) 0 8 by rw[hsz]]at hown hmk;have HO1:=aH (show KR.Own w1 w0.heap.size (.slice (some ⟨w.heap.size+1,0,none⟩) 0 8) []from⟨hown,fun x hx=>by simp at hx⟩);have HB1:=aH (show Below w0.heap.size w0 w1 from(bR _ _).grown hgr (nR _) (fun k hk=>by cases hk));have HD1:=aH (HD0.out.then HB1.out);have HF:=aH (show ∀w2,Below w0.heap.size w0 w2→w2.cell? ⟨w.heap.size,1,none⟩=some (.slice pA pl.length pc)∧w2.cell? ⟨w.heap.size,2,none⟩=some (.slice rA rl.length rc)from
  fun w2 hb=>⟨kK hb f1,kK hb f2⟩)
 clear hown hgr hi hz0 hz1 hz2 f1 f2;obtain⟨h1,h2⟩:=HF.out w1 HB1.out;rw[hw0]at hmk;have hmk':(Instr.makeSlice 24 (.int .i64 0) (.int .i64 8)).run Tryz.prog (w.alloc (.cells #[.slice bA bl.length bc,.slice pA pl.length pc,.slice rA rl.length rc,.int .i64 arms] 26))=.ok (.slice (some ⟨w.heap.size+1,0,none⟩) 0 8) w1:=hmk;clear hmk;go_enter Tryz.func65,Tryz.ntmps65;go_wp2;clear hmk' h1 h2 hw0 hsz;obtain⟨v0,hv0⟩:∃v,v=Value.slice (some ⟨w.heap.size+1,0,none⟩) 0 8:=⟨_,rfl⟩;rw[←hv0]at HO1
 go_loopw [3,10] (fun v i wr=>∃k:Nat,k≤pl.length∧i=.int .i64 k∧KR.Own wr w0.heap.size v ((pl.take k).map rkPl)∧Below w0.heap.size w0 wr) (fun _ i _=>pl.length - (intOf i).toNat)
 case atStart=>exact⟨0,Nat.zero_le _,rfl,by rw[←hv0];exact HO1.out,HB1.out⟩
 case round=>
  obtain⟨k,hk,rfl,hown,hbl⟩:=hrel;have HO:=aH hown;have HB:=aH hbl;clear hown hbl;by_cases hlt:k<pl.length
  ·obtain⟨b,off,rfl,hb,hc,hcell⟩:=plate_cells (HD0.out.p.below HB.out) (by dsimp only;omega);obtain⟨c0,c1,c2,c3,c4,c5,c6⟩:=hcell k hlt;have HS:=aH (show(pl.take (k+1)).map rkPl=(pl.take k).map rkPl++[rkPl (pl.getD k KP.dflt)]by rw[take_snoc pl k KP.dflt hlt,List.map_append];rfl);obtain⟨o1,o2,o3,o4,o5,_⟩:=HD0.out.p.okAt k hlt;have HOK:=aH (show KR.ok (rkPl (pl.getD k KP.dflt))from⟨o1,o2,o3,o4,o5⟩);have HLN:=aH (show((pl.take k).map rkPl).length=k by simp;omega);have HRK:=aH (fun w=>rackLike_any (pl.getD k KP.dflt) w);clear hcell o1 o2 o3 o4 o5;dsimp only at *;generalize pl.getD k KP.dflt=q at *;generalize (pl.take k).map rkPl=L at *;obtain⟨a1,a2,X,P,R,cap,sA,sn,sc,st⟩:=q;have HS:=aH (show(pl.take (k+1)).map rkPl=L++[⟨a1,a2,X,P,R⟩]from HS.out);have HOK:=aH (show KR.ok ⟨a1,a2,X,P,R⟩from HOK.out);go_wp2_with fail;refine(HRK.out _).mono ?_;rintro e w2 ⟨rfl,hb2⟩;have hb3:=bC (bL (bR _ _) _) hb2;have HB3:=aH (bC HB.out hb3);have HO3:=aH (HO.out.below hb3);clear hb2 hb3 HO c0 c1 c2 c3 c4 c5 c6;go_wp2_with (at_builtin;refine Lk.wpList_app (K:=KR) _ rfl _ _ rfl rfl w0.heap.size (w2.heap.size+1) _ _ L [⟨a1,a2,X,P,R⟩] rfl rfl (HO3.out.alloc _) (Lk.IsL.lit (K:=KR) _ ⟨a1,a2,X,P,R⟩ _ HOK.out rfl w2.heap.size rfl) ?c1 ?c2 ?_)
   case c1=>have:=HLN.out;simp;omega
   case c2=>have:=HB3.out.size;simp;omega
   intro v1 w4 hown hgrow _;have HB4:=aH (Lk.Own.grow' (HO3.out.alloc _) (bL HB3.out _) (by have:=HB3.out.size;simp;omega) hgrow);have HO4:=aH hown;clear hown hgrow;go_wp2
   go_roundw
   case rel=>exact⟨k+1,by omega,num_i (by omega),by rw[HS.out];exact HO4.out,HB4.out⟩
   case measure=>simp[intOf];omega
  ·obtain rfl:k=pl.length:=by omega
   rw[List.take_length]at HO;obtain⟨q1,q2⟩:=HF.out wr HB.out;have HLN:=aH (show(pl.map rkPl).length=pl.length by simp);generalize pl.map rkPl=L at *;go_wp2_with (at_builtin;refine Lk.wpList_app (K:=KR) _ rfl _ _ rfl rfl w0.heap.size wr.heap.size _ _ L rl rfl rfl HO.out ((HD0.out.then HB.out).r) ?c1 ?c2 ?_)
   case c1=>have:=HLN.out;omega
   case c2=>exact HB.out.size
   intro v1 w4 hown hgrow _;have HB4:=aH (Lk.Own.grow' HO.out HB.out HB.out.size hgrow);have HO4:=aH hown;clear hown hgrow;go_wp2
   go_ret
   exact⟨_,rfl,by rw[HU.out];exact HO4.out.mono HB0.out.size,bC HB0.out HB4.out⟩
end Go.Proofs.YtacjonncakhhmaaGreat
