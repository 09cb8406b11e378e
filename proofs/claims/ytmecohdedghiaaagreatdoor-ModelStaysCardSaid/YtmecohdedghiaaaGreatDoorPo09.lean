/- The table of all parts' lanes: what the program answers. -/
import Derived.Test.YtmecohdedghiaaaGreatDoorPo00
import Derived.Test.YtmecohdedghiaaaGreatDoorPo08
set_option maxRecDepth 100000
set_option maxHeartbeats 8000000
open Go.Proofs.Tryz
namespace Go.Proofs.YtmecohdedghiaaaGreatDoor
open Go.RowKit
def AO (d:Dk) (p:Q4):Prop:=(p.a=3∧0≤p.b)∨ni d p
theorem nl (d:Dk) (p:Q4) (w:World) (hd:d.In w w.heap.size) (hp:AO d p):Calls prog 210 #[d.v,p.v] w fun e w'=>e=.returned (aG (cr d p))∧Bw w w':=by
 have HD:=aH hd;rcases hp with ⟨h3,DI⟩|hl
 ·have T:cr d p=(p.b.toNat,p.b.toNat,0):=by unfold cr;rw[if_pos h3]
  rw[T];have q3:(p.a==3)=true:=by rw[beq_iff_eq];exact h3
  have HB:=aH (show((p.b.toNat:Nat):Int)=p.b by omega);clear T h3 hd DI;obtain⟨a,b,c,dd⟩:=p;dsimp only at *;unfold aG;dsimp only;rw[HB.out];go_enter func210,ntmps210;go_wp2;refine bP (v:=.tuple #[.agg #[.int .i64 b,.int .i64 b],.int .i64 0]) (by simp[results,results210,go_sem]) rfl ⟨rfl,?_⟩;(repeat (first|exact bR _ _|(with_reducible refine bS ?_ (by simp<;>omega))|(with_reducible refine bL ?_ _)))
 ·have h3:p.a≠3:=by rcases hl with h|h<;>omega
  have T:cr d p=cv d.bl (bs d p).x (bs d p).p (bs d p).r (cf p.d):=by unfold cr;rw[if_neg h3]
  rw[T];have q3:(p.a==3)=false:=by rw[beq_eq_false_iff_ne];exact h3
  have HA:=aH (fun w h=>vU d p w h hl);have HC:=aH (fun(m:Nat) (hm:yr (bs d p).x (bs d p).p (cf p.d) m) (w:World) (h:d.In w w.heap.size)=>show Calls prog 246 #[.slice d.bA d.bn d.bc,.float .f64 m,.float .f64 (bs d p).r] w fun e w'=>e=.returned (aG (cv d.bl (bs d p).x (bs d p).p (bs d p).r (cf p.d)))∧Bw w w' by
   have:=m9 (.slice d.bA d.bn d.bc) d.bl m (bs d p).r (ku h p hl) w h.b
   rwa [oQ _ _ _ _ _ _ hm]at this)
  clear T h3 hd hl;generalize cv d.bl (bs d p).x (bs d p).p (bs d p).r (cf p.d)=t at *;generalize bs d p=q at *;obtain⟨t1,t2,t3⟩:=t;unfold aG at *;dsimp only at *;obtain⟨w0,hw0⟩:∃w0,w0=((w.alloc d.ob).alloc (.cells #[.int .i64 p.a,.int .i64 p.b,.int .i64 p.c,.int .i64 p.d] 153)).alloc (.cells #[.int .i64 0,.int .i64 0] 134):=⟨_,rfl⟩;have CG:=aH (BC hw0);have CR:=aH (HD.out.then CG.out);have c0:w0.cell? ⟨w.heap.size,0,none⟩=some (.slice d.bA d.bn d.bc):=by rw[hw0];simp[go_sem]
  have r0:w0.cell? ⟨w.heap.size+1+1,0,none⟩=some (.int .i64 0):=by rw[hw0];simp[go_sem]
  have r1:w0.cell? ⟨w.heap.size+1+1,1,none⟩=some (.int .i64 0):=by rw[hw0];simp[go_sem]
  have z0:w0.frozen? ⟨w.heap.size+1+1,0,none⟩=false:=by rw[hw0];simp[go_sem]
  have z1:w0.frozen? ⟨w.heap.size+1+1,1,none⟩=false:=by rw[hw0];simp[go_sem]
  have F:=aH (aI c0 (aI r0 (aI r1 (aI z0 z1))));clear c0 r0 r1 z0 z1;go_enter func210,ntmps210;go_wp2_with fail;rw[←hw0];clear hw0;refine(HA.out _ CR.out).mono ?_;rintro e w1 ⟨m,rfl,hm,CE⟩;have HM:=aH hm;have CH:=aH CE;have GQ:=aH (CR.out.then CE);have c0:=kK CE F.out.1;clear hm CE;go_wp2_with fail;refine(HC.out m HM.out _ GQ.out).mono ?_;rintro e w2 ⟨rfl,CM⟩;have hb:=bC CH.out CM;have s0:=kK hb F.out.2.1;have s1:=kK hb F.out.2.2.1;have y0:=(hb.frozen (p:=⟨w.heap.size+1+1,0,none⟩) (wB _ _ F.out.2.1)).trans F.out.2.2.2.1;have y1:=(hb.frozen (p:=⟨w.heap.size+1+1,1,none⟩) (wB _ _ F.out.2.2.1)).trans F.out.2.2.2.2;have CL:=aH (bC CG.out hb);clear hb CM c0;go_wp2;exact bP (v:=.tuple #[.agg #[.int .i64 t1,.int .i64 t2],.int .i64 t3]) (by simp[results,results210,go_sem,s0,s1]) rfl ⟨rfl,bS (bS CL.out (by show w.heap.size≤w.heap.size+1+1;omega)) (by show w.heap.size≤w.heap.size+1+1;omega)⟩
abbrev T3:Type:=Nat×Nat×Int
def bp:List T3→Int
 |[]=>0
 |t::ts=>if t.2.2=0 then bp ts else t.2.2
theorem bN (a b:List T3):bp (a++b)=if bp a=0 then bp b else bp a:=by
 induction a with
 |nil=>rfl
 |cons t ts ih=>
  rw[List.cons_append,bp,bp,ih];by_cases h:t.2.2=0
  ·rw[if_pos h,if_pos h]
  ·rw[if_neg h,if_neg h,if_neg h]
theorem pR (l:List T3) (h:∀t∈l,t.2.2=0):bp l=0:=by
 induction l with
 |nil=>rfl
 |cons t ts ih=>rw[bp,if_pos (h t (by simp)),ih fun x hx=>h x (by simp[hx])]
theorem Bi (l:List T3) (h:bp l=0):∀t∈l,t.2.2=0:=by
 induction l with
 |nil=>intro t ht;cases ht
 |cons t ts ih=>
  rw[bp]at h;by_cases e:t.2.2=0
  ·rw[if_pos e]at h;intro x hx;rcases List.mem_cons.1 hx with rfl|hx
   ·exact e
   ·exact ih h x hx
  ·rw[if_neg e]at h;exact absurd h e
theorem wP (L:List T3) (r:Nat):bp (List.replicate (r+1) L).flatten=bp L:=by
 induction r with
 |zero=>simp
 |succ r ih=>
  rw[List.replicate_succ,List.flatten_cons,bN,ih];by_cases h:bp L=0
  ·rw[if_pos h]
  ·rw[if_neg h]
def cq (l:List T3):List (Int×Int):=l.map fun t=>((t.1:Int),(t.2.1:Int))
noncomputable def bU (d:Dk):List Rk:=d.pl.map dW++d.rl
def db (bl:List Nat) (q:Rk):List T3:=(List.range q.cols.toNat).map fun c:Nat=>cv bl q.x q.p q.r (cf ((c:Nat):Int))
def kI (bl:List Nat) (q:Rk):List T3:=(List.replicate q.rows.toNat (db bl q)).flatten
def kD (n:Nat):List T3:=(List.range n).map fun i=>(i,i,0)
noncomputable def bV (d:Dk):List T3:=(bM d).map (cr d)
theorem mV {α:Type} (f:Nat→α) (c r:Nat):(List.range (r*c)).map (fun j=>f (j%c))=(List.replicate r ((List.range c).map f)).flatten:=by
 induction r with
 |zero=>simp
 |succ r ih=>
  rw[Nat.succ_mul,List.range_add,List.map_append,ih,List.replicate_succ',List.flatten_append,List.map_map]
  congr 1
  rw[List.flatten_cons,List.flatten_nil,List.append_nil];apply List.map_congr_left;intro x hx;have hx:=List.mem_range.1 hx;show f ((r*c+x)%c)=f x;rw[Nat.mul_comm,Nat.mul_add_mod,Nat.mod_eq_of_lt hx]
theorem ng {α:Type} (l:List α) (z:α):(List.range l.length).map (fun i=>l.getD i z)=l:=by
 apply List.ext_getElem
 ·simp
 ·intro i h1 h2;simp only[List.length_map,List.length_range]at h1;simp[List.getElem?_eq_getElem h1]
theorem eM {α β:Type} (l:List α) (z:α) (f:α→List β):l.flatMap f=(List.range l.length).flatMap fun i=>f (l.getD i z):=by
 have:=congrArg (fun x=>x.flatMap f) (ng l z);rw[←this,List.flatMap_map]
theorem mn {α β:Type} (l:List α) (f g:α→List β) (h:∀x∈l,f x=g x):l.flatMap f=l.flatMap g:=by
 induction l with
 |nil=>rfl
 |cons x l ih=>rw[List.flatMap_cons,List.flatMap_cons,h x (by simp),ih fun y hy=>h y (by simp[hy])]
theorem lR (d:Dk) (u:Q4) (q:Rk) (ha:u.a≠3) (hc:u.c=q.rows) (hd:u.d=q.cols) (hq:∀j,bs d (cH u j)=q):(aw u).map (cr d)=kI d.bl q:=by
 unfold aw co kI db;rw[List.map_map,hc,hd,←mV];apply List.map_congr_left;intro j _;show cr d (cH u j)=_;unfold cr;rw[if_neg (show ¬(cH u j).a=3 from ha),hq j];unfold cH;rw[hd]
theorem sj (d:Dk):bV d=(bU d).flatMap (kI d.bl)++kD (d.bl.length-1):=by
 unfold bV bM ar bD bU;rw[List.map_flatMap,List.flatMap_append,List.flatMap_append,List.flatMap_append]
 congr 1
 ·congr 1
  ·rw[List.flatMap_map,List.flatMap_map,eM d.pl KP.dflt];apply mn;intro i hi;refine lR d _ _ (by show(1:Int)≠3;decide) rfl rfl fun j=>?_;unfold bs;rw[if_pos (show(cH (aE d.pl i) j).a=1 from rfl)];show dW (d.pl.getD ((i:Nat):Int).toNat KP.dflt)=_;rw[Int.toNat_natCast]
  ·rw[List.flatMap_map,eM d.rl KR.dflt];apply mn;intro i hi;refine lR d _ _ (by show(2:Int)≠3;decide) rfl rfl fun j=>?_;unfold bs;rw[if_neg (show ¬(cH (ba d.rl i) j).a=1 from by show(2:Int)≠1;decide)];show d.rl.getD ((i:Nat):Int).toNat KR.dflt=_;rw[Int.toNat_natCast]
 ·unfold kD;rw[List.flatMap_map]
  induction (d.bl.length-1)with
  |zero=>rfl
  |succ n ih=>
   rw[List.range_succ,List.flatMap_append,List.map_append,ih]
   congr 1
noncomputable def zE (d:Dk):Int:=bp ((bU d).flatMap (db d.bl))
noncomputable def aA (d:Dk):Int:=if aJ d=0 then zE d else aJ d
theorem mF (d:Dk) (h:OkD d):∀q∈bU d,1≤q.rows∧q.rows≤32∧1≤q.cols∧q.cols≤48:=by
 intro q hq;rcases List.mem_append.1 hq with hq|hq
 ·obtain⟨p,hp,rfl⟩:=List.mem_map.1 hq;obtain⟨i,hi,rfl⟩:=List.mem_iff_getElem.1 hp;have:=h.pl i hi;rw[List.getD_eq_getElem?_getD,List.getElem?_eq_getElem hi]at this;exact dP (bi this)
 ·obtain⟨i,hi,rfl⟩:=List.mem_iff_getElem.1 hq;have:=h.rl i hi;rw[List.getD_eq_getElem?_getD,List.getElem?_eq_getElem hi]at this;exact dP this
theorem vF (bl:List Nat) (l:List Rk) (h:∀q∈l,1≤q.rows):bp (l.flatMap (kI bl))=bp (l.flatMap (db bl)):=by
 induction l with
 |nil=>rfl
 |cons q l ih=>
  rw[List.flatMap_cons,List.flatMap_cons,bN,bN,ih fun x hx=>h x (by simp[hx])];have e:bp (kI bl q)=bp (db bl q):=by
   unfold kI;have:=h q (by simp);obtain⟨r,hr⟩:∃r,q.rows.toNat=r+1:=⟨q.rows.toNat-1,by omega⟩;rw[hr,wP]
  rw[e]
theorem pF (d:Dk) (h:OkD d):bp (bV d)=zE d:=by
 rw[sj,bN,vF _ _ fun q hq=>(mF d h q hq).1,pR (kD _)]
 ·unfold zE;by_cases e:bp ((bU d).flatMap (db d.bl))=0
  ·rw[if_pos e,e]
  ·rw[if_neg e]
 ·intro t ht;unfold kD at ht;obtain⟨i,_,rfl⟩:=List.mem_map.1 ht;rfl
noncomputable def eY (d:Dk):List (Int×Int):=if aA d=0 then cq (bV d)else []
theorem kz (a b:List T3):cq (a++b)=cq a++cq b:=by unfold cq;rw[List.map_append]
theorem vj (bl:List Nat) (q:Rk):(db bl q).length=q.cols.toNat:=by unfold db;simp
theorem fh (d:Dk):(bV d).length=(bM d).length:=by unfold bV;simp
def oY (q:Int×Int):List Value:=[.int .i64 q.1,.int .i64 q.2]
noncomputable def KS:Lk prog (Int×Int) where
 S:=130
 E:=134
 n:=2
 zero:=.agg #[.int .i64 0,.int .i64 0]
 bytes:=16
 cells:=oY
 dflt:=(0,0)
 ok q:=ae q.1∧ae q.2
 und:=underlying130
 info:=by kernel_rfl
 zs:=rfl
 pos:=by decide
 small:=by decide
 len _:=rfl
 one x u hu:=by
  simp only[oY,List.mem_cons,List.not_mem_nil,or_false]at hu;rcases hu with rfl|rfl<;>rfl
theorem iU {w:World} {B:Nat} {A:Option Addr} {n c:Nat} {xs:List (Int×Int)} (h:KS.IsL w B (.slice A n c) xs) (h0:0<xs.length):∃b off,A=some ⟨b,off,none⟩∧b<B∧xs.length≤c∧
  ∀i,i<xs.length→w.cell? ⟨b,off+i*2,none⟩=some (.int .i64 (xs.getD i (0,0)).1)∧w.cell? ⟨b,off+i*2+1,none⟩=some (.int .i64 (xs.getD i (0,0)).2):=by
 obtain⟨b,off,e,hb,hc,CD⟩:=h.elem h0;refine⟨b,off,e,hb,hc,fun i hi=>?_⟩;have q:=fun j u hu=>CD i hi j u hu;have hn:KS.n=2:=rfl;simp only[hn,←Nat.add_assoc]at q;exact⟨q 0 _ rfl,q 1 _ rfl⟩
namespace Lk
variable {P:Program} {α:Type} {K:Lk P α}
end Lk
open Go.RowKit
theorem rt (d:Dk) (w:World) (hd:d.In w w.heap.size) (hp:d.pl.length≤4) (hr:d.rl.length≤4):
  Calls prog 155 #[d.v] w fun e w'=>∃v,e=.returned v∧KR.Own w' w.heap.size v (bU d)∧Bw w w':=by
 have HD:=aH hd;have e0:=hd.b.len;have e1:=hd.p.len;have e2:=hd.r.len;have HU:=aH (show bU d=d.pl.map dW++d.rl from rfl);obtain⟨U,hU⟩:∃U,U=bU d:=⟨_,rfl⟩;rw[←hU]at HU⊢;clear hU;obtain⟨bA,bn,bc,bl,pA,pn,pc,pl,rA,rn,rc,rl,arms⟩:=d;dsimp only at *;subst e0 e1 e2;clear hd;have G5:=fun(w:World) (a:Addr) (m:Mode) (b:Nat)=>aq (P:=prog) (w:=w) (a:=a) (m:=m) .f64 b;obtain⟨w0,hw0⟩:∃w0,w0=w.alloc (.cells #[.slice bA bl.length bc,.slice pA pl.length pc,.slice rA rl.length rc,.int .i64 arms] 26):=⟨_,rfl⟩;have f1:w0.cell? ⟨w.heap.size,1,none⟩=some (.slice pA pl.length pc):=by rw[hw0];exact ap _ _ _ _ _ rfl
 have f2:w0.cell? ⟨w.heap.size,2,none⟩=some (.slice rA rl.length rc):=by rw[hw0];exact ap _ _ _ _ _ rfl
 have CG:=aH (cI hw0);have CR:=aH (HD.out.then CG.out);obtain⟨i0,hi,D9,DZ,hz2⟩:=info_parts KR.info;obtain⟨w1,hmk,CF,Ez⟩:=run_make_own (P:=prog) w0 w0.heap.size 24 118 i0 _ 5 underlying24 hi D9 DZ .i64 .i64 8 (by rw[hz2];decide) (by decide) (nR _);have D8:w0.heap.size=w.heap.size+1:=by rw[hw0];simp
 rw[show(Value.slice (some ⟨w0.heap.size,0,none⟩) 0 8)=Value.slice (some ⟨w.heap.size+1,0,none⟩) 0 8 by rw[D8]]at CF hmk;have Fy:=aH (show KR.Own w1 w0.heap.size (.slice (some ⟨w.heap.size+1,0,none⟩) 0 8) []from⟨CF,fun x hx=>by simp at hx⟩);have CH:=aH (show Bw w0 w1 from(bR _ _).grown Ez (nR _) (fun k hk=>by cases hk));have GQ:=aH (CR.out.then CH.out);have HF:=aH (show ∀w2,Bw w0 w2→w2.cell? ⟨w.heap.size,1,none⟩=some (.slice pA pl.length pc)∧w2.cell? ⟨w.heap.size,2,none⟩=some (.slice rA rl.length rc)from
  fun w2 hb=>⟨kK hb f1,kK hb f2⟩)
 clear CF Ez hi D9 DZ hz2 f1 f2;obtain⟨h1,h2⟩:=HF.out w1 CH.out;rw[hw0]at hmk;have KK:(Instr.makeSlice 24 (.int .i64 0) (.int .i64 8)).run prog (w.alloc (.cells #[.slice bA bl.length bc,.slice pA pl.length pc,.slice rA rl.length rc,.int .i64 arms] 26))=.ok (.slice (some ⟨w.heap.size+1,0,none⟩) 0 8) w1:=hmk;clear hmk;go_enter func155,ntmps155;go_wp2;clear KK h1 h2 hw0 D8;obtain⟨v0,FP⟩:∃v,v=Value.slice (some ⟨w.heap.size+1,0,none⟩) 0 8:=⟨_,rfl⟩;rw[←FP]at Fy
 go_loopw [3,10] (fun v i wr=>∃k:Nat,k≤pl.length∧i=.int .i64 k∧KR.Own wr w0.heap.size v ((pl.take k).map dW)∧Bw w0 wr) (fun _ i _=>pl.length-(intOf i).toNat)
 case atStart=>exact⟨0,Nat.zero_le _,rfl,by rw[←FP];exact Fy.out,CH.out⟩
 case round=>
  obtain⟨k,hk,rfl,CF,CP⟩:=hrel;have HO:=aH CF;have HB:=aH CP;clear CF CP;by_cases CI:k<pl.length
  ·obtain⟨b,off,rfl,hb,hc,CD⟩:=aQ (CR.out.p.below HB.out) (by dsimp only;omega);obtain⟨c0,c1,c2,c3,c4,c5,c6⟩:=CD k CI;have HS:=aH (show(pl.take (k+1)).map dW=(pl.take k).map dW++[dW (pl.getD k KP.dflt)]by rw[aX pl k KP.dflt CI,List.map_append];rfl);obtain⟨o1,o2,o3,o4,o5,_⟩:=CR.out.p.okAt k CI;have Dh:=aH (show KR.ok (dW (pl.getD k KP.dflt))from⟨o1,o2,o3,o4,o5⟩);have CV:=aH (show((pl.take k).map dW).length=k by simp;omega);have SQ:=aH (fun w=>fq (pl.getD k KP.dflt) w);clear CD o1 o2 o3 o4 o5;dsimp only at *;generalize pl.getD k KP.dflt=q at *;generalize (pl.take k).map dW=L at *;obtain⟨a1,a2,X,P,R,cap,sA,sn,sc,st⟩:=q;have HS:=aH (show(pl.take (k+1)).map dW=L++[⟨a1,a2,X,P,R⟩]from HS.out);have Dh:=aH (show KR.ok ⟨a1,a2,X,P,R⟩from Dh.out);go_wp2_with fail;refine(SQ.out _).mono ?_;rintro e w2 ⟨rfl,CM⟩;have CO:=bC (bL (bR _ _) _) CM;have CS:=aH (bC HB.out CO);have Eo:=aH (HO.out.below CO);clear CM CO HO c0 c1 c2 c3 c4 c5 c6;go_wp2_with (at_builtin;refine Lk.wpList_app (K:=KR) _ rfl _ _ rfl rfl w0.heap.size (w2.heap.size+1) _ _ L [⟨a1,a2,X,P,R⟩] rfl rfl (Eo.out.alloc _) (Lk.IsL.lit (K:=KR) _ ⟨a1,a2,X,P,R⟩ _ Dh.out rfl w2.heap.size rfl) ?c1 ?c2 ?_)
   case c1=>have:=CV.out;simp;omega
   case c2=>have:=CS.out.size;simp;omega
   intro v1 w4 CF hgrow _;have CW:=aH (Lk.Own.grow' (Eo.out.alloc _) (bL CS.out _) (by have:=CS.out.size;simp;omega) hgrow);have DB:=aH CF;clear CF hgrow;go_wp2
   go_roundw
   case rel=>exact⟨k+1,by omega,ai (by omega),by rw[HS.out];exact DB.out,CW.out⟩
   case measure=>simp[intOf];omega
  ·obtain rfl:k=pl.length:=(by omega);rw[List.take_length]at HO;obtain⟨q1,q2⟩:=HF.out wr HB.out;have CV:=aH (show(pl.map dW).length=pl.length by simp);generalize pl.map dW=L at *;go_wp2_with (at_builtin;refine Lk.wpList_app (K:=KR) _ rfl _ _ rfl rfl w0.heap.size wr.heap.size _ _ L rl rfl rfl HO.out ((CR.out.then HB.out).r) ?c1 ?c2 ?_)
   case c1=>have:=CV.out;omega
   case c2=>exact HB.out.size
   intro v1 w4 CF hgrow _;have CW:=aH (Lk.Own.grow' HO.out HB.out HB.out.size hgrow);have DB:=aH CF;clear CF hgrow;go_wp2
   go_ret
   exact⟨_,rfl,by rw[HU.out];exact DB.out.mono CG.out.size,bC CG.out CW.out⟩
theorem wK (l:List T3) (z:T3) (e:Int) (he:e≠0):∀j,j<l.length→(∀i,i<j→(l.getD i z).2.2=0)→(l.getD j z).2.2=e→bp l=e:=by
 induction l with
 |nil=>intro j hj;simp at hj
 |cons t ts ih=>
  intro j hj hp ht;rw[bp]
  cases j with
  |zero=>
   have Rv:t.2.2=e:=(by simpa using ht);rw[if_neg (by rw[Rv];exact he),Rv]
  |succ j=>
   have h0:t.2.2=0:=(by simpa using hp 0 (by omega));rw[if_pos h0];exact ih j (by simpa using hj) (fun i hi=>by simpa using hp (i+1) (by omega)) (by simpa using ht)
theorem tt (bl:List Nat) (q:Rk) (i:Nat) (hi:i<q.cols.toNat):(db bl q).getD i (0,0,0)=cv bl q.x q.p q.r (cf (i:Int)):=by
 rw[List.getD_eq_getElem?_getD];unfold db;rw[List.getElem?_map,List.getElem?_range hi];rfl
theorem Bg (bl:List Nat) (q:Rk) (h:∀i,i<q.cols.toNat→(cv bl q.x q.p q.r (cf (i:Int))).2.2=0):bp (db bl q)=0:=by
 apply pR;intro t ht;unfold db at ht;obtain⟨i,hi,rfl⟩:=List.mem_map.1 ht;exact h i (List.mem_range.1 hi)
theorem rb (bl:List Nat) (l:List Rk) (k:Nat) (hk:k<l.length) (h0:bp ((l.take k).flatMap (db bl))=0) (h:∀i,i<(l.getD k KR.dflt).cols.toNat→(cv bl (l.getD k KR.dflt).x (l.getD k KR.dflt).p (l.getD k KR.dflt).r (cf (i:Int))).2.2=0):bp ((l.take (k+1)).flatMap (db bl))=0:=by
 rw[aX l k KR.dflt hk,List.flatMap_append,bN,if_pos h0,List.flatMap_cons,List.flatMap_nil,List.append_nil];exact Bg bl _ h
theorem tx (bl:List Nat) (l:List Rk) (k:Nat) (hk:k<l.length) (j:Nat) (hj:j<(l.getD k KR.dflt).cols.toNat) (e:Int) (he:e≠0) (h0:bp ((l.take k).flatMap (db bl))=0)
  (hp:∀i,i<j→(cv bl (l.getD k KR.dflt).x (l.getD k KR.dflt).p (l.getD k KR.dflt).r (cf (i:Int))).2.2=0) (ht:(cv bl (l.getD k KR.dflt).x (l.getD k KR.dflt).p (l.getD k KR.dflt).r (cf (j:Int))).2.2=e):bp (l.flatMap (db bl))=e:=by
 have hl:l=l.take k++(l.getD k KR.dflt::l.drop (k+1)):=by rw[←fG l k KR.dflt hk,List.take_append_drop]
 have DK:bp (db bl (l.getD k KR.dflt))=e:=by
  apply wK _ (0,0,0) e he j
  ·rw[vj];exact hj
  ·intro i hi;rw[tt _ _ _ (by omega)];exact hp i hi
  ·rw[tt _ _ _ hj];exact ht
 generalize l.getD k KR.dflt=q at *;rw[hl,List.flatMap_append,bN,if_pos h0,List.flatMap_cons,bN,DK,if_neg he]
theorem eS (d:Dk) (w:World) (hd:d.In w w.heap.size):Calls prog 93 #[d.v] w fun e w'=>e=.returned (.int .i64 (aA d))∧Bw w w':=by
 have HD:=aH hd;have HC:=aH (fun w h=>eT d w h);have G5:=fun(w:World) (a:Addr) (m:Mode) (b:Nat)=>aq (P:=prog) (w:=w) (a:=a) (m:=m) .f64 b;obtain⟨w0,hw0⟩:∃w0,w0=w.alloc d.ob:=⟨_,rfl⟩;have CG:=aH (cI hw0);have CR:=aH (HD.out.then CG.out);have HF:=aH (show ∀w1,Bw w0 w1→(w1.cell? ⟨w.heap.size,0,none⟩=some (.slice d.bA d.bn d.bc)∧w1.cell? ⟨w.heap.size,1,none⟩=some (.slice d.pA d.pn d.pc)∧w1.cell? ⟨w.heap.size,2,none⟩=some (.slice d.rA d.rn d.rc)∧w1.cell? ⟨w.heap.size,3,none⟩=some (.int .i64 d.arms))from by
   intro w1 hb;refine⟨kK hb ?_,kK hb ?_,kK hb ?_,kK hb ?_⟩;all_goals (rw[hw0];simp))
 by_cases hz:aJ d=0
 ·have T:aA d=bp ((bU d).flatMap (db d.bl)):=by unfold aA;rw[if_pos hz];rfl
  rw[T];have Dh:=aH (aU d hz);have Ek:=aH (mF d Dh.out);have Sh:=aH (fun w h=>rt d w h Dh.out.p4 Dh.out.r4);have Kw:=aH (show(bU d).length≤8 by unfold bU;rw[List.length_append,List.length_map];have:=Dh.out.p4;have:=Dh.out.r4;omega);have OG:=aH (fun(w:World) (h:d.In w w.heap.size)=>h.b);have HN:=aH (rb d.bl (bU d));have HH:=aH (tx d.bl (bU d));have So:=aH (fun(w:World) (h:d.In w w.heap.size) (q:Rk) (c:Int) (hq:q.r<18446744073709551616)=>gE (.slice d.bA d.bn d.bc) d.bl q c w h.b hq);rw[hz]at HC;clear T hz hd;generalize bU d=RS at *;go_enter func93,ntmps93;go_wp2_with fail
  go_step3
  go_wp2_with fail;rw[←hw0];clear hw0;refine(HC.out _ CR.out).mono ?_;rintro e w1 ⟨rfl,CE⟩;obtain⟨d0,d1,d2,d3⟩:=HF.out w1 CE;have CH:=aH CE;clear CE;go_wp2_with fail
  go_step3
  go_wp2_with fail;refine(Sh.out w1 (CR.out.then CH.out)).mono ?_;rintro e w2 ⟨v,rfl,CF,CM⟩;have CL:=aH (bC CH.out CM);have Gl:=aH (CF.isL (by have:=Kw.out;omega));clear CM CF d0 d1 d2 d3;obtain⟨A,cap,rfl⟩:∃A cap,v=.slice A RS.length cap:=by
   obtain⟨⟨A,cap,h,_⟩,_⟩:=Gl.out;exact⟨A,cap,h⟩
  go_wp2_with fail
  go_loopw [3,15] (fun e i wr=>∃k:Nat,k≤RS.length∧i=.int .i64 k∧e=.int .i64 0∧bp ((RS.take k).flatMap (db d.bl))=0∧Bw w2 wr) (fun _ i _=>RS.length-(intOf i).toNat)
  case atStart=>exact⟨0,Nat.zero_le _,rfl,rfl,rfl,bR _ _⟩
  case round=>
   obtain⟨k,hk,rfl,rfl,hf,CP⟩:=hrel;have HB:=aH CP;have HZ:=aH hf;have h8:=Kw.out;clear CP hf;by_cases CI:k<RS.length
   ·obtain⟨b,off,rfl,hb,hc,CD⟩:=bu (Gl.out.below HB.out) (by omega);obtain⟨c0,c1,c2,c3,c4⟩:=CD k CI;have HQ:=aH (Gl.out.okAt k CI);have Pd:=aH (Ek.out _ (af RS k KR.dflt CI));have Lh:=aH (HN.out k CI HZ.out);have Ra:=aH (fun j hj e he hp ht=>HH.out k CI j hj e he HZ.out hp ht);obtain⟨wo,hwo⟩:∃wo,wo=wr:=⟨_,rfl⟩;subst hwo;clear CD;generalize RS.getD k KR.dflt=q at *;have Sw:=Pd.out;obtain⟨a1,a2,X,P,R⟩:=q;dsimp only at *;obtain⟨_,_,hco1,hco2⟩:=Sw;obtain⟨n,rfl⟩:∃n:Nat,a2=(n:Int):=⟨a2.toNat,by omega⟩;rw[Int.toNat_natCast]at Lh Ra;obtain⟨w5,hw5⟩:∃w5,w5=wo.alloc (.cells #[.int .i64 a1,.int .i64 n,.float .f64 X,.float .f64 P,.float .f64 R] 118):=⟨_,rfl⟩;have DH:=aH (show Bw w2 w5 by rw[hw5];exact bL HB.out _);have Tg:=aH (CR.out.then (bC CL.out DH.out));have Nv:=aH (show ∀w1,Bw w5 w1→w1.cell? ⟨wo.heap.size,0,none⟩=some (.int .i64 a1)∧w1.cell? ⟨wo.heap.size,1,none⟩=some (.int .i64 n)∧w1.cell? ⟨wo.heap.size,2,none⟩=some (.float .f64 X)∧w1.cell? ⟨wo.heap.size,3,none⟩=some (.float .f64 P)∧w1.cell? ⟨wo.heap.size,4,none⟩=some (.float .f64 R)from by
     intro w1 hb;refine⟨kK hb ?_,kK hb ?_,kK hb ?_,kK hb ?_,kK hb ?_⟩;all_goals (rw[hw5];simp))
    go_wp2_with fail;rw[←hw5];clear hw5 c0 c1 c2 c3 c4
    go_loopw [3,21] (fun e c wr=>∃j:Nat,j≤n∧c=.int .i64 j∧e=.int .i64 0∧(∀i,i<j→(cv d.bl X P R (cf (i:Int))).2.2=0)∧Bw w5 wr) (fun _ c _=>n-(intOf c).toNat)
    case atStart=>exact⟨0,Nat.zero_le _,rfl,rfl,fun i hi=>by omega,bR _ _⟩
    case round=>
     obtain⟨j,hj,rfl,rfl,hall,CP⟩:=hrel;have LF:=aH CP;have HL:=aH hall;clear CP hall;by_cases hlj:j<n
     ·obtain⟨e0,e1,e2,e3,e4⟩:=Nv.out wr LF.out;obtain⟨d0,d1,d2,d3⟩:=HF.out wr (bC CL.out (bC DH.out LF.out));have Ok:=aH (So.out wr (Tg.out.then LF.out) ⟨a1,n,X,P,R⟩ j HQ.out.2.2.2.2);have Tn:=aH (Ra.out j hlj);have Gb:=aH (show(cv d.bl X P R (cf (j:Int))).2.2=0→∀i,i<j+1→(cv d.bl X P R (cf (i:Int))).2.2=0 from fun h i hi=>by
       by_cases e:i=j
       ·rw[e];exact h
       ·exact HL.out i (by omega))
      dsimp only at Ok;generalize cv d.bl X P R (cf (j:Int))=t at *;obtain⟨t1,t2,t3⟩:=t;unfold aG at Ok;dsimp only at *;by_cases ht:t3=0
      ·subst ht;have CV:=aH (Gb.out rfl);go_wp2_with fail;refine Ok.out.mono ?_;rintro e w6 ⟨rfl,hb6⟩;have Ew:=aH (bC LF.out hb6);clear hb6;go_wp2
       go_roundw
       case rel=>exact⟨j+1,by omega,ai (by omega),rfl,CV.out,Ew.out⟩
       case measure=>simp[intOf];omega
      ·have HT:=aH (Tn.out t3 ht HL.out rfl);have q1:(t3 != 0)=true:=(by rw[bne_iff_ne];exact ht);clear ht;go_wp2_with fail;refine Ok.out.mono ?_;rintro e w6 ⟨rfl,hb6⟩;have Ew:=aH (bC LF.out hb6);clear hb6 e0 e1 e2 e3 e4 d0 d1 d2 d3;go_wp2;rw[Exit.noGoto_ret]
       go_ret
       exact⟨aS HT.out.symm,bC CG.out (bC CL.out (bC DH.out Ew.out))⟩
     ·obtain rfl:j=n:=(by omega);have HT:=aH (Lh.out HL.out);go_wp2
      go_roundw
      case rel=>exact⟨k+1,by omega,ai (by omega),rfl,HT.out,bC DH.out LF.out⟩
      case measure=>simp[intOf];omega
   ·obtain rfl:k=RS.length:=(by omega);rw[List.take_length]at HZ;go_wp2;rw[Exit.noGoto_ret]
    go_ret
    exact⟨aS HZ.out.symm,bC CG.out (bC CL.out HB.out)⟩
 ·have T:aA d=aJ d:=by unfold aA;rw[if_neg hz]
  rw[T];have GB:(aJ d != 0)=true:=by rw[bne_iff_ne];exact hz
  clear T hz hd;generalize aJ d=c at *;go_enter func93,ntmps93;go_wp2_with fail
  go_step3
  go_wp2_with fail;rw[←hw0];clear hw0;refine(HC.out _ CR.out).mono ?_;rintro e w1 ⟨rfl,CE⟩;have CH:=aH CE;clear CE;go_wp2;rw[Exit.noGoto_ret]
  go_ret
  exact⟨rfl,bC CG.out CH.out⟩
theorem sN (l:List Nat) (x r:Nat) (h64:r<18446744073709551616) (h:(dQ l x r).2.2=0):(dQ l x r).1≤(dQ l x r).2.1∧(dQ l x r).2.1+2≤l.length∧l.length≤25:=by
 by_cases hz:aZ l=0
 ·have hr:=kw l hz;have hm:=hr.most;rcases hx:aR x with _|_
  ·rcases hy:aR r with _|_
   ·rcases hl:ey r 0 with _|_
    ·rcases es:Ieee.double.sub x r with _|a
     ·rw[fu l x r hz hx hy hl (.inl es)]at h;exact absurd h (by decide)
     ·rcases ea:Ieee.double.add x r with _|q
      ·rw[fu l x r hz hx hy hl (.inr ea)]at h;exact absurd h (by decide)
      ·rw[lU l x r a q hz hx hy hl es ea]at h⊢;obtain⟨na,nq,s1,s2⟩:=iF x r a q h64 (ei hx) (ei hy) (yn r (ei hy) hl) es ea;dsimp only at h⊢;rcases ho:eJ l a q with _|_
       ·obtain⟨p1,p2,_⟩:=dC l hr a q na nq (Int.le_trans s1 s2) ho;unfold jy ji;rw[ho,if_neg (by simp),if_neg (by simp)];exact⟨p1,p2,by omega⟩
       ·unfold jK at h;rw[ho,if_pos rfl]at h;exact absurd h (by decide)
    ·rw[o9 l x r hz hx hy hl]at h;exact absurd h (by decide)
   ·rw[gX l x r hz (.inr hy)]at h;exact absurd h (by decide)
  ·rw[gX l x r hz (.inl hx)]at h;exact absurd h (by decide)
 ·rw[oU l x r hz]at h;exact absurd h hz
theorem th (l:List Nat) (X P R c:Nat) (h64:R<18446744073709551616) (h:(cv l X P R c).2.2=0):(cv l X P R c).1≤(cv l X P R c).2.1∧(cv l X P R c).2.1+2≤l.length∧l.length≤25:=sN l _ R h64 h
theorem lM {W V U:World} {row:Option Nat} (h:W.grownBy V row) (k:V.grownBy U row):W.grownBy U row:=
 ⟨k.os.trans h.os,k.tape.trans h.tape,k.output.trans h.output,Nat.le_trans h.size k.size,fun i hi CJ=>(k.block i (nL hi h.size) CJ).trans (h.block i hi CJ)⟩
theorem vq {W V:World} {g:Nat} {a:Addr} {v:Value} (h:W.grownBy V (some g)) (hc:W.cell? a=some v) (CJ:a.block≠g):V.cell? a=some v:=by
 rw[World.cell?_of_block (h.block a.block (wB W a hc) (fun e=>CJ (Option.some.inj e)))];exact hc
theorem Lk.IsL.gb {P:Program} {α:Type} {K:Lk P α} {W V:World} {g b off n c:Nat} {xs:List α} (h:K.IsL W W.heap.size (.slice (some ⟨b,off,none⟩) n c) xs) (hg:W.grownBy V (some g)) (CJ:b≠g):K.IsL V V.heap.size (.slice (some ⟨b,off,none⟩) n c) xs:=by
 obtain⟨⟨A,cap,hv,hc,hA⟩,hf,hl⟩:=h;refine⟨⟨A,cap,hv,hc,fun h0=>?_⟩,hf,hl⟩;obtain⟨b',off',hA',Gw,CD⟩:=hA h0;injection hv with e1 e2 e3
 rw[hA']at e1;injection e1 with e1
 injection e1 with e1 e4
 refine⟨b',off',hA',nL Gw hg.size,fun i hi j u hu=>?_⟩;exact vq hg (CD i hi j u hu) (by show b'≠g;omega)
theorem Lk.Own.part {P:Program} {α:Type} {K:Lk P α} {W:World} {base g n cap:Nat} {zs:List α} (xs ys us:List α) (h:K.Own W base (.slice (some ⟨g,0,none⟩) n cap) zs) (e:zs=xs++ys++us) (hl:zs.length≤9223372036854775807):K.IsL W W.heap.size (.slice (some ⟨g,xs.length*K.n,none⟩) ys.length ys.length) ys:=by
 obtain⟨⟨A,cap',hv,hc,hA⟩,hf,_⟩:=h.isL hl;subst e;refine⟨⟨_,_,rfl,nR _,fun h0=>?_⟩,fun x hx=>hf x (by simp[hx]),by simp at hl;omega⟩;obtain⟨b,off,hA',hb,CD⟩:=hA (by simp;omega);injection hv with e1 e2 e3
 rw[hA']at e1;injection e1 with e1
 injection e1 with e1 e4
 subst e1;subst e4;refine⟨_,_,rfl,hb,fun i hi j u hu=>?_⟩;have q:=CD (xs.length+i) (by simp;omega) j u (by
  rw[List.append_assoc,List.getD_eq_getElem?_getD,List.getElem?_append_right (by omega),List.getElem?_append_left (by omega),Nat.add_sub_cancel_left,←List.getD_eq_getElem?_getD];exact hu)
 rw[Nat.zero_add,Nat.add_mul,Nat.add_assoc]at q;exact q
theorem fL (l:List T3):(cq l).length=l.length:=by unfold cq;simp
theorem r8 (l:List Int) (h:∀x∈l,0≤x):0≤l.sum:=by
 induction l with
 |nil=>simp
 |cons x l ih=>
  rw[List.sum_cons];have h1:=h x (by simp);have h2:=ih fun y hy=>h y (by simp[hy]);omega
theorem uv (l:List Pl) (h:∀i,i<l.length→bG (l.getD i KP.dflt).rows (l.getD i KP.dflt).cols=true):0≤aC l:=by
 apply r8;intro x hx;obtain⟨q,hq,rfl⟩:=List.mem_map.1 hx;obtain⟨i,hi,rfl⟩:=List.mem_iff_getElem.1 hq;have:=h i hi;rw[List.getD_eq_getElem?_getD,List.getElem?_eq_getElem hi]at this;have:=(bB this).1;simp only[Option.getD_some]at this;omega
theorem wg (l:List Rk) (h:∀i,i<l.length→bG (l.getD i KR.dflt).rows (l.getD i KR.dflt).cols=true):0≤bj l:=by
 apply r8;intro x hx;obtain⟨q,hq,rfl⟩:=List.mem_map.1 hx;obtain⟨i,hi,rfl⟩:=List.mem_iff_getElem.1 hq;have:=h i hi;rw[List.getD_eq_getElem?_getD,List.getElem?_eq_getElem hi]at this;have:=(bB this).1;simp only[Option.getD_some]at this;omega
end Go.Proofs.YtmecohdedghiaaaGreatDoor
