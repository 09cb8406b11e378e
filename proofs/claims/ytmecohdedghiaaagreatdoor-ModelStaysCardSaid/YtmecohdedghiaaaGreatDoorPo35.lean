/- A turn is done: release, drop. -/
import Derived.Test.YtmecohdedghiaaaGreatDoorPo33
import Derived.Test.YtmecohdedghiaaaGreatDoorPo34
set_option maxRecDepth 100000
set_option maxHeartbeats 8000000
open Go.Proofs.Tryz
namespace Go.Proofs.YtmecohdedghiaaaGreatDoor
open Go.RowKit
theorem cR {d:Dk} {o:List Int} {who:Int} {r:Rq} (h:dO d o who r=(0,0)):bI d r=(0,0):=by
 unfold dO at h
 split at h
 ·cases h
 ·split at h
  ·assumption
  ·exact h
theorem zS {o ids:List Int} {who:Int} {q:Int→Bool} {nt:Int} (hn:nt≠0) (h:cM o ids who q nt=0):eP o ids who q=0:=by
 unfold cM at h;unfold eP
 split at h
 ·rename_i h1
  rw[if_pos h1]
  split at h
  ·cases h
  ·rename_i h2
   rw[if_neg h2]
   split at h
   ·exact absurd h hn
   ·rename_i h3
    have e:(bX (fun x=>!q (o.getD x.toNat 0)) ids).2=false:=(by rw[cV];exact Bool.eq_false_iff.2 h3);have e2:bX (fun x=>!q (o.getD x.toNat 0)) ids=((bX (fun x=>!q (o.getD x.toNat 0)) ids).1,false):=(by rw[←e]);exact du e2
 ·cases h
theorem zg {o ids:List Int} {who:Int} (h:kp o ids who=0):uN o ids who=0:=by
 unfold kp at h;unfold uN
 split at h
 ·cases h
 ·rename_i h1
  rw[if_neg h1];exact zS (by decide) h
theorem jW {d t:Dk} (h:d.ab=t.ab) (a:Ab) (b E:Int):br d a b E=br t a b E:=by rw[←tq d,h,tq]
theorem yC {d t:Dk} (h:d.ab=t.ab) (a:Ab) (b id:Int):eL d a b id=eL t a b id:=by rw[←sy d,h,sy]
theorem zU {d:Dk} {r:Rq} (hk:r.k=9∨r.k=10) (h:bI d r=(0,0)):dJ d 1 r.a=true:=by
 unfold bI at h
 split at h
 ·rename_i hz;injection h with h1 h2;exact absurd h1 hz
 ·split at h
  ·rename_i hm;exact absurd h hm
  ·have hn:jz d r=none:=by
    cases e:jz d r with
    |none=>rfl
    |some x=>rw[e]at h;injection h with h1 h2;exact absurd h1 (by decide)
   unfold jz eo at hn;rw[if_neg (by omega),if_neg (by omega),if_pos (by omega),List.find?_eq_none]at hn;have q:=hn (1,r.a) (by simp);unfold gi at q;unfold dJ;simpa using q
theorem eX {m:Md} (hg:fC m=true) {id:Int} (h:dJ m.d 1 id=true):0≤id∧id<m.s.cl.length:=by
 obtain⟨h1,_⟩:=fJ hg;have hp:=wW _ _ h1;have hn:=bF m.d hp.z;have hw:=fc hp.w;have Ls:m.s.ab.c.length=m.s.cl.length:=rfl;rw[(d6 m.d (cm _ hp.z) id).1,decide_eq_true_eq]at h;omega
theorem pz (m:Md) (who:Int) (r:Rq) (w:World) (hm:m.In w w.heap.size) (hr:r.In w w.heap.size) (hT:Nn.Tab w) (hg:fC m=true) (hfw:ae who) (hk:r.k=1):Calls prog 28 #[m.v,.int .i64 who,r.val] w fun e w'=>∃(t:Md) (x:Rs),e=.returned (.tuple #[t.v,x.v])∧t.In w' w'.heap.size∧x.In w' w'.heap.size∧Below w.heap.size w w'∧(∀G,G<w.heap.size→t.Off G∧OffL G x.A x.xs.length)∧t.d.ab=m.d.ab∧DoP (dO m.d m.o who r) m t x (kp m.o r.il who) (uN m.o r.il who) (m.s.ab) (if kp m.o r.il who=0 then aO m.o (Two.mk r.il) who else m.o) (0,0,((b9 (aO m.o (Two.mk r.il) who) who m.o.length).length:Int),0,[]):=by
 have Eu:=dZ hg;refine iq m who r w hm hr hT hg Eu.1 hfw (kp m.o r.il who) (uN m.o r.il who) (m.s.ab) (if kp m.o r.il who=0 then aO m.o (Two.mk r.il) who else m.o) (0,0,((b9 (aO m.o (Two.mk r.il) who) who m.o.length).length:Int),0,[]) (zg) (fun hb V D t hu h1 h2 h3 hT=>?_);have Gy:=cR hb;have J6:=oB (vH Gy);refine(BK t who r rs0 D V hu hk (by rw[h3];have:=Eu.2;omega) J6).mono ?_;rintro e w' ⟨t',x',he,ha,hs,h4,h5⟩;rw[h3]at he h4 h5;refine⟨t',x',he,ha,by rw[hs,h2],?_,fun h0=>?_⟩
 ·by_cases h0:kp m.o r.il who=0
  ·rw[if_pos h0,(h4 h0).1]
  ·rw[if_neg h0,(h5 h0).1,h3]
 ·rw[(h4 h0).2,(h4 h0).1,cT];rfl
theorem yo (m:Md) (who:Int) (r:Rq) (w:World) (hm:m.In w w.heap.size) (hr:r.In w w.heap.size) (hT:Nn.Tab w) (hg:fC m=true) (hfw:ae who) (hk:r.k=3):Calls prog 28 #[m.v,.int .i64 who,r.val] w fun e w'=>∃(t:Md) (x:Rs),e=.returned (.tuple #[t.v,x.v])∧t.In w' w'.heap.size∧x.In w' w'.heap.size∧Below w.heap.size w w'∧(∀G,G<w.heap.size→t.Off G∧OffL G x.A x.xs.length)∧t.d.ab=m.d.ab∧DoP (dO m.d m.o who r) m t x (cM m.o (b9 m.o who m.o.length) who (ay who) 141) (eP m.o (b9 m.o who m.o.length) who (ay who)) (m.s.ab) (if cM m.o (b9 m.o who m.o.length) who (ay who) 141=0 then aO m.o (b9 m.o who m.o.length) 0 else m.o) (0,0,((b9 m.o who m.o.length).length:Int),0,[]):=by
 have Eu:=dZ hg;refine iq m who r w hm hr hT hg Eu.1 hfw (cM m.o (b9 m.o who m.o.length) who (ay who) 141) (eP m.o (b9 m.o who m.o.length) who (ay who)) (m.s.ab) (if cM m.o (b9 m.o who m.o.length) who (ay who) 141=0 then aO m.o (b9 m.o who m.o.length) 0 else m.o) (0,0,((b9 m.o who m.o.length).length:Int),0,[]) (zS (by decide)) (fun hb V D t hu h1 h2 h3 hT=>?_);have Gy:=cR hb;refine(BT t who r rs0 D V hu hk (by rw[h3];have:=Eu.2;omega)).mono ?_;rintro e w' ⟨t',x',he,ha,hs,h4,h5⟩;rw[h3]at he h4 h5;refine⟨t',x',he,ha,by rw[hs,h2],?_,fun h0=>?_⟩
 ·by_cases h0:cM m.o (b9 m.o who m.o.length) who (ay who) 141=0
  ·rw[if_pos h0,(h4 h0).1]
  ·rw[if_neg h0,h5 h0,h3]
 ·rw[(h4 h0).2];rfl
theorem yj (m:Md) (who:Int) (r:Rq) (w:World) (hm:m.In w w.heap.size) (hr:r.In w w.heap.size) (hT:Nn.Tab w) (hg:fC m=true) (hfw:ae who) (hk:r.k=7):Calls prog 28 #[m.v,.int .i64 who,r.val] w fun e w'=>∃(t:Md) (x:Rs),e=.returned (.tuple #[t.v,x.v])∧t.In w' w'.heap.size∧x.In w' w'.heap.size∧Below w.heap.size w w'∧(∀G,G<w.heap.size→t.Off G∧OffL G x.A x.xs.length)∧t.d.ab=m.d.ab∧DoP (dO m.d m.o who r) m t x (br m.d m.s.ab who (eL m.d m.s.ab who r.a)) (0) (if br m.d m.s.ab who (eL m.d m.s.ab who r.a)=0 then fY m.s.ab who r.a else m.s.ab) (m.o) (0,r.a,0,0,[]):=by
 have Eu:=dZ hg;refine iq m who r w hm hr hT hg Eu.1 hfw (br m.d m.s.ab who (eL m.d m.s.ab who r.a)) (0) (if br m.d m.s.ab who (eL m.d m.s.ab who r.a)=0 then fY m.s.ab who r.a else m.s.ab) (m.o) (0,r.a,0,0,[]) (fun _=>rfl) (fun hb V D t hu h1 h2 h3 hT=>?_);have Gy:=cR hb;refine(BI t who r rs0 D V hu hk).mono ?_;rintro e w' ⟨t',x',he,ha,hs,h4,h5⟩;rw[h2,yC h1,jW h1]at he h4 h5;refine⟨t',x',he,ha,?_,by rw[hs,h3],fun h0=>?_⟩
 ·by_cases h0:br m.d m.s.ab who (eL m.d m.s.ab who r.a)=0
  ·rw[if_pos h0,(h4 h0).1]
  ·rw[if_neg h0,h5 h0,h2]
 ·rw[(h4 h0).2];rfl
theorem yf (m:Md) (who:Int) (r:Rq) (w:World) (hm:m.In w w.heap.size) (hr:r.In w w.heap.size) (hT:Nn.Tab w) (hg:fC m=true) (hfw:ae who) (hk:r.k=9):Calls prog 28 #[m.v,.int .i64 who,r.val] w fun e w'=>∃(t:Md) (x:Rs),e=.returned (.tuple #[t.v,x.v])∧t.In w' w'.heap.size∧x.In w' w'.heap.size∧Below w.heap.size w w'∧(∀G,G<w.heap.size→t.Off G∧OffL G x.A x.xs.length)∧t.d.ab=m.d.ab∧DoP (dO m.d m.o who r) m t x (0) (0) (m.s.ab) (m.o) (0,0,(m.s.ab.c.getD r.a.toNat aM).b,(m.s.ab.c.getD r.a.toNat aM).c,[]):=by
 have Eu:=dZ hg;refine iq m who r w hm hr hT hg Eu.1 hfw (0) (0) (m.s.ab) (m.o) (0,0,(m.s.ab.c.getD r.a.toNat aM).b,(m.s.ab.c.getD r.a.toNat aM).c,[]) (fun _=>rfl) (fun hb V D t hu h1 h2 h3 hT=>?_);have Gy:=cR hb;have hw:=eX hg (zU (.inl hk) Gy);have hc:t.s.cl=m.s.cl:=congrArg Ab.c h2;refine(BM t who r rs0 D V hu hk (by rw[hc];exact hw)).mono ?_;rintro e w' ⟨he,ha⟩;refine⟨t,_,he,ha,h2,h3,fun _=>?_⟩;rw[hc];rfl
def ur:List Nat:=[0,4621256167635550208,4625759767262920704]
def BQ (S:Option Addr):Pl:=⟨1,2,4621256167635550208,4620693217682128896,4602678819172646912,100,S,1,1,[40]⟩
def Cl:Rk:=⟨1,1,4611686018427387904,0,0⟩
def jh (A P R S:Option Addr):Dk:=⟨A,3,3,ur,P,1,1,[BQ S],R,1,1,[Cl],2⟩
theorem Cd:aZ ur=0:=by decide+kernel
theorem oO:db ur ⟨1,2,4621256167635550208,4620693217682128896,4602678819172646912⟩=[(0,1,0),(1,1,0)]:=by decide+kernel
theorem pB:db ur ⟨1,1,4611686018427387904,0,0⟩=[(0,0,0)]:=by decide+kernel
theorem gn (A P R S:Option Addr):aJ (jh A P R S)=0:=by
  unfold aJ;rw[show(jh A P R S).bl=ur from rfl,if_neg (by rw[Cd];simp)];kernel_rfl
theorem lW (A P R S:Option Addr):bU (jh A P R S)=[⟨1,2,4621256167635550208,4620693217682128896,4602678819172646912⟩,⟨1,1,4611686018427387904,0,0⟩]:=rfl
theorem iu (A P R S:Option Addr):aA (jh A P R S)=0:=by
  unfold aA zE;rw[if_pos (gn A P R S),lW,List.flatMap_cons,List.flatMap_cons,List.flatMap_nil,List.append_nil];show bp (db ur _++db ur _)=0;rw[oO,pB];rfl
theorem sq (A P R S:Option Addr):eY (jh A P R S)=[(0,1),(1,1),(0,0),(0,0),(1,1)]:=by
  unfold eY;rw[if_pos (iu A P R S),sj,lW,List.flatMap_cons,List.flatMap_cons,List.flatMap_nil,List.append_nil];show cq ((kI ur _++kI ur _)++_)=_;unfold kI;rw[oO,pB];rfl
theorem za (A P R S:Option Addr):de (jh A P R S)=3:=by
  unfold de ci;rw[if_pos (gn A P R S)];kernel_rfl
theorem AB (A P R S:Option Addr) (id:Int):jH (jh A P R S) id=decide (0≤id∧id<5):=by
  unfold jH;rw[sq];rfl
theorem Bf (A P R S:Option Addr) (id:Int):dg (jh A P R S) id=([(0,1),(1,1),(0,0),(0,0),(1,1)]:List (Int×Int)).getD id.toNat (0,0):=by
  unfold dg;rw[sq]
theorem BF (A P R S:Option Addr) (ids:List Int) (h:ids.all (fun id=>decide (0≤id∧id<5))=true):cS (jh A P R S) ids=0:=by
  unfold cS;rw[if_pos (iu A P R S),if_pos];rw[←h]
  congr 1
  funext id
  exact AB A P R S id
theorem kT (A P R S:Option Addr):au (jh A P R S)=2:=by kernel_rfl
theorem tg (A P R S:Option Addr):bm (jh A P R S)=1:=by kernel_rfl
theorem oD (w:World):Calls prog 37 #[] w fun e w'=>∃A P R S,e=.returned (jh A P R S).v∧(jh A P R S).In w' w'.heap.size∧Below w.heap.size w w':=by
  have G5:=fun(w:World) (a:Addr) (m:Mode) (b:Nat)=>aq (P:=prog) (w:=w) (a:=a) (m:=m) .f64 b;obtain⟨w1,Fs⟩:∃w1,w1=w.alloc (.cells #[.slice (some ⟨w.heap.size+1,0,none⟩) 3 3,.slice (some ⟨w.heap.size+1+1+1,0,none⟩) 1 1,.slice (some ⟨w.heap.size+1+1+1+1,0,none⟩) 1 1,.int .i64 2] 26):=⟨_,rfl⟩;have QT:Cells4 w1 w.heap.size (.slice (some ⟨w.heap.size+1,0,none⟩) 3 3) (.slice (some ⟨w.heap.size+1+1+1,0,none⟩) 1 1) (.slice (some ⟨w.heap.size+1+1+1+1,0,none⟩) 1 1) (.int .i64 2):=by rw[Fs];exact Cells4.new w _ _ _ _ _
  have Dr:w1.heap.size=w.heap.size+1:=by rw[Fs];simp
  have CE:Below w.heap.size w w1:=by rw[Fs];exact bL (bR _ _) _
  obtain⟨w2,F6⟩:∃w2,w2=w1.alloc (.cells #[.float .f64 0,.float .f64 4621256167635550208,.float .f64 4625759767262920704] 84):=⟨_,rfl⟩;have hA:=Lk.IsL.lits (K:=KF) w1 ur #[.float .f64 0,.float .f64 4621256167635550208,.float .f64 4625759767262920704] (show ∀x∈ur,x<18446744073709551616 by decide) rfl (by decide) (w.heap.size+1) Dr;rw[show w1.alloc (.cells #[.float .f64 0,.float .f64 4621256167635550208,.float .f64 4625759767262920704] KF.E)=w2 from F6.symm]at hA;have Dz:w2.heap.size=w.heap.size+1+1:=by rw[F6];simp[Dr]
  have CM:Below w1.heap.size w1 w2:=by rw[F6];exact bL (bR _ _) _
  obtain⟨w3,hw3⟩:∃w3,w3=w2.alloc (.cells #[.int .i64 40] 3):=⟨_,rfl⟩;have hS:=Lk.IsL.lits (K:=KI) w2 [40] #[.int .i64 40] (by intro x hx;simp at hx;subst hx;show ae 40;decide) rfl (by decide) (w.heap.size+1+1) Dz;rw[show w2.alloc (.cells #[.int .i64 40] KI.E)=w3 from hw3.symm]at hS;have K0:w3.heap.size=w.heap.size+1+1+1:=by rw[hw3];simp[Dz]
  have CO:Below w2.heap.size w2 w3:=by rw[hw3];exact bL (bR _ _) _
  obtain⟨w4,hw4⟩:∃w4,w4=w3.alloc (.cells #[.int .i64 1,.int .i64 2,.float .f64 4621256167635550208,.float .f64 4620693217682128896,.float .f64 4602678819172646912,.int .i64 100,.slice (some ⟨w.heap.size+1+1,0,none⟩) 1 1] 86):=⟨_,rfl⟩;have hP:=Lk.IsL.lits (K:=KP) w3 [BQ (some ⟨w.heap.size+1+1,0,none⟩)] #[.int .i64 1,.int .i64 2,.float .f64 4621256167635550208,.float .f64 4620693217682128896,.float .f64 4602678819172646912,.int .i64 100,.slice (some ⟨w.heap.size+1+1,0,none⟩) 1 1] (by
    intro x hx;simp at hx;subst hx;show ae 1∧ae 2∧(4621256167635550208:Nat)<18446744073709551616∧(4620693217682128896:Nat)<18446744073709551616∧(4602678819172646912:Nat)<18446744073709551616∧ae 100;decide) rfl (by simp) (w.heap.size+1+1+1) K0
  rw[show w3.alloc (.cells #[.int .i64 1,.int .i64 2,.float .f64 4621256167635550208,.float .f64 4620693217682128896,.float .f64 4602678819172646912,.int .i64 100,.slice (some ⟨w.heap.size+1+1,0,none⟩) 1 1] KP.E)=w4 from hw4.symm]at hP;have LN:w4.heap.size=w.heap.size+1+1+1+1:=by rw[hw4];simp[K0]
  have Do:Below w3.heap.size w3 w4:=by rw[hw4];exact bL (bR _ _) _
  obtain⟨w5,hw5⟩:∃w5,w5=w4.alloc (.cells #[.int .i64 1,.int .i64 1,.float .f64 4611686018427387904,.float .f64 0,.float .f64 0] 118):=⟨_,rfl⟩;have hR:=Lk.IsL.lits (K:=KR) w4 [Cl] #[.int .i64 1,.int .i64 1,.float .f64 4611686018427387904,.float .f64 0,.float .f64 0] (by
    intro x hx;simp at hx;subst hx;show ae 1∧ae 1∧(4611686018427387904:Nat)<18446744073709551616∧(0:Nat)<18446744073709551616∧(0:Nat)<18446744073709551616;decide) rfl (by simp) (w.heap.size+1+1+1+1) LN
  rw[show w4.alloc (.cells #[.int .i64 1,.int .i64 1,.float .f64 4611686018427387904,.float .f64 0,.float .f64 0] KR.E)=w5 from hw5.symm]at hR;have EN:Below w4.heap.size w4 w5:=by rw[hw5];exact bL (bR _ _) _
  have Us:w5.heap.size=w.heap.size+1+1+1+1+1:=by rw[hw5];simp[LN]
  have Hg:=aH (show(jh (some ⟨w.heap.size+1,0,none⟩) (some ⟨w.heap.size+1+1+1,0,none⟩) (some ⟨w.heap.size+1+1+1+1,0,none⟩) (some ⟨w.heap.size+1+1,0,none⟩)).In w5 w5.heap.size by
    rw[Dz]at CO;rw[K0]at Do;rw[LN]at EN;refine⟨(((hA.below CO).below (Do.mono (by omega))).below (EN.mono (by omega))).more (by omega),((hP.below EN).more (by omega)),hR.more (by omega),fun q hq=>?_,(by show ae 2;decide)⟩;have TE:q=BQ (some ⟨w.heap.size+1+1,0,none⟩):=(by simpa [jh]using hq);subst TE;exact((hS.below Do).below (EN.mono (by omega))).more (by omega))
  have Dt:=aH (show Below w.heap.size w w5 from bC (bC (bC (bC CE CM) CO) Do) EN);have Tr:=aH ((((QT.below CM).below CO).below Do).below EN);have PK:w5=((((w.alloc (.cells #[.slice (some ⟨w.heap.size+1,0,none⟩) 3 3,.slice (some ⟨w.heap.size+1+1+1,0,none⟩) 1 1,.slice (some ⟨w.heap.size+1+1+1+1,0,none⟩) 1 1,.int .i64 2] 26)).alloc (.cells #[.float .f64 0,.float .f64 4621256167635550208,.float .f64 4625759767262920704] 84)).alloc (.cells #[.int .i64 40] 3)).alloc (.cells #[.int .i64 1,.int .i64 2,.float .f64 4621256167635550208,.float .f64 4620693217682128896,.float .f64 4602678819172646912,.int .i64 100,.slice (some ⟨w.heap.size+1+1,0,none⟩) 1 1] 86)).alloc (.cells #[.int .i64 1,.int .i64 1,.float .f64 4611686018427387904,.float .f64 0,.float .f64 0] 118):=by rw[hw5,hw4,hw3,F6,Fs]
  clear Fs F6 hw3 hw4 hw5 hA hS hP hR CE CM CO Do EN Dr Dz K0 LN QT;go_enter func37,ntmps37;go_wp2;rw[←PK];obtain⟨c0,c1,c2,c3,y0,y1,y2,y3,-⟩:=Tr.out;refine bP (v:=(jh (some ⟨w.heap.size+1,0,none⟩) (some ⟨w.heap.size+1+1+1,0,none⟩) (some ⟨w.heap.size+1+1+1+1,0,none⟩) (some ⟨w.heap.size+1+1,0,none⟩)).v) ?_ rfl ⟨_,_,_,_,rfl,?_,?_⟩
  · simp[results,results37,go_sem,c0,c1,c2,c3,jh]
  · exact Hg.out
  · exact Dt.out
def lwA:Dk:=jh none none none none
theorem xW (A P R S:Option Addr):(jh A P R S).ab=lwA.ab:=rfl
theorem lz (id:Int) (h:id=1∨id=2∨id=3∨id=4):(bh lwA id).2=0:=by
 unfold bh;rw[if_pos (show aJ lwA=0 from gn _ _ _ _)];rcases h with rfl|rfl|rfl|rfl<;>kernel_rfl
theorem rV:(ak lwA).length=5:=by
 unfold ak;rw[if_pos (show aJ lwA=0 from gn _ _ _ _)];kernel_rfl
def xT (a:Option Addr) (c:Nat):Rq:=⟨1,a,c,[3,1],0,0,0,0⟩
def BE:Rq:=⟨3,none,0,[],0,0,0,0⟩
def Aq (a:Option Addr) (c:Nat):Rq:=⟨1,a,c,[2,3,4],0,0,0,0⟩
def lr7:Rq:=⟨7,none,0,[],2,0,0,0⟩
def lr9:Rq:=⟨9,none,0,[],0,0,0,0⟩
theorem xP {l:List Int} (h0:l≠[]) (h1:l.length≤16) (h2:∀i,i<l.length→l.getD i 0 ∉ l.take i):jf l=(0,0):=by
 unfold jf;rw[if_neg h0,if_neg (by omega),rQ (.inl ⟨rfl,h2⟩),if_neg (by decide)]
theorem iP {d:Dk} {r:Rq} (hz:aA d=0) (hm:je r=(0,0)) (hn:jz d r=none) (hl:jb r=(0,0)):bI d r=(0,0):=by
 unfold bI;rw[if_neg (by rw[hz];simp),if_neg (by rw[hm];simp),hn];exact hl
theorem rO (a:Option Addr) (c:Nat):bI lwA (xT a c)=(0,0):=by
 refine iP (iu _ _ _ _) ?_ ?_ rfl
 ·unfold je;rw[if_neg (by show ¬((1:Int)<1∨10<(1:Int));decide),if_neg (by simp[vM,xT,uJ,xD,xj,wZ,vl]),if_pos (.inl rfl)];exact xP (l:=[3,1]) (by simp) (by simp) (by decide)
 ·unfold jz eo;rw[if_pos (.inl rfl)];show List.find? _ [((0:Int),(3:Int)),(0,1)]=none;rw[List.find?_eq_none];intro x hx;simp only[List.mem_cons,List.not_mem_nil,or_false]at hx;rcases hx with rfl|rfl
  ·show ¬(!gi lwA 0 3)=true;unfold gi;rw[lz 3 (by decide)];decide
  ·show ¬(!gi lwA 0 1)=true;unfold gi;rw[lz 1 (by decide)];decide
theorem zW (a:Option Addr) (c:Nat):bI lwA (Aq a c)=(0,0):=by
 refine iP (iu _ _ _ _) ?_ ?_ rfl
 ·unfold je;rw[if_neg (by show ¬((1:Int)<1∨10<(1:Int));decide),if_neg (by simp[vM,Aq,uJ,xD,xj,wZ,vl]),if_pos (.inl rfl)];exact xP (l:=[2,3,4]) (by simp) (by simp) (by decide)
 ·unfold jz eo;rw[if_pos (.inl rfl)];show List.find? _ [((0:Int),(2:Int)),(0,3),(0,4)]=none;rw[List.find?_eq_none];intro x hx;simp only[List.mem_cons,List.not_mem_nil,or_false]at hx;rcases hx with rfl|rfl|rfl
  ·show ¬(!gi lwA 0 2)=true;unfold gi;rw[lz 2 (by decide)];decide
  ·show ¬(!gi lwA 0 3)=true;unfold gi;rw[lz 3 (by decide)];decide
  ·show ¬(!gi lwA 0 4)=true;unfold gi;rw[lz 4 (by decide)];decide
theorem zL:bI lwA BE=(0,0):=by
 refine iP (iu _ _ _ _) ?_ ?_ rfl
 ·unfold je;rw[if_neg (by decide),if_neg (by decide),if_neg (by decide)]
 ·unfold jz;rw[show eo BE=[]from by decide];rfl
theorem yi:dJ lwA 2 2=true:=by rw[(d6 lwA (gn _ _ _ _) 2).2,show au lwA=2 from kT _ _ _ _,show bm lwA=1 from tg _ _ _ _];decide
theorem Bx:dJ lwA 1 0=true:=by rw[(d6 lwA (gn _ _ _ _) 0).1,show au lwA=2 from kT _ _ _ _];decide
theorem yq (d:Dk) (k id:Int) (hk:k≠0):gi d k id=dJ d k id:=by
 unfold gi dJ;rw[dF hk,Bool.false_or]
theorem uy:bI lwA lr7=(0,0):=by
 refine iP (iu _ _ _ _) ?_ ?_ rfl
 ·unfold je;rw[if_neg (by decide),if_neg (by decide),if_neg (by decide)]
 ·unfold jz;rw[show eo lr7=[(2,2)]from by decide,List.find?_eq_none];intro x hx;simp only[List.mem_cons,List.not_mem_nil,or_false]at hx;subst hx;show ¬(!gi lwA 2 2)=true;rw[yq _ _ _ (by decide),yi];decide
theorem zu:bI lwA lr9=(0,0):=by
 refine iP (iu _ _ _ _) ?_ ?_ rfl
 ·unfold je;rw[if_neg (by decide),if_neg (by decide),if_neg (by decide)]
 ·unfold jz;rw[show eo lr9=[(1,0)]from by decide,List.find?_eq_none];intro x hx;simp only[List.mem_cons,List.not_mem_nil,or_false]at hx;subst hx;show ¬(!gi lwA 1 0)=true;rw[yq _ _ _ (by decide),Bx];decide
theorem uQ:fU lwA [2]=[3]:=by
 unfold fU dr;rw[if_pos (show cS lwA [2]=0 from BF _ _ _ _ [2] (by decide))];show cy lwA [dg lwA 2]=_;rw[show dg lwA 2=_ from Bf _ _ _ _ 2];unfold cy ke;rw[show de lwA=3 from za _ _ _ _];rfl
theorem Aa:lj lwA lr7=[2,3]:=by
 unfold lj;rw[if_pos uy];show Two.mk ([2]++fU lwA [2])=_;rw[uQ];rfl
theorem iI {d:Dk} {r:Rq} (h:r.k=1∨r.k=3∨r.k=9):lj d r=[]:=by
 unfold lj uH
 split
 ·rw[if_neg (by omega),if_neg (by omega),if_neg (by omega)]
 ·rfl
theorem iB {d:Dk} {o:List Int} {who:Int} {r:Rq} (h1:1≤who∧who≤d.arms) (h2:bI d r=(0,0)) (h3:lj d r=[]):dO d o who r=(0,0):=by
 unfold dO;rw[if_neg (by omega),if_pos h2,h3];rfl
def wo0:List Int:=[0,0,0,0,0]
def wo1:List Int:=[0,1,0,1,0]
def u7:List Int:=[0,0,2,2,2]
theorem zX:dO lwA u7 2 lr7=(0,0):=by
 unfold dO;rw[if_neg (by decide),if_pos uy,Aa];decide
theorem tL:kp wo0 [3,1] 1=0∧aO wo0 (Two.mk [3,1]) 1=wo1∧(b9 wo1 1 wo0.length).length=2:=by decide+kernel
theorem xY:kp wo1 [3,1] 2=140∧uN wo1 [3,1] 2=1:=by decide+kernel
theorem sW:cM wo1 (b9 wo1 1 wo1.length) 1 (ay 1) 141=0∧aO wo1 (b9 wo1 1 wo1.length) 0=wo0∧(b9 wo1 1 wo1.length).length=2:=by decide+kernel
theorem ui:kp wo0 [2,3,4] 2=0∧aO wo0 (Two.mk [2,3,4]) 2=u7∧(b9 u7 2 wo0.length).length=3:=by decide+kernel
theorem uF:(aB lwA).t=[(1,0)]:=by
 show List.replicate (bm lwA) (1,0)=_;rw[show bm lwA=1 from tg _ _ _ _];rfl
theorem yM (b:Int) (hb:b=1∨b=2):(dU (aB lwA) b).2=false:=by
 unfold dU;rw[uF];rcases hb with rfl|rfl<;>decide+kernel
theorem xS:(aB lwA).c.length=2:=by rw[(bF lwA (iu _ _ _ _)).1];exact kT _ _ _ _
theorem yx:jg (aB lwA) 2=0:=by
 unfold jg;rw[xS];rfl
theorem iN:cE lwA (aB lwA)=true:=yJ lwA (iu _ _ _ _)
theorem yk:eL lwA (aB lwA) 2 2=0:=by
 unfold eL;rw[if_pos yi,if_neg (by rw[yM 2 (.inr rfl)];decide),yx,uF];decide+kernel
theorem Ar:br lwA (aB lwA) 2 (eL lwA (aB lwA) 2 2)=0:=by
 unfold br;rw[if_pos iN,if_pos (by decide),yk]
theorem yz:(fY (aB lwA) 2 2).t=[(2,2)]:=by
 show(aB lwA).t.set (jg (aB lwA) 2) _=_;rw[yx,uF];decide+kernel
theorem AY:(fY (aB lwA) 2 2).c=(aB lwA).c:=rfl
theorem ki:cE lwA (fY (aB lwA) 2 2)=true:=xp iN (by decide) (by decide) yk
theorem yO:(cG lwA (fY (aB lwA) 2 2) 2).1=2:=by
 have h:dU (fY (aB lwA) 2 2) 2=(0,true):=by
  unfold dU;rw[yz];decide+kernel
 unfold cG;rw[if_pos ki,h,if_pos rfl,AY,xS];rfl
theorem yV:(cG lwA (fY (aB lwA) 2 2) 1).1= -1:=by
 have h:(dU (fY (aB lwA) 2 2) 1).2=false:=by
  unfold dU;rw[yz];decide+kernel
 unfold cG;rw[if_pos ki,if_neg (by rw[h];decide)]
theorem Ae {d t:Dk} (h:d.ab=t.ab) (a:Ab):cE d a=cE t a:=by rw[←kY d,h,kY]
theorem jQ {d t:Dk} (h:d.ab=t.ab) (a:Ab) (b:Int):cG d a b=cG t a b:=by rw[←ue d,h,ue]
theorem iX {m:Md} {a:Ab} {o:List Int} (hd:m.d.ab=lwA.ab) (hs:m.s.ab=a) (ho:m.o=o) (h1:cE lwA a=true) (h2:o.length=5) (h3:oM o 2=true):fC m=true:=by
 have ha:m.d.arms=2:=show m.d.ab.arms=2 by rw[hd];rfl
 refine yN (by rw[hs,Ae hd];exact h1) ?_ (by rw[ho,ha];exact h3);rw[ho,h2,←eD,hd,eD,rV]
theorem BR (m:Md) (who:Int) (r:Rq) (x:Rs) (D:Nat) (w:World) (h:Tu w D m who r x) (hk:r.k=2) (hl:m.o.length≤900) (hr:r.il.length≤16):Calls prog 66 #[.pointer (some ⟨D,0,none⟩)] w fun e w'=>∃m' x',e=.returned (.agg #[.int .i64 (cM m.o (Two.mk r.il) who (ay who) 141),.int .i64 (eP m.o (Two.mk r.il) who (ay who))])∧Aft w w' D m m' who r x x'∧m'.s=m.s∧(cM m.o (Two.mk r.il) who (ay who) 141=0→m'.o=aO m.o (Two.mk r.il) 0∧x'={x with n:=((b9 m'.o who m'.o.length).length:Int)})∧(cM m.o (Two.mk r.il) who (ay who) 141≠0→m'=m∧x'=x):=by
 obtain⟨w0,hw0⟩:∃w0,w0=w.alloc (.cells #[.int .i64 0,.int .i64 0] 104):=⟨_,rfl⟩;have CG:=aH (cI hw0);have CN:=aH (h.then CG.out);have HR:=aH (Row.n1 hw0 [.int .i64 0,.int .i64 0] rfl);have HG:=aH (aI (h.im.off (nR _)) (h.ix.offL (nR _)));have HL:=aH h.lt;have JQ:=aH (fun V (hb:Below w0.heap.size w0 V)=>(Two.from_any (.slice r.iA r.il.length r.ic) r.il V (bo ((CN.out.ir.l.more (Nat.le_of_lt CN.out.lt)).then hb)) (by omega)).mono (R':=fun e w'=>∃v,e=.returned v∧KI.IsL w' w'.heap.size v (Two.mk r.il)∧Below V.heap.size V w') fun e w' ⟨v,h1,h2,h3⟩=>⟨v,h1,d9 h2,h3⟩);have Ge:=aH (fun V (hb:Below w0.heap.size w0 V) u (hu:KI.IsL V V.heap.size u (Two.mk r.il))=>jw m who r x D V (CN.out.then hb) u _ hu (by omega));generalize cM m.o (Two.mk r.il) who (ay who) 141=E at *;generalize eP m.o (Two.mk r.il) who (ay who)=I at *;generalize Two.mk r.il=ids at *;have g12:=CN.out.row.g 12 rfl;have g13:=CN.out.row.g 13 rfl;rw[hw0,hk]at g12;rw[hw0]at g13;clear h hl hr;go_enter func66,ntmps66;go_wp2_with fail;rw[←hw0];clear hw0 g12 g13;refine(JQ.out w0 (bR _ _)).mono ?_;rintro e w1 ⟨u,rfl,hu,hb⟩;have HU:=aH hu;have CH:=aH hb;clear hu hb;go_wp2_with fail;refine(Ge.out w1 CH.out u HU.out).mono ?_;rintro e w2 ⟨m',x',rfl,ha,hs,h0,h1⟩;have HA:=aH ha;have CT:=aH (ha.but.row (HR.out.below CH.out) (Nat.ne_of_gt HL.out));have HK:=aH (ha.keep w.heap.size (nL HR.out.1 CH.out.size) HG.out.1 HG.out.2);have HP:=aH (aI hs (aI h0 h1));clear ha hs h0 h1;have k0:=CT.out.g 0 rfl;have k1:=CT.out.g 1 rfl;have y0:=CT.out.z 0 rfl;have y1:=CT.out.z 1 rfl;go_wp2;have HF:=aH ((CT.out.set 0 (.int .i64 E)).set 1 (.int .i64 I));have f0:=HF.out.g 0 rfl;have f1:=HF.out.g 1 rfl;clear k0 k1 y0 y1;refine bP (v:=.agg #[.int .i64 E,.int .i64 I]) ?_ rfl ?_
 ·simp[results,results66,go_sem,f0,f1]
 ·exact⟨m',x',rfl,((HA.out.from (CG.out.trans (CH.out.mono CG.out.size))).other (nR _) HK.out.1 HK.out.2 HL.out _).other (nR _) HK.out.1 HK.out.2 HL.out _,HP.out.1,HP.out.2.1,HP.out.2.2⟩
theorem Ca (m:Md) (who:Int) (r:Rq) (x:Rs) (D:Nat) (w:World) (h:Tu w D m who r x) (hk:r.k=8):Calls prog 66 #[.pointer (some ⟨D,0,none⟩)] w fun e w'=>∃m' x',e=.returned (.agg #[.int .i64 (br m.d m.s.ab who (jr m.s.ab who)),.int .i64 0])∧Aft w w' D m m' who r x x'∧m'.o=m.o∧(br m.d m.s.ab who (jr m.s.ab who)=0→m'.s.ab=rC m.s.ab who∧x'={x with i:=(cG m.d m.s.ab who).1})∧(br m.d m.s.ab who (jr m.s.ab who)≠0→m'=m):=by
 obtain⟨w0,hw0⟩:∃w0,w0=w.alloc (.cells #[.int .i64 0,.int .i64 0] 104):=⟨_,rfl⟩;have CG:=aH (cI hw0);have CN:=aH (h.then CG.out);have HR:=aH (Row.n1 hw0 [.int .i64 0,.int .i64 0] rfl);have HG:=aH (aI (h.im.off (nR _)) (h.ix.offL (nR _)));have HL:=aH h.lt;have HC:=aH (fun V (hT:Tu V D m who r {x with i:=(cG m.d m.s.ab who).1})=>zj m.d m.s who V hT.im.d hT.im.s);have HH:=aH (fun V (hb:Below w0.heap.size w0 V)=>sG m who r x D V (CN.out.then hb));generalize br m.d m.s.ab who (jr m.s.ab who)=E at *;generalize rC m.s.ab who=A at *;generalize (cG m.d m.s.ab who).1=hi at *;clear h;have g12:=CN.out.row.g 12 rfl;rw[hw0,hk]at g12;go_enter func66,ntmps66;go_wp2_with fail;rw[←hw0];clear hw0 g12;refine(HH.out w0 (bR _ _)).mono ?_;rintro e wq ⟨rfl,hb⟩;have Iv:=aH (CN.out.then hb);have H5:=aH (bC CG.out hb);have J9:=aH (HR.out.below hb);clear hb;have g19:=Iv.out.row.g 19 rfl;have z19:=Iv.out.row.z 19 rfl
 go_upto_region 17 with fail
 have DS:=aH (Iv.out.setI hi);have CH:=aH (show But D w (wq.setCell ⟨D,19,none⟩ (.int .i64 hi))from(But.of H5.out).st _);have CU:=aH (J9.out.off (D:=D) (o:=19) (Nat.ne_of_lt HL.out) (.int .i64 hi));clear g19 z19 CN HR Iv H5 J9 HH;generalize wq.setCell ⟨D,19,none⟩ (.int .i64 hi)=w1 at *;have g0:=DS.out.row.g 0 rfl;have g1:=DS.out.row.g 1 rfl;have g2:=DS.out.row.g 2 rfl;have g3:=DS.out.row.g 3 rfl;have g11:=DS.out.row.g 11 rfl;refine Ba ⟨g0,g1,g2,g3,g11⟩ (by kernel_rfl) (fun CC=>?_);have HV:=aH (DS.out.then (show Below w1.heap.size w1 w1.drew from aa (bR _ _) 1));have F7:=aH (CH.out.call (show Below w1.heap.size w1 w1.drew from aa (bR _ _) 1));have Lr:=aH (CU.out.below (show Below w1.heap.size w1 w1.drew from aa (bR _ _) 1));clear g0 g1 g2 g3 g11 DS CH CU;generalize w1.drew=wv at *;refine wk [.k 0 75,.k 1 76,.k 2 77,.k 3 78,.k 4 79,.k 5 80,.k 6 81,.k 7 82,.k 8 83,.k 9 84,.k 11 86,.k 12 87,.k 13 88,.k 14 89] (fun _ _ _ _ _ h=>h) CC ?_ (by kernel_rfl);repeat (refine .k (v:=?_) rfl (by kernel_rfl) ?_ ?_;rotate_left 1;((intro w CY;(try dsimp only at CY);go_simp)<;>(try with_reducible rfl));(try simp only[sp]))
 refine .nil ?_;refine wQ 10 (some 85) rfl (fun K hK=>?_) (by kernel_rfl);have c4:=HV.out.row.g 4 rfl;have c5:=HV.out.row.g 5 rfl;have c6:=HV.out.row.g 6 rfl;have c7:=HV.out.row.g 7 rfl;have c8:=HV.out.row.g 8 rfl;have c9:=HV.out.row.g 9 rfl;go_simp;clear c4 c5 c6 c7 c8 c9;refine hK.out _ _ CC (fun CC=>?_);clear hK K;try simp only[sp]
 refine wQ 15 (some 90) rfl (fun K hK=>?_) (by kernel_rfl);go_simp;(with_reducible refine(HC.out wv HV.out).mono ?_);rintro e w2 ⟨s,rfl,hs,Dg,hb,hf⟩;have FV:=aH (HV.out.then hb);have IF:=aH (F7.out.call hb);have IY:=aH (Lr.out.below hb);have Ec:=aH hs;have Jd:=aH Dg;have Ho:=aH (fun G (hG:G<w.heap.size+1)=>hf.off (nL hG (show w.heap.size+1≤wv.heap.size from Lr.out.1)));clear hs Dg hf hb HV F7 Lr CC;have s0:=FV.out.row.g 0 rfl;have s1:=FV.out.row.g 1 rfl;have s2:=FV.out.row.g 2 rfl;have s3:=FV.out.row.g 3 rfl;have s11:=FV.out.row.g 11 rfl;go_wp2_with fail;refine hK.out _ _ ⟨s0,s1,s2,s3,s11⟩ (fun CC=>?_);clear hK K s0 s1 s2 s3 s11;try simp only[sp]
 refine wk [.k 16 91,.k 17 92] (fun _ _ _ _ _ h=>h) CC ?_ (by kernel_rfl);repeat (refine .k (v:=?_) rfl (by kernel_rfl) ?_ ?_;rotate_left 1;((intro w CY;(try dsimp only at CY);go_simp)<;>(try with_reducible rfl));(try simp only[sp]))
 refine .nil ?_;refine wQ 18 (some 93) rfl (fun K hK=>?_) (by kernel_rfl);go_simp;(with_reducible refine(iz m who r {x with i:=hi} D w2 FV.out s _ Ec.out (Ho.out D (Nat.lt_succ_of_lt HL.out))).mono ?_);rintro e w3 ⟨rfl,ht,hb⟩;obtain⟨m',GY⟩:∃m',m'=(if E=0 then {m with s:=s}else m):=⟨_,rfl⟩;rw[←GY]at ht;have Fp:=aH GY;have FL:=aH (show m'.d=m.d by rw[GY];split<;>rfl);have Eb:=aH ht;have IW:=aH (IF.out.trans hb);have EH:=aH (hb.row IY.out (Nat.ne_of_gt HL.out));clear GY ht hb FV IF IY CC Ec;have s0:w3.cell? ⟨D,0,none⟩=some (.slice m.d.bA m.d.bn m.d.bc):=by have h:=Eb.out.row.g 0 rfl;rw[FL.out]at h;exact h
 have s1:w3.cell? ⟨D,1,none⟩=some (.slice m.d.pA m.d.pn m.d.pc):=by have h:=Eb.out.row.g 1 rfl;rw[FL.out]at h;exact h
 have s2:w3.cell? ⟨D,2,none⟩=some (.slice m.d.rA m.d.rn m.d.rc):=by have h:=Eb.out.row.g 2 rfl;rw[FL.out]at h;exact h
 have s3:w3.cell? ⟨D,3,none⟩=some (.int .i64 m.d.arms):=by have h:=Eb.out.row.g 3 rfl;rw[FL.out]at h;exact h
 have s11:=Eb.out.row.g 11 rfl;go_wp2_with fail;refine hK.out _ _ ⟨s0,s1,s2,s3,s11⟩ (fun CC=>?_);clear hK K s0 s1 s2 s3 s11;try simp only[sp]
 refine wQ 19 none rfl (fun K hK=>?_) (by kernel_rfl);have k0:=EH.out.g 0 rfl;have k1:=EH.out.g 1 rfl;have y0:=EH.out.z 0 rfl;have y1:=EH.out.z 1 rfl;go_simp;clear k0 k1 y0 y1 CC;have Kp:=aH (show m'.Off w.heap.size by
  rw[Fp.out]
  split
  ·exact⟨HG.out.1.1,Ho.out _ (Nat.lt_succ_self _),HG.out.1.2.2⟩
  ·exact HG.out.1)
 have Hb:=aH ((Eb.out.other (o:=0) HL.out Kp.out HG.out.2 (.int .i64 E)).other (o:=1) HL.out Kp.out HG.out.2 (.int .i64 0));have CW:=aH ((IW.out.new (o:=0) (nR _) (.int .i64 E)).new (o:=1) (nR _) (.int .i64 0));have HF:=aH ((EH.out.set 0 (.int .i64 E)).set 1 (.int .i64 0));clear Eb IW EH;generalize (w3.setCell ⟨w.heap.size,0,none⟩ (.int .i64 E)).setCell ⟨w.heap.size,1,none⟩ (.int .i64 0)=w4 at *;have s0:w4.cell? ⟨D,0,none⟩=some (.slice m.d.bA m.d.bn m.d.bc):=by have h:=Hb.out.row.g 0 rfl;rw[FL.out]at h;exact h
 have s1:w4.cell? ⟨D,1,none⟩=some (.slice m.d.pA m.d.pn m.d.pc):=by have h:=Hb.out.row.g 1 rfl;rw[FL.out]at h;exact h
 have s2:w4.cell? ⟨D,2,none⟩=some (.slice m.d.rA m.d.rn m.d.rc):=by have h:=Hb.out.row.g 2 rfl;rw[FL.out]at h;exact h
 have s3:w4.cell? ⟨D,3,none⟩=some (.int .i64 m.d.arms):=by have h:=Hb.out.row.g 3 rfl;rw[FL.out]at h;exact h
 have s11:=Hb.out.row.g 11 rfl;refine hK.out _ _ ⟨s0,s1,s2,s3,s11⟩ (fun CC=>?_);clear hK K s0 s1 s2 s3 s11 CC;try simp only[sp]
 refine wD (by kernel_rfl) ?_;go_wp2;have f0:=HF.out.g 0 rfl;have f1:=HF.out.g 1 rfl;refine bP (v:=.agg #[.int .i64 E,.int .i64 0]) ?_ rfl ?_
 ·simp[results,results66,go_sem,f0,f1]
 ·refine⟨m',{x with i:=hi},rfl,⟨Hb.out,CW.out,fun G hG hm hx=>⟨?_,hx⟩,FL.out⟩,?_,fun h0=>⟨?_,rfl⟩,fun h0=>?_⟩
  ·rw[Fp.out]
   split
   ·exact⟨hm.1,Ho.out G (Nat.lt_succ_of_lt hG),hm.2.2⟩
   ·exact hm
  ·rw[Fp.out];split<;>rfl
  ·rw[Fp.out,if_pos h0];have:=Jd.out;rw[if_pos h0]at this;exact this
  ·rw[Fp.out,if_neg h0]
end Go.Proofs.YtmecohdedghiaaaGreatDoor
