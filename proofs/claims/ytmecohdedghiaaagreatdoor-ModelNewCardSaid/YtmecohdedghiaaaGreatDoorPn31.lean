/- What must be owned, for any request. -/
import Derived.Test.YtmecohdedghiaaaGreatDoorPn00
import Derived.Test.YtmecohdedghiaaaGreatDoorPn12
import Derived.Test.YtmecohdedghiaaaGreatDoorPn30
set_option maxRecDepth 100000
set_option maxHeartbeats 8000000
namespace Go.Proofs.YtmecohdedghiaaaGreatDoor
open Go.RowKit
noncomputable def lanP (d:Dk) (p:Int×Int):List Int:=lanesI (frst d) p.1.toNat (p.2.toNat+1-p.1.toNat)
noncomputable def foldS (d:Dk) (l:List (Int×Int)):List Int:=l.foldl (fun s p=>Two.mk (s++lanP d p)) []
noncomputable def setV (d:Dk) (ids:List Int):List Int:=foldS d (spsL d ids)
theorem sps_good (d:Dk) {w:World} (hd:d.In w w.heap.size) (ids:List Int):∀p∈spsL d ids,0≤p.1∧p.1≤p.2∧p.2≤23:=by
 intro p hp;unfold spsL at hp;by_cases he:spsE d ids=0
 ·rw[if_pos he]at hp;obtain⟨x,hx,rfl⟩:=List.mem_map.1 hp;unfold spsE at he;by_cases hz:zchk d=0
  ·rw[if_pos hz]at he;by_cases ha:ids.all (inR d)=true
   ·exact spA_good d hd hz x (List.all_eq_true.1 ha x hx)
   ·rw[if_neg ha]at he;exact absurd he (by decide)
  ·rw[if_neg hz]at he;exact absurd he hz
 ·rw[if_neg he]at hp;cases hp
theorem sps_len (d:Dk) (ids:List Int):(spsL d ids).length≤ids.length:=by
 unfold spsL
 split
 ·simp
 ·simp
theorem lanes_inc (F:Int) (lo n:Nat):Two.Inc (lanesI F lo n):=by
 unfold Two.Inc lanesI;rw[List.pairwise_map];exact List.pairwise_lt_range.imp fun h=>by omega
theorem lanes_mem (F:Int) (lo n:Nat):∀x∈lanesI F lo n,F+lo≤x∧x<F+lo+n:=by
 intro x hx;unfold lanesI at hx;obtain⟨i,hi,rfl⟩:=List.mem_map.1 hx;have:=List.mem_range.1 hi;omega
theorem inc_len (xs:List Int):∀(a:Int) (n:Nat),Two.Inc xs→(∀x∈xs,a≤x∧x<a+n)→xs.length≤n:=by
 induction xs with
 |nil=>intro a n _ _;exact Nat.zero_le _
 |cons x r ih=>
  intro a n hi hm;obtain⟨h1,h2⟩:=Two.inc_cons.1 hi;have hx:=hm x (by simp);have:=ih (x+1) (a+n-(x+1)).toNat h2 fun y hy=>by
   have:=h1 y hy;have:=hm y (by simp[hy]);omega
  rw[List.length_cons];omega
theorem fold_good (d:Dk) (l:List (Int×Int)) (h:∀p∈l,0≤p.1∧p.1≤p.2∧p.2≤23):Two.Inc (foldS d l)∧∀x∈foldS d l,frst d≤x∧x<frst d+24:=by
 unfold foldS
 suffices ∀s:List Int,(Two.Inc s∧∀x∈s,frst d≤x∧x<frst d+24)→Two.Inc (l.foldl (fun s p=>Two.mk (s++lanP d p)) s)∧∀x∈l.foldl (fun s p=>Two.mk (s++lanP d p)) s,frst d≤x∧x<frst d+24 from this [] ⟨Two.inc_nil,fun x hx=>by cases hx⟩
 induction l with
 |nil=>intro s hs;exact hs
 |cons p l ih=>
  intro s hs;rw[List.foldl_cons];refine ih (fun q hq=>h q (by simp[hq])) _ ⟨Two.inc_mk _,fun x hx=>?_⟩;rw[Two.mem_mk]at hx;rcases List.mem_append.1 hx with hx|hx
  ·exact hs.2 x hx
  ·have h0:=h p (by simp);have:=lanes_mem _ _ _ x hx;omega
theorem fold_len (d:Dk) (l:List (Int×Int)) (h:∀p∈l,0≤p.1∧p.1≤p.2∧p.2≤23):(foldS d l).length≤24:=by
 obtain⟨h1,h2⟩:=fold_good d l h;exact inc_len _ (frst d) 24 h1 h2
theorem fold_snoc (d:Dk) (l:List (Int×Int)) (k:Nat) (hk:k<l.length):foldS d (l.take (k+1))=Two.mk (foldS d (l.take k)++lanP d (l.getD k (0,0))):=by
 rw[take_snoc l k (0,0) hk];unfold foldS;rw[List.foldl_append];rfl
theorem spsE_0 (d:Dk) (ids:List Int) (h:spsE d ids≠0):spsL d ids=[]:=by unfold spsL;rw[if_neg h]
theorem needs_any (d:Dk) (v:Value) (ids:List Int) (w:World) (hd:d.In w w.heap.size) (hv:KI.IsL w w.heap.size v ids) (hl:ids.length≤1000):Calls Tryz.prog 80 #[d.v,v] w fun e w'=>∃u,e=.returned (.tuple #[u,.int .i64 (spsE d ids)])∧KI.IsL w' w'.heap.size u (setV d ids)∧Below w.heap.size w w':=by
 have HD:=aH hd;have HSP:=aH (fun w h1 h2=>spans_any d v ids w h1 h2 hl);have HV:=aH hv;have HGD:=aH (sps_good d hd ids);have HLN:=aH (sps_len d ids);have HE0:=aH (spsE_0 d ids);have HST:=aH (show setV d ids=foldS d (spsL d ids)from rfl);obtain⟨w0,hw0⟩:∃w0,w0=w.alloc d.ob:=⟨_,rfl⟩;have HB0:=aH (show Below w.heap.size w w0 by rw[hw0];exact bL (bR _ _) _);have HD0:=aH (HD.out.then HB0.out);have hsz0:w.heap.size<w0.heap.size:=by rw[hw0];simp
 have HF:=aH (show ∀w1,Below w0.heap.size w0 w1→(w1.cell? ⟨w.heap.size,0,none⟩=some (.slice d.bA d.bn d.bc)∧w1.cell? ⟨w.heap.size,1,none⟩=some (.slice d.pA d.pn d.pc)∧w1.cell? ⟨w.heap.size,2,none⟩=some (.slice d.rA d.rn d.rc)∧w1.cell? ⟨w.heap.size,3,none⟩=some (.int .i64 d.arms))from by
   intro w1 hb;refine⟨kK hb ?_,kK hb ?_,kK hb ?_,kK hb ?_⟩;all_goals (rw[hw0];simp))
 rw[HST.out];clear HST hd hv;generalize spsL d ids=SL at *;generalize spsE d ids=SE at *;by_cases hz:SE=0
 ·subst hz;go_enter Tryz.func80,Tryz.ntmps80;go_wp2_with fail;rw[←hw0];clear hw0;refine(HSP.out w0 HD0.out (HV.out.then HB0.out)).mono ?_;rintro e w1 ⟨tv,rfl,hown1,hb1⟩;have HB1:=aH hb1;have HIL:=aH (hown1.isL (by have:=HLN.out;omega));clear hb1 hown1;obtain⟨TA,tcap,rfl⟩:∃A cap,tv=.slice A SL.length cap:=by
   obtain⟨⟨A,cap,h,_⟩,_⟩:=HIL.out;exact⟨A,cap,h⟩
  go_wp2_with fail
  go_loopw [8,22] (fun u i wr=>∃k:Nat,k≤SL.length∧i=.int .i64 k∧KI.IsL wr wr.heap.size u (foldS d (SL.take k))∧Below w1.heap.size w1 wr) (fun _ i _=>SL.length-(intOf i).toNat)
  case atStart=>exact⟨0,Nat.zero_le _,rfl,Lk.IsL.nil _ _ _ _,bR _ _⟩
  case round=>
   obtain⟨k,hk,rfl,hil,hbl⟩:=hrel;have HU:=aH hil;have HB:=aH hbl;have hln:=HLN.out;clear hil hbl;by_cases hlt:k<SL.length
   ·obtain⟨tb,toff,rfl,htb,htc,htcell⟩:=span_cells (HIL.out.below HB.out) (by omega);obtain⟨e1,e2⟩:=htcell k hlt;obtain⟨d0,d1,d2,d3⟩:=HF.out wr (bC HB1.out HB.out);have hsw:w.heap.size<wr.heap.size:=nL hsz0 (bC HB1.out HB.out).size;have hg:=HGD.out _ (getD_mem' SL k (0,0) hlt);have HFS:=aH (fold_snoc d SL k hlt);have HGK:=aH (fold_good d (SL.take k) fun p hp=>HGD.out p (List.mem_of_mem_take hp));have HLK:=aH (fold_len d (SL.take k) fun p hp=>HGD.out p (List.mem_of_mem_take hp));have hlp:lanP d (SL.getD k (0,0))=lanesI (frst d) (SL.getD k (0,0)).1.toNat ((SL.getD k (0,0)).2.toNat+1-(SL.getD k (0,0)).1.toNat):=rfl;rw[hlp]at HFS;clear htcell hlp;generalize SL.getD k (0,0)=t at *;obtain⟨t1,t2⟩:=t;dsimp only at *;obtain⟨lo,rfl⟩:∃lo:Nat,t1=(lo:Int):=⟨t1.toNat,by omega⟩;obtain⟨hi,rfl⟩:∃hi:Nat,t2=(hi:Int):=⟨t2.toNat,by omega⟩;simp only[Int.toNat_natCast]at HFS;obtain⟨w5,hw5⟩:∃w5,w5=wr.alloc (.cells #[.int .i64 lo,.int .i64 hi] 134):=⟨_,rfl⟩;have HB5:=aH (show Below w1.heap.size w1 w5 by rw[hw5];exact bL HB.out _);have HU5:=aH (show KI.IsL w5 w5.heap.size u8 (foldS d (SL.take k))by rw[hw5];exact HU.out.then (bL (bR _ _) _));have HLA:=aH (lanes_any d lo hi (by omega) (by omega) w5 (HD0.out.then (bC HB1.out HB5.out)));have HLI:=aH (lanes_inc (frst d) lo (hi+1-lo));have HLL:=aH (lanes_len (frst d) lo (hi+1-lo));generalize lanesI (frst d) lo (hi+1-lo)=LL at *;generalize foldS d (SL.take k)=S at *;go_wp2_with fail;rw[←hw5];clear hw5 d0 d1 d2 d3 e1 e2;refine HLA.out.mono ?_;rintro e w6 ⟨lv,rfl,hown6,hb6⟩;have HIL6:=aH (hown6.isL (by have:=HLL.out;omega));have HU6:=aH (HU5.out.then hb6);have HB6:=aH (bC HB5.out hb6);clear hown6 hb6;go_wp2_with fail;refine(Two.either_any _ _ S LL w6 (two_of HU6.out) (two_of HIL6.out) (by have:=HLL.out;have:=HLK.out;omega) HGK.out.1 HLI.out).mono ?_
    rintro e w7 ⟨nv,rfl,hnv,hb7⟩;have HN7:=aH (of_two hnv);have HB7:=aH (bC HB6.out hb7);clear hnv hb7;go_wp2
    go_roundw
    case rel=>exact⟨k+1,by omega,num_i (by omega),by rw[HFS.out];exact HN7.out,HB7.out⟩
    case measure=>simp[intOf];omega
   ·obtain rfl:k=SL.length:=(by omega);rw[List.take_length]at HU;go_wp2
    go_ret2
    exact⟨_,rfl,HU.out,bC HB0.out (bC HB1.out HB.out)⟩
 ·have hS:=HE0.out hz;subst hS;have hz':(SE != 0)=true:=by rw[bne_iff_ne];exact hz
  clear hz;go_enter Tryz.func80,Tryz.ntmps80;go_wp2_with fail;rw[←hw0];clear hw0;refine(HSP.out w0 HD0.out (HV.out.then HB0.out)).mono ?_;rintro e w1 ⟨tv,rfl,_,hb1⟩;have HB1:=aH hb1;clear hb1;go_wp2
  go_ret2
  exact⟨_,rfl,Lk.IsL.nil _ _ _ _,bC HB0.out HB1.out⟩
noncomputable def pathV (d:Dk) (a b:Int):List Int:=if spsE d [a,b]=0 then lanesI (frst d) (min (spA d a).1 (spA d b).1).toNat ((max (spA d a).2 (spA d b).2).toNat+1-(min (spA d a).1 (spA d b).1).toNat)else []
theorem sps2 (d:Dk) (a b:Int) (h:spsE d [a,b]=0):spsL d [a,b]=[spA d a,spA d b]:=by unfold spsL;rw[if_pos h];rfl
theorem two_cells {w:World} {B:Nat} {v:Value} {p q:Int×Int} (h:KS.IsL w B v [p,q]):∃b off cap,v=.slice (some ⟨b,off,none⟩) 2 cap∧b<B∧2≤cap∧w.cell? ⟨b,off,none⟩=some (.int .i64 p.1)∧w.cell? ⟨b,off+1,none⟩=some (.int .i64 p.2)∧w.cell? ⟨b,off+2,none⟩=some (.int .i64 q.1)∧w.cell? ⟨b,off+3,none⟩=some (.int .i64 q.2):=by
 obtain⟨⟨A,cap,rfl,hc,hA⟩,_,_⟩:=id h;obtain⟨b,off,rfl,hb,_,hcell⟩:=span_cells h (by simp);have h0:=hcell 0 (by simp);have h1:=hcell 1 (by simp);simp only[Nat.zero_mul,Nat.add_zero,Nat.one_mul]at h0 h1;exact⟨b,off,cap,rfl,hb,hc,h0.1,h0.2,h1.1,h1.2⟩
theorem lit2 (w:World) (a b:Int) (ha:fits a) (hb:fits b) (H:Nat) (e:w.heap.size=H):KI.IsL (w.alloc (.cells #[.int .i64 a,.int .i64 b] 3)) (H+1) (.slice (some ⟨H,0,none⟩) 2 2) [a,b]:=
 Lk.IsL.lits (K:=KI) w [a,b] #[.int .i64 a,.int .i64 b] (fun x hx=>by rcases List.mem_cons.1 hx with rfl|hx;exact ha;rcases List.mem_cons.1 hx with rfl|hx;exact hb;cases hx) rfl (by simp) H e
theorem path_any (d:Dk) (a b:Int) (ha:fits a) (hb:fits b) (w:World) (hd:d.In w w.heap.size):Calls Tryz.prog 79 #[d.v,.int .i64 a,.int .i64 b] w fun e w'=>∃u,e=.returned (.tuple #[u,.int .i64 (spsE d [a,b])])∧KI.IsL w' w'.heap.size u (pathV d a b)∧Below w.heap.size w w':=by
 have HD:=aH hd;have HSP:=aH (fun w v h1 h2=>spans_any d v [a,b] w h1 h2 (by simp));have HGD:=aH (sps_good d hd [a,b]);have HS2:=aH (sps2 d a b);have HE0:=aH (spsE_0 d [a,b]);have HRV:=aH (show pathV d a b=if spsE d [a,b]=0 then lanesI (frst d) (min (spA d a).1 (spA d b).1).toNat ((max (spA d a).2 (spA d b).2).toNat+1-(min (spA d a).1 (spA d b).1).toNat)else []from rfl);rw[HRV.out];obtain⟨w0,hw0⟩:∃w0,w0=(w.alloc d.ob).alloc (.cells #[.int .i64 a,.int .i64 b] 3):=⟨_,rfl⟩;have HB0:=aH (show Below w.heap.size w w0 by rw[hw0];exact bL (bL (bR _ _) _) _);have HD0:=aH (HD.out.then HB0.out);have HL0:=aH (show KI.IsL w0 w0.heap.size (.slice (some ⟨w.heap.size+1,0,none⟩) 2 2) [a,b]by
  have:=lit2 (w.alloc d.ob) a b ha hb (w.heap.size+1) (by simp);rw[hw0];simpa using this)
 have hsz0:w.heap.size<w0.heap.size:=by rw[hw0];simp;omega
 have HF:=aH (show ∀w1,Below w0.heap.size w0 w1→(w1.cell? ⟨w.heap.size,0,none⟩=some (.slice d.bA d.bn d.bc)∧w1.cell? ⟨w.heap.size,1,none⟩=some (.slice d.pA d.pn d.pc)∧w1.cell? ⟨w.heap.size,2,none⟩=some (.slice d.rA d.rn d.rc)∧w1.cell? ⟨w.heap.size,3,none⟩=some (.int .i64 d.arms))from by
   intro w1 hb;refine⟨kK hb ?_,kK hb ?_,kK hb ?_,kK hb ?_⟩;all_goals (rw[hw0];simp[go_sem]))
 clear HRV hd;by_cases hz:spsE d [a,b]=0
 ·rw[HS2.out hz,hz]at HSP;rw[HS2.out hz]at HGD;rw[hz,if_pos rfl];have g1:=HGD.out (spA d a) (by simp);have g2:=HGD.out (spA d b) (by simp);clear hz HS2 HE0 HGD;generalize spA d a=p at *;generalize spA d b=q at *;obtain⟨p1,p2⟩:=p;obtain⟨q1,q2⟩:=q;dsimp only at *;obtain⟨p1,rfl⟩:∃k:Nat,p1=(k:Int):=⟨p1.toNat,by omega⟩;obtain⟨p2,rfl⟩:∃k:Nat,p2=(k:Int):=⟨p2.toNat,by omega⟩;obtain⟨q1,rfl⟩:∃k:Nat,q1=(k:Int):=⟨q1.toNat,by omega⟩;obtain⟨q2,rfl⟩:∃k:Nat,q2=(k:Int):=⟨q2.toNat,by omega⟩;have m1:min (p1:Int) q1=((min p1 q1:Nat):Int):=by omega
  have m2:max (p2:Int) q2=((max p2 q2:Nat):Int):=by omega
  rw[m1,m2,Int.toNat_natCast,Int.toNat_natCast];obtain⟨lo,hlo⟩:∃lo,lo=min p1 q1:=⟨_,rfl⟩;obtain⟨hi,hhi⟩:∃hi,hi=max p2 q2:=⟨_,rfl⟩;rw[←hlo,←hhi];have hmm:hi≤23:=by omega
  have hlh:lo≤hi:=by omega
  have HLO:=aH hlo;have HHI:=aH hhi;clear hlo hhi;go_enter Tryz.func79,Tryz.ntmps79;go_wp2_with fail;rw[←hw0];clear hw0;refine(HSP.out w0 _ HD0.out HL0.out).mono ?_;rintro e w1 ⟨tv,rfl,hown1,hb1⟩;have HB1:=aH hb1;obtain⟨tb,toff,tcap,rfl,htb,htc,e0,e1,e2,e3⟩:=two_cells (hown1.isL (by simp));obtain⟨d0,d1,d2,d3⟩:=HF.out w1 hb1;have hsw:w.heap.size<w1.heap.size:=nL hsz0 hb1.size;clear hb1 hown1;have HH:=aH (fun w=>show Calls Tryz.prog 147 #[.agg #[.int .i64 p1,.int .i64 p2],.agg #[.int .i64 q1,.int .i64 q2]] w fun e w'=>e=.returned (.agg #[.int .i64 lo,.int .i64 hi])∧Below w.heap.size w w' by
   have:=Sp.hull_any ((p1:Int),(p2:Int)) ((q1:Int),(q2:Int)) w;rw[Sp.hullV_yy (show ¬(p2:Int)<p1 by omega) (show ¬(q2:Int)<q1 by omega)]at this;dsimp only at this
   rwa [m1,m2,←HLO.out,←HHI.out]at this)
  have HLA:=aH (fun(V:World) (h:Below w0.heap.size w0 V)=>lanes_any d lo hi hlh hmm V (HD0.out.then h));clear m1 m2;go_wp2_with fail;refine wp_region_held_drew (S:=fun w'=>w'.cell? ⟨w.heap.size,0,none⟩=some (.slice d.bA d.bn d.bc)∧w'.cell? ⟨w.heap.size,1,none⟩=some (.slice d.pA d.pn d.pc)∧w'.cell? ⟨w.heap.size,2,none⟩=some (.slice d.rA d.rn d.rc)∧w'.cell? ⟨w.heap.size,3,none⟩=some (.int .i64 d.arms)∧w'.cell? ⟨tb,toff,none⟩=some (.int .i64 p1)∧w'.cell? ⟨tb,toff+1,none⟩=some (.int .i64 p2)∧w'.cell? ⟨tb,toff+2,none⟩=some (.int .i64 q1)∧w'.cell? ⟨tb,toff+3,none⟩=some (.int .i64 q2)) (by kernel_rfl) ?_ (fun hHeld=>?_)
  ·exact⟨d0,d1,d2,d3,e0,e1,e2,e3⟩
  refine wk [.k 0 21,.k 1 22,.k 2 23,.k 3 24,.k 4 25,.k 5 26,.k 6 27] (fun _ _ _ _ _ h=>h) hHeld ?_ (by kernel_rfl);repeat (refine .k (v:=?_) rfl (by kernel_rfl) ?_ ?_;rotate_left 1;(intro w h;go_simp<;>try rfl);try simp only[sp])
  refine .nil ?_;clear d0 d1 d2 d3 e0 e1 e2 e3;refine wQ 7 (some 28) rfl (fun K hK=>?_) (by kernel_rfl);go_simp;refine(HH.out _).mono ?_;rintro e w6 ⟨rfl,hb⟩;have HB6:=aH (bC HB1.out.drew hb);go_wp2_with fail;refine hK.out _ _ ?_ (fun hHeld=>?_)
  ·exact⟨kK hb hHeld.1,kK hb hHeld.2.1,kK hb hHeld.2.2.1,kK hb hHeld.2.2.2.1,kK hb hHeld.2.2.2.2.1,kK hb hHeld.2.2.2.2.2.1,kK hb hHeld.2.2.2.2.2.2.1,kK hb hHeld.2.2.2.2.2.2.2⟩
  clear hK K hb;try simp only[sp]
  refine wQ 8 (some 29) rfl (fun K hK=>?_) (by kernel_rfl);go_simp;refine(HLA.out _ HB6.out).mono ?_;rintro e w7 ⟨lv,rfl,hown7,hb⟩;have HIL7:=aH (hown7.isL (by rw[lanes_len];omega));have HB7:=aH (bC HB6.out hb);clear hown7;go_wp2_with fail;refine hK.out _ _ ?_ (fun hHeld=>?_)
  ·exact⟨kK hb hHeld.1,kK hb hHeld.2.1,kK hb hHeld.2.2.1,kK hb hHeld.2.2.2.1,kK hb hHeld.2.2.2.2.1,kK hb hHeld.2.2.2.2.2.1,kK hb hHeld.2.2.2.2.2.2.1,kK hb hHeld.2.2.2.2.2.2.2⟩
  clear hK K hb;try simp only[sp]
  refine wk [.k 9 6,.k 10 7] (fun _ _ _ _ _ h=>h) hHeld ?_ (by kernel_rfl);repeat (refine .k (v:=?_) rfl (by kernel_rfl) ?_ ?_;rotate_left 1;(intro w h;go_simp<;>try rfl);try simp only[sp])
  refine .nil ?_;refine wD (by kernel_rfl) ?_;go_wp2
  go_ret2
  exact⟨_,rfl,HIL7.out,bC HB0.out HB7.out⟩
 ·rw[HE0.out hz]at HSP;rw[if_neg hz];have hz':(spsE d [a,b] != 0)=true:=by rw[bne_iff_ne];exact hz
  clear hz HS2 HE0 HGD;generalize spsE d [a,b]=SE at *;go_enter Tryz.func79,Tryz.ntmps79;go_wp2_with fail;rw[←hw0];clear hw0;refine(HSP.out w0 _ HD0.out HL0.out).mono ?_;rintro e w1 ⟨tv,rfl,_,hb1⟩;have HB1:=aH hb1;clear hb1;go_wp2
  go_ret2
  exact⟨_,rfl,Lk.IsL.nil _ _ _ _,bC HB0.out HB1.out⟩
noncomputable def muL (d:Dk) (r:Rq):List Int:=if r.k=4 then Two.mk ([r.a,r.b]++pathV d r.a r.b)else if r.k=5∨r.k=6∨r.k=7 then Two.mk ([r.a]++setV d [r.a])else if r.k=2 then Two.mk r.il else []
noncomputable def muV (d:Dk) (r:Rq):List Int:=if refV d r=(0,0)then muL d r else []
theorem mk_mk (x y:List Int):Two.mk (Two.mk x++y)=Two.mk (x++y):=Two.mk_of (Two.inc_mk _) fun z=>by rw[Two.mem_mk,List.mem_append,Two.mem_mk,List.mem_append]
theorem mb_len (l:List Int) (h:mbV l=(0,0)):l.length≤16:=by
  unfold mbV at h;by_cases h0:l=[]
  · rw[h0];simp
  rw[if_neg h0]at h;by_cases h1:16<l.length
  · rw[if_pos h1]at h;cases h
  · omega
theorem mf_0 {d:Dk} {r:Rq} (h:refV d r=(0,0)):mfV r=(0,0):=by
  unfold refV at h;by_cases hz:zchk d=0
  · rw[if_neg (by simpa using hz)]at h
    by_cases hm:mfV r=(0,0)
    · exact hm
    · rw[if_pos hm]at h;exact h
  · rw[if_pos hz]at h
    injection h with h1 _
    exact absurd h1 hz
theorem mf_len {r:Rq} (h:mfV r=(0,0)):r.il.length≤16:=by
  unfold mfV at h;by_cases h0:r.k<1∨10<r.k
  · rw[if_pos h0]at h;cases h
  rw[if_neg h0]at h;by_cases h1:unO r=false
  · rw[if_pos h1]at h;cases h
  rw[if_neg h1]at h;by_cases h2:r.k=1∨r.k=2
  · rw[if_pos h2]at h;exact mb_len _ h
  · have hu:unO r=true:=by simpa using h1
    unfold unO at hu;rw[Bool.and_eq_true,decide_eq_true_eq]at hu;have:=hu.1;unfold unN at this;rw[if_neg h2]at this;omega
theorem path_inc (d:Dk) (a b:Int):Two.Inc (pathV d a b):=by
  unfold pathV
  split
  · exact lanes_inc _ _ _
  · exact Two.inc_nil
theorem path_len (d:Dk) {w:World} (hd:d.In w w.heap.size) (a b:Int):(pathV d a b).length≤24:=by
  unfold pathV
  split
  · rename_i h
    have hg:=sps_good d hd [a,b];rw[sps2 d a b h]at hg;have h1:=hg (spA d a) (by simp);have h2:=hg (spA d b) (by simp);rw[lanes_len];omega
  · simp
theorem must_any (d:Dk) (r:Rq) (w:World) (hd:d.In w w.heap.size) (hr:r.In w w.heap.size) (hl:r.il.length≤900):Calls Tryz.prog 41 #[d.v,r.val] w fun e w'=>∃v,e=.returned v∧KI.IsL w' w'.heap.size v (muL d r)∧Below w.heap.size w w':=by
  obtain⟨w0,hw0⟩:∃w0,w0=(w.alloc d.ob).alloc (.cells r.ob 30):=⟨_,rfl⟩;have HB0:=aH (show Below w.heap.size w w0 by rw[hw0];exact bL (bL (bR _ _) _) _);have HD0:=aH (hd.then HB0.out);have HR0:=aH (hr.then HB0.out);have HS0:=aH (show w0.heap.size=w.heap.size+2 by rw[hw0];simp);have HK0:=aH (show DkAt w0 w.heap.size d by rw[hw0];exact(Cells4.new w _ _ _ _ _).below (bL (bR _ _) _));have HQ0:=aH (show RqAt w0 (w.heap.size+1) r by
    have h:=Cells6.new (w.alloc d.ob) 30 (.int .i64 r.k) (.slice r.iA r.il.length r.ic) (.int .i64 r.a) (.int .i64 r.b) (.int .i64 r.u) (.int .u64 r.v);rw[World.size_alloc]at h;rw[hw0];exact h)
  have HPT:=aH (partsW_any r w0 HR0.out hl);have HMU:=aH (show muL d r=if r.k=4 then Two.mk ([r.a,r.b]++pathV d r.a r.b)else if r.k=5∨r.k=6∨r.k=7 then Two.mk ([r.a]++setV d [r.a])else if r.k=2 then Two.mk r.il else []from rfl);have HPL:=aH (show pwL r=Two.mk ((nmL r).map Prod.snd)from rfl);have HNM:=aH (show nmL r=if r.k=1∨r.k=2 then r.il.map (fun x=>(0,x))else if r.k=4 then [(1,r.a),(1,r.b)]else if r.k=5∨r.k=6∨r.k=9∨r.k=10 then [(1,r.a)]else if r.k=7 then [(2,r.a)]else []from rfl);have HPI:=aH (path_inc d r.a r.b);have HPN:=aH (path_len d hd r.a r.b);have HSG:=aH (fold_good d (spsL d [r.a]) (sps_good d hd [r.a]));have HSN:=aH (show(setV d [r.a]).length≤24 from fold_len d (spsL d [r.a]) (sps_good d hd [r.a]));have HPA:=aH (fun w h=>path_any d r.a r.b hr.a hr.b w h);have HNE:=aH (fun v w h h1=>needs_any d v [r.a] w h h1 (by simp));have HLL:=aH hl;have hk:(r.k==4)=true∨((r.k==4)=false∧((r.k==5)=true∨((r.k==5)=false∧((r.k==6)=true∨((r.k==6)=false∧(r.k==7)=true)))))∨((r.k==4)=false∧(r.k==5)=false∧(r.k==6)=false∧(r.k==7)=false∧(r.k==2)=true)∨((r.k==4)=false∧(r.k==5)=false∧(r.k==6)=false∧(r.k==7)=false∧(r.k==2)=false):=by
    simp only[kEq,decide_eq_true_eq,decide_eq_false_iff_not];omega
  have hlen:(pwL r).length≤902:=by
    rw[HPL.out];have h1:=Two.mk_len_le ((nmL r).map Prod.snd);have h2:=nm_len r;rw[List.length_map]at h1;omega
  have HLP:=aH hlen;have HIP:=aH (show Two.Inc (pwL r)by rw[HPL.out];exact Two.inc_mk _);clear hd hr hl hlen;obtain⟨M,hM⟩:∃M,muL d r=M:=⟨_,rfl⟩;obtain⟨PT,hPT⟩:∃PT,pwL r=PT:=⟨_,rfl⟩;rw[hM]at HMU⊢;rw[hPT]at HPT HPL HLP HIP;clear hM hPT;go_enter Tryz.func41,Tryz.ntmps41;go_wp2_with fail;rw[←hw0];clear hw0;refine HPT.out.mono ?_;rintro e w1 ⟨pv,rfl,hpv,hb1⟩;have HPV:=aH hpv;have HB1:=aH hb1;obtain⟨q0,q1,q2,q3,q4,q5,-⟩:=HQ0.out.below hb1;obtain⟨d0,d1,d2,d3,-⟩:=HK0.out.below hb1;clear hpv hb1;rcases hk with k4|⟨k4,hk⟩|⟨k4,k5,k6,k7,k2⟩|⟨k4,k5,k6,k7,k2⟩
  case inl=>
    have HM2:=aH (show M=Two.mk (PT++pathV d r.a r.b)by
      simp only[kEq,decide_eq_true_eq]at k4;rw[HMU.out,if_pos k4,HPL.out,HNM.out,if_neg (by omega),if_pos k4,mk_mk];rfl)
    go_wp2_with fail;refine(HPA.out w1 (HD0.out.then HB1.out)).mono ?_;rintro e w2 ⟨lv,rfl,hlv,hb2⟩;have HB2:=aH (bC HB0.out (bC HB1.out hb2));have HLV:=aH hlv;have HPW:=aH (HPV.out.then hb2);clear hlv hb2;go_wp2_with fail;refine(Two.either_any _ _ PT (pathV d r.a r.b) w2 (two_of HPW.out) (two_of HLV.out) (by have:=HLP.out;have:=HPN.out;omega) HIP.out HPI.out).mono ?_;rintro e w3 ⟨nv,rfl,hnv,hb3⟩;go_wp2
    go_ret
    exact⟨_,rfl,by rw[HM2.out];exact of_two hnv,bC HB2.out hb3⟩
  case inr.inr.inr=>
    have HM2:=aH (show M=[]by
      simp only[kEq,decide_eq_false_iff_not]at k4 k5 k6 k7 k2;rw[HMU.out,if_neg k4,if_neg (by omega),if_neg k2])
    go_wp2
    go_ret
    exact⟨_,rfl,by rw[HM2.out];exact Lk.IsL.nil _ _ _ _,bC HB0.out HB1.out⟩
  case inr.inr.inl=>
    have HM2:=aH (show M=Two.mk (PT++[])by
      simp only[kEq,decide_eq_false_iff_not,decide_eq_true_eq]at k4 k5 k6 k7 k2;rw[HMU.out,if_neg k4,if_neg (by omega),if_pos k2,HPL.out,HNM.out,if_pos (.inr k2),List.map_map,mk_mk,List.append_nil]
      congr 1
      exact(List.map_id _).symm)
    go_wp2_with fail;refine(Two.either_any _ _ PT [] w1 (two_of HPV.out) (two_of (Lk.IsL.nil _ _ _ _)) (by have:=HLP.out;simp;omega) HIP.out Two.inc_nil).mono ?_;rintro e w3 ⟨nv,rfl,hnv,hb3⟩;go_wp2
    go_ret
    exact⟨_,rfl,by rw[HM2.out];exact of_two hnv,bC HB0.out (bC HB1.out hb3)⟩
  have HP1:=aH (show PT=[r.a]by
    have hk2:r.k≠4∧(r.k=5∨r.k=6∨r.k=7):=by
      simp only[kEq,decide_eq_true_eq,decide_eq_false_iff_not]at k4 hk;omega
    rw[HPL.out,HNM.out,if_neg (by omega),if_neg hk2.1];by_cases h7:r.k=7
    · rw[if_neg (by omega),if_pos h7];rfl
    · rw[if_pos (by omega)];rfl)
  have HM2:=aH (show M=Two.mk (PT++setV d [r.a])by
    have hk2:r.k≠4∧(r.k=5∨r.k=6∨r.k=7):=by
      simp only[kEq,decide_eq_true_eq,decide_eq_false_iff_not]at k4 hk;omega
    rw[HMU.out,if_neg hk2.1,if_pos hk2.2,HP1.out])
  rcases hk with k5|⟨k5,k6|⟨k6,k7⟩⟩
  all_goals
    go_wp2_with fail;refine(HNE.out pv w1 (HD0.out.then HB1.out) (by rw[←HP1.out];exact HPV.out)).mono ?_;rintro e w2 ⟨lv,rfl,hlv,hb2⟩;have HB2:=aH (bC HB0.out (bC HB1.out hb2));have HLV:=aH hlv;have HPW:=aH (HPV.out.then hb2);clear hlv hb2;go_wp2_with fail;refine(Two.either_any _ _ PT (setV d [r.a]) w2 (two_of HPW.out) (two_of HLV.out) (by have:=HLP.out;have:=HSN.out;omega) HIP.out HSG.out.1).mono ?_;rintro e w3 ⟨nv,rfl,hnv,hb3⟩;go_wp2
    go_ret
    exact⟨_,rfl,by rw[HM2.out];exact of_two hnv,bC HB2.out hb3⟩
theorem Must_any (d:Dk) (r:Rq) (w:World) (hd:d.In w w.heap.size) (hr:r.In w w.heap.size) (hT:Nn.Tab w):Calls Tryz.prog 12 #[d.v,r.val] w fun e w'=>∃v,e=.returned v∧KI.IsL w' w'.heap.size v (muV d r)∧Below w.heap.size w w':=by
  obtain⟨w0,hw0⟩:∃w0,w0=(w.alloc d.ob).alloc (.cells r.ob 30):=⟨_,rfl⟩;have HB0:=aH (show Below w.heap.size w w0 by rw[hw0];exact bL (bL (bR _ _) _) _);have HD0:=aH (hd.then HB0.out);have HR0:=aH (hr.then HB0.out);have HS0:=aH (show w0.heap.size=w.heap.size+2 by rw[hw0];simp);have HK0:=aH (show DkAt w0 w.heap.size d by rw[hw0];exact(Cells4.new w _ _ _ _ _).below (bL (bR _ _) _));have HQ0:=aH (show RqAt w0 (w.heap.size+1) r by
    have h:=Cells6.new (w.alloc d.ob) 30 (.int .i64 r.k) (.slice r.iA r.il.length r.ic) (.int .i64 r.a) (.int .i64 r.b) (.int .i64 r.u) (.int .u64 r.v);rw[World.size_alloc]at h;rw[hw0];exact h)
  have HMY:=aH (may_any d r w0 HD0.out HR0.out (hT.below HB0.out));have HMU:=aH (show muV d r=if refV d r=(0,0)then muL d r else []from rfl);have HMS:=aH (fun w h1 h2 h3=>must_any d r w h1 h2 h3);have HLL:=aH (fun h:refV d r=(0,0)=>mf_len (mf_0 h));obtain⟨V,hV⟩:∃V,refV d r=V:=⟨_,rfl⟩;rw[hV]at HMY HMU HLL;obtain⟨M,hM⟩:∃M,muV d r=M:=⟨_,rfl⟩;rw[hM]at HMU⊢;clear hd hr hT hV hM;by_cases h:V=(0,0)
  · have HMV:=aH (show M=muL d r by rw[HMU.out,if_pos h])
    have HL:=aH (HLL.out h);rw[dT h]at HMY;clear h;go_enter Tryz.func12,Tryz.ntmps12;go_wp2_with fail;rw[←hw0];clear hw0;refine HMY.out.mono ?_;rintro e w1 ⟨rfl,hb1⟩;have HB1:=aH hb1;obtain⟨q0,q1,q2,q3,q4,q5,-⟩:=HQ0.out.below hb1;obtain⟨d0,d1,d2,d3,-⟩:=HK0.out.below hb1;clear hb1;go_wp2_with fail;refine(HMS.out w1 (HD0.out.then HB1.out) (HR0.out.then HB1.out) (by have:=HL.out;omega)).mono ?_;rintro e w2 ⟨v,rfl,hv,hb2⟩;go_wp2
    go_ret
    exact⟨_,rfl,by rw[HMV.out];exact hv,bC HB0.out (bC HB1.out hb2)⟩
  · have HMV:=aH (show M=[]by rw[HMU.out,if_neg h])
    rw[dF h]at HMY;clear h;go_enter Tryz.func12,Tryz.ntmps12;go_wp2_with fail;rw[←hw0];clear hw0;refine HMY.out.mono ?_;rintro e w1 ⟨rfl,hb1⟩;go_wp2
    go_ret
    exact⟨_,rfl,by rw[HMV.out];exact Lk.IsL.nil _ _ _ _,bC HB0.out hb1⟩
end Go.Proofs.YtmecohdedghiaaaGreatDoor
