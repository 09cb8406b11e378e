/- The reference's sets; arrays of two words. -/
import Derived.Test.YtacjonncakhhmaaGreatPv00
import Derived.Test.YtacjonncakhhmaaGreatPv06
import Derived.Test.YtacjonncakhhmaaGreatPv05
import Derived.Laws.Rows
import Derived.Deep.QuietTactic
import Derived.BigQuiet
set_option maxRecDepth 100000
set_option maxHeartbeats 8000000
namespace Go.Proofs.YtacjonncakhhmaaGreat.Lg
open Go.RowKit
theorem _root_.Go.Proofs.YtacjonncakhhmaaGreat.Cells3.s0 {V:World} {D:Nat} {x0 x1 x2:Value} (h:Cells3 V D x0 x1 x2) (p:Value):Cells3 (V.setCell ⟨D,0,none⟩ p) D p x1 x2:=by
 obtain⟨h0,h1,h2,z0,z1,z2,hs⟩:=h;exact⟨st_same h0,sO h1 (aN (.inr (by decide))),sO h2 (aN (.inr (by decide))),sF z0,sF z1,sF z2,by simpa using hs⟩
theorem _root_.Go.Proofs.YtacjonncakhhmaaGreat.Cells3.s1 {V:World} {D:Nat} {x0 x1 x2:Value} (h:Cells3 V D x0 x1 x2) (p:Value):Cells3 (V.setCell ⟨D,1,none⟩ p) D x0 p x2:=by
 obtain⟨h0,h1,h2,z0,z1,z2,hs⟩:=h;exact⟨sO h0 (aN (.inr (by decide))),st_same h1,sO h2 (aN (.inr (by decide))),sF z0,sF z1,sF z2,by simpa using hs⟩
theorem _root_.Go.Proofs.YtacjonncakhhmaaGreat.Cells3.s2 {V:World} {D:Nat} {x0 x1 x2:Value} (h:Cells3 V D x0 x1 x2) (p:Value):Cells3 (V.setCell ⟨D,2,none⟩ p) D x0 x1 p:=by
 obtain⟨h0,h1,h2,z0,z1,z2,hs⟩:=h;exact⟨sO h0 (aN (.inr (by decide))),sO h1 (aN (.inr (by decide))),st_same h2,sF z0,sF z1,sF z2,by simpa using hs⟩
theorem _root_.Go.Proofs.YtacjonncakhhmaaGreat.Cells3.off {V:World} {D G o:Nat} {x0 x1 x2:Value} (h:Cells3 V G x0 x1 x2) (hne:D≠G) (p:Value):Cells3 (V.setCell ⟨D,o,none⟩ p) G x0 x1 x2:=by
 obtain⟨h0,h1,h2,z0,z1,z2,hs⟩:=h;exact⟨sO h0 (aN (.inl hne)),sO h1 (aN (.inl hne)),sO h2 (aN (.inl hne)),sF z0,sF z1,sF z2,by simpa using hs⟩
def newE (r:Int):Int:=if 1≤r∧r≤64 then 0 else 110
def newR (r:Int):Int:=if 1≤r∧r≤64 then r else 0
theorem new_any (r:Int) (w:World):Calls Tryz.prog 33 #[.int .i64 r] w fun e w'=>e=.returned (.tuple #[lgV (newR r) 0 none 0 0,.int .i64 (newE r)])∧Below w.heap.size w w':=by
 have HR:=aH (fun w=>right_any' r 0 none 0 [] w (Lk.IsL.nil _ _ _ _));have hq:rgB r 0 []=decide (1≤r∧r≤64):=by
  unfold rgB rgC;rw[show rlB [] 0=true from rfl,Bool.and_true];exact decide_eq_decide.2 (by simp only[List.length_nil];omega)
 rw[hq]at HR;clear hq;unfold newR newE;have HB:=aH (show Below w.heap.size w ((w.alloc (.cells #[.int .i64 0,.int .i64 0,.slice none 0 0] 50)).alloc (.cells #[.int .i64 r,.int .i64 0,.slice none 0 0] 50))from bL (bL (bR _ _) _) _);have HA:=aH (Cells3.new w 50 (.int .i64 0) (.int .i64 0) (.slice none 0 0));have HA2:=aH (HA.out.below (bL (bR _ _) (.cells #[.int .i64 r,.int .i64 0,.slice none 0 0] 50)));have HC:=aH (Cells3.new (w.alloc (.cells #[.int .i64 0,.int .i64 0,.slice none 0 0] 50)) 50 (.int .i64 r) (.int .i64 0) (.slice none 0 0));rw[show(w.alloc (.cells #[.int .i64 0,.int .i64 0,.slice none 0 0] 50)).heap.size=w.heap.size+1 by simp]at HC;by_cases h:1≤r∧r≤64
 ·rw[if_pos h,if_pos h];rw[dT h]at HR;clear h;go_enter Tryz.func33,Tryz.ntmps33;go_wp2_with fail;obtain⟨W,hW⟩:∃W,W=((w.alloc (.cells #[.int .i64 0,.int .i64 0,.slice none 0 0] 50)).alloc (.cells #[.int .i64 r,.int .i64 0,.slice none 0 0] 50)):=⟨_,rfl⟩;rw[←hW]at HB HA2 HC;rw[←hW];clear hW;refine(HR.out _).mono ?_;rintro e w2 ⟨rfl,hb2⟩;have HA3:=aH (HA2.out.below hb2);have HC3:=aH (HC.out.below hb2);have HB3:=aH (bC HB.out hb2);clear hb2;have q:=HA3.out.set (.int .i64 r) (.int .i64 0) (.slice none 0 0);obtain⟨q0,q1,q2,_⟩:=q;obtain⟨a0,a1,a2,y0,y1,y2,_⟩:=HA3.out;obtain⟨d0,d1,d2,_⟩:=HC3.out;go_wp2;refine bP (v:=.tuple #[lgV r 0 none 0 0,.int .i64 0]) (by simp[results,Tryz.results33,go_sem,q0,q1,q2]) rfl ⟨rfl,?_⟩;exact below_set3 HB3.out (nR _) _ _ _
 ·rw[if_neg h,if_neg h];rw[dF h]at HR;clear h;go_enter Tryz.func33,Tryz.ntmps33;go_wp2_with fail;obtain⟨W,hW⟩:∃W,W=((w.alloc (.cells #[.int .i64 0,.int .i64 0,.slice none 0 0] 50)).alloc (.cells #[.int .i64 r,.int .i64 0,.slice none 0 0] 50)):=⟨_,rfl⟩;rw[←hW]at HB HA2;rw[←hW];clear hW;refine(HR.out _).mono ?_;rintro e w2 ⟨rfl,hb2⟩;have HA3:=aH (HA2.out.below hb2);have HB3:=aH (bC HB.out hb2);clear hb2;have q:=HA3.out.set (.int .i64 0) (.int .i64 0) (.slice none 0 0);obtain⟨q0,q1,q2,_⟩:=q;obtain⟨a0,a1,a2,y0,y1,y2,_⟩:=HA3.out;go_wp2;refine bP (v:=.tuple #[lgV 0 0 none 0 0,.int .i64 110]) (by simp[results,Tryz.results33,go_sem,q0,q1,q2]) rfl ⟨rfl,?_⟩;exact below_set3 HB3.out (nR _) _ _ _
theorem end_z (r l:Int) (A:Option Addr) (c:Nat) (xs:List Ch) (n:Nat) (hn:n≤xs.length) (z:Int) (hz:z=(n:Int)) (w:World) (B:Nat) (hv:KC.IsL w B (.slice A xs.length c) xs):Calls Tryz.prog 99 #[lgV r l A xs.length c,.int .i64 z] w fun e w'=>∃A',e=.returned (.slice A' n n)∧KC.IsL w B (.slice A' n n) (xs.drop (xs.length-n))∧Below w.heap.size w w':=by
 rw[hz];exact end_any r l A c xs n hn w B hv
theorem _root_.Go.Proofs.YtacjonncakhhmaaGreat.Lk.Own.set {P:Program} {α:Type} {K:Lk P α} {w:World} {base:Nat} {v:Value} {xs:List α} (h:K.Own w base v xs) {a:Addr} (ha:a.block<base) (u:Value):K.Own (w.setCell a u) base v xs:=⟨ownsRow_setCell_below h.1 ha u,h.2⟩
def ntE (r l:Int) (xs:List Ch) (b n:Int):Int:=if rgB r l xs=false then 110 else if mayB b n=false then 1 else if l=2147483647 then 101 else 0
def ntL (r l:Int) (xs:List Ch) (b n:Int):List Ch:=xs.drop (xs.length-min xs.length (r-1).toNat)++[⟨l+1,b,n⟩]
theorem nt_ok {r l:Int} {xs:List Ch} {b n:Int} (h:ntE r l xs b n=0):rgB r l xs=true∧mayB b n=true∧l≠2147483647:=by
 unfold ntE at h
 cases h1:rgB r l xs
 ·rw[h1]at h;simp at h
 ·cases h2:mayB b n
  ·rw[h1,h2]at h;simp at h
  ·rw[h1,h2]at h;refine⟨rfl,rfl,fun k=>?_⟩;rw[if_pos k]at h;simp at h
theorem note_ok (r l:Int) (A:Option Addr) (c:Nat) (xs:List Ch) (b n:Int) (hE:ntE r l xs b n=0) (w:World) (hv:KC.IsL w w.heap.size (.slice A xs.length c) xs):Calls Tryz.prog 71 #[lgV r l A xs.length c,.int .i64 b,.int .i64 n] w fun e w'=>
  ∃A' c',e=.returned (.tuple #[lgV r (l+1) A' (ntL r l xs b n).length c',.int .i64 0])∧KC.Own w' w.heap.size (.slice A' (ntL r l xs b n).length c') (ntL r l xs b n)∧Below w.heap.size w w':=by
 obtain⟨h1,h2,h3⟩:=nt_ok hE;obtain⟨⟨g0,g1,g2,g3,g4,g5⟩,_⟩:=rg_parts h1;have HV:=aH hv;have HR:=aH (fun w h=>right_any' r l A c xs w h);have HM:=aH (fun w=>may_any b n w);rw[h1]at HR;rw[h2]at HM;obtain⟨m,hm⟩:∃m:Nat,min (xs.length:Int) (r-1)=(m:Int):=⟨(min (xs.length:Int) (r-1)).toNat,by omega⟩;have hml:m≤xs.length:=by omega
 have HQ:=aH (show ntL r l xs b n=xs.drop (xs.length-m)++[⟨l+1,b,n⟩]from by
  unfold ntL;rw[show min xs.length (r-1).toNat=m by omega])
 have HX:=aH (fun z hz w B h=>end_z r l A c xs m hml z hz w B h);have HK:=aH (show KC.ok ⟨l+1,b,n⟩by
  have q:=of_decide_eq_true h2;refine⟨?_,?_,?_⟩<;>(dsimp only;unfold fits;omega))
 have HN:=aH (show(xs.drop (xs.length-m)).length≤64 by rw[List.length_drop];omega);clear hE h1 h2 hv;generalize ntL r l xs b n=zs at *;obtain⟨ys,hys⟩:∃ys,xs.drop (xs.length-m)=ys:=⟨_,rfl⟩;rw[hys]at HX HQ HN;clear hys;obtain⟨w0,hw0⟩:∃w0,w0=(w.alloc (.cells #[.int .i64 r,.int .i64 l,.slice A xs.length c] 50)).alloc (.cells #[.int .i64 0,.int .i64 0,.slice none 0 0] 50):=⟨_,rfl⟩;have HB0:=aH (show Below w.heap.size w w0 by rw[hw0];exact bL (bL (bR _ _) _) _);have HA0:=aH (show Cells3 w0 w.heap.size (.int .i64 r) (.int .i64 l) (.slice A xs.length c)by rw[hw0];exact(Cells3.new w _ _ _ _).below (bL (bR _ _) _));have HZ0:=aH (show Cells3 w0 (w.heap.size+1) (.int .i64 0) (.int .i64 0) (.slice none 0 0)by
  rw[hw0];have q:=Cells3.new (w.alloc (.cells #[.int .i64 r,.int .i64 l,.slice A xs.length c] 50)) 50 (.int .i64 0) (.int .i64 0) (.slice none 0 0);rw[show(w.alloc (.cells #[.int .i64 r,.int .i64 l,.slice A xs.length c] 50)).heap.size=w.heap.size+1 by simp]at q;exact q)
 go_enter Tryz.func71,Tryz.ntmps71;go_wp2_with fail;rw[←hw0];clear hw0;obtain⟨G,hG⟩:∃G,w.heap.size=G:=⟨_,rfl⟩;rw[hG]at HA0 HZ0;simp only[hG];refine(HR.out _ (HV.out.then HB0.out)).mono ?_;rintro e w1 ⟨rfl,hb1⟩;have HA1:=aH (HA0.out.below hb1);have HZ1:=aH (HZ0.out.below hb1);have HB1:=aH (bC HB0.out hb1);clear hb1 HA0 HZ0 HB0;obtain⟨a0,a1,a2,_⟩:=HA1.out;go_wp2_with fail;refine(HM.out _).mono ?_;rintro e w2 ⟨rfl,rfl⟩;go_wp2_with fail;all_goals
  refine(HX.out _ (by omega) _ _ (HV.out.below HB1.out)).mono ?_;rintro e w4 ⟨A',rfl,hp,hb4⟩;have HA4:=aH (HA1.out.below hb4);have HZ4:=aH (HZ1.out.below hb4);have HB4:=aH (bC HB1.out hb4);have HP4:=aH (hp.below (hb4.mono HB1.out.size));clear hb4 HA1 HZ1 HB1 hp a0 a1 a2;have hs4:=HB4.out.size;rw[hG]at hs4;have HS4:=aH (HA4.out.s1 (.int .i64 (l+1)));have HZ5:=aH (HZ4.out.off (D:=G) (o:=1) (by omega) (.int .i64 (l+1)));have HB5:=aH (bS (p:=⟨G,1,none⟩) (v:=.int .i64 (l+1)) HB4.out (Nat.le_of_eq hG));have HP5:=aH (show KC.IsL (w4.setCell ⟨G,1,none⟩ (.int .i64 (l+1))) w.heap.size (.slice A' m m) ys from HP4.out.below ((bR _ _).setCell (p:=⟨G,1,none⟩) (Nat.le_of_eq hG) _));obtain⟨a0,a1,a2,z0,z1,z2,_⟩:=HA4.out;go_wp2_with (at_builtin;go_loud (refine Lk.wpList_full (K:=KC) _ rfl _ _ rfl rfl w.heap.size (w4.heap.size+1) A' m _ ys [⟨l+1,b,n⟩] rfl rfl (HP5.out.below ((bR _ _).alloc HB5.out.size _)) (Lk.IsL.lit (K:=KC) _ ⟨l+1,b,n⟩ _ HK.out rfl w4.heap.size (by simp)) (by simp) ?c1 ?_))
  case c1=>have:=HN.out;simp;omega
  intro v' w6 hown hb6;rw[show w4.heap.size+1=((w4.setCell ⟨G,1,none⟩ (.int .i64 (l+1))).alloc (.cells #[.int .i64 (l+1),.int .i64 b,.int .i64 n] 128)).heap.size by simp]at hown hb6;rw[←HQ.out]at hown;obtain⟨A2,c2,rfl,hc2⟩:=(hown.isL (by have:=HN.out;rw[HQ.out];simp;omega)).shape;have HB6:=aH (bC (bL HB5.out _) hb6);have HA6:=aH ((HS4.out.below (bL (bR _ _) _)).below hb6);have HZ6:=aH ((HZ5.out.below (bL (bR _ _) _)).below hb6);have HO6:=aH (hown.mono (Nat.le_trans (show G+2≤w4.heap.size from HZ4.out.2.2.2.2.2.2) (by simp)));clear hown hb6 a0 a1 a2 z0 z1 z2 HA4 HZ4 HB4 HS4 HZ5 HB5 HP5 HP4 HN hc2;have HA7:=aH (HA6.out.s2 (.slice A2 zs.length c2));have HZ7:=aH (HZ6.out.off (D:=G) (o:=2) (by omega) (.slice A2 zs.length c2));obtain⟨q0,q1,q2,_⟩:=HZ7.out.set (.int .i64 r) (.int .i64 (l+1)) (.slice A2 zs.length c2);obtain⟨a0,a1,a2,z0,z1,z2,_⟩:=HA6.out;obtain⟨b0,b1,b2,_⟩:=HA7.out;obtain⟨k0,k1,k2,y0,y1,y2,_⟩:=HZ7.out;go_wp2;refine bP (v:=.tuple #[lgV r (l+1) A2 zs.length c2,.int .i64 0]) (by simp[results,Tryz.results71,go_sem,q0,q1,q2]) rfl ⟨A2,c2,rfl,?_,?_⟩
  ·exact((((HO6.out.set (a:=⟨G,2,none⟩) (show G<G+2 by omega) _).set (a:=⟨G+1,0,none⟩) (show G+1<G+2 by omega) _).set (a:=⟨G+1,1,none⟩) (show G+1<G+2 by omega) _).set (a:=⟨G+1,2,none⟩) (show G+1<G+2 by omega) _).mono (by omega)
  ·exact below_set3 (bS HB6.out (Nat.le_of_eq hG)) (by omega) _ _ _
theorem note_bad (r l:Int) (A:Option Addr) (c:Nat) (xs:List Ch) (b n:Int) (hE:ntE r l xs b n≠0) (w:World) (hv:KC.IsL w w.heap.size (.slice A xs.length c) xs):Calls Tryz.prog 71 #[lgV r l A xs.length c,.int .i64 b,.int .i64 n] w fun e w'=>
  e=.returned (.tuple #[lgV 0 0 none 0 0,.int .i64 (ntE r l xs b n)])∧Below w.heap.size w w':=by
 have HV:=aH hv;have HR:=aH (fun w h=>right_any' r l A c xs w h);have HM:=aH (fun w=>may_any b n w);obtain⟨w0,hw0⟩:∃w0,w0=(w.alloc (.cells #[.int .i64 r,.int .i64 l,.slice A xs.length c] 50)).alloc (.cells #[.int .i64 0,.int .i64 0,.slice none 0 0] 50):=⟨_,rfl⟩;have HB0:=aH (show Below w.heap.size w w0 by rw[hw0];exact bL (bL (bR _ _) _) _);have HA0:=aH (show Cells3 w0 w.heap.size (.int .i64 r) (.int .i64 l) (.slice A xs.length c)by rw[hw0];exact(Cells3.new w _ _ _ _).below (bL (bR _ _) _));have HZ0:=aH (show Cells3 w0 (w.heap.size+1) (.int .i64 0) (.int .i64 0) (.slice none 0 0)by
  rw[hw0];have q:=Cells3.new (w.alloc (.cells #[.int .i64 r,.int .i64 l,.slice A xs.length c] 50)) 50 (.int .i64 0) (.int .i64 0) (.slice none 0 0);rw[show(w.alloc (.cells #[.int .i64 r,.int .i64 l,.slice A xs.length c] 50)).heap.size=w.heap.size+1 by simp]at q;exact q)
 clear hv;unfold ntE at hE⊢
 cases h1:rgB r l xs
 ·rw[if_pos rfl];rw[h1]at HR;clear h1 hE;go_enter Tryz.func71,Tryz.ntmps71;go_wp2_with fail;rw[←hw0];clear hw0;obtain⟨G,hG⟩:∃G,w.heap.size=G:=⟨_,rfl⟩;rw[hG]at HA0 HZ0;simp only[hG];refine(HR.out _ (HV.out.then HB0.out)).mono ?_;rintro e w1 ⟨rfl,hb1⟩;have HA1:=aH (HA0.out.below hb1);have HZ1:=aH (HZ0.out.below hb1);have HB1:=aH (bC HB0.out hb1);clear hb1 HA0 HZ0 HB0;obtain⟨a0,a1,a2,_⟩:=HA1.out;obtain⟨q0,q1,q2,_⟩:=HZ1.out.set (.int .i64 0) (.int .i64 0) (.slice none 0 0);obtain⟨k0,k1,k2,y0,y1,y2,_⟩:=HZ1.out;go_wp2;refine bP (v:=.tuple #[lgV 0 0 none 0 0,.int .i64 110]) (by simp[results,Tryz.results71,go_sem,q0,q1,q2]) rfl ⟨rfl,?_⟩;exact below_set3 HB1.out (by omega) _ _ _
 ·rw[if_neg (by decide)];rw[h1]at HR hE;rw[if_neg (by decide)]at hE;clear h1
  cases h2:mayB b n
  ·rw[if_pos rfl];rw[h2]at HM;clear h2 hE;go_enter Tryz.func71,Tryz.ntmps71;go_wp2_with fail;rw[←hw0];clear hw0;obtain⟨G,hG⟩:∃G,w.heap.size=G:=⟨_,rfl⟩;rw[hG]at HA0 HZ0;simp only[hG];refine(HR.out _ (HV.out.then HB0.out)).mono ?_;rintro e w1 ⟨rfl,hb1⟩;have HA1:=aH (HA0.out.below hb1);have HZ1:=aH (HZ0.out.below hb1);have HB1:=aH (bC HB0.out hb1);clear hb1 HA0 HZ0 HB0;obtain⟨a0,a1,a2,_⟩:=HA1.out;go_wp2_with fail;refine(HM.out _).mono ?_;rintro e w2 ⟨rfl,rfl⟩;obtain⟨q0,q1,q2,_⟩:=HZ1.out.set (.int .i64 0) (.int .i64 0) (.slice none 0 0);obtain⟨k0,k1,k2,y0,y1,y2,_⟩:=HZ1.out;go_wp2;refine bP (v:=.tuple #[lgV 0 0 none 0 0,.int .i64 1]) (by simp[results,Tryz.results71,go_sem,q0,q1,q2]) rfl ⟨rfl,?_⟩;exact below_set3 HB1.out (by omega) _ _ _
  ·rw[if_neg (by decide)];rw[h2]at HM hE;rw[if_neg (by decide)]at hE;clear h2;have h3:l=2147483647:=by
    by_cases h:l=2147483647
    ·exact h
    ·rw[if_neg h]at hE;exact absurd rfl hE
   rw[if_pos h3];subst h3;clear hE;go_enter Tryz.func71,Tryz.ntmps71;go_wp2_with fail;rw[←hw0];clear hw0;obtain⟨G,hG⟩:∃G,w.heap.size=G:=⟨_,rfl⟩;rw[hG]at HA0 HZ0;simp only[hG];refine(HR.out _ (HV.out.then HB0.out)).mono ?_;rintro e w1 ⟨rfl,hb1⟩;have HA1:=aH (HA0.out.below hb1);have HZ1:=aH (HZ0.out.below hb1);have HB1:=aH (bC HB0.out hb1);clear hb1 HA0 HZ0 HB0;obtain⟨a0,a1,a2,_⟩:=HA1.out;go_wp2_with fail;refine(HM.out _).mono ?_;rintro e w2 ⟨rfl,rfl⟩;obtain⟨q0,q1,q2,_⟩:=HZ1.out.set (.int .i64 0) (.int .i64 0) (.slice none 0 0);obtain⟨k0,k1,k2,y0,y1,y2,_⟩:=HZ1.out;go_wp2;refine bP (v:=.tuple #[lgV 0 0 none 0 0,.int .i64 101]) (by simp[results,Tryz.results71,go_sem,q0,q1,q2]) rfl ⟨rfl,?_⟩;exact below_set3 HB1.out (by omega) _ _ _
theorem sameList_any (A A2:Option Addr) (c c2:Nat) (xs:List Ch) (w:World) (hv:KC.IsL w w.heap.size (.slice A xs.length c) xs) (hu:KC.IsL w w.heap.size (.slice A2 xs.length c2) xs):Calls Tryz.prog 59 #[.slice A xs.length c,.slice A2 xs.length c2] w fun e w'=>e=.returned (.bool true)∧Below w.heap.size w w':=by
 have HV:=aH hv;have HU:=aH hu;have hl:=hv.2.2;clear hv hu;go_enter Tryz.func59,Tryz.ntmps59;go_wp2
 go_loopw [5] (fun i wr=>∃k:Nat,i=.int .i64 k∧k≤xs.length∧Below w.heap.size w wr) (fun i _=>xs.length-(intOf i).toNat)
 case atStart=>exact⟨0,rfl,Nat.zero_le _,bR _ _⟩
 case round=>
  obtain⟨k,rfl,hk,hbl⟩:=hrel;have HB:=aH hbl;clear hbl;by_cases hlt:k<xs.length
  ·obtain⟨b1,o1,rfl,hb1,hc1,hcell1⟩:=ch_cells (HV.out.below HB.out) (by omega);obtain⟨b2,o2,rfl,hb2,hc2,hcell2⟩:=ch_cells (HU.out.below HB.out) (by omega);obtain⟨e1,e2,e3⟩:=hcell1 k hlt;obtain⟨f1,f2,f3⟩:=hcell2 k hlt;clear hcell1 hcell2;generalize xs.getD k ch0=q at *;obtain⟨a,b,n⟩:=q;dsimp only at *;go_wp2_with fail;go_quiet (fail);go_wp2
   go_roundw
   case rel=>exact⟨k+1,num_i (by omega),by omega,below_drewN HB.out _⟩
   case measure=>simp[intOf];omega
  ·obtain rfl:k=xs.length:=(by omega);go_wp2
   go_ret
   exact⟨rfl,HB.out⟩
theorem same_any (r l:Int) (A A2:Option Addr) (c c2:Nat) (xs:List Ch) (w:World) (hv:KC.IsL w w.heap.size (.slice A xs.length c) xs) (hu:KC.IsL w w.heap.size (.slice A2 xs.length c2) xs):Calls Tryz.prog 26 #[lgV r l A xs.length c,lgV r l A2 xs.length c2] w fun e w'=>e=.returned (.bool true)∧Below w.heap.size w w':=by
 have HL:=aH (fun w h1 h2=>sameList_any A A2 c c2 xs w h1 h2);have HB:=aH (show Below w.heap.size w ((w.alloc (.cells #[.int .i64 r,.int .i64 l,.slice A xs.length c] 50)).alloc (.cells #[.int .i64 r,.int .i64 l,.slice A2 xs.length c2] 50))from bL (bL (bR _ _) _) _);have HV:=aH (hv.then HB.out);have HU:=aH (hu.then HB.out);clear hv hu;go_enter Tryz.func26,Tryz.ntmps26;go_wp2_with fail;refine(HL.out _ HV.out HU.out).mono ?_;rintro e w2 ⟨rfl,hb2⟩;have HB2:=aH (bC HB.out hb2);clear hb2;go_wp2
 go_ret
 exact⟨rfl,HB2.out⟩
theorem _root_.Go.Proofs.YtacjonncakhhmaaGreat.Cells3.grown {V V':World} {D:Nat} {row:Option Nat} {x0 x1 x2:Value} (h:Cells3 V D x0 x1 x2) (hg:V.grownBy V' row) (hne:some D≠row):Cells3 V' D x0 x1 x2:=by
 obtain⟨h0,h1,h2,z0,z1,z2,hs⟩:=h;exact⟨(hg.cell_far ⟨D,0,none⟩ hs hne).trans h0,(hg.cell_far ⟨D,1,none⟩ hs hne).trans h1,(hg.cell_far ⟨D,2,none⟩ hs hne).trans h2,(hg.frozen_far ⟨D,0,none⟩ hs hne).trans z0,(hg.frozen_far ⟨D,1,none⟩ hs hne).trans z1,(hg.frozen_far ⟨D,2,none⟩ hs hne).trans z2,nL hs hg.size⟩
theorem _root_.Go.Proofs.YtacjonncakhhmaaGreat.Lk.Own.far {P:Program} {α:Type} {K:Lk P α} {w:World} {base:Nat} {v:Value} {xs:List α} (h:K.Own w base v xs) {D:Nat} (hne:∀k,v.ownBlock=some k→k≠D) (o:Nat) (u:Value):K.Own (w.setCell ⟨D,o,none⟩ u) base v xs:=by
 obtain⟨⟨h1,h2⟩,hf⟩:=h;refine⟨⟨h1,?_⟩,hf⟩;rcases h2 with h2|⟨g,cap,cur,rfl,hg,hh,r⟩
 ·exact Or.inl h2
 ·exact Or.inr ⟨g,cap,cur,rfl,hg,by rw[Below.heap_setCell _ _ _ _ (hne g rfl)];exact hh,r⟩
def ntR (r l:Int) (xs:List Ch) (b n:Int):Int:=if ntE r l xs b n=0 then r else 0
def ntM (r l:Int) (xs:List Ch) (b n:Int):Int:=if ntE r l xs b n=0 then l+1 else 0
def ntZ (r l:Int) (xs:List Ch) (b n:Int):List Ch:=if ntE r l xs b n=0 then ntL r l xs b n else []
theorem note_all (r l:Int) (A:Option Addr) (c:Nat) (xs:List Ch) (b n:Int) (w:World) (hv:KC.IsL w w.heap.size (.slice A xs.length c) xs):Calls Tryz.prog 71 #[lgV r l A xs.length c,.int .i64 b,.int .i64 n] w fun e w'=>
  ∃A' c',e=.returned (.tuple #[lgV (ntR r l xs b n) (ntM r l xs b n) A' (ntZ r l xs b n).length c',.int .i64 (ntE r l xs b n)])∧KC.Own w' w.heap.size (.slice A' (ntZ r l xs b n).length c') (ntZ r l xs b n)∧Below w.heap.size w w':=by
 unfold ntR ntM ntZ;by_cases h:ntE r l xs b n=0
 ·rw[if_pos h,if_pos h,if_pos h,h];exact note_ok r l A c xs b n h w hv
 ·rw[if_neg h,if_neg h,if_neg h];refine(note_bad r l A c xs b n h w hv).mono ?_;rintro e w' ⟨rfl,hb⟩;exact⟨none,0,rfl,Lk.Own.nil _ _,hb⟩
theorem getD_snoc (ys:List Ch) (x:Ch):(ys++[x]).getD ys.length ch0=x:=by
 simp[List.getD_eq_getElem?_getD]
theorem nt_right {r l:Int} {xs:List Ch} {b n:Int} (h:ntE r l xs b n=0):rgB r (l+1) (ntL r l xs b n)=true:=by
 obtain⟨h1,h2,h3⟩:=nt_ok h;obtain⟨⟨g0,g1,g2,g3,g4,g5⟩,hr⟩:=rg_parts h1;obtain⟨m,hm⟩:∃m,m=min xs.length (r-1).toNat:=⟨_,rfl⟩;have hlen:(ntL r l xs b n).length=m+1:=by
  unfold ntL;rw[List.length_append,List.length_drop,←hm];simp only[List.length_cons,List.length_nil];omega
 rw[rg_yes (show rgC r (l+1) (ntL r l xs b n).length by rw[hlen];unfold rgC;omega)];refine rl_true fun k hk=>?_;rw[hlen]at hk;unfold okC;rw[hlen];rw[Bool.and_eq_true,decide_eq_true_eq];by_cases hkm:k=m
 ·have e:(ntL r l xs b n).getD k ch0=⟨l+1,b,n⟩:=by
   unfold ntL;have q:=getD_snoc (xs.drop (xs.length-min xs.length (r-1).toNat)) ⟨l+1,b,n⟩;rw[List.length_drop]at q;rw[show k=xs.length-(xs.length-min xs.length (r-1).toNat)by omega];exact q
  rw[e];refine⟨?_,h2⟩;show l+1=_;omega
 ·have e:(ntL r l xs b n).getD k ch0=xs.getD (xs.length-m+k) ch0:=by
   unfold ntL;rw[←hm,List.getD_eq_getElem?_getD,List.getElem?_append_left (by rw[List.length_drop];omega),List.getElem?_drop,←List.getD_eq_getElem?_getD]
  have q:=rl_at hr (xs.length-m+k) (by omega);unfold okC at q;rw[Bool.and_eq_true,decide_eq_true_eq]at q;rw[e];refine⟨?_,q.2⟩;rw[q.1];omega
theorem nt_right' {r l:Int} {xs:List Ch} {b n:Int} (h:ntE r l xs b n=0):rgB (ntR r l xs b n) (ntM r l xs b n) (ntZ r l xs b n)=true:=by
 unfold ntR ntM ntZ;rw[if_pos h,if_pos h,if_pos h];exact nt_right h
end Go.Proofs.YtacjonncakhhmaaGreat.Lg
namespace Go.Proofs.YtacjonncakhhmaaGreat
open Go.RowKit
theorem Lk.wp_made {P:Program} {α:Type} {K:Lk P α} {o:Oper} {a:Act} {R:Act→World→Prop} {Q:Exit→Act→World→Prop} (w:World) (l c:Operand) {T:TypeId} (hT:T=K.S) (ho:o.op=.makeSlice T l c) (kl kc:IntKind) (n m:Nat) (L M:Int)
  (hl:a.eval l=.int kl L) (hc:a.eval c=.int kc M) (hL:L=(n:Int)) (hM:M=(m:Int)) (hnm:n=m∨n=0) (z0:α) (hz:K.zero.cells.toList=K.cells z0) (hok:K.ok z0) (hm:m≤100000)
  (hk:∀w',K.Own w' w.heap.size (.slice (some ⟨w.heap.size,0,none⟩) n m) (List.replicate n z0)→Below w.heap.size w w'→w.heap.size<w'.heap.size→R (a.put o.dst (.slice (some ⟨w.heap.size,0,none⟩) n m)) w'):o.wp P a w R Q:=by
 subst hT;subst hL;subst hM;obtain⟨i0,hi,hz0,hz1,hz2⟩:=info_parts K.info;have hsm:=K.small;have hbm:i0.bytes*m≤281474976710656:=by
  have:=Nat.mul_le_mul (show i0.bytes≤100000 by omega) hm;omega
 have hb':(i0.bytes:Int)*(m:Int)≤281474976710656:=by
  have h:((i0.bytes*m:Nat):Int)≤281474976710656:=by omega
  rwa [Int.natCast_mul]at h
 have hr:=run_make (P:=P) w K.S K.E i0 K.zero K.und hi hz0 kl kc (n:Int) (m:Int) (by omega) (by omega) hb' (by omega);simp only[Int.toNat_natCast]at hr;have e:=Lk.flat_made K z0 hz;have hw:K.Own (w.alloc (.cells (madeCells K.zero.cells (m*i0.size)) K.E)) w.heap.size (.slice (some ⟨w.heap.size,0,none⟩) n m) (List.replicate n z0):=by
  refine⟨?_,fun x hx=>by rw[(List.mem_replicate.1 hx).2];exact hok⟩;rw[List.length_replicate,hz1];rcases hnm with rfl|rfl
  ·rw[←e];exact World.ownsRow_lit w _ n (nR _) (by unfold maxLen;omega) (size_madeCells _ _)
  ·exact World.ownsRow_made w _ m (nR _) (by unfold maxLen;omega) (size_madeCells _ _)
 unfold Oper.wp;simp[execOp,ho,hl,hc,hr,Result.andThen];exact hk _ hw (bL (bR _ _) _) (by simp)
theorem Lk.Own.far6 {P:Program} {α:Type} {K:Lk P α} {w:World} {base:Nat} {v:Value} {xs:List α} (h:K.Own w base v xs) {D:Nat} (hne:∀k,v.ownBlock=some k→k≠D) (p0 p1 p2 p3 p4 p5:Value):K.Own ((((((w.setCell ⟨D,0,none⟩ p0).setCell ⟨D,1,none⟩ p1).setCell ⟨D,2,none⟩ p2).setCell ⟨D,3,none⟩ p3).setCell ⟨D,4,none⟩ p4).setCell ⟨D,5,none⟩ p5) base v xs:=((((((h.far hne 0 p0).far hne 1 p1).far hne 2 p2).far hne 3 p3).far hne 4 p4).far hne 5 p5)
theorem Cells6.grown {V V':World} {D:Nat} {row:Option Nat} {x0 x1 x2 x3 x4 x5:Value} (h:Cells6 V D x0 x1 x2 x3 x4 x5) (hg:V.grownBy V' row) (hne:some D≠row):Cells6 V' D x0 x1 x2 x3 x4 x5:=by
 obtain⟨h0,h1,h2,h3,h4,h5,z0,z1,z2,z3,z4,z5,hs⟩:=h;exact⟨(hg.cell_far ⟨D,0,none⟩ hs hne).trans h0,(hg.cell_far ⟨D,1,none⟩ hs hne).trans h1,(hg.cell_far ⟨D,2,none⟩ hs hne).trans h2,(hg.cell_far ⟨D,3,none⟩ hs hne).trans h3,(hg.cell_far ⟨D,4,none⟩ hs hne).trans h4,(hg.cell_far ⟨D,5,none⟩ hs hne).trans h5,
  (hg.frozen_far ⟨D,0,none⟩ hs hne).trans z0,(hg.frozen_far ⟨D,1,none⟩ hs hne).trans z1,(hg.frozen_far ⟨D,2,none⟩ hs hne).trans z2,(hg.frozen_far ⟨D,3,none⟩ hs hne).trans z3,(hg.frozen_far ⟨D,4,none⟩ hs hne).trans z4,(hg.frozen_far ⟨D,5,none⟩ hs hne).trans z5,nL hs hg.size⟩
theorem Cells6.apart2 {V:World} {D G:Nat} {x0 x1 x2 x3 x4 x5:Value} (h:Cells6 V G x0 x1 x2 x3 x4 x5) (hne:D≠G) (o0 o1:Nat) (p0 p1:Value):Cells6 ((V.setCell ⟨D,o0,none⟩ p0).setCell ⟨D,o1,none⟩ p1) G x0 x1 x2 x3 x4 x5:=((h.off hne p0).off hne p1)
theorem Cells4.apart2 {V:World} {D G:Nat} {x0 x1 x2 x3:Value} (h:Cells4 V G x0 x1 x2 x3) (hne:D≠G) (o0 o1:Nat) (p0 p1:Value):Cells4 ((V.setCell ⟨D,o0,none⟩ p0).setCell ⟨D,o1,none⟩ p1) G x0 x1 x2 x3:=((h.off hne p0).off hne p1)
theorem Lk.Own.far2o {P:Program} {α:Type} {K:Lk P α} {w:World} {base:Nat} {v:Value} {xs:List α} (h:K.Own w base v xs) {D:Nat} (hne:∀k,v.ownBlock=some k→k≠D) (o0 o1:Nat) (p0 p1:Value):K.Own ((w.setCell ⟨D,o0,none⟩ p0).setCell ⟨D,o1,none⟩ p1) base v xs:=((h.far hne o0 p0).far hne o1 p1)
theorem Cells6.apart3 {V:World} {D G:Nat} {x0 x1 x2 x3 x4 x5:Value} (h:Cells6 V G x0 x1 x2 x3 x4 x5) (hne:D≠G) (o0 o1 o2:Nat) (p0 p1 p2:Value):Cells6 (((V.setCell ⟨D,o0,none⟩ p0).setCell ⟨D,o1,none⟩ p1).setCell ⟨D,o2,none⟩ p2) G x0 x1 x2 x3 x4 x5:=(((h.off hne p0).off hne p1).off hne p2)
theorem Cells4.apart3 {V:World} {D G:Nat} {x0 x1 x2 x3:Value} (h:Cells4 V G x0 x1 x2 x3) (hne:D≠G) (o0 o1 o2:Nat) (p0 p1 p2:Value):Cells4 (((V.setCell ⟨D,o0,none⟩ p0).setCell ⟨D,o1,none⟩ p1).setCell ⟨D,o2,none⟩ p2) G x0 x1 x2 x3:=(((h.off hne p0).off hne p1).off hne p2)
theorem Lk.Own.far3o {P:Program} {α:Type} {K:Lk P α} {w:World} {base:Nat} {v:Value} {xs:List α} (h:K.Own w base v xs) {D:Nat} (hne:∀k,v.ownBlock=some k→k≠D) (o0 o1 o2:Nat) (p0 p1 p2:Value):K.Own (((w.setCell ⟨D,o0,none⟩ p0).setCell ⟨D,o1,none⟩ p1).setCell ⟨D,o2,none⟩ p2) base v xs:=(((h.far hne o0 p0).far hne o1 p1).far hne o2 p2)
theorem Lk.Own.set6 {P:Program} {α:Type} {K:Lk P α} {w:World} {base:Nat} {v:Value} {xs:List α} (h:K.Own w base v xs) {D:Nat} (hD:D<base) (p0 p1 p2 p3 p4 p5:Value):K.Own ((((((w.setCell ⟨D,0,none⟩ p0).setCell ⟨D,1,none⟩ p1).setCell ⟨D,2,none⟩ p2).setCell ⟨D,3,none⟩ p3).setCell ⟨D,4,none⟩ p4).setCell ⟨D,5,none⟩ p5) base v xs:=((((((h.set (a:=⟨D,0,none⟩) hD p0).set (a:=⟨D,1,none⟩) hD p1).set (a:=⟨D,2,none⟩) hD p2).set (a:=⟨D,3,none⟩) hD p3).set (a:=⟨D,4,none⟩) hD p4).set (a:=⟨D,5,none⟩) hD p5)
theorem Cells4.low {V V':World} {B D:Nat} {x0 x1 x2 x3:Value} (h:Cells4 V D x0 x1 x2 x3) (hb:Below B V V') (hD:D<B):Cells4 V' D x0 x1 x2 x3:=by
 obtain⟨h0,h1,h2,h3,z0,z1,z2,z3,hs⟩:=h;exact⟨(hb.cell (p:=⟨D,0,none⟩) hD).trans h0,(hb.cell (p:=⟨D,1,none⟩) hD).trans h1,(hb.cell (p:=⟨D,2,none⟩) hD).trans h2,(hb.cell (p:=⟨D,3,none⟩) hD).trans h3,(hb.frozen (p:=⟨D,0,none⟩) hD).trans z0,(hb.frozen (p:=⟨D,1,none⟩) hD).trans z1,(hb.frozen (p:=⟨D,2,none⟩) hD).trans z2,(hb.frozen (p:=⟨D,3,none⟩) hD).trans z3,nL hs hb.size⟩
theorem Cells6.low {V V':World} {B D:Nat} {x0 x1 x2 x3 x4 x5:Value} (h:Cells6 V D x0 x1 x2 x3 x4 x5) (hb:Below B V V') (hD:D<B):Cells6 V' D x0 x1 x2 x3 x4 x5:=by
 obtain⟨h0,h1,h2,h3,h4,h5,z0,z1,z2,z3,z4,z5,hs⟩:=h;exact⟨(hb.cell (p:=⟨D,0,none⟩) hD).trans h0,(hb.cell (p:=⟨D,1,none⟩) hD).trans h1,(hb.cell (p:=⟨D,2,none⟩) hD).trans h2,(hb.cell (p:=⟨D,3,none⟩) hD).trans h3,(hb.cell (p:=⟨D,4,none⟩) hD).trans h4,(hb.cell (p:=⟨D,5,none⟩) hD).trans h5,(hb.frozen (p:=⟨D,0,none⟩) hD).trans z0,(hb.frozen (p:=⟨D,1,none⟩) hD).trans z1,(hb.frozen (p:=⟨D,2,none⟩) hD).trans z2,(hb.frozen (p:=⟨D,3,none⟩) hD).trans z3,(hb.frozen (p:=⟨D,4,none⟩) hD).trans z4,(hb.frozen (p:=⟨D,5,none⟩) hD).trans z5,nL hs hb.size⟩
def PlAt (V:World) (P:Nat) (r c cap:Int) (sv:Value):Prop:=V.cell? ⟨P,0,none⟩=some (.int .i64 r)∧V.cell? ⟨P,1,none⟩=some (.int .i64 c)∧V.cell? ⟨P,5,none⟩=some (.int .i64 cap)∧V.cell? ⟨P,6,none⟩=some sv∧P<V.heap.size
theorem PlAt.below {V V':World} {P:Nat} {r c cap:Int} {sv:Value} (h:PlAt V P r c cap sv) (hb:Below V.heap.size V V'):PlAt V' P r c cap sv:=⟨kK hb h.1,kK hb h.2.1,kK hb h.2.2.1,kK hb h.2.2.2.1,nL h.2.2.2.2 hb.size⟩
theorem PlAt.grown {V V':World} {P:Nat} {r c cap:Int} {sv:Value} {row:Option Nat} (h:PlAt V P r c cap sv) (hg:V.grownBy V' row) (hne:some P≠row):PlAt V' P r c cap sv:=
 ⟨(hg.cell_far ⟨P,0,none⟩ h.2.2.2.2 hne).trans h.1,(hg.cell_far ⟨P,1,none⟩ h.2.2.2.2 hne).trans h.2.1,(hg.cell_far ⟨P,5,none⟩ h.2.2.2.2 hne).trans h.2.2.1,(hg.cell_far ⟨P,6,none⟩ h.2.2.2.2 hne).trans h.2.2.2.1,nL h.2.2.2.2 hg.size⟩
theorem PlAt.off {V:World} {P D o:Nat} {r c cap:Int} {sv:Value} (h:PlAt V P r c cap sv) (hne:D≠P) (v:Value):PlAt (V.setCell ⟨D,o,none⟩ v) P r c cap sv:=
 ⟨sO h.1 (aN (.inl hne)),sO h.2.1 (aN (.inl hne)),sO h.2.2.1 (aN (.inl hne)),sO h.2.2.2.1 (aN (.inl hne)),by simpa using h.2.2.2.2⟩
end Go.Proofs.YtacjonncakhhmaaGreat
namespace Go.Proofs.YtacjonncakhhmaaGreat.Two
open Go.RowKit
def W2 (x:Int):Value:=.agg #[.int .u64 (x%18446744073709551616),.int .u64 (x/18446744073709551616%18446744073709551616)]
theorem ret_w2 {a b c d:Int} (h:a=c) (k:b=d):Ending.returned (.agg #[.int .u64 a,.int .u64 b])=.returned (.agg #[.int .u64 c,.int .u64 d]):=by rw[h,k]
theorem info43:(Tryz.prog.info? 120).map (·.size)=some 2:=by kernel_rfl
theorem widen_any (n:Int) (hn:fits n) (w:World):Calls Tryz.prog 73 #[.int .i64 n] w fun e w'=>e=.returned (W2 n)∧Below w.heap.size w w':=by
 have HN:=aH hn;clear hn;go_enter Tryz.func73,Tryz.ntmps73;go_wp2;refine bP (results_cell_row rfl _ _ w.heap.size 120 _ (0,0) _ rfl (heap_alloc_new _ _) Tryz.underlying120 rfl info43) rfl ?_;refine⟨ret_w2 ?_ ?_,(bR _ _).alloc (nR _) _⟩
 ·rw[IntKind.wrap_u64]
 ·have:=HN.out;unfold fits at this;rw[IntKind.wrap_u64];omega
theorem carry (x y:Int):((x%18446744073709551616+y%18446744073709551616)%18446744073709551616=(x+y)%18446744073709551616)∧
  ((x%18446744073709551616+y%18446744073709551616)%18446744073709551616<x%18446744073709551616→
   ((x/18446744073709551616%18446744073709551616+y/18446744073709551616%18446744073709551616)%18446744073709551616+1)%18446744073709551616=(x+y)/18446744073709551616%18446744073709551616)∧
  (¬(x%18446744073709551616+y%18446744073709551616)%18446744073709551616<x%18446744073709551616→
   (x/18446744073709551616%18446744073709551616+y/18446744073709551616%18446744073709551616)%18446744073709551616=(x+y)/18446744073709551616%18446744073709551616):=by
 refine⟨?_,?_,?_⟩<;>omega
theorem size_alloc (w:World) (o:Obj):(w.alloc o).heap.size=w.heap.size+1:=by simp
theorem two_cells (w:World) (b:Nat) (t u x y:Value) (h:w.heap[b]? =some (Obj.cells #[t,u] 120)):((w.setCell ⟨b,0,none⟩ x).setCell ⟨b,1,none⟩ y).heap[b]? =some (Obj.cells #[x,y] 120):=by
 rw[heap_setCell_same _ b 1 _ _ _ (heap_setCell_same w b 0 _ _ _ h)];rfl
theorem plus_any (x y:Int) (w:World):Calls Tryz.prog 72 #[W2 x,W2 y] w fun e w'=>e=.returned (W2 (x+y))∧Below w.heap.size w w':=by
 have hc:=carry x y;have HC:=aH hc;clear hc;unfold W2;generalize hx0:x%18446744073709551616=x0 at *;generalize hx1:x/18446744073709551616%18446744073709551616=x1 at *;generalize hy0:y%18446744073709551616=y0 at *;generalize hy1:y/18446744073709551616%18446744073709551616=y1 at *;have HX0:=aH hx0;have HY0:=aH hy0;clear hx0 hx1 hy0 hy1;go_enter Tryz.func72,Tryz.ntmps72;go_wp2;obtain⟨B,hB⟩:∃B,B=w.heap.size:=⟨_,rfl⟩;obtain⟨w3,hw⟩:∃w3,w3=(((w.alloc (Obj.cells #[.int .u64 x0,.int .u64 x1] 120)).alloc (Obj.cells #[.int .u64 y0,.int .u64 y1] 120)).alloc (Obj.cells #[.int .u64 0,.int .u64 0] 120)):=⟨_,rfl⟩;rw[←hw,←hB];have r0:w3.heap[B]? =some (Obj.cells #[.int .u64 x0,.int .u64 x1] 120):=by
  rw[hw,hB,Below.heap_alloc _ _ _ (by simp;omega),Below.heap_alloc _ _ _ (by simp),heap_alloc_new]
 have r1:w3.heap[B+1]? =some (Obj.cells #[.int .u64 y0,.int .u64 y1] 120):=by
  rw[hw,hB,Below.heap_alloc _ _ _ (by simp),←size_alloc w (Obj.cells #[.int .u64 x0,.int .u64 x1] 120)];exact heap_alloc_new (w.alloc _) _
 have r2:w3.heap[B+1+1]? =some (Obj.cells #[.int .u64 0,.int .u64 0] 120):=by
  rw[hw,hB,←size_alloc w (Obj.cells #[.int .u64 x0,.int .u64 x1] 120),←size_alloc _ (Obj.cells #[.int .u64 y0,.int .u64 y1] 120)];exact heap_alloc_new ((w.alloc _).alloc _) _
 have hbel:Below B w w3:=by
  rw[hw,hB];exact(((bR _ _).alloc (nR _) _).alloc (by simp) _).alloc (by simp;omega) _
 have c00:w3.cell? ⟨B,0,none⟩=some (.int .u64 x0):=cell_of_row w3 B 0 _ _ _ r0;have c01:w3.cell? ⟨B,1,none⟩=some (.int .u64 x1):=cell_of_row w3 B 1 _ _ _ r0;have c10:w3.cell? ⟨B+1,0,none⟩=some (.int .u64 y0):=cell_of_row w3 (B+1) 0 _ _ _ r1;have c11:w3.cell? ⟨B+1,1,none⟩=some (.int .u64 y1):=cell_of_row w3 (B+1) 1 _ _ _ r1;have c20:w3.cell? ⟨B+1+1,0,none⟩=some (.int .u64 0):=cell_of_row w3 (B+1+1) 0 _ _ _ r2;have c21:w3.cell? ⟨B+1+1,1,none⟩=some (.int .u64 0):=cell_of_row w3 (B+1+1) 1 _ _ _ r2;have f2:∀j,w3.frozen? ⟨B+1+1,j,none⟩=false:=fun j=>frozen_of_row w3 (B+1+1) j _ _ r2;have f20:=f2 0;have f21:=f2 1;have R2:=aH r2;have HBL:=aH hbel;have HB:=aH hB;clear hw r0 r1 r2 hbel f2 hB;go_quiet (fail);go_wp2
 ·refine bP (results_cell_row rfl _ _ (B+1+1) 120 _ (0,0) _ rfl (two_cells _ _ _ _ _ _ R2.out) Tryz.underlying120 rfl info43) rfl ?_;have e:=HC.out;rw[←IntKind.wrap_u64]at e;refine⟨ret_w2 e.1 ?_,?_⟩
  ·rw[←e.2.1 ‹_›,IntKind.wrap_u64,IntKind.wrap_u64]
  ·rw[←HB.out];exact Below.setCell (Below.setCell (below_drewN HBL.out _) (by simp;omega) _) (by simp;omega) _
 ·refine bP (results_cell_row rfl _ _ (B+1+1) 120 _ (0,0) _ rfl (two_cells _ _ _ _ _ _ R2.out) Tryz.underlying120 rfl info43) rfl ?_;have e:=HC.out;rw[←IntKind.wrap_u64]at e;refine⟨ret_w2 e.1 ?_,?_⟩
  ·rw[←e.2.2 ‹_›,IntKind.wrap_u64]
  ·rw[←HB.out];exact Below.setCell (Below.setCell (below_drewN HBL.out _) (by simp;omega) _) (by simp;omega) _
end Go.Proofs.YtacjonncakhhmaaGreat.Two
