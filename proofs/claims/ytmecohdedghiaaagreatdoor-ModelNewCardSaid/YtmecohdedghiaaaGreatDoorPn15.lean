/- Boxes that lie below a block; what is read of a plate's box. -/
import Derived.Test.YtmecohdedghiaaaGreatDoorPn00
import Derived.Test.YtmecohdedghiaaaGreatDoorPn14
set_option maxRecDepth 100000
set_option maxHeartbeats 8000000
namespace Go.Proofs.YtmecohdedghiaaaGreatDoor.Lg
open Go.RowKit
abbrev lgV (r l:Int) (A:Option Addr) (n c:Nat):Value:=.agg #[.int .i64 r,.int .i64 l,.slice A n c]
def mayB (b n:Int):Bool:=decide (1≤b∧b≤8∧ -1099511627776≤n∧n≤1099511627776∧n≠0)
def okC (xs:List Ch) (l:Int) (i:Nat):Bool:=decide ((xs.getD i ch0).a=l-xs.length+1+i)&&mayB (xs.getD i ch0).b (xs.getD i ch0).c
def rlB (xs:List Ch) (l:Int):Bool:=(List.range xs.length).all (okC xs l)
theorem rl_false {xs:List Ch} {l:Int} (k:Nat) (hk:k<xs.length) (h:okC xs l k=false):rlB xs l=false:=by
 unfold rlB;rw[List.all_eq_false];exact⟨k,List.mem_range.2 hk,by simp[h]⟩
theorem rl_true {xs:List Ch} {l:Int} (h:∀k,k<xs.length→okC xs l k=true):rlB xs l=true:=by
 unfold rlB;rw[List.all_eq_true];exact fun k hk=>h k (List.mem_range.1 hk)
def rgC (r l:Int) (n:Nat):Prop:=1≤r∧r≤64∧0≤l∧l≤2147483647∧(n:Int)≤r∧(n:Int)≤l
instance (r l:Int) (n:Nat):Decidable (rgC r l n):=inferInstanceAs (Decidable (_∧_))
def rgB (r l:Int) (xs:List Ch):Bool:=decide (rgC r l xs.length)&&rlB xs l
theorem rg_parts {r l:Int} {xs:List Ch} (h:rgB r l xs=true):rgC r l xs.length∧rlB xs l=true:=by
 unfold rgB at h;rw[Bool.and_eq_true,decide_eq_true_eq]at h;exact h
theorem rg_no {r l:Int} {xs:List Ch} (h:¬rgC r l xs.length):rgB r l xs=false:=by
 unfold rgB;rw[dF h];rfl
theorem rg_yes {r l:Int} {xs:List Ch} (h:rgC r l xs.length):rgB r l xs=rlB xs l:=by
 unfold rgB;rw[dT h];rfl
theorem may_any (b n:Int) (w:World):Calls Tryz.prog 249 #[.int .i64 b,.int .i64 n] w fun e w'=>e=.returned (.bool (mayB b n))∧w=w':=by
 by_cases h0:1≤b
 ·skip
  by_cases h1:b≤8
  ·skip
   by_cases h2: -1099511627776≤n
   ·skip
    by_cases h3:n≤1099511627776
    ·skip
     by_cases h4:n≠0
     ·rw[show mayB b n=true from dT (by omega)];go_enter Tryz.func249,Tryz.ntmps249;go_wp2
      go_ret
      exact⟨by first|rfl|exact ret_b (bne_iff_ne.2 (by assumption))|exact ret_b (by rw[bne_eq_false_iff_eq];omega),rfl⟩
     ·rw[show mayB b n=false from dF (by omega)];go_enter Tryz.func249,Tryz.ntmps249;go_wp2
      go_ret
      exact⟨by first|rfl|exact ret_b (bne_iff_ne.2 (by assumption))|exact ret_b (by rw[bne_eq_false_iff_eq];omega),rfl⟩
    ·rw[show mayB b n=false from dF (by omega)];go_enter Tryz.func249,Tryz.ntmps249;go_wp2
     go_ret
     exact⟨by first|rfl|exact ret_b (bne_iff_ne.2 (by assumption))|exact ret_b (by rw[bne_eq_false_iff_eq];omega),rfl⟩
   ·rw[show mayB b n=false from dF (by omega)];go_enter Tryz.func249,Tryz.ntmps249;go_wp2
    go_ret
    exact⟨by first|rfl|exact ret_b (bne_iff_ne.2 (by assumption))|exact ret_b (by rw[bne_eq_false_iff_eq];omega),rfl⟩
  ·rw[show mayB b n=false from dF (by omega)];go_enter Tryz.func249,Tryz.ntmps249;go_wp2
   go_ret
   exact⟨by first|rfl|exact ret_b (bne_iff_ne.2 (by assumption))|exact ret_b (by rw[bne_eq_false_iff_eq];omega),rfl⟩
 ·rw[show mayB b n=false from dF (by omega)];go_enter Tryz.func249,Tryz.ntmps249;go_wp2
  go_ret
  exact⟨by first|rfl|exact ret_b (bne_iff_ne.2 (by assumption))|exact ret_b (by rw[bne_eq_false_iff_eq];omega),rfl⟩
theorem rmay_any (b n:Int) (w:World):Calls Tryz.prog 168 #[.int .i64 b,.int .i64 n] w fun e w'=>e=.returned (.bool (mayB b n))∧w=w':=by
 by_cases h0:1≤b
 ·skip
  by_cases h1:b≤8
  ·skip
   by_cases h2:n≠0
   ·skip
    by_cases h3: -1099511627776≤n
    ·skip
     by_cases h4:n≤1099511627776
     ·rw[show mayB b n=true from dT (by omega)];go_enter Tryz.func168,Tryz.ntmps168;go_wp2
      go_ret
      exact⟨by first|rfl|exact ret_b (bne_iff_ne.2 (by assumption))|exact ret_b (by rw[bne_eq_false_iff_eq];omega),rfl⟩
     ·rw[show mayB b n=false from dF (by omega)];go_enter Tryz.func168,Tryz.ntmps168;go_wp2
      go_ret
      exact⟨by first|rfl|exact ret_b (bne_iff_ne.2 (by assumption))|exact ret_b (by rw[bne_eq_false_iff_eq];omega),rfl⟩
    ·rw[show mayB b n=false from dF (by omega)];go_enter Tryz.func168,Tryz.ntmps168;go_wp2
     go_ret
     exact⟨by first|rfl|exact ret_b (bne_iff_ne.2 (by assumption))|exact ret_b (by rw[bne_eq_false_iff_eq];omega),rfl⟩
   ·rw[show mayB b n=false from dF (by omega)];go_enter Tryz.func168,Tryz.ntmps168;go_wp2
    go_ret
    exact⟨by first|rfl|exact ret_b (bne_iff_ne.2 (by assumption))|exact ret_b (by rw[bne_eq_false_iff_eq];omega),rfl⟩
  ·rw[show mayB b n=false from dF (by omega)];go_enter Tryz.func168,Tryz.ntmps168;go_wp2
   go_ret
   exact⟨by first|rfl|exact ret_b (bne_iff_ne.2 (by assumption))|exact ret_b (by rw[bne_eq_false_iff_eq];omega),rfl⟩
 ·rw[show mayB b n=false from dF (by omega)];go_enter Tryz.func168,Tryz.ntmps168;go_wp2
  go_ret
  exact⟨by first|rfl|exact ret_b (bne_iff_ne.2 (by assumption))|exact ret_b (by rw[bne_eq_false_iff_eq];omega),rfl⟩
theorem rightList_any (A:Option Addr) (c:Nat) (xs:List Ch) (l:Int) (h0:(xs.length:Int)≤l) (h1:l≤2147483647) (w:World) (hv:KC.IsL w w.heap.size (.slice A xs.length c) xs):Calls Tryz.prog 220 #[.slice A xs.length c,.int .i64 l] w fun e w'=>e=.returned (.bool (rlB xs l))∧Below w.heap.size w w':=by
 have HV:=aH hv;clear hv;go_enter Tryz.func220,Tryz.ntmps220;go_wp2
 go_step3
 go_wp2
 go_step3
 go_wp2
 go_loopw [5,6,15] (fun t v i wr=>∃k:Nat,t=.bool true∧i=.int .i64 k∧v=.int .i64 (l-xs.length+k)∧k≤xs.length∧(∀j,j<k→okC xs l j=true)∧Below w.heap.size w wr) (fun _ _ i _=>xs.length-(intOf i).toNat)
 case atStart=>exact⟨0,rfl,rfl,num_i (by omega),Nat.zero_le _,fun j hj=>absurd hj (Nat.not_lt_zero j),bR _ _⟩
 case round=>
  obtain⟨k,rfl,rfl,rfl,hk,hok,hbl⟩:=hrel;have HB:=aH hbl;have HO:=aH hok;clear hbl hok;by_cases hlt:k<xs.length
  ·obtain⟨b',off,rfl,hb',hbc,hcell⟩:=ch_cells (HV.out.below HB.out) (by omega);obtain⟨e1,e2,e3⟩:=hcell k hlt;have HP:=aH (show okC xs l k=(decide ((xs.getD k ch0).a=l-xs.length+1+k)&&mayB (xs.getD k ch0).b (xs.getD k ch0).c)from rfl);have hbw:b'<wr.heap.size:=nL hb' HB.out.size;clear hcell;generalize xs.getD k ch0=q at *;obtain⟨a,b,n⟩:=q;dsimp only at *;have HM:=aH (fun w=>may_any b n w);by_cases ha:a=l-xs.length+1+k
   ·cases hm:mayB b n
    ·have HF:=aH (rl_false k hlt (HP.out.trans (by rw[hm,Bool.and_false])));rw[hm]at HM;clear hm HP;go_wp2_with fail;refine(HM.out _).mono ?_;rintro e w2 ⟨rfl,rfl⟩;go_wp2;rw[Exit.noGoto_ret]
     go_ret
     exact⟨by rw[HF.out];rfl,bL HB.out _⟩
    ·have HF:=aH (HP.out.trans (by rw[hm,Bool.and_true,dT ha]));rw[hm]at HM;clear hm HP;go_wp2_with fail;refine(HM.out _).mono ?_;rintro e w2 ⟨rfl,rfl⟩;go_wp2
     go_roundw
     case rel=>exact⟨k+1,rfl,num_i (by omega),num_i (by omega),by omega,fun j hj=>by
      by_cases h:j=k
      ·subst h;exact HF.out
      ·exact HO.out j (by omega),bL HB.out _⟩
     case measure=>simp[intOf];omega
   ·have HF:=aH (rl_false k hlt (HP.out.trans (by rw[dF ha,Bool.false_and])));clear HP;go_wp2_with fail;rw[Exit.noGoto_ret]
    go_ret
    exact⟨by rw[HF.out];rfl,bL HB.out _⟩
  ·obtain rfl:k=xs.length:=(by omega);have HF:=aH (rl_true HO.out);go_wp2;rw[Exit.noGoto_ret]
   go_ret
   exact⟨by rw[HF.out];rfl,HB.out⟩
theorem right_any' (r l:Int) (A:Option Addr) (c:Nat) (xs:List Ch) (w:World) (hv:KC.IsL w w.heap.size (.slice A xs.length c) xs):Calls Tryz.prog 159 #[lgV r l A xs.length c] w fun e w'=>e=.returned (.bool (rgB r l xs))∧Below w.heap.size w w':=by
 have HV:=aH hv;have hl:=hv.2.2;clear hv;by_cases g0:1≤r
 ·by_cases g1:r≤64
  ·by_cases g2:0≤l
   ·by_cases g3:l≤2147483647
    ·by_cases g4:(xs.length:Int)≤r
     ·by_cases g5:(xs.length:Int)≤l
      ·rw[rg_yes (show rgC r l xs.length from⟨g0,g1,g2,g3,g4,g5⟩)];have HL:=aH (fun w h=>rightList_any A c xs l g5 g3 w h);go_enter Tryz.func159,Tryz.ntmps159;go_wp2_with fail;refine(HL.out _ (HV.out.then (bL (bR _ _) _))).mono ?_;rintro e w2 ⟨rfl,hb2⟩;have HB:=aH (Tp.Below.box _ hb2);clear hb2;go_wp2
       go_ret
       exact⟨rfl,HB.out⟩
      ·rw[rg_no (show ¬rgC r l xs.length by unfold rgC;omega)];go_enter Tryz.func159,Tryz.ntmps159;go_wp2
       go_ret
       exact⟨rfl,bL (bR _ _) _⟩
     ·rw[rg_no (show ¬rgC r l xs.length by unfold rgC;omega)];go_enter Tryz.func159,Tryz.ntmps159;go_wp2
      go_ret
      exact⟨rfl,bL (bR _ _) _⟩
    ·rw[rg_no (show ¬rgC r l xs.length by unfold rgC;omega)];go_enter Tryz.func159,Tryz.ntmps159;go_wp2
     go_ret
     exact⟨rfl,bL (bR _ _) _⟩
   ·rw[rg_no (show ¬rgC r l xs.length by unfold rgC;omega)];go_enter Tryz.func159,Tryz.ntmps159;go_wp2
    go_ret
    exact⟨rfl,bL (bR _ _) _⟩
  ·rw[rg_no (show ¬rgC r l xs.length by unfold rgC;omega)];go_enter Tryz.func159,Tryz.ntmps159;go_wp2
   go_ret
   exact⟨rfl,bL (bR _ _) _⟩
 ·rw[rg_no (show ¬rgC r l xs.length by unfold rgC;omega)];go_enter Tryz.func159,Tryz.ntmps159;go_wp2
  go_ret
  exact⟨rfl,bL (bR _ _) _⟩
theorem rlright_any (r l:Int) (A:Option Addr) (c:Nat) (xs:List Ch) (w:World) (hv:KC.IsL w w.heap.size (.slice A xs.length c) xs):Calls Tryz.prog 113 #[lgV r l A xs.length c] w fun e w'=>e=.returned (.bool (rgB r l xs))∧Below w.heap.size w w':=by
 have HV:=aH hv;have hl:=hv.2.2;clear hv;by_cases g0:1≤r
 ·by_cases g1:r≤64
  ·by_cases g2:0≤l
   ·by_cases g3:l≤2147483647
    ·by_cases g4:(xs.length:Int)≤r
     ·by_cases g5:(xs.length:Int)≤l
      ·rw[rg_yes (show rgC r l xs.length from⟨g0,g1,g2,g3,g4,g5⟩)];go_enter Tryz.func113,Tryz.ntmps113;obtain⟨w0,hw0⟩:∃w0,w0=w.alloc (.cells #[.int .i64 r,.int .i64 l,.slice A xs.length c] 115):=⟨_,rfl⟩;have HB0:=aH (show Below w.heap.size w w0 by rw[hw0];exact bL (bR _ _) _);have HC0:=aH (show Cells3 w0 w.heap.size (.int .i64 r) (.int .i64 l) (.slice A xs.length c)by rw[hw0];exact Cells3.new w _ _ _ _);have HF:=aH (show ∀wr,Below w0.heap.size w0 wr→Cells3 wr w.heap.size (.int .i64 r) (.int .i64 l) (.slice A xs.length c)from fun wr hb=>HC0.out.below hb);obtain⟨c1,c2,c3,_⟩:=HC0.out;go_wp2;rw[←hw0];clear hw0 c1 c2 c3
       go_loopw [3] (fun i wr=>∃k:Nat,i=.int .i64 k∧k≤xs.length∧(∀j,j<k→okC xs l j=true)∧Below w0.heap.size w0 wr) (fun i _=>xs.length-(intOf i).toNat)
       case atStart=>exact⟨0,rfl,Nat.zero_le _,fun j hj=>absurd hj (Nat.not_lt_zero j),bR _ _⟩
       case round=>
        obtain⟨k,rfl,hk,hok,hbl⟩:=hrel;have HB:=aH hbl;have HO:=aH hok;obtain⟨c1,c2,c3,_⟩:=HF.out wr hbl;clear hbl hok;by_cases hlt:k<xs.length
        ·obtain⟨b',off,rfl,hb',hbc,hcell⟩:=ch_cells (HV.out.below (bC HB0.out HB.out)) (by omega);obtain⟨e1,e2,e3⟩:=hcell k hlt;have HP:=aH (show okC xs l k=(decide ((xs.getD k ch0).a=l-xs.length+1+k)&&mayB (xs.getD k ch0).b (xs.getD k ch0).c)from rfl);have hbw:b'<wr.heap.size:=nL hb' (Nat.le_trans HB0.out.size HB.out.size);have hbg:w.heap.size<wr.heap.size:=wB wr _ c1;clear hcell;generalize xs.getD k ch0=q at *;obtain⟨a,b,n⟩:=q;dsimp only at *;have HM:=aH (fun w=>rmay_any b n w);by_cases ha:a=l-xs.length+1+k
         ·cases hm:mayB b n
          ·have HF:=aH (rl_false k hlt (HP.out.trans (by rw[hm,Bool.and_false])));rw[hm]at HM;clear hm HP;go_wp2_with fail;refine(HM.out _).mono ?_;rintro e w2 ⟨rfl,rfl⟩;go_wp2
           go_ret
           exact⟨by rw[HF.out];rfl,bL (bC HB0.out HB.out) _⟩
          ·have HF2:=aH (HP.out.trans (by rw[hm,Bool.and_true,dT ha]));rw[hm]at HM;clear hm HP;go_wp2_with fail;refine(HM.out _).mono ?_;rintro e w2 ⟨rfl,rfl⟩;go_wp2
           go_roundw
           case rel=>exact⟨k+1,num_i (by omega),by omega,fun j hj=>by
            by_cases h:j=k
            ·subst h;exact HF2.out
            ·exact HO.out j (by omega),bL HB.out _⟩
           case measure=>simp[intOf];omega
         ·have HF:=aH (rl_false k hlt (HP.out.trans (by rw[dF ha,Bool.false_and])));clear HP;go_wp2_with fail
          go_ret
          exact⟨by rw[HF.out];rfl,bL (bC HB0.out HB.out) _⟩
        ·obtain rfl:k=xs.length:=(by omega);have HF:=aH (rl_true HO.out);go_wp2
         go_ret
         exact⟨by rw[HF.out];rfl,bC HB0.out HB.out⟩
      ·rw[rg_no (show ¬rgC r l xs.length by unfold rgC;omega)];go_enter Tryz.func113,Tryz.ntmps113;go_wp2
       go_ret
       exact⟨rfl,bL (bR _ _) _⟩
     ·rw[rg_no (show ¬rgC r l xs.length by unfold rgC;omega)];go_enter Tryz.func113,Tryz.ntmps113;go_wp2
      go_ret
      exact⟨rfl,bL (bR _ _) _⟩
    ·rw[rg_no (show ¬rgC r l xs.length by unfold rgC;omega)];go_enter Tryz.func113,Tryz.ntmps113;go_wp2
     go_ret
     exact⟨rfl,bL (bR _ _) _⟩
   ·rw[rg_no (show ¬rgC r l xs.length by unfold rgC;omega)];go_enter Tryz.func113,Tryz.ntmps113;go_wp2
    go_ret
    exact⟨rfl,bL (bR _ _) _⟩
  ·rw[rg_no (show ¬rgC r l xs.length by unfold rgC;omega)];go_enter Tryz.func113,Tryz.ntmps113;go_wp2
   go_ret
   exact⟨rfl,bL (bR _ _) _⟩
 ·rw[rg_no (show ¬rgC r l xs.length by unfold rgC;omega)];go_enter Tryz.func113,Tryz.ntmps113;go_wp2
  go_ret
  exact⟨rfl,bL (bR _ _) _⟩
end Go.Proofs.YtmecohdedghiaaaGreatDoor.Lg
namespace Go.Proofs.YtmecohdedghiaaaGreatDoor.Lk
open Go.RowKit
variable {P:Program} {α:Type} {K:Lk P α}
theorem IsL.part {w:World} {B b off c:Nat} {xs:List α} (h:K.IsL w B (.slice (some ⟨b,off,none⟩) xs.length c) xs) (m:Nat) (hm:m<xs.length) (n' c':Nat) (hn:n'=xs.length-m) (hc:n'≤c') (o':Nat) (ho:o'=off+m*K.n):K.IsL w B (.slice (some ⟨b,o',none⟩) n' c') (xs.drop m):=by
 subst hn;subst ho;have hlen:=h.2.2;obtain⟨b2,off2,e,hb,_,hcell⟩:=h.elem (by omega);simp only[Option.some.injEq,Addr.mk.injEq,and_true]at e;obtain⟨rfl,rfl⟩:=e;refine⟨⟨_,c',by rw[List.length_drop],by rw[List.length_drop];exact hc,fun _=>⟨_,_,rfl,hb,fun i hi j u hu=>?_⟩⟩,fun x hx=>h.2.1 x (List.mem_of_mem_drop hx),by rw[List.length_drop];omega⟩;rw[List.length_drop]at hi;have q:=hcell (m+i) (by omega) j u (by
  rw[←hu]
  congr 2
  simp[List.getD_eq_getElem?_getD])
 rw[show off+m*K.n+(i*K.n+j)=off+((m+i)*K.n+j)by rw[Nat.add_mul];omega];exact q
end Go.Proofs.YtmecohdedghiaaaGreatDoor.Lk
namespace Go.Proofs.YtmecohdedghiaaaGreatDoor.Lg
open Go.RowKit
theorem _root_.Go.Proofs.YtmecohdedghiaaaGreatDoor.Cells3.s0 {V:World} {D:Nat} {x0 x1 x2:Value} (h:Cells3 V D x0 x1 x2) (p:Value):Cells3 (V.setCell ⟨D,0,none⟩ p) D p x1 x2:=by
 obtain⟨h0,h1,h2,z0,z1,z2,hs⟩:=h;exact⟨st_same h0,sO h1 (aN (.inr (by decide))),sO h2 (aN (.inr (by decide))),sF z0,sF z1,sF z2,by simpa using hs⟩
theorem _root_.Go.Proofs.YtmecohdedghiaaaGreatDoor.Cells3.s1 {V:World} {D:Nat} {x0 x1 x2:Value} (h:Cells3 V D x0 x1 x2) (p:Value):Cells3 (V.setCell ⟨D,1,none⟩ p) D x0 p x2:=by
 obtain⟨h0,h1,h2,z0,z1,z2,hs⟩:=h;exact⟨sO h0 (aN (.inr (by decide))),st_same h1,sO h2 (aN (.inr (by decide))),sF z0,sF z1,sF z2,by simpa using hs⟩
theorem _root_.Go.Proofs.YtmecohdedghiaaaGreatDoor.Cells3.s2 {V:World} {D:Nat} {x0 x1 x2:Value} (h:Cells3 V D x0 x1 x2) (p:Value):Cells3 (V.setCell ⟨D,2,none⟩ p) D x0 x1 p:=by
 obtain⟨h0,h1,h2,z0,z1,z2,hs⟩:=h;exact⟨sO h0 (aN (.inr (by decide))),sO h1 (aN (.inr (by decide))),st_same h2,sF z0,sF z1,sF z2,by simpa using hs⟩
theorem _root_.Go.Proofs.YtmecohdedghiaaaGreatDoor.Cells3.off {V:World} {D G o:Nat} {x0 x1 x2:Value} (h:Cells3 V G x0 x1 x2) (hne:D≠G) (p:Value):Cells3 (V.setCell ⟨D,o,none⟩ p) G x0 x1 x2:=by
 obtain⟨h0,h1,h2,z0,z1,z2,hs⟩:=h;exact⟨sO h0 (aN (.inl hne)),sO h1 (aN (.inl hne)),sO h2 (aN (.inl hne)),sF z0,sF z1,sF z2,by simpa using hs⟩
def newE (r:Int):Int:=if 1≤r∧r≤64 then 0 else 110
def newR (r:Int):Int:=if 1≤r∧r≤64 then r else 0
theorem new_any (r:Int) (w:World):Calls Tryz.prog 96 #[.int .i64 r] w fun e w'=>e=.returned (.tuple #[lgV (newR r) 0 none 0 0,.int .i64 (newE r)])∧Below w.heap.size w w':=by
 have HR:=aH (fun w=>right_any' r 0 none 0 [] w (Lk.IsL.nil _ _ _ _));have hq:rgB r 0 []=decide (1≤r∧r≤64):=by
  unfold rgB rgC;rw[show rlB [] 0=true from rfl,Bool.and_true];exact decide_eq_decide.2 (by simp only[List.length_nil];omega)
 rw[hq]at HR;clear hq;unfold newR newE;have HB:=aH (show Below w.heap.size w ((w.alloc (.cells #[.int .i64 0,.int .i64 0,.slice none 0 0] 115)).alloc (.cells #[.int .i64 r,.int .i64 0,.slice none 0 0] 115))from bL (bL (bR _ _) _) _);have HA:=aH (Cells3.new w 115 (.int .i64 0) (.int .i64 0) (.slice none 0 0));have HA2:=aH (HA.out.below (bL (bR _ _) (.cells #[.int .i64 r,.int .i64 0,.slice none 0 0] 115)));have HC:=aH (Cells3.new (w.alloc (.cells #[.int .i64 0,.int .i64 0,.slice none 0 0] 115)) 115 (.int .i64 r) (.int .i64 0) (.slice none 0 0));rw[show(w.alloc (.cells #[.int .i64 0,.int .i64 0,.slice none 0 0] 115)).heap.size=w.heap.size+1 by simp]at HC;by_cases h:1≤r∧r≤64
 ·rw[if_pos h,if_pos h];rw[dT h]at HR;clear h;go_enter Tryz.func96,Tryz.ntmps96;go_wp2_with fail;obtain⟨W,hW⟩:∃W,W=((w.alloc (.cells #[.int .i64 0,.int .i64 0,.slice none 0 0] 115)).alloc (.cells #[.int .i64 r,.int .i64 0,.slice none 0 0] 115)):=⟨_,rfl⟩;rw[←hW]at HB HA2 HC;rw[←hW];clear hW;refine(HR.out _).mono ?_;rintro e w2 ⟨rfl,hb2⟩;have HA3:=aH (HA2.out.below hb2);have HC3:=aH (HC.out.below hb2);have HB3:=aH (bC HB.out hb2);clear hb2;have q:=HA3.out.set (.int .i64 r) (.int .i64 0) (.slice none 0 0);obtain⟨q0,q1,q2,_⟩:=q;obtain⟨a0,a1,a2,y0,y1,y2,_⟩:=HA3.out;obtain⟨d0,d1,d2,_⟩:=HC3.out;go_wp2;refine bP (v:=.tuple #[lgV r 0 none 0 0,.int .i64 0]) (by simp[results,Tryz.results96,go_sem,q0,q1,q2]) rfl ⟨rfl,?_⟩;exact below_set3 HB3.out (nR _) _ _ _
 ·rw[if_neg h,if_neg h];rw[dF h]at HR;clear h;go_enter Tryz.func96,Tryz.ntmps96;go_wp2_with fail;obtain⟨W,hW⟩:∃W,W=((w.alloc (.cells #[.int .i64 0,.int .i64 0,.slice none 0 0] 115)).alloc (.cells #[.int .i64 r,.int .i64 0,.slice none 0 0] 115)):=⟨_,rfl⟩;rw[←hW]at HB HA2;rw[←hW];clear hW;refine(HR.out _).mono ?_;rintro e w2 ⟨rfl,hb2⟩;have HA3:=aH (HA2.out.below hb2);have HB3:=aH (bC HB.out hb2);clear hb2;have q:=HA3.out.set (.int .i64 0) (.int .i64 0) (.slice none 0 0);obtain⟨q0,q1,q2,_⟩:=q;obtain⟨a0,a1,a2,y0,y1,y2,_⟩:=HA3.out;go_wp2;refine bP (v:=.tuple #[lgV 0 0 none 0 0,.int .i64 110]) (by simp[results,Tryz.results96,go_sem,q0,q1,q2]) rfl ⟨rfl,?_⟩;exact below_set3 HB3.out (nR _) _ _ _
theorem _root_.Go.Proofs.YtmecohdedghiaaaGreatDoor.Lk.Own.set {P:Program} {α:Type} {K:Lk P α} {w:World} {base:Nat} {v:Value} {xs:List α} (h:K.Own w base v xs) {a:Addr} (ha:a.block<base) (u:Value):K.Own (w.setCell a u) base v xs:=⟨ownsRow_setCell_below h.1 ha u,h.2⟩
theorem sameList_any (A A2:Option Addr) (c c2:Nat) (xs:List Ch) (w:World) (hv:KC.IsL w w.heap.size (.slice A xs.length c) xs) (hu:KC.IsL w w.heap.size (.slice A2 xs.length c2) xs):Calls Tryz.prog 75 #[.slice A xs.length c,.slice A2 xs.length c2] w fun e w'=>e=.returned (.bool true)∧Below w.heap.size w w':=by
 have HV:=aH hv;have HU:=aH hu;have hl:=hv.2.2;clear hv hu;go_enter Tryz.func75,Tryz.ntmps75;go_wp2
 go_loopw [5] (fun i wr=>∃k:Nat,i=.int .i64 k∧k≤xs.length∧Below w.heap.size w wr) (fun i _=>xs.length-(intOf i).toNat)
 case atStart=>exact⟨0,rfl,Nat.zero_le _,bR _ _⟩
 case round=>
  obtain⟨k,rfl,hk,hbl⟩:=hrel;have HB:=aH hbl;clear hbl;by_cases hlt:k<xs.length
  ·obtain⟨b1,o1,rfl,hb1,hc1,hcell1⟩:=ch_cells (HV.out.below HB.out) (by omega);obtain⟨b2,o2,rfl,hb2,hc2,hcell2⟩:=ch_cells (HU.out.below HB.out) (by omega);obtain⟨e1,e2,e3⟩:=hcell1 k hlt;obtain⟨f1,f2,f3⟩:=hcell2 k hlt;clear hcell1 hcell2;generalize xs.getD k ch0=q at *;obtain⟨a,b,n⟩:=q;dsimp only at *;go_wp2_with fail;go_quiet (fail);go_wp2
   go_roundw
   case rel=>exact⟨k+1,num_i (by omega),by omega,below_drewN HB.out _⟩
   case measure=>simp[intOf];omega
  ·obtain rfl:k=xs.length:=(by omega);go_wp2
   go_ret
   exact⟨rfl,HB.out⟩
theorem same_any (r l:Int) (A A2:Option Addr) (c c2:Nat) (xs:List Ch) (w:World) (hv:KC.IsL w w.heap.size (.slice A xs.length c) xs) (hu:KC.IsL w w.heap.size (.slice A2 xs.length c2) xs):Calls Tryz.prog 105 #[lgV r l A xs.length c,lgV r l A2 xs.length c2] w fun e w'=>e=.returned (.bool true)∧Below w.heap.size w w':=by
 have HL:=aH (fun w h1 h2=>sameList_any A A2 c c2 xs w h1 h2);have HB:=aH (show Below w.heap.size w ((w.alloc (.cells #[.int .i64 r,.int .i64 l,.slice A xs.length c] 115)).alloc (.cells #[.int .i64 r,.int .i64 l,.slice A2 xs.length c2] 115))from bL (bL (bR _ _) _) _);have HV:=aH (hv.then HB.out);have HU:=aH (hu.then HB.out);clear hv hu;go_enter Tryz.func105,Tryz.ntmps105;go_wp2_with fail;refine(HL.out _ HV.out HU.out).mono ?_;rintro e w2 ⟨rfl,hb2⟩;have HB2:=aH (bC HB.out hb2);clear hb2;go_wp2
 go_ret
 exact⟨rfl,HB2.out⟩
theorem _root_.Go.Proofs.YtmecohdedghiaaaGreatDoor.Cells3.grown {V V':World} {D:Nat} {row:Option Nat} {x0 x1 x2:Value} (h:Cells3 V D x0 x1 x2) (hg:V.grownBy V' row) (hne:some D≠row):Cells3 V' D x0 x1 x2:=by
 obtain⟨h0,h1,h2,z0,z1,z2,hs⟩:=h;exact⟨(hg.cell_far ⟨D,0,none⟩ hs hne).trans h0,(hg.cell_far ⟨D,1,none⟩ hs hne).trans h1,(hg.cell_far ⟨D,2,none⟩ hs hne).trans h2,(hg.frozen_far ⟨D,0,none⟩ hs hne).trans z0,(hg.frozen_far ⟨D,1,none⟩ hs hne).trans z1,(hg.frozen_far ⟨D,2,none⟩ hs hne).trans z2,nL hs hg.size⟩
theorem _root_.Go.Proofs.YtmecohdedghiaaaGreatDoor.Lk.Own.far {P:Program} {α:Type} {K:Lk P α} {w:World} {base:Nat} {v:Value} {xs:List α} (h:K.Own w base v xs) {D:Nat} (hne:∀k,v.ownBlock=some k→k≠D) (o:Nat) (u:Value):K.Own (w.setCell ⟨D,o,none⟩ u) base v xs:=by
 obtain⟨⟨h1,h2⟩,hf⟩:=h;refine⟨⟨h1,?_⟩,hf⟩;rcases h2 with h2|⟨g,cap,cur,rfl,hg,hh,r⟩
 ·exact Or.inl h2
 ·exact Or.inr ⟨g,cap,cur,rfl,hg,by rw[Below.heap_setCell _ _ _ _ (hne g rfl)];exact hh,r⟩
end Go.Proofs.YtmecohdedghiaaaGreatDoor.Lg
namespace Go.Proofs.YtmecohdedghiaaaGreatDoor
open Go.RowKit
theorem Lk.wp_made {P:Program} {α:Type} {K:Lk P α} {o:Oper} {a:Act} {R:Act→World→Prop} {Q:Exit→Act→World→Prop} (w:World) (l c:Operand) {T:TypeId} (hT:T=K.S) (ho:o.op=.makeSlice T l c) (kl kc:IntKind) (n m:Nat) (L M:Int)
  (hl:a.eval l=.int kl L) (hc:a.eval c=.int kc M) (hL:L=(n:Int)) (hM:M=(m:Int)) (hnm:n=m∨n=0) (z0:α) (hz:K.zero.cells.toList=K.cells z0) (hok:K.ok z0) (hm:m≤100000)
  (hk:∀w',K.Own w' w.heap.size (.slice (some ⟨w.heap.size,0,none⟩) n m) (List.replicate n z0)→Below w.heap.size w w'→w.heap.size<w'.heap.size→R (a.put o.dst (.slice (some ⟨w.heap.size,0,none⟩) n m)) w'):o.wp P a w R Q:=by
 subst hT;subst hL;subst hM;obtain⟨i0,hi,hz0,hz1,hz2⟩:=info_parts K.info;have hsm:=K.small;have hbm:i0.bytes*m≤281474976710656:=by
  have:=Nat.mul_le_mul (show i0.bytes≤100000 by omega) hm;omega
 have hb':(i0.bytes:Int)*(m:Int)≤281474976710656:=by
  have h:((i0.bytes*m:Nat):Int)≤281474976710656:=by omega
  rwa [Int.natCast_mul]at h
 have hr:=run_make (P:=P) w K.S K.E i0 K.zero K.und hi hz0 kl kc (n:Int) (m:Int) (by omega) (by omega) hb' (by omega);simp only[Int.toNat_natCast]at hr;have e:=Lk.flat_made K z0 hz;have hw:K.Own (w.alloc (.cells (madeCells K.zero.cells (m*i0.size)) K.E)) w.heap.size (.slice (some ⟨w.heap.size,0,none⟩) n m) (List.replicate n z0):=by
  refine⟨?_,fun x hx=>by rw[(List.mem_replicate.1 hx).2];exact hok⟩;rw[List.length_replicate,hz1];rcases hnm with rfl|rfl
  ·rw[←e];exact World.ownsRow_lit w _ n (nR _) (by unfold maxLen;omega) (size_madeCells _ _)
  ·exact World.ownsRow_made w _ m (nR _) (by unfold maxLen;omega) (size_madeCells _ _)
 unfold Oper.wp;simp[execOp,ho,hl,hc,hr,Result.andThen];exact hk _ hw (bL (bR _ _) _) (by simp)
theorem Lk.Own.far6 {P:Program} {α:Type} {K:Lk P α} {w:World} {base:Nat} {v:Value} {xs:List α} (h:K.Own w base v xs) {D:Nat} (hne:∀k,v.ownBlock=some k→k≠D) (p0 p1 p2 p3 p4 p5:Value):K.Own ((((((w.setCell ⟨D,0,none⟩ p0).setCell ⟨D,1,none⟩ p1).setCell ⟨D,2,none⟩ p2).setCell ⟨D,3,none⟩ p3).setCell ⟨D,4,none⟩ p4).setCell ⟨D,5,none⟩ p5) base v xs:=((((((h.far hne 0 p0).far hne 1 p1).far hne 2 p2).far hne 3 p3).far hne 4 p4).far hne 5 p5)
theorem Cells6.grown {V V':World} {D:Nat} {row:Option Nat} {x0 x1 x2 x3 x4 x5:Value} (h:Cells6 V D x0 x1 x2 x3 x4 x5) (hg:V.grownBy V' row) (hne:some D≠row):Cells6 V' D x0 x1 x2 x3 x4 x5:=by
 obtain⟨h0,h1,h2,h3,h4,h5,z0,z1,z2,z3,z4,z5,hs⟩:=h;exact⟨(hg.cell_far ⟨D,0,none⟩ hs hne).trans h0,(hg.cell_far ⟨D,1,none⟩ hs hne).trans h1,(hg.cell_far ⟨D,2,none⟩ hs hne).trans h2,(hg.cell_far ⟨D,3,none⟩ hs hne).trans h3,(hg.cell_far ⟨D,4,none⟩ hs hne).trans h4,(hg.cell_far ⟨D,5,none⟩ hs hne).trans h5,
  (hg.frozen_far ⟨D,0,none⟩ hs hne).trans z0,(hg.frozen_far ⟨D,1,none⟩ hs hne).trans z1,(hg.frozen_far ⟨D,2,none⟩ hs hne).trans z2,(hg.frozen_far ⟨D,3,none⟩ hs hne).trans z3,(hg.frozen_far ⟨D,4,none⟩ hs hne).trans z4,(hg.frozen_far ⟨D,5,none⟩ hs hne).trans z5,nL hs hg.size⟩
theorem Cells6.apart2 {V:World} {D G:Nat} {x0 x1 x2 x3 x4 x5:Value} (h:Cells6 V G x0 x1 x2 x3 x4 x5) (hne:D≠G) (o0 o1:Nat) (p0 p1:Value):Cells6 ((V.setCell ⟨D,o0,none⟩ p0).setCell ⟨D,o1,none⟩ p1) G x0 x1 x2 x3 x4 x5:=((h.off hne p0).off hne p1)
theorem Cells4.apart2 {V:World} {D G:Nat} {x0 x1 x2 x3:Value} (h:Cells4 V G x0 x1 x2 x3) (hne:D≠G) (o0 o1:Nat) (p0 p1:Value):Cells4 ((V.setCell ⟨D,o0,none⟩ p0).setCell ⟨D,o1,none⟩ p1) G x0 x1 x2 x3:=((h.off hne p0).off hne p1)
theorem Lk.Own.far2o {P:Program} {α:Type} {K:Lk P α} {w:World} {base:Nat} {v:Value} {xs:List α} (h:K.Own w base v xs) {D:Nat} (hne:∀k,v.ownBlock=some k→k≠D) (o0 o1:Nat) (p0 p1:Value):K.Own ((w.setCell ⟨D,o0,none⟩ p0).setCell ⟨D,o1,none⟩ p1) base v xs:=((h.far hne o0 p0).far hne o1 p1)
theorem Cells6.apart3 {V:World} {D G:Nat} {x0 x1 x2 x3 x4 x5:Value} (h:Cells6 V G x0 x1 x2 x3 x4 x5) (hne:D≠G) (o0 o1 o2:Nat) (p0 p1 p2:Value):Cells6 (((V.setCell ⟨D,o0,none⟩ p0).setCell ⟨D,o1,none⟩ p1).setCell ⟨D,o2,none⟩ p2) G x0 x1 x2 x3 x4 x5:=(((h.off hne p0).off hne p1).off hne p2)
theorem Cells4.apart3 {V:World} {D G:Nat} {x0 x1 x2 x3:Value} (h:Cells4 V G x0 x1 x2 x3) (hne:D≠G) (o0 o1 o2:Nat) (p0 p1 p2:Value):Cells4 (((V.setCell ⟨D,o0,none⟩ p0).setCell ⟨D,o1,none⟩ p1).setCell ⟨D,o2,none⟩ p2) G x0 x1 x2 x3:=(((h.off hne p0).off hne p1).off hne p2)
theorem Lk.Own.far3o {P:Program} {α:Type} {K:Lk P α} {w:World} {base:Nat} {v:Value} {xs:List α} (h:K.Own w base v xs) {D:Nat} (hne:∀k,v.ownBlock=some k→k≠D) (o0 o1 o2:Nat) (p0 p1 p2:Value):K.Own (((w.setCell ⟨D,o0,none⟩ p0).setCell ⟨D,o1,none⟩ p1).setCell ⟨D,o2,none⟩ p2) base v xs:=(((h.far hne o0 p0).far hne o1 p1).far hne o2 p2)
theorem Lk.Own.set6 {P:Program} {α:Type} {K:Lk P α} {w:World} {base:Nat} {v:Value} {xs:List α} (h:K.Own w base v xs) {D:Nat} (hD:D<base) (p0 p1 p2 p3 p4 p5:Value):K.Own ((((((w.setCell ⟨D,0,none⟩ p0).setCell ⟨D,1,none⟩ p1).setCell ⟨D,2,none⟩ p2).setCell ⟨D,3,none⟩ p3).setCell ⟨D,4,none⟩ p4).setCell ⟨D,5,none⟩ p5) base v xs:=((((((h.set (a:=⟨D,0,none⟩) hD p0).set (a:=⟨D,1,none⟩) hD p1).set (a:=⟨D,2,none⟩) hD p2).set (a:=⟨D,3,none⟩) hD p3).set (a:=⟨D,4,none⟩) hD p4).set (a:=⟨D,5,none⟩) hD p5)
theorem Cells4.low {V V':World} {B D:Nat} {x0 x1 x2 x3:Value} (h:Cells4 V D x0 x1 x2 x3) (hb:Below B V V') (hD:D<B):Cells4 V' D x0 x1 x2 x3:=by
 obtain⟨h0,h1,h2,h3,z0,z1,z2,z3,hs⟩:=h;exact⟨(hb.cell (p:=⟨D,0,none⟩) hD).trans h0,(hb.cell (p:=⟨D,1,none⟩) hD).trans h1,(hb.cell (p:=⟨D,2,none⟩) hD).trans h2,(hb.cell (p:=⟨D,3,none⟩) hD).trans h3,(hb.frozen (p:=⟨D,0,none⟩) hD).trans z0,(hb.frozen (p:=⟨D,1,none⟩) hD).trans z1,(hb.frozen (p:=⟨D,2,none⟩) hD).trans z2,(hb.frozen (p:=⟨D,3,none⟩) hD).trans z3,nL hs hb.size⟩
theorem Cells6.low {V V':World} {B D:Nat} {x0 x1 x2 x3 x4 x5:Value} (h:Cells6 V D x0 x1 x2 x3 x4 x5) (hb:Below B V V') (hD:D<B):Cells6 V' D x0 x1 x2 x3 x4 x5:=by
 obtain⟨h0,h1,h2,h3,h4,h5,z0,z1,z2,z3,z4,z5,hs⟩:=h;exact⟨(hb.cell (p:=⟨D,0,none⟩) hD).trans h0,(hb.cell (p:=⟨D,1,none⟩) hD).trans h1,(hb.cell (p:=⟨D,2,none⟩) hD).trans h2,(hb.cell (p:=⟨D,3,none⟩) hD).trans h3,(hb.cell (p:=⟨D,4,none⟩) hD).trans h4,(hb.cell (p:=⟨D,5,none⟩) hD).trans h5,(hb.frozen (p:=⟨D,0,none⟩) hD).trans z0,(hb.frozen (p:=⟨D,1,none⟩) hD).trans z1,(hb.frozen (p:=⟨D,2,none⟩) hD).trans z2,(hb.frozen (p:=⟨D,3,none⟩) hD).trans z3,(hb.frozen (p:=⟨D,4,none⟩) hD).trans z4,(hb.frozen (p:=⟨D,5,none⟩) hD).trans z5,nL hs hb.size⟩
def PlAt (V:World) (P:Nat) (r c cap:Int) (sv:Value):Prop:=V.cell? ⟨P,0,none⟩=some (.int .i64 r)∧V.cell? ⟨P,1,none⟩=some (.int .i64 c)∧V.cell? ⟨P,5,none⟩=some (.int .i64 cap)∧V.cell? ⟨P,6,none⟩=some sv∧P<V.heap.size
theorem PlAt.below {V V':World} {P:Nat} {r c cap:Int} {sv:Value} (h:PlAt V P r c cap sv) (hb:Below V.heap.size V V'):PlAt V' P r c cap sv:=⟨kK hb h.1,kK hb h.2.1,kK hb h.2.2.1,kK hb h.2.2.2.1,nL h.2.2.2.2 hb.size⟩
theorem PlAt.grown {V V':World} {P:Nat} {r c cap:Int} {sv:Value} {row:Option Nat} (h:PlAt V P r c cap sv) (hg:V.grownBy V' row) (hne:some P≠row):PlAt V' P r c cap sv:=
 ⟨(hg.cell_far ⟨P,0,none⟩ h.2.2.2.2 hne).trans h.1,(hg.cell_far ⟨P,1,none⟩ h.2.2.2.2 hne).trans h.2.1,(hg.cell_far ⟨P,5,none⟩ h.2.2.2.2 hne).trans h.2.2.1,(hg.cell_far ⟨P,6,none⟩ h.2.2.2.2 hne).trans h.2.2.2.1,nL h.2.2.2.2 hg.size⟩
theorem PlAt.off {V:World} {P D o:Nat} {r c cap:Int} {sv:Value} (h:PlAt V P r c cap sv) (hne:D≠P) (v:Value):PlAt (V.setCell ⟨D,o,none⟩ v) P r c cap sv:=
 ⟨sO h.1 (aN (.inl hne)),sO h.2.1 (aN (.inl hne)),sO h.2.2.1 (aN (.inl hne)),sO h.2.2.2.1 (aN (.inl hne)),by simpa using h.2.2.2.2⟩
end Go.Proofs.YtmecohdedghiaaaGreatDoor
