/- Zero elements, made by an operation of a region; own rows beside an own block that is written. -/
import Derived.Test.YtmecohdedghiaaaGreatDoorPo00
import Derived.Test.YtmecohdedghiaaaGreatDoorPo13
set_option maxRecDepth 100000
set_option maxHeartbeats 8000000
open Go.Proofs.Tryz
namespace Go.Proofs.YtmecohdedghiaaaGreatDoor.Lg
open Go.RowKit
abbrev jl (r l:Int) (A:Option Addr) (n c:Nat):Value:=.agg #[.int .i64 r,.int .i64 l,.slice A n c]
def cY (b n:Int):Bool:=decide (1≤b∧b≤8∧ -1099511627776≤n∧n≤1099511627776∧n≠0)
def yZ (xs:List Ch) (l:Int) (i:Nat):Bool:=decide ((xs.getD i mS).a=l-xs.length+1+i)&&cY (xs.getD i mS).b (xs.getD i mS).c
def wV (xs:List Ch) (l:Int):Bool:=(List.range xs.length).all (yZ xs l)
theorem fe {xs:List Ch} {l:Int} (k:Nat) (hk:k<xs.length) (h:yZ xs l k=false):wV xs l=false:=by
 unfold wV;rw[List.all_eq_false];exact⟨k,List.mem_range.2 hk,by simp[h]⟩
theorem pM {xs:List Ch} {l:Int} (h:∀k,k<xs.length→yZ xs l k=true):wV xs l=true:=by
 unfold wV;rw[List.all_eq_true];exact fun k hk=>h k (List.mem_range.1 hk)
def rgC (r l:Int) (n:Nat):Prop:=1≤r∧r≤64∧0≤l∧l≤2147483647∧(n:Int)≤r∧(n:Int)≤l
instance (r l:Int) (n:Nat):Decidable (rgC r l n):=inferInstanceAs (Decidable (_∧_))
def rgB (r l:Int) (xs:List Ch):Bool:=decide (rgC r l xs.length)&&wV xs l
theorem rg_parts {r l:Int} {xs:List Ch} (h:rgB r l xs=true):rgC r l xs.length∧wV xs l=true:=by
 unfold rgB at h;rw[Bool.and_eq_true,decide_eq_true_eq]at h;exact h
theorem dS {r l:Int} {xs:List Ch} (h:¬rgC r l xs.length):rgB r l xs=false:=by
 unfold rgB;rw[dF h];rfl
theorem ul {r l:Int} {xs:List Ch} (h:rgC r l xs.length):rgB r l xs=wV xs l:=by
 unfold rgB;rw[dT h];rfl
theorem e8 (b n:Int) (w:World):Calls prog 249 #[.int .i64 b,.int .i64 n] w fun e w'=>e=.returned (.bool (cY b n))∧w=w':=by
 by_cases h0:1≤b
 ·skip
  by_cases h1:b≤8
  ·skip
   by_cases h2: -1099511627776≤n
   ·skip
    by_cases h3:n≤1099511627776
    ·skip
     by_cases h4:n≠0
     ·rw[show cY b n=true from dT (by omega)];go_enter func249,ntmps249;go_wp2
      go_ret
      exact⟨by first|rfl|exact aj (bne_iff_ne.2 (by assumption))|exact aj (by rw[bne_eq_false_iff_eq];omega),rfl⟩
     ·rw[show cY b n=false from dF (by omega)];go_enter func249,ntmps249;go_wp2
      go_ret
      exact⟨by first|rfl|exact aj (bne_iff_ne.2 (by assumption))|exact aj (by rw[bne_eq_false_iff_eq];omega),rfl⟩
    ·rw[show cY b n=false from dF (by omega)];go_enter func249,ntmps249;go_wp2
     go_ret
     exact⟨by first|rfl|exact aj (bne_iff_ne.2 (by assumption))|exact aj (by rw[bne_eq_false_iff_eq];omega),rfl⟩
   ·rw[show cY b n=false from dF (by omega)];go_enter func249,ntmps249;go_wp2
    go_ret
    exact⟨by first|rfl|exact aj (bne_iff_ne.2 (by assumption))|exact aj (by rw[bne_eq_false_iff_eq];omega),rfl⟩
  ·rw[show cY b n=false from dF (by omega)];go_enter func249,ntmps249;go_wp2
   go_ret
   exact⟨by first|rfl|exact aj (bne_iff_ne.2 (by assumption))|exact aj (by rw[bne_eq_false_iff_eq];omega),rfl⟩
 ·rw[show cY b n=false from dF (by omega)];go_enter func249,ntmps249;go_wp2
  go_ret
  exact⟨by first|rfl|exact aj (bne_iff_ne.2 (by assumption))|exact aj (by rw[bne_eq_false_iff_eq];omega),rfl⟩
theorem sQ (b n:Int) (w:World):Calls prog 168 #[.int .i64 b,.int .i64 n] w fun e w'=>e=.returned (.bool (cY b n))∧w=w':=by
 by_cases h0:1≤b
 ·skip
  by_cases h1:b≤8
  ·skip
   by_cases h2:n≠0
   ·skip
    by_cases h3: -1099511627776≤n
    ·skip
     by_cases h4:n≤1099511627776
     ·rw[show cY b n=true from dT (by omega)];go_enter func168,ntmps168;go_wp2
      go_ret
      exact⟨by first|rfl|exact aj (bne_iff_ne.2 (by assumption))|exact aj (by rw[bne_eq_false_iff_eq];omega),rfl⟩
     ·rw[show cY b n=false from dF (by omega)];go_enter func168,ntmps168;go_wp2
      go_ret
      exact⟨by first|rfl|exact aj (bne_iff_ne.2 (by assumption))|exact aj (by rw[bne_eq_false_iff_eq];omega),rfl⟩
    ·rw[show cY b n=false from dF (by omega)];go_enter func168,ntmps168;go_wp2
     go_ret
     exact⟨by first|rfl|exact aj (bne_iff_ne.2 (by assumption))|exact aj (by rw[bne_eq_false_iff_eq];omega),rfl⟩
   ·rw[show cY b n=false from dF (by omega)];go_enter func168,ntmps168;go_wp2
    go_ret
    exact⟨by first|rfl|exact aj (bne_iff_ne.2 (by assumption))|exact aj (by rw[bne_eq_false_iff_eq];omega),rfl⟩
  ·rw[show cY b n=false from dF (by omega)];go_enter func168,ntmps168;go_wp2
   go_ret
   exact⟨by first|rfl|exact aj (bne_iff_ne.2 (by assumption))|exact aj (by rw[bne_eq_false_iff_eq];omega),rfl⟩
 ·rw[show cY b n=false from dF (by omega)];go_enter func168,ntmps168;go_wp2
  go_ret
  exact⟨by first|rfl|exact aj (bne_iff_ne.2 (by assumption))|exact aj (by rw[bne_eq_false_iff_eq];omega),rfl⟩
theorem jm (A:Option Addr) (c:Nat) (xs:List Ch) (l:Int) (h0:(xs.length:Int)≤l) (h1:l≤2147483647) (w:World) (hv:KC.IsL w w.heap.size (.slice A xs.length c) xs):Calls prog 220 #[.slice A xs.length c,.int .i64 l] w fun e w'=>e=.returned (.bool (wV xs l))∧Below w.heap.size w w':=by
 have HV:=aH hv;clear hv;go_enter func220,ntmps220;go_wp2
 go_step3
 go_wp2
 go_step3
 go_wp2
 go_loopw [5,6,15] (fun t v i wr=>∃k:Nat,t=.bool true∧i=.int .i64 k∧v=.int .i64 (l-xs.length+k)∧k≤xs.length∧(∀j,j<k→yZ xs l j=true)∧Below w.heap.size w wr) (fun _ _ i _=>xs.length-(intOf i).toNat)
 case atStart=>exact⟨0,rfl,rfl,ai (by omega),Nat.zero_le _,fun j hj=>absurd hj (Nat.not_lt_zero j),bR _ _⟩
 case round=>
  obtain⟨k,rfl,rfl,rfl,hk,Dj,CP⟩:=hrel;have HB:=aH CP;have HO:=aH Dj;clear CP Dj;by_cases CI:k<xs.length
  ·obtain⟨b',off,rfl,Gw,hbc,CD⟩:=fy (HV.out.below HB.out) (by omega);obtain⟨e1,e2,e3⟩:=CD k CI;have HP:=aH (show yZ xs l k=(decide ((xs.getD k mS).a=l-xs.length+1+k)&&cY (xs.getD k mS).b (xs.getD k mS).c)from rfl);have Jm:b'<wr.heap.size:=nL Gw HB.out.size;clear CD;generalize xs.getD k mS=q at *;obtain⟨a,b,n⟩:=q;dsimp only at *;have HM:=aH (fun w=>e8 b n w);by_cases ha:a=l-xs.length+1+k
   ·cases hm:cY b n
    ·have HF:=aH (fe k CI (HP.out.trans (by rw[hm,Bool.and_false])));rw[hm]at HM;clear hm HP;go_wp2_with fail;refine(HM.out _).mono ?_;rintro e w2 ⟨rfl,rfl⟩;go_wp2;rw[Exit.noGoto_ret]
     go_ret
     exact⟨by rw[HF.out];rfl,bL HB.out _⟩
    ·have HF:=aH (HP.out.trans (by rw[hm,Bool.and_true,dT ha]));rw[hm]at HM;clear hm HP;go_wp2_with fail;refine(HM.out _).mono ?_;rintro e w2 ⟨rfl,rfl⟩;go_wp2
     go_roundw
     case rel=>exact⟨k+1,rfl,ai (by omega),ai (by omega),by omega,fun j hj=>by
      by_cases h:j=k
      ·subst h;exact HF.out
      ·exact HO.out j (by omega),bL HB.out _⟩
     case measure=>simp[intOf];omega
   ·have HF:=aH (fe k CI (HP.out.trans (by rw[dF ha,Bool.false_and])));clear HP;go_wp2_with fail;rw[Exit.noGoto_ret]
    go_ret
    exact⟨by rw[HF.out];rfl,bL HB.out _⟩
  ·obtain rfl:k=xs.length:=(by omega);have HF:=aH (pM HO.out);go_wp2;rw[Exit.noGoto_ret]
   go_ret
   exact⟨by rw[HF.out];rfl,HB.out⟩
theorem right_any' (r l:Int) (A:Option Addr) (c:Nat) (xs:List Ch) (w:World) (hv:KC.IsL w w.heap.size (.slice A xs.length c) xs):Calls prog 159 #[jl r l A xs.length c] w fun e w'=>e=.returned (.bool (rgB r l xs))∧Below w.heap.size w w':=by
 have HV:=aH hv;have hl:=hv.2.2;clear hv;by_cases g0:1≤r
 ·by_cases g1:r≤64
  ·by_cases g2:0≤l
   ·by_cases g3:l≤2147483647
    ·by_cases g4:(xs.length:Int)≤r
     ·by_cases g5:(xs.length:Int)≤l
      ·rw[ul (show rgC r l xs.length from⟨g0,g1,g2,g3,g4,g5⟩)];have HL:=aH (fun w h=>jm A c xs l g5 g3 w h);go_enter func159,ntmps159;go_wp2_with fail;refine(HL.out _ (HV.out.then (bL (bR _ _) _))).mono ?_;rintro e w2 ⟨rfl,CM⟩;have HB:=aH (Tp.Below.box _ CM);clear CM;go_wp2
       go_ret
       exact⟨rfl,HB.out⟩
      ·rw[dS (show ¬rgC r l xs.length by unfold rgC;omega)];go_enter func159,ntmps159;go_wp2
       go_ret
       exact⟨rfl,bL (bR _ _) _⟩
     ·rw[dS (show ¬rgC r l xs.length by unfold rgC;omega)];go_enter func159,ntmps159;go_wp2
      go_ret
      exact⟨rfl,bL (bR _ _) _⟩
    ·rw[dS (show ¬rgC r l xs.length by unfold rgC;omega)];go_enter func159,ntmps159;go_wp2
     go_ret
     exact⟨rfl,bL (bR _ _) _⟩
   ·rw[dS (show ¬rgC r l xs.length by unfold rgC;omega)];go_enter func159,ntmps159;go_wp2
    go_ret
    exact⟨rfl,bL (bR _ _) _⟩
  ·rw[dS (show ¬rgC r l xs.length by unfold rgC;omega)];go_enter func159,ntmps159;go_wp2
   go_ret
   exact⟨rfl,bL (bR _ _) _⟩
 ·rw[dS (show ¬rgC r l xs.length by unfold rgC;omega)];go_enter func159,ntmps159;go_wp2
  go_ret
  exact⟨rfl,bL (bR _ _) _⟩
theorem rlright_any (r l:Int) (A:Option Addr) (c:Nat) (xs:List Ch) (w:World) (hv:KC.IsL w w.heap.size (.slice A xs.length c) xs):Calls prog 113 #[jl r l A xs.length c] w fun e w'=>e=.returned (.bool (rgB r l xs))∧Below w.heap.size w w':=by
 have HV:=aH hv;have hl:=hv.2.2;clear hv;by_cases g0:1≤r
 ·by_cases g1:r≤64
  ·by_cases g2:0≤l
   ·by_cases g3:l≤2147483647
    ·by_cases g4:(xs.length:Int)≤r
     ·by_cases g5:(xs.length:Int)≤l
      ·rw[ul (show rgC r l xs.length from⟨g0,g1,g2,g3,g4,g5⟩)];go_enter func113,ntmps113;obtain⟨w0,hw0⟩:∃w0,w0=w.alloc (.cells #[.int .i64 r,.int .i64 l,.slice A xs.length c] 115):=⟨_,rfl⟩;have CG:=aH (cI hw0);have Ib:=aH (show Cells3 w0 w.heap.size (.int .i64 r) (.int .i64 l) (.slice A xs.length c)by rw[hw0];exact Cells3.new w _ _ _ _);have HF:=aH (show ∀wr,Below w0.heap.size w0 wr→Cells3 wr w.heap.size (.int .i64 r) (.int .i64 l) (.slice A xs.length c)from fun wr hb=>Ib.out.below hb);obtain⟨c1,c2,c3,_⟩:=Ib.out;go_wp2;rw[←hw0];clear hw0 c1 c2 c3
       go_loopw [3] (fun i wr=>∃k:Nat,i=.int .i64 k∧k≤xs.length∧(∀j,j<k→yZ xs l j=true)∧Below w0.heap.size w0 wr) (fun i _=>xs.length-(intOf i).toNat)
       case atStart=>exact⟨0,rfl,Nat.zero_le _,fun j hj=>absurd hj (Nat.not_lt_zero j),bR _ _⟩
       case round=>
        obtain⟨k,rfl,hk,Dj,CP⟩:=hrel;have HB:=aH CP;have HO:=aH Dj;obtain⟨c1,c2,c3,_⟩:=HF.out wr CP;clear CP Dj;by_cases CI:k<xs.length
        ·obtain⟨b',off,rfl,Gw,hbc,CD⟩:=fy (HV.out.below (bC CG.out HB.out)) (by omega);obtain⟨e1,e2,e3⟩:=CD k CI;have HP:=aH (show yZ xs l k=(decide ((xs.getD k mS).a=l-xs.length+1+k)&&cY (xs.getD k mS).b (xs.getD k mS).c)from rfl);have Jm:b'<wr.heap.size:=nL Gw (Nat.le_trans CG.out.size HB.out.size);have Se:w.heap.size<wr.heap.size:=wB wr _ c1;clear CD;generalize xs.getD k mS=q at *;obtain⟨a,b,n⟩:=q;dsimp only at *;have HM:=aH (fun w=>sQ b n w);by_cases ha:a=l-xs.length+1+k
         ·cases hm:cY b n
          ·have HF:=aH (fe k CI (HP.out.trans (by rw[hm,Bool.and_false])));rw[hm]at HM;clear hm HP;go_wp2_with fail;refine(HM.out _).mono ?_;rintro e w2 ⟨rfl,rfl⟩;go_wp2
           go_ret
           exact⟨by rw[HF.out];rfl,bL (bC CG.out HB.out) _⟩
          ·have GE:=aH (HP.out.trans (by rw[hm,Bool.and_true,dT ha]));rw[hm]at HM;clear hm HP;go_wp2_with fail;refine(HM.out _).mono ?_;rintro e w2 ⟨rfl,rfl⟩;go_wp2
           go_roundw
           case rel=>exact⟨k+1,ai (by omega),by omega,fun j hj=>by
            by_cases h:j=k
            ·subst h;exact GE.out
            ·exact HO.out j (by omega),bL HB.out _⟩
           case measure=>simp[intOf];omega
         ·have HF:=aH (fe k CI (HP.out.trans (by rw[dF ha,Bool.false_and])));clear HP;go_wp2_with fail
          go_ret
          exact⟨by rw[HF.out];rfl,bL (bC CG.out HB.out) _⟩
        ·obtain rfl:k=xs.length:=(by omega);have HF:=aH (pM HO.out);go_wp2
         go_ret
         exact⟨by rw[HF.out];rfl,bC CG.out HB.out⟩
      ·rw[dS (show ¬rgC r l xs.length by unfold rgC;omega)];go_enter func113,ntmps113;go_wp2
       go_ret
       exact⟨rfl,bL (bR _ _) _⟩
     ·rw[dS (show ¬rgC r l xs.length by unfold rgC;omega)];go_enter func113,ntmps113;go_wp2
      go_ret
      exact⟨rfl,bL (bR _ _) _⟩
    ·rw[dS (show ¬rgC r l xs.length by unfold rgC;omega)];go_enter func113,ntmps113;go_wp2
     go_ret
     exact⟨rfl,bL (bR _ _) _⟩
   ·rw[dS (show ¬rgC r l xs.length by unfold rgC;omega)];go_enter func113,ntmps113;go_wp2
    go_ret
    exact⟨rfl,bL (bR _ _) _⟩
  ·rw[dS (show ¬rgC r l xs.length by unfold rgC;omega)];go_enter func113,ntmps113;go_wp2
   go_ret
   exact⟨rfl,bL (bR _ _) _⟩
 ·rw[dS (show ¬rgC r l xs.length by unfold rgC;omega)];go_enter func113,ntmps113;go_wp2
  go_ret
  exact⟨rfl,bL (bR _ _) _⟩
end Go.Proofs.YtmecohdedghiaaaGreatDoor.Lg
namespace Go.Proofs.YtmecohdedghiaaaGreatDoor.Lk
open Go.RowKit
variable {P:Program} {α:Type} {K:Lk P α}
theorem IsL.part {w:World} {B b off c:Nat} {xs:List α} (h:K.IsL w B (.slice (some ⟨b,off,none⟩) xs.length c) xs) (m:Nat) (hm:m<xs.length) (n' c':Nat) (hn:n'=xs.length-m) (hc:n'≤c') (o':Nat) (ho:o'=off+m*K.n):K.IsL w B (.slice (some ⟨b,o',none⟩) n' c') (xs.drop m):=by
 subst hn;subst ho;have Db:=h.2.2;obtain⟨b2,off2,e,hb,_,CD⟩:=h.elem (by omega);simp only[Option.some.injEq,Addr.mk.injEq,and_true]at e;obtain⟨rfl,rfl⟩:=e;refine⟨⟨_,c',by rw[List.length_drop],by rw[List.length_drop];exact hc,fun _=>⟨_,_,rfl,hb,fun i hi j u hu=>?_⟩⟩,fun x hx=>h.2.1 x (List.mem_of_mem_drop hx),by rw[List.length_drop];omega⟩;rw[List.length_drop]at hi;have q:=CD (m+i) (by omega) j u (by
  rw[←hu]
  congr 2
  simp[List.getD_eq_getElem?_getD])
 rw[show off+m*K.n+(i*K.n+j)=off+((m+i)*K.n+j)by rw[Nat.add_mul];omega];exact q
theorem kt (w:World) (B:Nat) (ty:TypeId) (A:Option Addr) (n:Nat) (src:Value) (xs ys:List α) (B1:Nat) (h:K.IsL w B1 (.slice A n n) xs) (hs:K.IsL w B src ys) (h0:0<ys.length) (hl:xs.length+ys.length≤1000000):
  ∃v' w',(Builtin.append_ #[K.S,K.S] ty #[.slice A n n,src]).run P w=.ok v' w'∧K.Own w' w.heap.size v' (xs++ys)∧Below w.heap.size w w':=by
 obtain⟨A1,c1,e1,_⟩:=h.shape;simp only[Value.slice.injEq]at e1;obtain⟨_,rfl,_⟩:=e1;have CP:∀ {w':World} {r:Option Nat},w.grownBy w' r→r=none→Below w.heap.size w w':=fun hg hr=>by
  subst hr;exact(bR _ _).grown hg (nR _) fun k hk=>by cases hk
 cases A with
 |none=>
  have hx:xs=[]:=by
   rcases Nat.eq_zero_or_pos xs.length with h'|h'
   ·exact List.eq_nil_of_length_eq_zero h'
   ·obtain⟨b,off,e,_⟩:=h.elem h'
    cases e
  subst hx;obtain⟨v',w',hr,ho,hg,_⟩:=gY (K:=K) w w.heap.size B ty (.slice none 0 0) src [] ys (Own.nil _ _) hs hl (nR _);exact⟨v',w',hr,ho,CP hg rfl⟩
 |some a=>
  obtain⟨i0,hi,D9,DZ,hz2⟩:=info_parts K.info;obtain⟨A2,c2,rfl,EA⟩:=hs.shape;obtain⟨b2,off2,rfl,CM,_,hcell2⟩:=hs.elem h0;have Jv:(xs.length+ys.length)*K.bytes≤140737488355328:=by
   have:=Nat.mul_le_mul hl K.small;omega
  have olds:∀j u,(K.flat xs)[j]? =some u→w.cell? (a.add j)=some u:=fun j u hu=>by
   have hj:j<xs.length*K.n:=by
    have:=(List.getElem?_eq_some_iff.1 hu).1;rw[K.flat_len]at this;exact this
   have hn:=K.pos;have e:=Nat.div_add_mod j K.n;have hm:=Nat.mod_lt j hn;have JA:j/K.n<xs.length:=(Nat.div_lt_iff_lt_mul hn).2 hj;obtain⟨b,off,e3,hb,_,CD⟩:=h.elem (Nat.lt_of_le_of_lt (Nat.zero_le _) JA);simp only[Option.some.injEq]at e3;subst e3;rw[Nat.mul_comm]at e;rw[←e,K.flat_at xs _ _ JA hm]at hu;have q:=CD (j/K.n) JA (j%K.n) u hu;rw[e]at q;rw[Go.WideShapes.add_plain];exact q
  have news:∀j u,(K.flat ys)[j]? =some u→w.cell? ((⟨b2,off2,none⟩:Addr).add j)=some u:=fun j u hu=>by
   have hj:j<ys.length*K.n:=by
    have:=(List.getElem?_eq_some_iff.1 hu).1;rw[K.flat_len]at this;exact this
   have hn:=K.pos;have e:=Nat.div_add_mod j K.n;have hm:=Nat.mod_lt j hn;have JA:j/K.n<ys.length:=(Nat.div_lt_iff_lt_mul hn).2 hj;rw[Nat.mul_comm]at e;rw[←e,K.flat_at ys _ _ JA hm]at hu;have q:=hcell2 (j/K.n) JA (j%K.n) u hu;rw[e]at q;rw[Go.WideShapes.add_plain];exact q
  obtain⟨v',w',hr,ho,hg⟩:=run_append_arg_grows (P:=P) w K.S ty K.E i0 K.zero K.n K.bytes K.und hi D9 DZ hz2 K.zs K.pos a xs.length xs.length (K.flat xs) (K.flat_len xs) olds ⟨b2,off2,none⟩ ys.length c2 (K.flat ys) (K.flat_len ys) news (by omega) (by unfold maxLen;omega) Jv;refine⟨v',w',hr,⟨by rw[List.length_append,K.flat_append];exact ho,fun x hx=>?_⟩,CP hg rfl⟩;rcases List.mem_append.1 hx with hx|hx
  ·exact h.2.1 x hx
  ·exact hs.2.1 x hx
theorem uZ {o:Oper} {a:Act} {R:Act→World→Prop} {Q:Exit→Act→World→Prop} (w:World) (s x:Operand) {T:TypeId} (hT:T=K.S)
  (ho:o.op=.call {callee:=.builtin .append,args:=#[s,x],argTypes:=#[T,T]}) (B1 B:Nat) (A:Option Addr) (n:Nat) (src:Value) (xs ys:List α) (hs:a.eval s=.slice A n n) (hx:a.eval x=src)
  (h:K.IsL w B1 (.slice A n n) xs) (hy:K.IsL w B src ys) (h0:0<ys.length) (hl:xs.length+ys.length≤1000000)
  (hk:∀v' w',K.Own w' w.heap.size v' (xs++ys)→Below w.heap.size w w'→R (a.put o.dst v') w'):o.wp P a w R Q:=by
 subst hT;obtain⟨v',w',hrun,h2,h3⟩:=kt w B o.type A n src xs ys B1 h hy h0 hl;unfold Oper.wp execOp;simp only[ho,resolve,invoke,builtin,Sem.run_bind,Sem.run_pure,Result.andThen_ok,List.map_toArray,List.map_cons,List.map_nil,hs,hx,hrun];exact hk v' w' h2 h3
theorem wpList_full {ops:Array Oper} {rest:List Oper} {o:Oper} {a:Act} {Q:Exit→Act→World→Prop} (w:World) (hgd:o.guard=none) (s x:Operand) {T:TypeId} (hT:T=K.S)
  (ho:o.op=.call {callee:=.builtin .append,args:=#[s,x],argTypes:=#[T,T]}) (B1 B:Nat) (A:Option Addr) (n:Nat) (src:Value) (xs ys:List α) (hs:a.eval s=.slice A n n) (hx:a.eval x=src)
  (h:K.IsL w B1 (.slice A n n) xs) (hy:K.IsL w B src ys) (h0:0<ys.length) (hl:xs.length+ys.length≤1000000)
  (hk:∀v' w',K.Own w' w.heap.size v' (xs++ys)→Below w.heap.size w w'→wpList P ops Q rest (a.put o.dst v') w'):wpList P ops Q (o::rest) a w:=
 wpList_plain hgd fun _ hK=>uZ w s x hT ho B1 B A n src xs ys hs hx h hy h0 hl fun v' w' h2 h3=>hK _ _ (hk v' w' h2 h3)
end Go.Proofs.YtmecohdedghiaaaGreatDoor.Lk
namespace Go.Proofs.YtmecohdedghiaaaGreatDoor.Lg
open Go.RowKit
theorem wI (r l:Int) (A:Option Addr) (c:Nat) (xs:List Ch) (n:Nat) (hn:n≤xs.length) (w:World) (B:Nat) (hv:KC.IsL w B (.slice A xs.length c) xs):Calls prog 237 #[jl r l A xs.length c,.int .i64 n] w fun e w'=>∃A',e=.returned (.slice A' n n)∧KC.IsL w B (.slice A' n n) (xs.drop (xs.length-n))∧Below w.heap.size w w':=by
 have HV:=aH hv;have hl:=hv.2.2;obtain⟨A2,c2,e2,hc⟩:=hv.shape;simp only[Value.slice.injEq,true_and]at e2;obtain⟨rfl,rfl⟩:=e2;clear hv;obtain⟨ys,hys⟩:∃ys,xs.drop (xs.length-n)=ys:=⟨_,rfl⟩;rw[hys];rcases Nat.eq_zero_or_pos n with h0|h0
 ·subst h0;rw[Nat.sub_zero,List.drop_length]at hys;have HN:=aH (show ∀A',KC.IsL w B (.slice A' 0 0) ys from fun A'=>by
   rw[←hys];exact Lk.IsL.nil _ _ _ _)
  clear hys;rcases A with _|ad
  ·rcases Nat.eq_zero_or_pos xs.length with hx|hx
   ·rw[hx]at *;go_enter func237,ntmps237;go_wp2
    go_ret
    exact⟨_,rfl,HN.out _,bL (bR _ _) _⟩
   ·obtain⟨b,off,e,_⟩:=HV.out.elem hx
    cases e
  ·go_enter func237,ntmps237;go_wp2
   go_ret
   exact⟨_,rfl,HN.out _,bL (bR _ _) _⟩
 ·obtain⟨b,off,rfl,_⟩:=HV.out.elem (by omega);have HN:=aH (fun o' h=>HV.out.part (xs.length-n) (by omega) n n (by omega) (nR _) o' h);rw[hys]at HN;clear hys;obtain⟨m,hm⟩:∃m,xs.length=m+n:=⟨xs.length-n,by omega⟩;go_enter func237,ntmps237;go_wp2
  go_ret
  exact⟨some ⟨b,off+m*3,none⟩,by show Ending.returned (.slice _ (m+n-m) (m+n-m))=_;rw[Nat.add_sub_cancel_left],HN.out _ (by show _=off+(xs.length-n)*3;rw[show xs.length-n=m by omega]),bL (bR _ _) _⟩
theorem _root_.Go.Proofs.YtmecohdedghiaaaGreatDoor.Cells3.s0 {V:World} {D:Nat} {x0 x1 x2:Value} (h:Cells3 V D x0 x1 x2) (p:Value):Cells3 (V.setCell ⟨D,0,none⟩ p) D p x1 x2:=by
 obtain⟨h0,h1,h2,z0,z1,z2,hs⟩:=h;exact⟨ag h0,sO h1 (aN (.inr (by decide))),sO h2 (aN (.inr (by decide))),sF z0,sF z1,sF z2,by simpa using hs⟩
theorem _root_.Go.Proofs.YtmecohdedghiaaaGreatDoor.Cells3.s1 {V:World} {D:Nat} {x0 x1 x2:Value} (h:Cells3 V D x0 x1 x2) (p:Value):Cells3 (V.setCell ⟨D,1,none⟩ p) D x0 p x2:=by
 obtain⟨h0,h1,h2,z0,z1,z2,hs⟩:=h;exact⟨sO h0 (aN (.inr (by decide))),ag h1,sO h2 (aN (.inr (by decide))),sF z0,sF z1,sF z2,by simpa using hs⟩
theorem _root_.Go.Proofs.YtmecohdedghiaaaGreatDoor.Cells3.s2 {V:World} {D:Nat} {x0 x1 x2:Value} (h:Cells3 V D x0 x1 x2) (p:Value):Cells3 (V.setCell ⟨D,2,none⟩ p) D x0 x1 p:=by
 obtain⟨h0,h1,h2,z0,z1,z2,hs⟩:=h;exact⟨sO h0 (aN (.inr (by decide))),sO h1 (aN (.inr (by decide))),ag h2,sF z0,sF z1,sF z2,by simpa using hs⟩
theorem _root_.Go.Proofs.YtmecohdedghiaaaGreatDoor.Cells3.off {V:World} {D G o:Nat} {x0 x1 x2:Value} (h:Cells3 V G x0 x1 x2) (CJ:D≠G) (p:Value):Cells3 (V.setCell ⟨D,o,none⟩ p) G x0 x1 x2:=by
 obtain⟨h0,h1,h2,z0,z1,z2,hs⟩:=h;exact⟨sO h0 (aN (.inl CJ)),sO h1 (aN (.inl CJ)),sO h2 (aN (.inl CJ)),sF z0,sF z1,sF z2,by simpa using hs⟩
def newE (r:Int):Int:=if 1≤r∧r≤64 then 0 else 110
def AQ (r:Int):Int:=if 1≤r∧r≤64 then r else 0
theorem new_any (r:Int) (w:World):Calls prog 96 #[.int .i64 r] w fun e w'=>e=.returned (.tuple #[jl (AQ r) 0 none 0 0,.int .i64 (newE r)])∧Below w.heap.size w w':=by
 have HR:=aH (fun w=>right_any' r 0 none 0 [] w (Lk.IsL.nil _ _ _ _));have hq:rgB r 0 []=decide (1≤r∧r≤64):=by
  unfold rgB rgC;rw[show wV [] 0=true from rfl,Bool.and_true];exact decide_eq_decide.2 (by simp only[List.length_nil];omega)
 rw[hq]at HR;clear hq;unfold AQ newE;have HB:=aH (show Below w.heap.size w ((w.alloc (.cells #[.int .i64 0,.int .i64 0,.slice none 0 0] 115)).alloc (.cells #[.int .i64 r,.int .i64 0,.slice none 0 0] 115))from bL (bL (bR _ _) _) _);have HA:=aH (Cells3.new w 115 (.int .i64 0) (.int .i64 0) (.slice none 0 0));have DC:=aH (HA.out.below (bL (bR _ _) (.cells #[.int .i64 r,.int .i64 0,.slice none 0 0] 115)));have HC:=aH (Cells3.new (w.alloc (.cells #[.int .i64 0,.int .i64 0,.slice none 0 0] 115)) 115 (.int .i64 r) (.int .i64 0) (.slice none 0 0));rw[show(w.alloc (.cells #[.int .i64 0,.int .i64 0,.slice none 0 0] 115)).heap.size=w.heap.size+1 by simp]at HC;by_cases h:1≤r∧r≤64
 ·rw[if_pos h,if_pos h];rw[dT h]at HR;clear h;go_enter func96,ntmps96;go_wp2_with fail;obtain⟨W,hW⟩:∃W,W=((w.alloc (.cells #[.int .i64 0,.int .i64 0,.slice none 0 0] 115)).alloc (.cells #[.int .i64 r,.int .i64 0,.slice none 0 0] 115)):=⟨_,rfl⟩;rw[←hW]at HB DC HC;rw[←hW];clear hW;refine(HR.out _).mono ?_;rintro e w2 ⟨rfl,CM⟩;have Ei:=aH (DC.out.below CM);have LV:=aH (HC.out.below CM);have CS:=aH (bC HB.out CM);clear CM;have q:=Ei.out.set (.int .i64 r) (.int .i64 0) (.slice none 0 0);obtain⟨q0,q1,q2,_⟩:=q;obtain⟨a0,a1,a2,y0,y1,y2,_⟩:=Ei.out;obtain⟨d0,d1,d2,_⟩:=LV.out;go_wp2;refine bP (v:=.tuple #[jl r 0 none 0 0,.int .i64 0]) (by simp[results,results96,go_sem,q0,q1,q2]) rfl ⟨rfl,?_⟩;exact bz CS.out (nR _) _ _ _
 ·rw[if_neg h,if_neg h];rw[dF h]at HR;clear h;go_enter func96,ntmps96;go_wp2_with fail;obtain⟨W,hW⟩:∃W,W=((w.alloc (.cells #[.int .i64 0,.int .i64 0,.slice none 0 0] 115)).alloc (.cells #[.int .i64 r,.int .i64 0,.slice none 0 0] 115)):=⟨_,rfl⟩;rw[←hW]at HB DC;rw[←hW];clear hW;refine(HR.out _).mono ?_;rintro e w2 ⟨rfl,CM⟩;have Ei:=aH (DC.out.below CM);have CS:=aH (bC HB.out CM);clear CM;have q:=Ei.out.set (.int .i64 0) (.int .i64 0) (.slice none 0 0);obtain⟨q0,q1,q2,_⟩:=q;obtain⟨a0,a1,a2,y0,y1,y2,_⟩:=Ei.out;go_wp2;refine bP (v:=.tuple #[jl 0 0 none 0 0,.int .i64 110]) (by simp[results,results96,go_sem,q0,q1,q2]) rfl ⟨rfl,?_⟩;exact bz CS.out (nR _) _ _ _
theorem yw (r l:Int) (A:Option Addr) (c:Nat) (xs:List Ch) (n:Nat) (hn:n≤xs.length) (z:Int) (hz:z=(n:Int)) (w:World) (B:Nat) (hv:KC.IsL w B (.slice A xs.length c) xs):Calls prog 237 #[jl r l A xs.length c,.int .i64 z] w fun e w'=>∃A',e=.returned (.slice A' n n)∧KC.IsL w B (.slice A' n n) (xs.drop (xs.length-n))∧Below w.heap.size w w':=by
 rw[hz];exact wI r l A c xs n hn w B hv
theorem _root_.Go.Proofs.YtmecohdedghiaaaGreatDoor.Lk.Own.set {P:Program} {α:Type} {K:Lk P α} {w:World} {base:Nat} {v:Value} {xs:List α} (h:K.Own w base v xs) {a:Addr} (ha:a.block<base) (u:Value):K.Own (w.setCell a u) base v xs:=⟨ownsRow_setCell_below h.1 ha u,h.2⟩
def ntE (r l:Int) (xs:List Ch) (b n:Int):Int:=if rgB r l xs=false then 110 else if cY b n=false then 1 else if l=2147483647 then 101 else 0
def ntL (r l:Int) (xs:List Ch) (b n:Int):List Ch:=xs.drop (xs.length-min xs.length (r-1).toNat)++[⟨l+1,b,n⟩]
theorem nt_ok {r l:Int} {xs:List Ch} {b n:Int} (h:ntE r l xs b n=0):rgB r l xs=true∧cY b n=true∧l≠2147483647:=by
 unfold ntE at h
 cases h1:rgB r l xs
 ·rw[h1]at h;simp at h
 ·cases h2:cY b n
  ·rw[h1,h2]at h;simp at h
  ·rw[h1,h2]at h;refine⟨rfl,rfl,fun k=>?_⟩;rw[if_pos k]at h;simp at h
theorem vn (r l:Int) (A:Option Addr) (c:Nat) (xs:List Ch) (b n:Int) (hE:ntE r l xs b n=0) (w:World) (hv:KC.IsL w w.heap.size (.slice A xs.length c) xs):Calls prog 264 #[jl r l A xs.length c,.int .i64 b,.int .i64 n] w fun e w'=>
  ∃A' c',e=.returned (.tuple #[jl r (l+1) A' (ntL r l xs b n).length c',.int .i64 0])∧KC.Own w' w.heap.size (.slice A' (ntL r l xs b n).length c') (ntL r l xs b n)∧Below w.heap.size w w':=by
 obtain⟨h1,h2,h3⟩:=nt_ok hE;obtain⟨⟨g0,g1,g2,g3,g4,g5⟩,_⟩:=rg_parts h1;have HV:=aH hv;have HR:=aH (fun w h=>right_any' r l A c xs w h);have HM:=aH (fun w=>e8 b n w);rw[h1]at HR;rw[h2]at HM;obtain⟨m,hm⟩:∃m:Nat,min (xs.length:Int) (r-1)=(m:Int):=⟨(min (xs.length:Int) (r-1)).toNat,by omega⟩;have J6:m≤xs.length:=by omega
 have HQ:=aH (show ntL r l xs b n=xs.drop (xs.length-m)++[⟨l+1,b,n⟩]from by
  unfold ntL;rw[show min xs.length (r-1).toNat=m by omega])
 have HX:=aH (fun z hz w B h=>yw r l A c xs m J6 z hz w B h);have HK:=aH (show KC.ok ⟨l+1,b,n⟩by
  have q:=of_decide_eq_true h2;refine⟨?_,?_,?_⟩<;>(dsimp only;unfold ae;omega))
 have HN:=aH (show(xs.drop (xs.length-m)).length≤64 by rw[List.length_drop];omega);clear hE h1 h2 hv;generalize ntL r l xs b n=zs at *;obtain⟨ys,hys⟩:∃ys,xs.drop (xs.length-m)=ys:=⟨_,rfl⟩;rw[hys]at HX HQ HN;clear hys;obtain⟨w0,hw0⟩:∃w0,w0=(w.alloc (.cells #[.int .i64 r,.int .i64 l,.slice A xs.length c] 115)).alloc (.cells #[.int .i64 0,.int .i64 0,.slice none 0 0] 115):=⟨_,rfl⟩;have CG:=aH (gj hw0);have DE:=aH (show Cells3 w0 w.heap.size (.int .i64 r) (.int .i64 l) (.slice A xs.length c)by rw[hw0];exact(Cells3.new w _ _ _ _).below (bL (bR _ _) _));have GJ:=aH (show Cells3 w0 (w.heap.size+1) (.int .i64 0) (.int .i64 0) (.slice none 0 0)by
  rw[hw0];have q:=Cells3.new (w.alloc (.cells #[.int .i64 r,.int .i64 l,.slice A xs.length c] 115)) 115 (.int .i64 0) (.int .i64 0) (.slice none 0 0);rw[show(w.alloc (.cells #[.int .i64 r,.int .i64 l,.slice A xs.length c] 115)).heap.size=w.heap.size+1 by simp]at q;exact q)
 go_enter func264,ntmps264;go_wp2_with fail;rw[←hw0];clear hw0;obtain⟨G,hG⟩:∃G,w.heap.size=G:=⟨_,rfl⟩;rw[hG]at DE GJ;simp only[hG];refine(HR.out _ (HV.out.then CG.out)).mono ?_;rintro e w1 ⟨rfl,CE⟩;have Dl:=aH (DE.out.below CE);have ER:=aH (GJ.out.below CE);have CH:=aH (bC CG.out CE);clear CE DE GJ CG;obtain⟨a0,a1,a2,_⟩:=Dl.out;go_wp2_with fail;refine(HM.out _).mono ?_;rintro e w2 ⟨rfl,rfl⟩;go_wp2_with fail;all_goals
  refine(HX.out _ (by omega) _ _ (HV.out.below CH.out)).mono ?_;rintro e w4 ⟨A',rfl,hp,Do⟩;have Ff:=aH (Dl.out.below Do);have JR:=aH (ER.out.below Do);have CW:=aH (bC CH.out Do);have Hw:=aH (hp.below (Do.mono CH.out.size));clear Do Dl ER CH hp a0 a1 a2;have LN:=CW.out.size;rw[hG]at LN;have Hz:=aH (Ff.out.s1 (.int .i64 (l+1)));have Ix:=aH (JR.out.off (D:=G) (o:=1) (by omega) (.int .i64 (l+1)));have DH:=aH (bS (p:=⟨G,1,none⟩) (v:=.int .i64 (l+1)) CW.out (Nat.le_of_eq hG));have Gz:=aH (show KC.IsL (w4.setCell ⟨G,1,none⟩ (.int .i64 (l+1))) w.heap.size (.slice A' m m) ys from Hw.out.below ((bR _ _).setCell (p:=⟨G,1,none⟩) (Nat.le_of_eq hG) _));obtain⟨a0,a1,a2,z0,z1,z2,_⟩:=Ff.out;go_wp2_with (at_builtin;go_loud (refine Lk.wpList_full (K:=KC) _ rfl _ _ rfl rfl w.heap.size (w4.heap.size+1) A' m _ ys [⟨l+1,b,n⟩] rfl rfl (Gz.out.below ((bR _ _).alloc DH.out.size _)) (Lk.IsL.lit (K:=KC) _ ⟨l+1,b,n⟩ _ HK.out rfl w4.heap.size (by simp)) (by simp) ?c1 ?_))
  case c1=>have:=HN.out;simp;omega
  intro v' w6 CF hb6;rw[show w4.heap.size+1=((w4.setCell ⟨G,1,none⟩ (.int .i64 (l+1))).alloc (.cells #[.int .i64 (l+1),.int .i64 b,.int .i64 n] 177)).heap.size by simp]at CF hb6;rw[←HQ.out]at CF;obtain⟨A2,c2,rfl,EA⟩:=(CF.isL (by have:=HN.out;rw[HQ.out];simp;omega)).shape;have Ew:=aH (bC (bL DH.out _) hb6);have NT:=aH ((Hz.out.below (bL (bR _ _) _)).below hb6);have Tt:=aH ((Ix.out.below (bL (bR _ _) _)).below hb6);have LE:=aH (CF.mono (Nat.le_trans (show G+2≤w4.heap.size from JR.out.2.2.2.2.2.2) (by simp)));clear CF hb6 a0 a1 a2 z0 z1 z2 Ff JR CW Hz Ix DH Gz Hw HN EA;have Sa:=aH (NT.out.s2 (.slice A2 zs.length c2));have QQ:=aH (Tt.out.off (D:=G) (o:=2) (by omega) (.slice A2 zs.length c2));obtain⟨q0,q1,q2,_⟩:=QQ.out.set (.int .i64 r) (.int .i64 (l+1)) (.slice A2 zs.length c2);obtain⟨a0,a1,a2,z0,z1,z2,_⟩:=NT.out;obtain⟨b0,b1,b2,_⟩:=Sa.out;obtain⟨k0,k1,k2,y0,y1,y2,_⟩:=QQ.out;go_wp2;refine bP (v:=.tuple #[jl r (l+1) A2 zs.length c2,.int .i64 0]) (by simp[results,results264,go_sem,q0,q1,q2]) rfl ⟨A2,c2,rfl,?_,?_⟩
  ·exact((((LE.out.set (a:=⟨G,2,none⟩) (show G<G+2 by omega) _).set (a:=⟨G+1,0,none⟩) (show G+1<G+2 by omega) _).set (a:=⟨G+1,1,none⟩) (show G+1<G+2 by omega) _).set (a:=⟨G+1,2,none⟩) (show G+1<G+2 by omega) _).mono (by omega)
  ·exact bz (bS Ew.out (Nat.le_of_eq hG)) (by omega) _ _ _
theorem rJ (r l:Int) (A:Option Addr) (c:Nat) (xs:List Ch) (b n:Int) (hE:ntE r l xs b n≠0) (w:World) (hv:KC.IsL w w.heap.size (.slice A xs.length c) xs):Calls prog 264 #[jl r l A xs.length c,.int .i64 b,.int .i64 n] w fun e w'=>
  e=.returned (.tuple #[jl 0 0 none 0 0,.int .i64 (ntE r l xs b n)])∧Below w.heap.size w w':=by
 have HV:=aH hv;have HR:=aH (fun w h=>right_any' r l A c xs w h);have HM:=aH (fun w=>e8 b n w);obtain⟨w0,hw0⟩:∃w0,w0=(w.alloc (.cells #[.int .i64 r,.int .i64 l,.slice A xs.length c] 115)).alloc (.cells #[.int .i64 0,.int .i64 0,.slice none 0 0] 115):=⟨_,rfl⟩;have CG:=aH (gj hw0);have DE:=aH (show Cells3 w0 w.heap.size (.int .i64 r) (.int .i64 l) (.slice A xs.length c)by rw[hw0];exact(Cells3.new w _ _ _ _).below (bL (bR _ _) _));have GJ:=aH (show Cells3 w0 (w.heap.size+1) (.int .i64 0) (.int .i64 0) (.slice none 0 0)by
  rw[hw0];have q:=Cells3.new (w.alloc (.cells #[.int .i64 r,.int .i64 l,.slice A xs.length c] 115)) 115 (.int .i64 0) (.int .i64 0) (.slice none 0 0);rw[show(w.alloc (.cells #[.int .i64 r,.int .i64 l,.slice A xs.length c] 115)).heap.size=w.heap.size+1 by simp]at q;exact q)
 clear hv;unfold ntE at hE⊢
 cases h1:rgB r l xs
 ·rw[if_pos rfl];rw[h1]at HR;clear h1 hE;go_enter func264,ntmps264;go_wp2_with fail;rw[←hw0];clear hw0;obtain⟨G,hG⟩:∃G,w.heap.size=G:=⟨_,rfl⟩;rw[hG]at DE GJ;simp only[hG];refine(HR.out _ (HV.out.then CG.out)).mono ?_;rintro e w1 ⟨rfl,CE⟩;have Dl:=aH (DE.out.below CE);have ER:=aH (GJ.out.below CE);have CH:=aH (bC CG.out CE);clear CE DE GJ CG;obtain⟨a0,a1,a2,_⟩:=Dl.out;obtain⟨q0,q1,q2,_⟩:=ER.out.set (.int .i64 0) (.int .i64 0) (.slice none 0 0);obtain⟨k0,k1,k2,y0,y1,y2,_⟩:=ER.out;go_wp2;refine bP (v:=.tuple #[jl 0 0 none 0 0,.int .i64 110]) (by simp[results,results264,go_sem,q0,q1,q2]) rfl ⟨rfl,?_⟩;exact bz CH.out (by omega) _ _ _
 ·rw[if_neg (by decide)];rw[h1]at HR hE;rw[if_neg (by decide)]at hE;clear h1
  cases h2:cY b n
  ·rw[if_pos rfl];rw[h2]at HM;clear h2 hE;go_enter func264,ntmps264;go_wp2_with fail;rw[←hw0];clear hw0;obtain⟨G,hG⟩:∃G,w.heap.size=G:=⟨_,rfl⟩;rw[hG]at DE GJ;simp only[hG];refine(HR.out _ (HV.out.then CG.out)).mono ?_;rintro e w1 ⟨rfl,CE⟩;have Dl:=aH (DE.out.below CE);have ER:=aH (GJ.out.below CE);have CH:=aH (bC CG.out CE);clear CE DE GJ CG;obtain⟨a0,a1,a2,_⟩:=Dl.out;go_wp2_with fail;refine(HM.out _).mono ?_;rintro e w2 ⟨rfl,rfl⟩;obtain⟨q0,q1,q2,_⟩:=ER.out.set (.int .i64 0) (.int .i64 0) (.slice none 0 0);obtain⟨k0,k1,k2,y0,y1,y2,_⟩:=ER.out;go_wp2;refine bP (v:=.tuple #[jl 0 0 none 0 0,.int .i64 1]) (by simp[results,results264,go_sem,q0,q1,q2]) rfl ⟨rfl,?_⟩;exact bz CH.out (by omega) _ _ _
  ·rw[if_neg (by decide)];rw[h2]at HM hE;rw[if_neg (by decide)]at hE;clear h2;have h3:l=2147483647:=by
    by_cases h:l=2147483647
    ·exact h
    ·rw[if_neg h]at hE;exact absurd rfl hE
   rw[if_pos h3];subst h3;clear hE;go_enter func264,ntmps264;go_wp2_with fail;rw[←hw0];clear hw0;obtain⟨G,hG⟩:∃G,w.heap.size=G:=⟨_,rfl⟩;rw[hG]at DE GJ;simp only[hG];refine(HR.out _ (HV.out.then CG.out)).mono ?_;rintro e w1 ⟨rfl,CE⟩;have Dl:=aH (DE.out.below CE);have ER:=aH (GJ.out.below CE);have CH:=aH (bC CG.out CE);clear CE DE GJ CG;obtain⟨a0,a1,a2,_⟩:=Dl.out;go_wp2_with fail;refine(HM.out _).mono ?_;rintro e w2 ⟨rfl,rfl⟩;obtain⟨q0,q1,q2,_⟩:=ER.out.set (.int .i64 0) (.int .i64 0) (.slice none 0 0);obtain⟨k0,k1,k2,y0,y1,y2,_⟩:=ER.out;go_wp2;refine bP (v:=.tuple #[jl 0 0 none 0 0,.int .i64 101]) (by simp[results,results264,go_sem,q0,q1,q2]) rfl ⟨rfl,?_⟩;exact bz CH.out (by omega) _ _ _
theorem kv (A A2:Option Addr) (c c2:Nat) (xs:List Ch) (w:World) (hv:KC.IsL w w.heap.size (.slice A xs.length c) xs) (hu:KC.IsL w w.heap.size (.slice A2 xs.length c2) xs):Calls prog 75 #[.slice A xs.length c,.slice A2 xs.length c2] w fun e w'=>e=.returned (.bool true)∧Below w.heap.size w w':=by
 have HV:=aH hv;have HU:=aH hu;have hl:=hv.2.2;clear hv hu;go_enter func75,ntmps75;go_wp2
 go_loopw [5] (fun i wr=>∃k:Nat,i=.int .i64 k∧k≤xs.length∧Below w.heap.size w wr) (fun i _=>xs.length-(intOf i).toNat)
 case atStart=>exact⟨0,rfl,Nat.zero_le _,bR _ _⟩
 case round=>
  obtain⟨k,rfl,hk,CP⟩:=hrel;have HB:=aH CP;clear CP;by_cases CI:k<xs.length
  ·obtain⟨b1,o1,rfl,CE,Dn,hcell1⟩:=fy (HV.out.below HB.out) (by omega);obtain⟨b2,o2,rfl,CM,EA,hcell2⟩:=fy (HU.out.below HB.out) (by omega);obtain⟨e1,e2,e3⟩:=hcell1 k CI;obtain⟨f1,f2,f3⟩:=hcell2 k CI;clear hcell1 hcell2;generalize xs.getD k mS=q at *;obtain⟨a,b,n⟩:=q;dsimp only at *;go_wp2_with fail;go_quiet (fail);go_wp2
   go_roundw
   case rel=>exact⟨k+1,ai (by omega),by omega,aa HB.out _⟩
   case measure=>simp[intOf];omega
  ·obtain rfl:k=xs.length:=(by omega);go_wp2
   go_ret
   exact⟨rfl,HB.out⟩
theorem same_any (r l:Int) (A A2:Option Addr) (c c2:Nat) (xs:List Ch) (w:World) (hv:KC.IsL w w.heap.size (.slice A xs.length c) xs) (hu:KC.IsL w w.heap.size (.slice A2 xs.length c2) xs):Calls prog 105 #[jl r l A xs.length c,jl r l A2 xs.length c2] w fun e w'=>e=.returned (.bool true)∧Below w.heap.size w w':=by
 have HL:=aH (fun w h1 h2=>kv A A2 c c2 xs w h1 h2);have HB:=aH (show Below w.heap.size w ((w.alloc (.cells #[.int .i64 r,.int .i64 l,.slice A xs.length c] 115)).alloc (.cells #[.int .i64 r,.int .i64 l,.slice A2 xs.length c2] 115))from bL (bL (bR _ _) _) _);have HV:=aH (hv.then HB.out);have HU:=aH (hu.then HB.out);clear hv hu;go_enter func105,ntmps105;go_wp2_with fail;refine(HL.out _ HV.out HU.out).mono ?_;rintro e w2 ⟨rfl,CM⟩;have CL:=aH (bC HB.out CM);clear CM;go_wp2
 go_ret
 exact⟨rfl,CL.out⟩
theorem _root_.Go.Proofs.YtmecohdedghiaaaGreatDoor.Cells3.grown {V V':World} {D:Nat} {row:Option Nat} {x0 x1 x2:Value} (h:Cells3 V D x0 x1 x2) (hg:V.grownBy V' row) (CJ:some D≠row):Cells3 V' D x0 x1 x2:=by
 obtain⟨h0,h1,h2,z0,z1,z2,hs⟩:=h;exact⟨(hg.cell_far ⟨D,0,none⟩ hs CJ).trans h0,(hg.cell_far ⟨D,1,none⟩ hs CJ).trans h1,(hg.cell_far ⟨D,2,none⟩ hs CJ).trans h2,(hg.frozen_far ⟨D,0,none⟩ hs CJ).trans z0,(hg.frozen_far ⟨D,1,none⟩ hs CJ).trans z1,(hg.frozen_far ⟨D,2,none⟩ hs CJ).trans z2,nL hs hg.size⟩
theorem _root_.Go.Proofs.YtmecohdedghiaaaGreatDoor.Lk.Own.far {P:Program} {α:Type} {K:Lk P α} {w:World} {base:Nat} {v:Value} {xs:List α} (h:K.Own w base v xs) {D:Nat} (CJ:∀k,v.ownBlock=some k→k≠D) (o:Nat) (u:Value):K.Own (w.setCell ⟨D,o,none⟩ u) base v xs:=by
 obtain⟨⟨h1,h2⟩,hf⟩:=h;refine⟨⟨h1,?_⟩,hf⟩;rcases h2 with h2|⟨g,cap,cur,rfl,hg,hh,r⟩
 ·exact Or.inl h2
 ·exact Or.inr ⟨g,cap,cur,rfl,hg,by rw[Below.heap_setCell _ _ _ _ (CJ g rfl)];exact hh,r⟩
def ntR (r l:Int) (xs:List Ch) (b n:Int):Int:=if ntE r l xs b n=0 then r else 0
def ntM (r l:Int) (xs:List Ch) (b n:Int):Int:=if ntE r l xs b n=0 then l+1 else 0
def ntZ (r l:Int) (xs:List Ch) (b n:Int):List Ch:=if ntE r l xs b n=0 then ntL r l xs b n else []
theorem note_all (r l:Int) (A:Option Addr) (c:Nat) (xs:List Ch) (b n:Int) (w:World) (hv:KC.IsL w w.heap.size (.slice A xs.length c) xs):Calls prog 264 #[jl r l A xs.length c,.int .i64 b,.int .i64 n] w fun e w'=>
  ∃A' c',e=.returned (.tuple #[jl (ntR r l xs b n) (ntM r l xs b n) A' (ntZ r l xs b n).length c',.int .i64 (ntE r l xs b n)])∧KC.Own w' w.heap.size (.slice A' (ntZ r l xs b n).length c') (ntZ r l xs b n)∧Below w.heap.size w w':=by
 unfold ntR ntM ntZ;by_cases h:ntE r l xs b n=0
 ·rw[if_pos h,if_pos h,if_pos h,h];exact vn r l A c xs b n h w hv
 ·rw[if_neg h,if_neg h,if_neg h];refine(rJ r l A c xs b n h w hv).mono ?_;rintro e w' ⟨rfl,hb⟩;exact⟨none,0,rfl,Lk.Own.nil _ _,hb⟩
end Go.Proofs.YtmecohdedghiaaaGreatDoor.Lg
namespace Go.Proofs.YtmecohdedghiaaaGreatDoor
open Go.RowKit
theorem Lk.wp_made {P:Program} {α:Type} {K:Lk P α} {o:Oper} {a:Act} {R:Act→World→Prop} {Q:Exit→Act→World→Prop} (w:World) (l c:Operand) {T:TypeId} (hT:T=K.S) (ho:o.op=.makeSlice T l c) (kl kc:IntKind) (n m:Nat) (L M:Int)
  (hl:a.eval l=.int kl L) (hc:a.eval c=.int kc M) (hL:L=(n:Int)) (hM:M=(m:Int)) (hnm:n=m∨n=0) (z0:α) (hz:K.zero.cells.toList=K.cells z0) (Dj:K.ok z0) (hm:m≤100000)
  (hk:∀w',K.Own w' w.heap.size (.slice (some ⟨w.heap.size,0,none⟩) n m) (List.replicate n z0)→Below w.heap.size w w'→w.heap.size<w'.heap.size→R (a.put o.dst (.slice (some ⟨w.heap.size,0,none⟩) n m)) w'):o.wp P a w R Q:=by
 subst hT;subst hL;subst hM;obtain⟨i0,hi,D9,DZ,hz2⟩:=info_parts K.info;have Rx:=K.small;have Ua:i0.bytes*m≤281474976710656:=by
  have:=Nat.mul_le_mul (show i0.bytes≤100000 by omega) hm;omega
 have Gw:(i0.bytes:Int)*(m:Int)≤281474976710656:=by
  have h:((i0.bytes*m:Nat):Int)≤281474976710656:=by omega
  rwa [Int.natCast_mul]at h
 have hr:=run_make (P:=P) w K.S K.E i0 K.zero K.und hi D9 kl kc (n:Int) (m:Int) (by omega) (by omega) Gw (by omega);simp only[Int.toNat_natCast]at hr;have e:=Lk.flat_made K z0 hz;have hw:K.Own (w.alloc (.cells (madeCells K.zero.cells (m*i0.size)) K.E)) w.heap.size (.slice (some ⟨w.heap.size,0,none⟩) n m) (List.replicate n z0):=by
  refine⟨?_,fun x hx=>by rw[(List.mem_replicate.1 hx).2];exact Dj⟩;rw[List.length_replicate,DZ];rcases hnm with rfl|rfl
  ·rw[←e];exact World.ownsRow_lit w _ n (nR _) (by unfold maxLen;omega) (size_madeCells _ _)
  ·exact World.ownsRow_made w _ m (nR _) (by unfold maxLen;omega) (size_madeCells _ _)
 unfold Oper.wp;simp[execOp,ho,hl,hc,hr,Result.andThen];exact hk _ hw (bL (bR _ _) _) (by simp)
theorem Lk.Own.far6 {P:Program} {α:Type} {K:Lk P α} {w:World} {base:Nat} {v:Value} {xs:List α} (h:K.Own w base v xs) {D:Nat} (CJ:∀k,v.ownBlock=some k→k≠D) (p0 p1 p2 p3 p4 p5:Value):K.Own ((((((w.setCell ⟨D,0,none⟩ p0).setCell ⟨D,1,none⟩ p1).setCell ⟨D,2,none⟩ p2).setCell ⟨D,3,none⟩ p3).setCell ⟨D,4,none⟩ p4).setCell ⟨D,5,none⟩ p5) base v xs:=((((((h.far CJ 0 p0).far CJ 1 p1).far CJ 2 p2).far CJ 3 p3).far CJ 4 p4).far CJ 5 p5)
theorem Cells6.grown {V V':World} {D:Nat} {row:Option Nat} {x0 x1 x2 x3 x4 x5:Value} (h:Cells6 V D x0 x1 x2 x3 x4 x5) (hg:V.grownBy V' row) (CJ:some D≠row):Cells6 V' D x0 x1 x2 x3 x4 x5:=by
 obtain⟨h0,h1,h2,h3,h4,h5,z0,z1,z2,z3,z4,z5,hs⟩:=h;exact⟨(hg.cell_far ⟨D,0,none⟩ hs CJ).trans h0,(hg.cell_far ⟨D,1,none⟩ hs CJ).trans h1,(hg.cell_far ⟨D,2,none⟩ hs CJ).trans h2,(hg.cell_far ⟨D,3,none⟩ hs CJ).trans h3,(hg.cell_far ⟨D,4,none⟩ hs CJ).trans h4,(hg.cell_far ⟨D,5,none⟩ hs CJ).trans h5,
  (hg.frozen_far ⟨D,0,none⟩ hs CJ).trans z0,(hg.frozen_far ⟨D,1,none⟩ hs CJ).trans z1,(hg.frozen_far ⟨D,2,none⟩ hs CJ).trans z2,(hg.frozen_far ⟨D,3,none⟩ hs CJ).trans z3,(hg.frozen_far ⟨D,4,none⟩ hs CJ).trans z4,(hg.frozen_far ⟨D,5,none⟩ hs CJ).trans z5,nL hs hg.size⟩
theorem Cells6.apart2 {V:World} {D G:Nat} {x0 x1 x2 x3 x4 x5:Value} (h:Cells6 V G x0 x1 x2 x3 x4 x5) (CJ:D≠G) (o0 o1:Nat) (p0 p1:Value):Cells6 ((V.setCell ⟨D,o0,none⟩ p0).setCell ⟨D,o1,none⟩ p1) G x0 x1 x2 x3 x4 x5:=((h.off CJ p0).off CJ p1)
theorem Cells4.apart2 {V:World} {D G:Nat} {x0 x1 x2 x3:Value} (h:Cells4 V G x0 x1 x2 x3) (CJ:D≠G) (o0 o1:Nat) (p0 p1:Value):Cells4 ((V.setCell ⟨D,o0,none⟩ p0).setCell ⟨D,o1,none⟩ p1) G x0 x1 x2 x3:=((h.off CJ p0).off CJ p1)
theorem Lk.Own.far2o {P:Program} {α:Type} {K:Lk P α} {w:World} {base:Nat} {v:Value} {xs:List α} (h:K.Own w base v xs) {D:Nat} (CJ:∀k,v.ownBlock=some k→k≠D) (o0 o1:Nat) (p0 p1:Value):K.Own ((w.setCell ⟨D,o0,none⟩ p0).setCell ⟨D,o1,none⟩ p1) base v xs:=((h.far CJ o0 p0).far CJ o1 p1)
theorem Cells6.apart3 {V:World} {D G:Nat} {x0 x1 x2 x3 x4 x5:Value} (h:Cells6 V G x0 x1 x2 x3 x4 x5) (CJ:D≠G) (o0 o1 o2:Nat) (p0 p1 p2:Value):Cells6 (((V.setCell ⟨D,o0,none⟩ p0).setCell ⟨D,o1,none⟩ p1).setCell ⟨D,o2,none⟩ p2) G x0 x1 x2 x3 x4 x5:=(((h.off CJ p0).off CJ p1).off CJ p2)
theorem Cells4.apart3 {V:World} {D G:Nat} {x0 x1 x2 x3:Value} (h:Cells4 V G x0 x1 x2 x3) (CJ:D≠G) (o0 o1 o2:Nat) (p0 p1 p2:Value):Cells4 (((V.setCell ⟨D,o0,none⟩ p0).setCell ⟨D,o1,none⟩ p1).setCell ⟨D,o2,none⟩ p2) G x0 x1 x2 x3:=(((h.off CJ p0).off CJ p1).off CJ p2)
theorem Lk.Own.far3o {P:Program} {α:Type} {K:Lk P α} {w:World} {base:Nat} {v:Value} {xs:List α} (h:K.Own w base v xs) {D:Nat} (CJ:∀k,v.ownBlock=some k→k≠D) (o0 o1 o2:Nat) (p0 p1 p2:Value):K.Own (((w.setCell ⟨D,o0,none⟩ p0).setCell ⟨D,o1,none⟩ p1).setCell ⟨D,o2,none⟩ p2) base v xs:=(((h.far CJ o0 p0).far CJ o1 p1).far CJ o2 p2)
theorem Lk.Own.set6 {P:Program} {α:Type} {K:Lk P α} {w:World} {base:Nat} {v:Value} {xs:List α} (h:K.Own w base v xs) {D:Nat} (hD:D<base) (p0 p1 p2 p3 p4 p5:Value):K.Own ((((((w.setCell ⟨D,0,none⟩ p0).setCell ⟨D,1,none⟩ p1).setCell ⟨D,2,none⟩ p2).setCell ⟨D,3,none⟩ p3).setCell ⟨D,4,none⟩ p4).setCell ⟨D,5,none⟩ p5) base v xs:=((((((h.set (a:=⟨D,0,none⟩) hD p0).set (a:=⟨D,1,none⟩) hD p1).set (a:=⟨D,2,none⟩) hD p2).set (a:=⟨D,3,none⟩) hD p3).set (a:=⟨D,4,none⟩) hD p4).set (a:=⟨D,5,none⟩) hD p5)
end Go.Proofs.YtmecohdedghiaaaGreatDoor
