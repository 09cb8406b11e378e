/- Logs: are they right, as the program and the reference tell it. -/
import Derived.Test.YtacjonncakhhmaaGreatPv00
import Derived.Test.YtacjonncakhhmaaGreatPv04
set_option maxRecDepth 100000
set_option maxHeartbeats 8000000
namespace Go.Proofs.YtacjonncakhhmaaGreat.Lg
open Go.RowKit
abbrev lgV (r l:Int) (A:Option Addr) (n c:Nat):Value:=.agg #[.int .i64 r,.int .i64 l,.slice A n c]
def mayB (b n:Int):Bool:=decide (1≤b∧b≤8∧ -1099511627776≤n∧n≤1099511627776∧n≠0)
def okC (xs:List Ch) (l:Int) (i:Nat):Bool:=decide ((xs.getD i ch0).a=l-xs.length+1+i)&&mayB (xs.getD i ch0).b (xs.getD i ch0).c
def rlB (xs:List Ch) (l:Int):Bool:=(List.range xs.length).all (okC xs l)
theorem rl_false {xs:List Ch} {l:Int} (k:Nat) (hk:k<xs.length) (h:okC xs l k=false):rlB xs l=false:=by
 unfold rlB;rw[List.all_eq_false];exact⟨k,List.mem_range.2 hk,by simp[h]⟩
theorem rl_true {xs:List Ch} {l:Int} (h:∀k,k<xs.length→okC xs l k=true):rlB xs l=true:=by
 unfold rlB;rw[List.all_eq_true];exact fun k hk=>h k (List.mem_range.1 hk)
theorem rl_at {xs:List Ch} {l:Int} (h:rlB xs l=true) (k:Nat) (hk:k<xs.length):okC xs l k=true:=by
 unfold rlB at h;rw[List.all_eq_true]at h;exact h k (List.mem_range.2 hk)
def rgC (r l:Int) (n:Nat):Prop:=1≤r∧r≤64∧0≤l∧l≤2147483647∧(n:Int)≤r∧(n:Int)≤l
instance (r l:Int) (n:Nat):Decidable (rgC r l n):=inferInstanceAs (Decidable (_∧_))
def rgB (r l:Int) (xs:List Ch):Bool:=decide (rgC r l xs.length)&&rlB xs l
theorem rg_parts {r l:Int} {xs:List Ch} (h:rgB r l xs=true):rgC r l xs.length∧rlB xs l=true:=by
 unfold rgB at h;rw[Bool.and_eq_true,decide_eq_true_eq]at h;exact h
theorem rg_no {r l:Int} {xs:List Ch} (h:¬rgC r l xs.length):rgB r l xs=false:=by
 unfold rgB;rw[dF h];rfl
theorem rg_yes {r l:Int} {xs:List Ch} (h:rgC r l xs.length):rgB r l xs=rlB xs l:=by
 unfold rgB;rw[dT h];rfl
theorem may_any (b n:Int) (w:World):Calls Tryz.prog 98 #[.int .i64 b,.int .i64 n] w fun e w'=>e=.returned (.bool (mayB b n))∧w=w':=by
 by_cases h0:1≤b
 ·skip
  by_cases h1:b≤8
  ·skip
   by_cases h2: -1099511627776≤n
   ·skip
    by_cases h3:n≤1099511627776
    ·skip
     by_cases h4:n≠0
     ·rw[show mayB b n=true from dT (by omega)];go_enter Tryz.func98,Tryz.ntmps98;go_wp2
      go_ret
      exact⟨by first|rfl|exact ret_b (bne_iff_ne.2 (by assumption))|exact ret_b (by rw[bne_eq_false_iff_eq];omega),rfl⟩
     ·rw[show mayB b n=false from dF (by omega)];go_enter Tryz.func98,Tryz.ntmps98;go_wp2
      go_ret
      exact⟨by first|rfl|exact ret_b (bne_iff_ne.2 (by assumption))|exact ret_b (by rw[bne_eq_false_iff_eq];omega),rfl⟩
    ·rw[show mayB b n=false from dF (by omega)];go_enter Tryz.func98,Tryz.ntmps98;go_wp2
     go_ret
     exact⟨by first|rfl|exact ret_b (bne_iff_ne.2 (by assumption))|exact ret_b (by rw[bne_eq_false_iff_eq];omega),rfl⟩
   ·rw[show mayB b n=false from dF (by omega)];go_enter Tryz.func98,Tryz.ntmps98;go_wp2
    go_ret
    exact⟨by first|rfl|exact ret_b (bne_iff_ne.2 (by assumption))|exact ret_b (by rw[bne_eq_false_iff_eq];omega),rfl⟩
  ·rw[show mayB b n=false from dF (by omega)];go_enter Tryz.func98,Tryz.ntmps98;go_wp2
   go_ret
   exact⟨by first|rfl|exact ret_b (bne_iff_ne.2 (by assumption))|exact ret_b (by rw[bne_eq_false_iff_eq];omega),rfl⟩
 ·rw[show mayB b n=false from dF (by omega)];go_enter Tryz.func98,Tryz.ntmps98;go_wp2
  go_ret
  exact⟨by first|rfl|exact ret_b (bne_iff_ne.2 (by assumption))|exact ret_b (by rw[bne_eq_false_iff_eq];omega),rfl⟩
theorem rmay_any (b n:Int) (w:World):Calls Tryz.prog 107 #[.int .i64 b,.int .i64 n] w fun e w'=>e=.returned (.bool (mayB b n))∧w=w':=by
 by_cases h0:1≤b
 ·skip
  by_cases h1:b≤8
  ·skip
   by_cases h2:n≠0
   ·skip
    by_cases h3: -1099511627776≤n
    ·skip
     by_cases h4:n≤1099511627776
     ·rw[show mayB b n=true from dT (by omega)];go_enter Tryz.func107,Tryz.ntmps107;go_wp2
      go_ret
      exact⟨by first|rfl|exact ret_b (bne_iff_ne.2 (by assumption))|exact ret_b (by rw[bne_eq_false_iff_eq];omega),rfl⟩
     ·rw[show mayB b n=false from dF (by omega)];go_enter Tryz.func107,Tryz.ntmps107;go_wp2
      go_ret
      exact⟨by first|rfl|exact ret_b (bne_iff_ne.2 (by assumption))|exact ret_b (by rw[bne_eq_false_iff_eq];omega),rfl⟩
    ·rw[show mayB b n=false from dF (by omega)];go_enter Tryz.func107,Tryz.ntmps107;go_wp2
     go_ret
     exact⟨by first|rfl|exact ret_b (bne_iff_ne.2 (by assumption))|exact ret_b (by rw[bne_eq_false_iff_eq];omega),rfl⟩
   ·rw[show mayB b n=false from dF (by omega)];go_enter Tryz.func107,Tryz.ntmps107;go_wp2
    go_ret
    exact⟨by first|rfl|exact ret_b (bne_iff_ne.2 (by assumption))|exact ret_b (by rw[bne_eq_false_iff_eq];omega),rfl⟩
  ·rw[show mayB b n=false from dF (by omega)];go_enter Tryz.func107,Tryz.ntmps107;go_wp2
   go_ret
   exact⟨by first|rfl|exact ret_b (bne_iff_ne.2 (by assumption))|exact ret_b (by rw[bne_eq_false_iff_eq];omega),rfl⟩
 ·rw[show mayB b n=false from dF (by omega)];go_enter Tryz.func107,Tryz.ntmps107;go_wp2
  go_ret
  exact⟨by first|rfl|exact ret_b (bne_iff_ne.2 (by assumption))|exact ret_b (by rw[bne_eq_false_iff_eq];omega),rfl⟩
theorem rightList_any (A:Option Addr) (c:Nat) (xs:List Ch) (l:Int) (h0:(xs.length:Int)≤l) (h1:l≤2147483647) (w:World) (hv:KC.IsL w w.heap.size (.slice A xs.length c) xs):Calls Tryz.prog 85 #[.slice A xs.length c,.int .i64 l] w fun e w'=>e=.returned (.bool (rlB xs l))∧Below w.heap.size w w':=by
 have HV:=aH hv;clear hv;go_enter Tryz.func85,Tryz.ntmps85;go_wp2
 go_step3
 go_wp2
 go_step3
 go_wp2
 go_loopw [5,6,15] (fun t v i wr=>∃k:Nat,t=.bool true∧i=.int .i64 k∧v=.int .i64 (l-xs.length+k)∧k≤xs.length∧(∀j,j<k→okC xs l j=true)∧Below w.heap.size w wr) (fun _ _ i _=>xs.length-(intOf i).toNat)
 case atStart=>exact⟨0,rfl,rfl,num_i (by omega),Nat.zero_le _,fun j hj=>absurd hj (Nat.not_lt_zero j),bR _ _⟩
 case round=>
  obtain⟨k,rfl,rfl,rfl,hk,hok,hbl⟩:=hrel;have HB:=aH hbl;have HO:=aH hok;clear hbl hok;by_cases hlt:k<xs.length
  ·obtain⟨b',off,rfl,hb',hbc,hcell⟩:=ch_cells (HV.out.below HB.out) (by omega);obtain⟨e1,e2,e3⟩:=hcell k hlt;have HP:=aH (show okC xs l k=(decide ((xs.getD k ch0).a=l-xs.length+1+k)&&mayB (xs.getD k ch0).b (xs.getD k ch0).c)from rfl);have hbw:b'<wr.heap.size:=nL hb' HB.out.size;clear hcell;generalize xs.getD k ch0=q at *;obtain⟨a,b,n⟩:=q;dsimp only at *;have HM:=aH (fun w=>may_any b n w);by_cases ha:a=l-xs.length+1+k
   ·cases hm:mayB b n
    ·have HF:=aH (rl_false k hlt (HP.out.trans (by rw[hm,Bool.and_false])));rw[hm]at HM;clear hm HP;go_wp2_with fail;refine(HM.out _).mono ?_;rintro e w2 ⟨rfl,rfl⟩;go_wp2;rw[Exit.noGoto_ret]
     go_ret
     exact⟨by rw[HF.out];rfl,bL HB.out _⟩
    ·have HF:=aH (HP.out.trans (by rw[hm,Bool.and_true,dT ha]));rw[hm]at HM;clear hm HP;go_wp2_with fail;refine(HM.out _).mono ?_;rintro e w2 ⟨rfl,rfl⟩;go_wp2
     go_roundw
     case rel=>exact⟨k+1,rfl,num_i (by omega),num_i (by omega),by omega,fun j hj=>by
      by_cases h:j=k
      ·subst h;exact HF.out
      ·exact HO.out j (by omega),bL HB.out _⟩
     case measure=>simp[intOf];omega
   ·have HF:=aH (rl_false k hlt (HP.out.trans (by rw[dF ha,Bool.false_and])));clear HP;go_wp2_with fail;rw[Exit.noGoto_ret]
    go_ret
    exact⟨by rw[HF.out];rfl,bL HB.out _⟩
  ·obtain rfl:k=xs.length:=(by omega);have HF:=aH (rl_true HO.out);go_wp2;rw[Exit.noGoto_ret]
   go_ret
   exact⟨by rw[HF.out];rfl,HB.out⟩
theorem right_any' (r l:Int) (A:Option Addr) (c:Nat) (xs:List Ch) (w:World) (hv:KC.IsL w w.heap.size (.slice A xs.length c) xs):Calls Tryz.prog 61 #[lgV r l A xs.length c] w fun e w'=>e=.returned (.bool (rgB r l xs))∧Below w.heap.size w w':=by
 have HV:=aH hv;have hl:=hv.2.2;clear hv;by_cases g0:1≤r
 ·by_cases g1:r≤64
  ·by_cases g2:0≤l
   ·by_cases g3:l≤2147483647
    ·by_cases g4:(xs.length:Int)≤r
     ·by_cases g5:(xs.length:Int)≤l
      ·rw[rg_yes (show rgC r l xs.length from⟨g0,g1,g2,g3,g4,g5⟩)];have HL:=aH (fun w h=>rightList_any A c xs l g5 g3 w h);go_enter Tryz.func61,Tryz.ntmps61;go_wp2_with fail;refine(HL.out _ (HV.out.then (bL (bR _ _) _))).mono ?_;rintro e w2 ⟨rfl,hb2⟩;have HB:=aH (Tp.Below.box _ hb2);clear hb2;go_wp2
       go_ret
       exact⟨rfl,HB.out⟩
      ·rw[rg_no (show ¬rgC r l xs.length by unfold rgC;omega)];go_enter Tryz.func61,Tryz.ntmps61;go_wp2
       go_ret
       exact⟨rfl,bL (bR _ _) _⟩
     ·rw[rg_no (show ¬rgC r l xs.length by unfold rgC;omega)];go_enter Tryz.func61,Tryz.ntmps61;go_wp2
      go_ret
      exact⟨rfl,bL (bR _ _) _⟩
    ·rw[rg_no (show ¬rgC r l xs.length by unfold rgC;omega)];go_enter Tryz.func61,Tryz.ntmps61;go_wp2
     go_ret
     exact⟨rfl,bL (bR _ _) _⟩
   ·rw[rg_no (show ¬rgC r l xs.length by unfold rgC;omega)];go_enter Tryz.func61,Tryz.ntmps61;go_wp2
    go_ret
    exact⟨rfl,bL (bR _ _) _⟩
  ·rw[rg_no (show ¬rgC r l xs.length by unfold rgC;omega)];go_enter Tryz.func61,Tryz.ntmps61;go_wp2
   go_ret
   exact⟨rfl,bL (bR _ _) _⟩
 ·rw[rg_no (show ¬rgC r l xs.length by unfold rgC;omega)];go_enter Tryz.func61,Tryz.ntmps61;go_wp2
  go_ret
  exact⟨rfl,bL (bR _ _) _⟩
theorem rlright_any (r l:Int) (A:Option Addr) (c:Nat) (xs:List Ch) (w:World) (hv:KC.IsL w w.heap.size (.slice A xs.length c) xs):Calls Tryz.prog 104 #[lgV r l A xs.length c] w fun e w'=>e=.returned (.bool (rgB r l xs))∧Below w.heap.size w w':=by
 have HV:=aH hv;have hl:=hv.2.2;clear hv;by_cases g0:1≤r
 ·by_cases g1:r≤64
  ·by_cases g2:0≤l
   ·by_cases g3:l≤2147483647
    ·by_cases g4:(xs.length:Int)≤r
     ·by_cases g5:(xs.length:Int)≤l
      ·rw[rg_yes (show rgC r l xs.length from⟨g0,g1,g2,g3,g4,g5⟩)];go_enter Tryz.func104,Tryz.ntmps104;obtain⟨w0,hw0⟩:∃w0,w0=w.alloc (.cells #[.int .i64 r,.int .i64 l,.slice A xs.length c] 50):=⟨_,rfl⟩;have HB0:=aH (show Below w.heap.size w w0 by rw[hw0];exact bL (bR _ _) _);have HC0:=aH (show Cells3 w0 w.heap.size (.int .i64 r) (.int .i64 l) (.slice A xs.length c)by rw[hw0];exact Cells3.new w _ _ _ _);have HF:=aH (show ∀wr,Below w0.heap.size w0 wr→Cells3 wr w.heap.size (.int .i64 r) (.int .i64 l) (.slice A xs.length c)from fun wr hb=>HC0.out.below hb);obtain⟨c1,c2,c3,_⟩:=HC0.out;go_wp2;rw[←hw0];clear hw0 c1 c2 c3
       go_loopw [3] (fun i wr=>∃k:Nat,i=.int .i64 k∧k≤xs.length∧(∀j,j<k→okC xs l j=true)∧Below w0.heap.size w0 wr) (fun i _=>xs.length-(intOf i).toNat)
       case atStart=>exact⟨0,rfl,Nat.zero_le _,fun j hj=>absurd hj (Nat.not_lt_zero j),bR _ _⟩
       case round=>
        obtain⟨k,rfl,hk,hok,hbl⟩:=hrel;have HB:=aH hbl;have HO:=aH hok;obtain⟨c1,c2,c3,_⟩:=HF.out wr hbl;clear hbl hok;by_cases hlt:k<xs.length
        ·obtain⟨b',off,rfl,hb',hbc,hcell⟩:=ch_cells (HV.out.below (bC HB0.out HB.out)) (by omega);obtain⟨e1,e2,e3⟩:=hcell k hlt;have HP:=aH (show okC xs l k=(decide ((xs.getD k ch0).a=l-xs.length+1+k)&&mayB (xs.getD k ch0).b (xs.getD k ch0).c)from rfl);have hbw:b'<wr.heap.size:=nL hb' (Nat.le_trans HB0.out.size HB.out.size);have hbg:w.heap.size<wr.heap.size:=wB wr _ c1;clear hcell;generalize xs.getD k ch0=q at *;obtain⟨a,b,n⟩:=q;dsimp only at *;have HM:=aH (fun w=>rmay_any b n w);by_cases ha:a=l-xs.length+1+k
         ·cases hm:mayB b n
          ·have HF:=aH (rl_false k hlt (HP.out.trans (by rw[hm,Bool.and_false])));rw[hm]at HM;clear hm HP;go_wp2_with fail;refine(HM.out _).mono ?_;rintro e w2 ⟨rfl,rfl⟩;go_wp2
           go_ret
           exact⟨by rw[HF.out];rfl,bL (bC HB0.out HB.out) _⟩
          ·have HF2:=aH (HP.out.trans (by rw[hm,Bool.and_true,dT ha]));rw[hm]at HM;clear hm HP;go_wp2_with fail;refine(HM.out _).mono ?_;rintro e w2 ⟨rfl,rfl⟩;go_wp2
           go_roundw
           case rel=>exact⟨k+1,num_i (by omega),by omega,fun j hj=>by
            by_cases h:j=k
            ·subst h;exact HF2.out
            ·exact HO.out j (by omega),bL HB.out _⟩
           case measure=>simp[intOf];omega
         ·have HF:=aH (rl_false k hlt (HP.out.trans (by rw[dF ha,Bool.false_and])));clear HP;go_wp2_with fail
          go_ret
          exact⟨by rw[HF.out];rfl,bL (bC HB0.out HB.out) _⟩
        ·obtain rfl:k=xs.length:=(by omega);have HF:=aH (rl_true HO.out);go_wp2
         go_ret
         exact⟨by rw[HF.out];rfl,bC HB0.out HB.out⟩
      ·rw[rg_no (show ¬rgC r l xs.length by unfold rgC;omega)];go_enter Tryz.func104,Tryz.ntmps104;go_wp2
       go_ret
       exact⟨rfl,bL (bR _ _) _⟩
     ·rw[rg_no (show ¬rgC r l xs.length by unfold rgC;omega)];go_enter Tryz.func104,Tryz.ntmps104;go_wp2
      go_ret
      exact⟨rfl,bL (bR _ _) _⟩
    ·rw[rg_no (show ¬rgC r l xs.length by unfold rgC;omega)];go_enter Tryz.func104,Tryz.ntmps104;go_wp2
     go_ret
     exact⟨rfl,bL (bR _ _) _⟩
   ·rw[rg_no (show ¬rgC r l xs.length by unfold rgC;omega)];go_enter Tryz.func104,Tryz.ntmps104;go_wp2
    go_ret
    exact⟨rfl,bL (bR _ _) _⟩
  ·rw[rg_no (show ¬rgC r l xs.length by unfold rgC;omega)];go_enter Tryz.func104,Tryz.ntmps104;go_wp2
   go_ret
   exact⟨rfl,bL (bR _ _) _⟩
 ·rw[rg_no (show ¬rgC r l xs.length by unfold rgC;omega)];go_enter Tryz.func104,Tryz.ntmps104;go_wp2
  go_ret
  exact⟨rfl,bL (bR _ _) _⟩
end Go.Proofs.YtacjonncakhhmaaGreat.Lg
namespace Go.Proofs.YtacjonncakhhmaaGreat.Lk
open Go.RowKit
variable {P:Program} {α:Type} {K:Lk P α}
theorem IsL.part {w:World} {B b off c:Nat} {xs:List α} (h:K.IsL w B (.slice (some ⟨b,off,none⟩) xs.length c) xs) (m:Nat) (hm:m<xs.length) (n' c':Nat) (hn:n'=xs.length-m) (hc:n'≤c') (o':Nat) (ho:o'=off+m*K.n):K.IsL w B (.slice (some ⟨b,o',none⟩) n' c') (xs.drop m):=by
 subst hn;subst ho;have hlen:=h.2.2;obtain⟨b2,off2,e,hb,_,hcell⟩:=h.elem (by omega);simp only[Option.some.injEq,Addr.mk.injEq,and_true]at e;obtain⟨rfl,rfl⟩:=e;refine⟨⟨_,c',by rw[List.length_drop],by rw[List.length_drop];exact hc,fun _=>⟨_,_,rfl,hb,fun i hi j u hu=>?_⟩⟩,fun x hx=>h.2.1 x (List.mem_of_mem_drop hx),by rw[List.length_drop];omega⟩;rw[List.length_drop]at hi;have q:=hcell (m+i) (by omega) j u (by
  rw[←hu]
  congr 2
  simp[List.getD_eq_getElem?_getD])
 rw[show off+m*K.n+(i*K.n+j)=off+((m+i)*K.n+j)by rw[Nat.add_mul];omega];exact q
theorem run_app_full (w:World) (B:Nat) (ty:TypeId) (A:Option Addr) (n:Nat) (src:Value) (xs ys:List α) (B1:Nat) (h:K.IsL w B1 (.slice A n n) xs) (hs:K.IsL w B src ys) (h0:0<ys.length) (hl:xs.length+ys.length≤1000000):
  ∃v' w',(Builtin.append_ #[K.S,K.S] ty #[.slice A n n,src]).run P w=.ok v' w'∧K.Own w' w.heap.size v' (xs++ys)∧Below w.heap.size w w':=by
 obtain⟨A1,c1,e1,_⟩:=h.shape;simp only[Value.slice.injEq]at e1;obtain⟨_,rfl,_⟩:=e1;have hbl:∀ {w':World} {r:Option Nat},w.grownBy w' r→r=none→Below w.heap.size w w':=fun hg hr=>by
  subst hr;exact(bR _ _).grown hg (nR _) fun k hk=>by cases hk
 cases A with
 |none=>
  have hx:xs=[]:=by
   rcases Nat.eq_zero_or_pos xs.length with h'|h'
   ·exact List.eq_nil_of_length_eq_zero h'
   ·obtain⟨b,off,e,_⟩:=h.elem h'
    cases e
  subst hx;obtain⟨v',w',hr,ho,hg,_⟩:=run_app (K:=K) w w.heap.size B ty (.slice none 0 0) src [] ys (Own.nil _ _) hs hl (nR _);exact⟨v',w',hr,ho,hbl hg rfl⟩
 |some a=>
  obtain⟨i0,hi,hz0,hz1,hz2⟩:=info_parts K.info;obtain⟨A2,c2,rfl,hc2⟩:=hs.shape;obtain⟨b2,off2,rfl,hb2,_,hcell2⟩:=hs.elem h0;have hby:(xs.length+ys.length)*K.bytes≤140737488355328:=by
   have:=Nat.mul_le_mul hl K.small;omega
  have olds:∀j u,(K.flat xs)[j]? =some u→w.cell? (a.add j)=some u:=fun j u hu=>by
   have hj:j<xs.length*K.n:=by
    have:=(List.getElem?_eq_some_iff.1 hu).1;rw[K.flat_len]at this;exact this
   have hn:=K.pos;have e:=Nat.div_add_mod j K.n;have hm:=Nat.mod_lt j hn;have hi2:j/K.n<xs.length:=(Nat.div_lt_iff_lt_mul hn).2 hj;obtain⟨b,off,e3,hb,_,hcell⟩:=h.elem (Nat.lt_of_le_of_lt (Nat.zero_le _) hi2);simp only[Option.some.injEq]at e3;subst e3;rw[Nat.mul_comm]at e;rw[←e,K.flat_at xs _ _ hi2 hm]at hu;have q:=hcell (j/K.n) hi2 (j%K.n) u hu;rw[e]at q;rw[Go.WideShapes.add_plain];exact q
  have news:∀j u,(K.flat ys)[j]? =some u→w.cell? ((⟨b2,off2,none⟩:Addr).add j)=some u:=fun j u hu=>by
   have hj:j<ys.length*K.n:=by
    have:=(List.getElem?_eq_some_iff.1 hu).1;rw[K.flat_len]at this;exact this
   have hn:=K.pos;have e:=Nat.div_add_mod j K.n;have hm:=Nat.mod_lt j hn;have hi2:j/K.n<ys.length:=(Nat.div_lt_iff_lt_mul hn).2 hj;rw[Nat.mul_comm]at e;rw[←e,K.flat_at ys _ _ hi2 hm]at hu;have q:=hcell2 (j/K.n) hi2 (j%K.n) u hu;rw[e]at q;rw[Go.WideShapes.add_plain];exact q
  obtain⟨v',w',hr,ho,hg⟩:=run_append_arg_grows (P:=P) w K.S ty K.E i0 K.zero K.n K.bytes K.und hi hz0 hz1 hz2 K.zs K.pos a xs.length xs.length (K.flat xs) (K.flat_len xs) olds ⟨b2,off2,none⟩ ys.length c2 (K.flat ys) (K.flat_len ys) news (by omega) (by unfold maxLen;omega) hby;refine⟨v',w',hr,⟨by rw[List.length_append,K.flat_append];exact ho,fun x hx=>?_⟩,hbl hg rfl⟩;rcases List.mem_append.1 hx with hx|hx
  ·exact h.2.1 x hx
  ·exact hs.2.1 x hx
theorem wp_full {o:Oper} {a:Act} {R:Act→World→Prop} {Q:Exit→Act→World→Prop} (w:World) (s x:Operand) {T:TypeId} (hT:T=K.S)
  (ho:o.op=.call {callee:=.builtin .append,args:=#[s,x],argTypes:=#[T,T]}) (B1 B:Nat) (A:Option Addr) (n:Nat) (src:Value) (xs ys:List α) (hs:a.eval s=.slice A n n) (hx:a.eval x=src)
  (h:K.IsL w B1 (.slice A n n) xs) (hy:K.IsL w B src ys) (h0:0<ys.length) (hl:xs.length+ys.length≤1000000)
  (hk:∀v' w',K.Own w' w.heap.size v' (xs++ys)→Below w.heap.size w w'→R (a.put o.dst v') w'):o.wp P a w R Q:=by
 subst hT;obtain⟨v',w',hrun,h2,h3⟩:=run_app_full w B o.type A n src xs ys B1 h hy h0 hl;unfold Oper.wp execOp;simp only[ho,resolve,invoke,builtin,Sem.run_bind,Sem.run_pure,Result.andThen_ok,List.map_toArray,List.map_cons,List.map_nil,hs,hx,hrun];exact hk v' w' h2 h3
theorem wpList_full {ops:Array Oper} {rest:List Oper} {o:Oper} {a:Act} {Q:Exit→Act→World→Prop} (w:World) (hgd:o.guard=none) (s x:Operand) {T:TypeId} (hT:T=K.S)
  (ho:o.op=.call {callee:=.builtin .append,args:=#[s,x],argTypes:=#[T,T]}) (B1 B:Nat) (A:Option Addr) (n:Nat) (src:Value) (xs ys:List α) (hs:a.eval s=.slice A n n) (hx:a.eval x=src)
  (h:K.IsL w B1 (.slice A n n) xs) (hy:K.IsL w B src ys) (h0:0<ys.length) (hl:xs.length+ys.length≤1000000)
  (hk:∀v' w',K.Own w' w.heap.size v' (xs++ys)→Below w.heap.size w w'→wpList P ops Q rest (a.put o.dst v') w'):wpList P ops Q (o::rest) a w:=
 wpList_plain hgd fun _ hK=>wp_full w s x hT ho B1 B A n src xs ys hs hx h hy h0 hl fun v' w' h2 h3=>hK _ _ (hk v' w' h2 h3)
end Go.Proofs.YtacjonncakhhmaaGreat.Lk
namespace Go.Proofs.YtacjonncakhhmaaGreat.Lg
open Go.RowKit
theorem end_any (r l:Int) (A:Option Addr) (c:Nat) (xs:List Ch) (n:Nat) (hn:n≤xs.length) (w:World) (B:Nat) (hv:KC.IsL w B (.slice A xs.length c) xs):Calls Tryz.prog 99 #[lgV r l A xs.length c,.int .i64 n] w fun e w'=>∃A',e=.returned (.slice A' n n)∧KC.IsL w B (.slice A' n n) (xs.drop (xs.length-n))∧Below w.heap.size w w':=by
 have HV:=aH hv;have hl:=hv.2.2;obtain⟨A2,c2,e2,hc⟩:=hv.shape;simp only[Value.slice.injEq,true_and]at e2;obtain⟨rfl,rfl⟩:=e2;clear hv;obtain⟨ys,hys⟩:∃ys,xs.drop (xs.length-n)=ys:=⟨_,rfl⟩;rw[hys];rcases Nat.eq_zero_or_pos n with h0|h0
 ·subst h0;rw[Nat.sub_zero,List.drop_length]at hys;have HN:=aH (show ∀A',KC.IsL w B (.slice A' 0 0) ys from fun A'=>by
   rw[←hys];exact Lk.IsL.nil _ _ _ _)
  clear hys;rcases A with _|ad
  ·rcases Nat.eq_zero_or_pos xs.length with hx|hx
   ·rw[hx]at *;go_enter Tryz.func99,Tryz.ntmps99;go_wp2
    go_ret
    exact⟨_,rfl,HN.out _,bL (bR _ _) _⟩
   ·obtain⟨b,off,e,_⟩:=HV.out.elem hx
    cases e
  ·go_enter Tryz.func99,Tryz.ntmps99;go_wp2
   go_ret
   exact⟨_,rfl,HN.out _,bL (bR _ _) _⟩
 ·obtain⟨b,off,rfl,_⟩:=HV.out.elem (by omega);have HN:=aH (fun o' h=>HV.out.part (xs.length-n) (by omega) n n (by omega) (nR _) o' h);rw[hys]at HN;clear hys;obtain⟨m,hm⟩:∃m,xs.length=m+n:=⟨xs.length-n,by omega⟩;go_enter Tryz.func99,Tryz.ntmps99;go_wp2
  go_ret
  exact⟨some ⟨b,off+m*3,none⟩,by show Ending.returned (.slice _ (m+n-m) (m+n-m))=_;rw[Nat.add_sub_cancel_left],HN.out _ (by show _=off+(xs.length-n)*3;rw[show xs.length-n=m by omega]),bL (bR _ _) _⟩
end Go.Proofs.YtacjonncakhhmaaGreat.Lg
