/- Lists of tips and of changes in memory; blocks of two and three cells. -/
import Derived.Test.YtmecohdedghiaaaGreatDoorPn00
import Derived.Test.YtmecohdedghiaaaGreatDoorPn02
set_option maxRecDepth 100000
set_option maxHeartbeats 8000000
namespace Go.Proofs.YtmecohdedghiaaaGreatDoor
open Go.RowKit
theorem drewN_two (w:World) (a b:Nat):∃d,(w.drewN a).drewN b=w.drewN d:=⟨a+b,by simp[World.drewN,Nat.add_assoc]⟩
def chkAt (l:List Nat) (i:Nat):Int:=
 if i<l.length then
  (if nanb (l.getD i 0)=true then 20
  else if 0<i∧leb (l.getD i 0) (l.getD (i-1) 0)=true then 70
  else chkAt l (i+1))
 else 0
termination_by l.length-i
def chkE (l:List Nat):Int:=if l.length<2 then 1 else if 25<l.length then 2 else chkAt l 0
theorem chk_end (l:List Nat) (i:Nat) (h:l.length≤i):chkAt l i=0:=by rw[chkAt,if_neg (by omega)]
theorem chk_nan (l:List Nat) (i:Nat) (h:i<l.length) (hn:nanb (l.getD i 0)=true):chkAt l i=20:=by rw[chkAt,if_pos h,if_pos hn]
theorem chk_bad (l:List Nat) (i:Nat) (h:i<l.length) (hn:nanb (l.getD i 0)=false) (h0:0<i) (hb:leb (l.getD i 0) (l.getD (i-1) 0)=true):chkAt l i=70:=by
 rw[chkAt,if_pos h,if_neg (by simp only[hn];simp),if_pos ⟨h0,hb⟩]
theorem chk_next (l:List Nat) (i:Nat) (h:i<l.length) (hn:nanb (l.getD i 0)=false) (hb:i=0∨leb (l.getD i 0) (l.getD (i-1) 0)=false):chkAt l (i+1)=chkAt l i:=by
 rw[chkAt.eq_def l i,if_pos h,if_neg (by simp only[hn];simp),if_neg];rintro⟨h0,hb2⟩;rcases hb with hb|hb
 ·omega
 ·rw[hb]at hb2;cases hb2
theorem check_any (v:Value) (xs:List Nat) (w:World) (h:KF.IsL w w.heap.size v xs):Calls Tryz.prog 214 #[v] w fun e w'=>e=.returned (.int .i64 (chkE xs))∧w=w':=by
 by_cases h2:xs.length<2
 ·obtain⟨⟨A,cap,rfl,hc,hA⟩,hf,hl⟩:=h;go_enter Tryz.func214,Tryz.ntmps214;go_wp2
  go_step3
  go_wp2;rw[Exit.noGoto_ret]
  go_ret
  exact⟨ret_i (by unfold chkE;rw[if_pos h2]),rfl⟩
 obtain⟨b,off,cap,rfl,hc,hb,hl,hcell,hlt⟩:=KF.cells h (by omega);clear h;by_cases h25:25<xs.length
 ·go_enter Tryz.func214,Tryz.ntmps214;go_wp2
  go_step3
  go_wp2;rw[Exit.noGoto_ret]
  go_ret
  exact⟨ret_i (by unfold chkE;rw[if_neg h2,if_pos h25]),rfl⟩
 have HE:=aH (show chkE xs=chkAt xs 0 by unfold chkE;rw[if_neg h2,if_neg h25]);have HC:=aH hcell;have HL:=aH hlt;have HX:=aH (fun i=>chk_next xs i);have HN:=aH (fun i=>chk_nan xs i);have HB:=aH (fun i=>chk_bad xs i);have HD:=aH (fun i=>chk_end xs i);have ole:∀a b,(FloatKind.f64.format.order a b==some .lt||FloatKind.f64.format.order a b==some .eq)=leb a b:=fun _ _=>rfl;clear hcell hlt;go_enter Tryz.func214,Tryz.ntmps214;go_wp2
 go_step3
 go_wp2
 go_step3
 go_wp2
 go_loop [3,16] (fun e i=>∃k:Nat,k≤xs.length∧e=.int .i64 0∧i=.int .i64 k∧chkAt xs k=chkAt xs 0) (fun _ i=>xs.length-(intOf i).toNat)
 case atStart=>exact⟨0,by omega,rfl,rfl,rfl⟩
 case round=>
  obtain⟨k,hk,rfl,rfl,hgo⟩:=hrel;have HG:=aH hgo;clear hgo;by_cases hlt:k<xs.length
  ·have hcell:=HC.out k hlt;have HX':=aH (HX.out k hlt);have HN':=aH (HN.out k hlt);have HB':=aH (HB.out k hlt);by_cases h0:0<k
   ·have hprev:=HC.out (k-1) (by omega);generalize xs.getD (k-1) 0=g at *;generalize xs.getD k 0=f at *;rcases Bool.eq_false_or_eq_true (nanb f)with hn|hn
    ·have HR:=aH (HN'.out hn);go_wp2_with (go_at_call 247;refine(isNone_any _ _).mono ?_;rintro e w' ⟨rfl,rfl⟩);rw[Exit.noGoto_ret]
     go_ret
     exact⟨ret_i (by rw[HE.out,←HG.out,HR.out]),rfl⟩
    ·rcases Bool.eq_false_or_eq_true (leb f g)with hb|hb
     ·have HR:=aH (HB'.out hn h0 hb);go_wp2_with (go_at_call 247;refine(isNone_any _ _).mono ?_;rintro e w' ⟨rfl,rfl⟩);rw[Exit.noGoto_ret]
      go_ret
      exact⟨ret_i (by rw[HE.out,←HG.out,HR.out]),rfl⟩
     ·have HR:=aH (HX'.out hn (.inr hb));go_wp2_with (go_at_call 247;refine(isNone_any _ _).mono ?_;rintro e w' ⟨rfl,rfl⟩)
      go_round
      case rel=>exact⟨k+1,by omega,rfl,num_i (by omega),by rw[HR.out,HG.out]⟩
      case measure=>simp[intOf];omega
   ·generalize xs.getD k 0=f at *;rcases Bool.eq_false_or_eq_true (nanb f)with hn|hn
    ·have HR:=aH (HN'.out hn);go_wp2_with (go_at_call 247;refine(isNone_any _ _).mono ?_;rintro e w' ⟨rfl,rfl⟩);rw[Exit.noGoto_ret]
     go_ret
     exact⟨ret_i (by rw[HE.out,←HG.out,HR.out]),rfl⟩
    ·have HR:=aH (HX'.out hn (.inl (by omega)));go_wp2_with (go_at_call 247;refine(isNone_any _ _).mono ?_;rintro e w' ⟨rfl,rfl⟩)
     go_round
     case rel=>exact⟨k+1,by omega,rfl,num_i (by omega),by rw[HR.out,HG.out]⟩
     case measure=>simp[intOf];omega
  ·go_wp2
   go_ret
   exact⟨ret_i (by rw[HE.out,←HG.out,HD.out k (by omega)]),rfl⟩
theorem rcheck_any (v:Value) (xs:List Nat) (w:World) (h:KF.IsL w w.heap.size v xs):Calls Tryz.prog 161 #[v] w fun e w'=>e=.returned (.int .i64 (chkE xs))∧∃d,w'=w.drewN d:=by
 by_cases h2:xs.length<2
 ·obtain⟨⟨A,cap,rfl,hc,hA⟩,hf,hl⟩:=h;go_enter Tryz.func161,Tryz.ntmps161;go_wp2
  go_ret
  exact⟨ret_i (by unfold chkE;rw[if_pos h2]),0,rfl⟩
 obtain⟨b,off,cap,rfl,hc,hb,hl,hcell,hlt⟩:=KF.cells h (by omega);clear h;by_cases h25:25<xs.length
 ·go_enter Tryz.func161,Tryz.ntmps161;go_wp2
  go_ret
  exact⟨ret_i (by unfold chkE;rw[if_neg h2,if_pos h25]),0,rfl⟩
 have HE:=aH (show chkE xs=chkAt xs 0 by unfold chkE;rw[if_neg h2,if_neg h25]);have HC:=aH hcell;have HX:=aH (fun i=>chk_next xs i);have HN:=aH (fun i=>chk_nan xs i);have HB:=aH (fun i=>chk_bad xs i);have HD:=aH (fun i=>chk_end xs i);have ole:∀a b,(FloatKind.f64.format.order a b==some .lt||FloatKind.f64.format.order a b==some .eq)=leb a b:=fun _ _=>rfl;clear hcell hlt;go_enter Tryz.func161,Tryz.ntmps161;go_wp2
 go_loopw [3] (fun i wr=>∃k d:Nat,k≤xs.length∧i=.int .i64 k∧chkAt xs k=chkAt xs 0∧wr=w.drewN d) (fun i _=>xs.length-(intOf i).toNat)
 case atStart=>exact⟨0,0,by omega,rfl,rfl,rfl⟩
 case round=>
  obtain⟨k,d,hk,rfl,hgo,hw⟩:=hrel;have HW:=aH hw;clear hw;have HG:=aH hgo;clear hgo;by_cases hlt:k<xs.length
  ·have hcell:wr.cell? ⟨b,off+k,none⟩=some (.float .f64 (xs.getD k 0)):=(by rw[HW.out];exact HC.out k hlt);have HX':=aH (HX.out k hlt);have HN':=aH (HN.out k hlt);have HB':=aH (HB.out k hlt);by_cases h0:0<k
   ·have hd:decide (0<(k:Int))=true:=dT (by omega);have hprev:wr.cell? ⟨b,off+(k-1),none⟩=some (.float .f64 (xs.getD (k-1) 0)):=(by rw[HW.out];exact HC.out (k-1) (by omega));generalize xs.getD (k-1) 0=g at *;generalize xs.getD k 0=f at *;rcases Bool.eq_false_or_eq_true (nanb f)with hn|hn
    ·have HR:=aH (HN'.out hn);go_wp2_with (go_at_call 223;refine(rnone_any _ _).mono ?_;rintro e w' ⟨rfl,rfl⟩)
     go_ret
     exact⟨ret_i (by rw[HE.out,←HG.out,HR.out]),by rw[HW.out];first|exact⟨_,rfl⟩|exact drewN_two _ _ _⟩
    ·rcases Bool.eq_false_or_eq_true (leb f g)with hb|hb
     ·have HR:=aH (HB'.out hn h0 hb);go_wp2_with (go_at_call 223;refine(rnone_any _ _).mono ?_;rintro e w' ⟨rfl,rfl⟩);go_quiet (fail);go_wp2
      go_ret
      exact⟨ret_i (by rw[HE.out,←HG.out,HR.out]),by rw[HW.out];first|exact⟨_,rfl⟩|exact drewN_two _ _ _⟩
     ·have HR:=aH (HX'.out hn (.inr hb));go_wp2_with (go_at_call 223;refine(rnone_any _ _).mono ?_;rintro e w' ⟨rfl,rfl⟩);go_quiet (fail);go_wp2
      go_roundw
      case rel=>obtain⟨d2,hd2⟩:=drewN_two w d nq;exact⟨k+1,d2,by omega,num_i (by omega),by rw[HR.out,HG.out],by rw[HW.out];exact hd2⟩
      case measure=>simp[intOf];omega
   ·have hd:decide (0<(k:Int))=false:=dF (by omega);generalize xs.getD k 0=f at *;rcases Bool.eq_false_or_eq_true (nanb f)with hn|hn
    ·have HR:=aH (HN'.out hn);go_wp2_with (go_at_call 223;refine(rnone_any _ _).mono ?_;rintro e w' ⟨rfl,rfl⟩)
     go_ret
     exact⟨ret_i (by rw[HE.out,←HG.out,HR.out]),by rw[HW.out];first|exact⟨_,rfl⟩|exact drewN_two _ _ _⟩
    ·have HR:=aH (HX'.out hn (.inl (by omega)));go_wp2_with (go_at_call 223;refine(rnone_any _ _).mono ?_;rintro e w' ⟨rfl,rfl⟩);go_quiet (fail);go_wp2
     go_roundw
     case rel=>obtain⟨d2,hd2⟩:=drewN_two w d nq;exact⟨k+1,d2,by omega,num_i (by omega),by rw[HR.out,HG.out],by rw[HW.out];exact hd2⟩
     case measure=>simp[intOf];omega
  ·go_wp2
   go_ret
   exact⟨ret_i (by rw[HE.out,←HG.out,HD.out k (by omega)]),_,HW.out⟩
structure Rise (l:List Nat):Prop where
 two:2≤l.length
 most:l.length≤25
 num:∀i,i<l.length→¬nan (l.getD i 0)
 lt:∀i j,i<j→j<l.length→vf (l.getD i 0)<vf (l.getD j 0)
theorem Rise.le {l:List Nat} (h:Rise l) (i j:Nat) (hij:i≤j) (hj:j<l.length):vf (l.getD i 0)≤vf (l.getD j 0):=by
 rcases Nat.lt_or_eq_of_le hij with h1|h1
 ·exact Int.le_of_lt (h.lt i j h1 hj)
 ·rw[h1];omega
theorem chk_all (l:List Nat):∀n i,n=l.length-i→chkAt l i=0→∀j,i≤j→j<l.length→¬nan (l.getD j 0)∧(0<j→leb (l.getD j 0) (l.getD (j-1) 0)=false):=by
 intro n
 induction n with
 |zero=>intro i hn _ j h1 h2;omega
 |succ n ih=>
  intro i hn hc j h1 h2;rw[chkAt,if_pos (by omega)]at hc;by_cases hnan:nanb (l.getD i 0)=true
  ·rw[if_pos hnan]at hc;omega
  rw[if_neg hnan]at hc;by_cases hb:0<i∧leb (l.getD i 0) (l.getD (i-1) 0)=true
  ·rw[if_pos hb]at hc;omega
  rw[if_neg hb]at hc;by_cases hij:i=j
  ·subst hij;refine⟨by unfold nanb at hnan;simpa using hnan,fun h0=>?_⟩;rw[←Bool.not_eq_true];exact fun hh=>hb ⟨h0,hh⟩
  ·exact ih (i+1) (by omega) hc j (by omega) h2
theorem rise_of (l:List Nat) (h:chkE l=0):Rise l:=by
 unfold chkE at h;by_cases h1:l.length<2
 ·rw[if_pos h1]at h;omega
 rw[if_neg h1]at h;by_cases h2:25<l.length
 ·rw[if_pos h2]at h;omega
 rw[if_neg h2]at h;have ha:=chk_all l _ 0 rfl h;have hnum:∀i,i<l.length→¬nan (l.getD i 0):=fun i hi=>(ha i (Nat.zero_le _) hi).1;have step:∀i,i+1<l.length→vf (l.getD i 0)<vf (l.getD (i+1) 0):=fun i hi=>by
  have h3:=(ha (i+1) (Nat.zero_le _) hi).2 (by omega);rw[Nat.add_sub_cancel]at h3;apply Int.lt_of_not_ge;intro hh;have:=(leb_iff (l.getD (i+1) 0) (l.getD i 0)).2 ⟨hnum _ hi,hnum _ (by omega),hh⟩;rw[this]at h3
  cases h3
 refine⟨by omega,by omega,hnum,fun i j hij=>?_⟩
 induction j with
 |zero=>omega
 |succ j ih=>
  intro hj;by_cases e:i=j
  ·subst e;exact step i hj
  ·exact Int.lt_trans (ih (by omega) (by omega)) (step j hj)
theorem ltb_num {a b:Nat} (ha:¬nan a) (hb:¬nan b):ltb a b=decide (vf a<vf b):=by
 rw[Bool.eq_iff_iff,ltb_iff,decide_eq_true_eq];exact⟨fun h=>h.2.2,fun h=>⟨ha,hb,h⟩⟩
theorem leb_num {a b:Nat} (ha:¬nan a) (hb:¬nan b):leb a b=decide (vf a≤vf b):=by
 rw[Bool.eq_iff_iff,leb_iff,decide_eq_true_eq];exact⟨fun h=>h.2.2,fun h=>⟨ha,hb,h⟩⟩
theorem gtb_num {a b:Nat} (ha:¬nan a) (hb:¬nan b):gtb a b=decide (vf b<vf a):=by
 rw[Bool.eq_iff_iff,gtb_iff,decide_eq_true_eq];exact⟨fun h=>h.2.2,fun h=>⟨ha,hb,h⟩⟩
theorem geb_num {a b:Nat} (ha:¬nan a) (hb:¬nan b):geb a b=decide (vf b≤vf a):=by
 rw[Bool.eq_iff_iff,geb_iff,decide_eq_true_eq];exact⟨fun h=>h.2.2,fun h=>⟨ha,hb,h⟩⟩
def loV (l:List Nat) (a:Nat) (k:Nat):Nat:=if k+2<l.length∧geb a (l.getD (k+1) 0)=true then loV l a (k+1)else k
termination_by l.length-k
def hiV (l:List Nat) (b:Nat):Nat→Nat
 |0=>0
 |k+1=>if ltb b (l.getD (k+1) 0)=true then hiV l b k else k+1
theorem lo_next (l:List Nat) (a k:Nat) (h:k+2<l.length) (hg:geb a (l.getD (k+1) 0)=true):loV l a (k+1)=loV l a k:=by
 rw[loV.eq_def l a k,if_pos ⟨h,hg⟩]
theorem lo_end (l:List Nat) (a k:Nat) (h:l.length≤k+2∨geb a (l.getD (k+1) 0)=false):loV l a k=k:=by
 rw[loV,if_neg];rintro⟨h1,h2⟩;rcases h with h|h
 ·omega
 ·rw[h]at h2;cases h2
theorem hi_next (l:List Nat) (b k:Nat) (hg:ltb b (l.getD k 0)=true) (h0:ltb b (l.getD 0 0)=false):0<k∧hiV l b (k-1)=hiV l b k:=by
 cases k with
 |zero=>rw[h0]at hg;cases hg
 |succ k=>
  refine⟨by omega,?_⟩;rw[Nat.add_sub_cancel,hiV.eq_def l b (k+1)];simp only[hg,if_true]
theorem hi_end (l:List Nat) (b k:Nat) (hg:ltb b (l.getD k 0)=false):hiV l b k=k:=by
 cases k with
 |zero=>rfl
 |succ k=>
  rw[hiV,hg,if_neg (by simp)]
def outB (l:List Nat) (a b:Nat):Bool:=gtb a (l.getD (l.length-1) 0)||ltb b (l.getD 0 0)
theorem lo_spec (l:List Nat) (h:Rise l) (a:Nat) (ha:¬nan a):∀n k,n=l.length-k→k+2≤l.length→(∀j,j<k→vf (l.getD (j+1) 0)≤vf a)→
  loV l a k+2≤l.length∧(∀j,j<loV l a k→vf (l.getD (j+1) 0)≤vf a)∧(loV l a k+2=l.length∨vf a<vf (l.getD (loV l a k+1) 0)):=by
 intro n
 induction n with
 |zero=>intro k h1 h2;omega
 |succ n ih=>
  intro k hn hk hj;by_cases hc:k+2<l.length∧geb a (l.getD (k+1) 0)=true
  ·rw[loV,if_pos hc];refine ih (k+1) (by omega) (by omega) fun j hj2=>?_;by_cases e:j=k
   ·subst e;exact((geb_iff _ _).1 hc.2).2.2
   ·exact hj j (by omega)
  ·rw[loV,if_neg hc];refine⟨hk,hj,?_⟩;by_cases e:k+2=l.length
   ·exact .inl e
   ·right;have hg:¬geb a (l.getD (k+1) 0)=true:=fun hh=>hc ⟨by omega,hh⟩;rw[geb_num ha (h.num _ (by omega)),decide_eq_true_eq]at hg;omega
theorem hi_spec (l:List Nat) (h:Rise l) (b:Nat) (hb:¬nan b) (h0:vf (l.getD 0 0)≤vf b):∀k,k<l.length→
  hiV l b k≤k∧vf (l.getD (hiV l b k) 0)≤vf b∧∀j,hiV l b k<j→j≤k→vf b<vf (l.getD j 0):=by
 intro k
 induction k with
 |zero=>intro _;exact⟨nR _,h0,fun j h1 h2=>by unfold hiV at h1;omega⟩
 |succ k ih=>
  intro hk;obtain⟨i1,i2,i3⟩:=ih (by omega);by_cases hc:ltb b (l.getD (k+1) 0)=true
  ·rw[hiV,if_pos hc];refine⟨by omega,i2,fun j h1 h2=>?_⟩;by_cases e:j=k+1
   ·subst e;exact((ltb_iff _ _).1 hc).2.2
   ·exact i3 j h1 (by omega)
  ·rw[hiV,if_neg hc];rw[ltb_num hb (h.num _ hk),decide_eq_true_eq]at hc;exact⟨nR _,by omega,fun j h1 h2=>by omega⟩
theorem lanes_spec (l:List Nat) (h:Rise l) (a b:Nat) (ha:¬nan a) (hb:¬nan b) (hab:vf a≤vf b) (ho:outB l a b=false):
  loV l a 0≤hiV l b (l.length-2)∧hiV l b (l.length-2)+2≤l.length∧(∀j,j<loV l a 0→vf (l.getD (j+1) 0)≤vf a)∧(loV l a 0+2=l.length∨vf a<vf (l.getD (loV l a 0+1) 0))∧
  vf (l.getD (hiV l b (l.length-2)) 0)≤vf b∧(∀j,hiV l b (l.length-2)<j→j+2≤l.length→vf b<vf (l.getD j 0))∧vf a≤vf (l.getD (l.length-1) 0)∧vf (l.getD 0 0)≤vf b:=by
 have h2:=h.two;unfold outB at ho;rw[Bool.or_eq_false_iff,gtb_num ha (h.num _ (by omega)),ltb_num hb (h.num _ (by omega)),decide_eq_false_iff_not,decide_eq_false_iff_not]at ho;obtain⟨o1,o2⟩:=ho;obtain⟨a1,a2,a3⟩:=lo_spec l h a ha _ 0 rfl (by omega) (fun j hj=>by omega);obtain⟨b1,b2,b3⟩:=hi_spec l h b hb (by omega) (l.length-2) (by omega);refine⟨?_,by omega,a2,a3,b2,fun j j1 j2=>b3 j j1 (by omega),by omega,by omega⟩;apply Nat.le_of_not_lt;intro hh;have x:=b3 (hiV l b (l.length-2)+1) (by omega) (by omega);have y:=a2 (hiV l b (l.length-2)) hh;omega
def tchB (l:List Nat) (a b k:Nat):Bool:=(if k+2=l.length then leb a (l.getD (k+1) 0)else ltb a (l.getD (k+1) 0))&&geb b (l.getD k 0)
theorem tch_iff (l:List Nat) (h:Rise l) (a b:Nat) (ha:¬nan a) (hb:¬nan b) (hab:vf a≤vf b) (ho:outB l a b=false) (k:Nat) (hk:k+2≤l.length):
  tchB l a b k=true↔loV l a 0≤k∧k≤hiV l b (l.length-2):=by
 obtain⟨s1,s2,s3,s4,s5,s6,s7,s8⟩:=lanes_spec l h a b ha hb hab ho;unfold tchB;rw[Bool.and_eq_true,geb_num hb (h.num _ (by omega)),decide_eq_true_eq];constructor
 ·rintro⟨t1,t2⟩;constructor
  ·apply Nat.le_of_not_lt;intro hh;have x:=s3 k hh;rw[if_neg (by omega),ltb_num ha (h.num _ (by omega)),decide_eq_true_eq]at t1;omega
  ·apply Nat.le_of_not_lt;intro hh;have x:=s6 k hh hk;omega
 ·rintro⟨t1,t2⟩;constructor
  ·by_cases e:k+2=l.length
   ·rw[if_pos e,leb_num ha (h.num _ (by omega)),decide_eq_true_eq];rw[show k+1=l.length-1 by omega];exact s7
   ·rw[if_neg e,ltb_num ha (h.num _ (by omega)),decide_eq_true_eq];rcases s4 with s4|s4
    ·omega
    ·have:=h.le (loV l a 0+1) (k+1) (by omega) (by omega);omega
  ·have:=h.le k _ t2 (by omega);omega
theorem tch_out (l:List Nat) (h:Rise l) (a b:Nat) (ha:¬nan a) (hb:¬nan b) (ho:outB l a b=true) (k:Nat) (hk:k+2≤l.length):tchB l a b k=false:=by
 have h2:=h.two;unfold outB at ho;rw[Bool.or_eq_true,gtb_num ha (h.num _ (by omega)),ltb_num hb (h.num _ (by omega)),decide_eq_true_eq,decide_eq_true_eq]at ho;rw[←Bool.not_eq_true];unfold tchB;rw[Bool.and_eq_true,geb_num hb (h.num _ (by omega)),decide_eq_true_eq];rintro⟨t1,t2⟩;rcases ho with ho|ho
 ·have x:=h.le (k+1) (l.length-1) (by omega) (by omega);by_cases e:k+2=l.length
  ·rw[if_pos e,leb_num ha (h.num _ (by omega)),decide_eq_true_eq]at t1;omega
  ·rw[if_neg e,ltb_num ha (h.num _ (by omega)),decide_eq_true_eq]at t1;omega
 ·have x:=h.le 0 k (by omega) (by omega);omega
def tchs (l:List Nat) (a b:Nat) (k:Nat):List Nat:=(List.range k).filter (tchB l a b)
theorem tchs_out (l:List Nat) (h:Rise l) (a b:Nat) (ha:¬nan a) (hb:¬nan b) (ho:outB l a b=true):tchs l a b (l.length-1)=[]:=by
 unfold tchs;rw[List.filter_eq_nil_iff];intro k hk;rw[List.mem_range]at hk;rw[tch_out l h a b ha hb ho k (by omega)];simp
theorem tchs_in (l:List Nat) (h:Rise l) (a b:Nat) (ha:¬nan a) (hb:¬nan b) (hab:vf a≤vf b) (ho:outB l a b=false):
  tchs l a b (l.length-1)=List.range' (loV l a 0) (hiV l b (l.length-2)-loV l a 0+1):=by
 obtain⟨s1,s2,_⟩:=lanes_spec l h a b ha hb hab ho;have hti:=tch_iff l h a b ha hb hab ho;generalize loV l a 0=lo at *;generalize hiV l b (l.length-2)=hi at *;unfold tchs;have hs1:((List.range (l.length-1)).filter (tchB l a b)).Pairwise (· < ·):=List.Pairwise.filter _ List.pairwise_lt_range;have hs2:(List.range' lo (hi-lo+1)).Pairwise (· < ·):=List.pairwise_lt_range';refine List.Perm.eq_of_pairwise (le:=(· < ·)) (fun x y _ _ h1 h2=>by omega) hs1 hs2 ?_;refine(List.perm_ext_iff_of_nodup (hs1.imp (fun h=>Nat.ne_of_lt h)) (hs2.imp (fun h=>Nat.ne_of_lt h))).2 fun k=>?_;rw[List.mem_filter,List.mem_range,List.mem_range'_1];constructor
 ·rintro⟨h1,h2⟩;have:=(hti k (by omega)).1 h2;omega
 ·rintro⟨h1,h2⟩;exact⟨by omega,(hti k (by omega)).2 (by omega)⟩
structure Pl where
 rows:Int
 cols:Int
 x:Nat
 p:Nat
 r:Nat
 cap:Int
 sA:Option Addr
 sn:Nat
 sc:Nat
 st:List Int
structure Rk where
 rows:Int
 cols:Int
 x:Nat
 p:Nat
 r:Nat
structure Q4 where
 a:Int
 b:Int
 c:Int
 d:Int
 deriving DecidableEq
def plCells (q:Pl):List Value:=[.int .i64 q.rows,.int .i64 q.cols,.float .f64 q.x,.float .f64 q.p,.float .f64 q.r,.int .i64 q.cap,.slice q.sA q.sn q.sc]
def rkCells (q:Rk):List Value:=[.int .i64 q.rows,.int .i64 q.cols,.float .f64 q.x,.float .f64 q.p,.float .f64 q.r]
def q4Cells (q:Q4):List Value:=[.int .i64 q.a,.int .i64 q.b,.int .i64 q.c,.int .i64 q.d]
noncomputable def KP:Lk Tryz.prog Pl where
 S:=23
 E:=86
 n:=7
 zero:=.agg #[.int .i64 0,.int .i64 0,.float .f64 0,.float .f64 0,.float .f64 0,.int .i64 0,.slice none 0 0]
 bytes:=72
 cells:=plCells
 dflt:=⟨0,0,0,0,0,0,none,0,0,[]⟩
 ok q:=fits q.rows∧fits q.cols∧q.x<18446744073709551616∧q.p<18446744073709551616∧q.r<18446744073709551616∧fits q.cap
 und:=Tryz.underlying23
 info:=by kernel_rfl
 zs:=rfl
 pos:=by decide
 small:=by decide
 len _:=rfl
 one x u hu:=by
  simp only[plCells,List.mem_cons,List.not_mem_nil,or_false]at hu;rcases hu with rfl|rfl|rfl|rfl|rfl|rfl|rfl<;>rfl
noncomputable def KR:Lk Tryz.prog Rk where
 S:=24
 E:=118
 n:=5
 zero:=.agg #[.int .i64 0,.int .i64 0,.float .f64 0,.float .f64 0,.float .f64 0]
 bytes:=40
 cells:=rkCells
 dflt:=⟨0,0,0,0,0⟩
 ok q:=fits q.rows∧fits q.cols∧q.x<18446744073709551616∧q.p<18446744073709551616∧q.r<18446744073709551616
 und:=Tryz.underlying24
 info:=by kernel_rfl
 zs:=rfl
 pos:=by decide
 small:=by decide
 len _:=rfl
 one x u hu:=by
  simp only[rkCells,List.mem_cons,List.not_mem_nil,or_false]at hu;rcases hu with rfl|rfl|rfl|rfl|rfl<;>rfl
noncomputable def KU:Lk Tryz.prog Q4 where
 S:=255
 E:=258
 n:=4
 zero:=.agg #[.int .i64 0,.int .i64 0,.int .i64 0,.int .i64 0]
 bytes:=32
 cells:=q4Cells
 dflt:=⟨0,0,0,0⟩
 ok q:=fits q.a∧fits q.b∧fits q.c∧fits q.d
 und:=Tryz.underlying255
 info:=by kernel_rfl
 zs:=rfl
 pos:=by decide
 small:=by decide
 len _:=rfl
 one x u hu:=by
  simp only[q4Cells,List.mem_cons,List.not_mem_nil,or_false]at hu;rcases hu with rfl|rfl|rfl|rfl<;>rfl
noncomputable def KQ:Lk Tryz.prog Q4 where
 S:=93
 E:=153
 n:=4
 zero:=.agg #[.int .i64 0,.int .i64 0,.int .i64 0,.int .i64 0]
 bytes:=32
 cells:=q4Cells
 dflt:=⟨0,0,0,0⟩
 ok q:=fits q.a∧fits q.b∧fits q.c∧fits q.d
 und:=Tryz.underlying93
 info:=by kernel_rfl
 zs:=rfl
 pos:=by decide
 small:=by decide
 len _:=rfl
 one x u hu:=by
  simp only[q4Cells,List.mem_cons,List.not_mem_nil,or_false]at hu;rcases hu with rfl|rfl|rfl|rfl<;>rfl
theorem Lk.IsL.len {P:Program} {α:Type} {K:Lk P α} {w:World} {B:Nat} {A:Option Addr} {n c:Nat} {xs:List α} (h:K.IsL w B (.slice A n c) xs):n=xs.length:=by
 obtain⟨⟨A',c',hv,_⟩,_⟩:=h;injection hv
theorem Lk.IsL.elem {P:Program} {α:Type} {K:Lk P α} {w:World} {B:Nat} {A:Option Addr} {n c:Nat} {xs:List α} (h:K.IsL w B (.slice A n c) xs) (h0:0<xs.length):∃b off,A=some ⟨b,off,none⟩∧b<B∧xs.length≤c∧
  ∀i,i<xs.length→∀j u,(K.cells (xs.getD i K.dflt))[j]? =some u→w.cell? ⟨b,off+(i*K.n+j),none⟩=some u:=by
 obtain⟨⟨A',c',hv,hc,hA⟩,_⟩:=h;obtain⟨b,off,rfl,hb,hcell⟩:=hA h0;injection hv with e1 e2 e3
 exact⟨b,off,e1,hb,by omega,hcell⟩
theorem Lk.IsL.okAt {P:Program} {α:Type} {K:Lk P α} {w:World} {B:Nat} {v:Value} {xs:List α} (h:K.IsL w B v xs) (i:Nat) (hi:i<xs.length):K.ok (xs.getD i K.dflt):=h.2.1 _ (getD_mem' xs i _ hi)
structure Dk where
 bA:Option Addr
 bn:Nat
 bc:Nat
 bl:List Nat
 pA:Option Addr
 pn:Nat
 pc:Nat
 pl:List Pl
 rA:Option Addr
 rn:Nat
 rc:Nat
 rl:List Rk
 arms:Int
abbrev Dk.v (d:Dk):Value:=.agg #[.slice d.bA d.bn d.bc,.slice d.pA d.pn d.pc,.slice d.rA d.rn d.rc,.int .i64 d.arms]
structure Dk.In (w:World) (B:Nat) (d:Dk):Prop where
 b:KF.IsL w B (.slice d.bA d.bn d.bc) d.bl
 p:KP.IsL w B (.slice d.pA d.pn d.pc) d.pl
 r:KR.IsL w B (.slice d.rA d.rn d.rc) d.rl
 s:∀q∈d.pl,KI.IsL w B (.slice q.sA q.sn q.sc) q.st
 a:fits d.arms
theorem Dk.In.below {w w':World} {B:Nat} {d:Dk} (h:d.In w B) (hb:Below B w w'):d.In w' B:=⟨h.b.below hb,h.p.below hb,h.r.below hb,fun q hq=>(h.s q hq).below hb,h.a⟩
theorem Dk.In.more {w:World} {B B':Nat} {d:Dk} (h:d.In w B) (hB:B≤B'):d.In w B':=⟨h.b.more hB,h.p.more hB,h.r.more hB,fun q hq=>(h.s q hq).more hB,h.a⟩
theorem Dk.In.then {w w':World} {d:Dk} (h:d.In w w.heap.size) (hb:Below w.heap.size w w'):d.In w' w'.heap.size:=(h.below hb).more hb.size
theorem Dk.In.drewN {w:World} {B:Nat} {d:Dk} (h:d.In w B) (n:Nat):d.In (w.drewN n) B:=⟨h.b,h.p,h.r,h.s,h.a⟩
def sizeB (r c:Int):Bool:=decide (1≤r∧r≤32∧1≤c∧c≤48)
theorem rightSize_any (r c:Int) (w:World):Calls Tryz.prog 216 #[.int .i64 r,.int .i64 c] w fun e w'=>e=.returned (.bool (sizeB r c))∧w=w':=by
 by_cases h1:1≤r<;>by_cases h2:r≤32<;>by_cases h3:1≤c;all_goals (try (exfalso;omega;done))
 all_goals
  go_enter Tryz.func216,Tryz.ntmps216;go_wp2
  go_ret
  exact⟨ret_b (by first|exact(dF (by omega)).symm|exact(dT (by omega)).symm|(rw[sizeB,Bool.eq_iff_iff];simp only[decide_eq_true_eq];omega)),rfl⟩
theorem box_any (r c:Int) (w:World):Calls Tryz.prog 163 #[.int .i64 r,.int .i64 c] w fun e w'=>e=.returned (.bool (sizeB r c))∧w=w':=by
 by_cases h1:1≤r<;>by_cases h2:r≤32<;>by_cases h3:1≤c;all_goals (try (exfalso;omega;done))
 all_goals
  go_enter Tryz.func163,Tryz.ntmps163;go_wp2
  go_ret
  exact⟨ret_b (by first|exact(dF (by omega)).symm|exact(dT (by omega)).symm|(rw[sizeB,Bool.eq_iff_iff];simp only[decide_eq_true_eq];omega)),rfl⟩
theorem size_of {r c:Int} (h:sizeB r c=true):1≤r∧r≤32∧1≤c∧c≤48:=by unfold sizeB at h;simpa using h
theorem size_mul {r c:Int} (h:sizeB r c=true):1≤r*c∧r*c≤1536:=by
 obtain⟨h1,h2,h3,h4⟩:=size_of h;have a:=Int.mul_le_mul h2 h4 (by omega) (by omega);have b:=Int.mul_le_mul h1 h3 (by omega) (by omega);omega
abbrev Dk.ob (d:Dk):Obj:=.cells #[.slice d.bA d.bn d.bc,.slice d.pA d.pn d.pc,.slice d.rA d.rn d.rc,.int .i64 d.arms] 26
theorem Lk.IsL.shape {P:Program} {α:Type} {K:Lk P α} {w:World} {B:Nat} {v:Value} {xs:List α} (h:K.IsL w B v xs):∃A c,v=.slice A xs.length c∧xs.length≤c:=by
 obtain⟨⟨A,cap,rfl,hc,hA⟩,_,_⟩:=h;exact⟨A,cap,rfl,hc⟩
def tpCells (q:Int×Int):List Value:=[.int .i64 q.1,.int .i64 q.2]
noncomputable def KT:Lk Tryz.prog (Int×Int) where
 S:=39
 E:=146
 n:=2
 zero:=.agg #[.int .i64 0,.int .i64 0]
 bytes:=16
 cells:=tpCells
 dflt:=(0,0)
 ok:=fun q=>fits q.1∧fits q.2
 und:=Tryz.underlying39
 info:=by kernel_rfl
 zs:=rfl
 pos:=by decide
 small:=by decide
 len _:=rfl
 one x u hu:=by
  simp only[tpCells,List.mem_cons,List.not_mem_nil,or_false]at hu;rcases hu with rfl|rfl<;>rfl
theorem tip_cells {w:World} {B:Nat} {A:Option Addr} {n c:Nat} {xs:List (Int×Int)} (h:KT.IsL w B (.slice A n c) xs) (h0:0<xs.length):∃b off,A=some ⟨b,off,none⟩∧b<B∧xs.length≤c∧
  ∀i,i<xs.length→w.cell? ⟨b,off+i*2,none⟩=some (.int .i64 (xs.getD i (0,0)).1)∧w.cell? ⟨b,off+i*2+1,none⟩=some (.int .i64 (xs.getD i (0,0)).2):=by
 obtain⟨b,off,e,hb,hc,hcell⟩:=h.elem h0;refine⟨b,off,e,hb,hc,fun i hi=>?_⟩;have q:=fun j u hu=>hcell i hi j u hu;have hn:KT.n=2:=rfl;simp only[hn,←Nat.add_assoc]at q;exact⟨q 0 _ rfl,q 1 _ rfl⟩
structure Ch where
 a:Int
 b:Int
 c:Int
def chCells (q:Ch):List Value:=[.int .i64 q.a,.int .i64 q.b,.int .i64 q.c]
def ch0:Ch:=⟨0,0,0⟩
noncomputable def KC:Lk Tryz.prog (Ch) where
 S:=54
 E:=177
 n:=3
 zero:=.agg #[.int .i64 0,.int .i64 0,.int .i64 0]
 bytes:=24
 cells:=chCells
 dflt:=ch0
 ok:=fun q=>fits q.a∧fits q.b∧fits q.c
 und:=Tryz.underlying54
 info:=by kernel_rfl
 zs:=rfl
 pos:=by decide
 small:=by decide
 len _:=rfl
 one x u hu:=by
  simp only[chCells,List.mem_cons,List.not_mem_nil,or_false]at hu;rcases hu with rfl|rfl|rfl<;>rfl
theorem ch_cells {w:World} {B:Nat} {A:Option Addr} {n c:Nat} {xs:List Ch} (h:KC.IsL w B (.slice A n c) xs) (h0:0<xs.length):∃b off,A=some ⟨b,off,none⟩∧b<B∧xs.length≤c∧
  ∀i,i<xs.length→w.cell? ⟨b,off+i*3,none⟩=some (.int .i64 (xs.getD i ch0).a)∧w.cell? ⟨b,off+i*3+1,none⟩=some (.int .i64 (xs.getD i ch0).b)∧w.cell? ⟨b,off+i*3+2,none⟩=some (.int .i64 (xs.getD i ch0).c):=by
 obtain⟨b,off,e,hb,hc,hcell⟩:=h.elem h0;refine⟨b,off,e,hb,hc,fun i hi=>?_⟩;have q:=fun j u hu=>hcell i hi j u hu;have hn:KC.n=3:=rfl;simp only[hn,←Nat.add_assoc]at q;exact⟨q 0 _ rfl,q 1 _ rfl,q 2 _ rfl⟩
theorem aN {a b c d:Nat} (h:a≠c∨b≠d):(⟨a,b,none⟩:Addr)≠⟨c,d,none⟩:=by
 intro e;injection e with e1 e2
 rcases h with h|h
 ·exact h e1
 ·exact h e2
def Cells2 (V:World) (D:Nat) (x0 x1:Value):Prop:=
 V.cell? ⟨D,0,none⟩=some x0∧V.cell? ⟨D,1,none⟩=some x1∧
 V.frozen? ⟨D,0,none⟩=false∧V.frozen? ⟨D,1,none⟩=false∧D<V.heap.size
abbrev setC2 (V:World) (D:Nat) (p0 p1:Value):World:=(V.setCell ⟨D,0,none⟩ p0).setCell ⟨D,1,none⟩ p1
theorem Cells2.new (V:World) (t:TypeId) (x0 x1:Value):Cells2 (V.alloc (.cells #[x0,x1] t)) V.heap.size x0 x1:=
 ⟨by rw[alloc_at];rfl,by rw[alloc_at];rfl,by simp,by simp,by simp⟩
theorem Cells2.below {V V':World} {D:Nat} {x0 x1:Value} (h:Cells2 V D x0 x1) (hb:Below V.heap.size V V'):Cells2 V' D x0 x1:=by
 obtain⟨h0,h1,z0,z1,hs⟩:=h;refine⟨kK hb h0,kK hb h1,?_,?_,nL hs hb.size⟩
 ·rw[hb.frozen (p:=⟨D,0,none⟩) hs];exact z0
 ·rw[hb.frozen (p:=⟨D,1,none⟩) hs];exact z1
theorem Cells2.set {V:World} {D:Nat} {x0 x1:Value} (h:Cells2 V D x0 x1) (p0 p1:Value):Cells2 (setC2 V D p0 p1) D p0 p1:=by
 obtain⟨h0,h1,z0,z1,hs⟩:=h;refine⟨sO (st_same (h0)) (aN (.inr (by decide))),st_same (sO (h1) (aN (.inr (by decide)))),sF (sF (z0)),sF (sF (z1)),?_⟩;simpa using hs
theorem Cells2.apart {V:World} {D G:Nat} {x0 x1:Value} (h:Cells2 V G x0 x1) (hne:D≠G) (p0 p1:Value):Cells2 (setC2 V D p0 p1) G x0 x1:=by
 obtain⟨h0,h1,z0,z1,hs⟩:=h;refine⟨sO (sO (h0) (aN (.inl hne))) (aN (.inl hne)),sO (sO (h1) (aN (.inl hne))) (aN (.inl hne)),sF (sF (z0)),sF (sF (z1)),?_⟩;simpa using hs
def Cells3 (V:World) (D:Nat) (x0 x1 x2:Value):Prop:=
 V.cell? ⟨D,0,none⟩=some x0∧V.cell? ⟨D,1,none⟩=some x1∧V.cell? ⟨D,2,none⟩=some x2∧
 V.frozen? ⟨D,0,none⟩=false∧V.frozen? ⟨D,1,none⟩=false∧V.frozen? ⟨D,2,none⟩=false∧D<V.heap.size
abbrev setC3 (V:World) (D:Nat) (p0 p1 p2:Value):World:=((V.setCell ⟨D,0,none⟩ p0).setCell ⟨D,1,none⟩ p1).setCell ⟨D,2,none⟩ p2
theorem Cells3.new (V:World) (t:TypeId) (x0 x1 x2:Value):Cells3 (V.alloc (.cells #[x0,x1,x2] t)) V.heap.size x0 x1 x2:=
 ⟨by rw[alloc_at];rfl,by rw[alloc_at];rfl,by rw[alloc_at];rfl,by simp,by simp,by simp,by simp⟩
theorem Cells3.below {V V':World} {D:Nat} {x0 x1 x2:Value} (h:Cells3 V D x0 x1 x2) (hb:Below V.heap.size V V'):Cells3 V' D x0 x1 x2:=by
 obtain⟨h0,h1,h2,z0,z1,z2,hs⟩:=h;refine⟨kK hb h0,kK hb h1,kK hb h2,?_,?_,?_,nL hs hb.size⟩
 ·rw[hb.frozen (p:=⟨D,0,none⟩) hs];exact z0
 ·rw[hb.frozen (p:=⟨D,1,none⟩) hs];exact z1
 ·rw[hb.frozen (p:=⟨D,2,none⟩) hs];exact z2
theorem Cells3.set {V:World} {D:Nat} {x0 x1 x2:Value} (h:Cells3 V D x0 x1 x2) (p0 p1 p2:Value):Cells3 (setC3 V D p0 p1 p2) D p0 p1 p2:=by
 obtain⟨h0,h1,h2,z0,z1,z2,hs⟩:=h;refine⟨sO (sO (st_same (h0)) (aN (.inr (by decide)))) (aN (.inr (by decide))),sO (st_same (sO (h1) (aN (.inr (by decide))))) (aN (.inr (by decide))),st_same (sO (sO (h2) (aN (.inr (by decide)))) (aN (.inr (by decide)))),sF (sF (sF (z0))),sF (sF (sF (z1))),sF (sF (sF (z2))),?_⟩;simpa using hs
theorem Cells3.apart {V:World} {D G:Nat} {x0 x1 x2:Value} (h:Cells3 V G x0 x1 x2) (hne:D≠G) (p0 p1 p2:Value):Cells3 (setC3 V D p0 p1 p2) G x0 x1 x2:=by
 obtain⟨h0,h1,h2,z0,z1,z2,hs⟩:=h;refine⟨sO (sO (sO (h0) (aN (.inl hne))) (aN (.inl hne))) (aN (.inl hne)),sO (sO (sO (h1) (aN (.inl hne))) (aN (.inl hne))) (aN (.inl hne)),sO (sO (sO (h2) (aN (.inl hne))) (aN (.inl hne))) (aN (.inl hne)),sF (sF (sF (z0))),sF (sF (sF (z1))),sF (sF (sF (z2))),?_⟩;simpa using hs
theorem below_set3 {V w:World} {B D:Nat} (h:Below B w V) (hB:B≤D) (p0 p1 p2:Value):Below B w (setC3 V D p0 p1 p2):=(((h.setCell hB _).setCell hB _).setCell hB _)
end Go.Proofs.YtmecohdedghiaaaGreatDoor
