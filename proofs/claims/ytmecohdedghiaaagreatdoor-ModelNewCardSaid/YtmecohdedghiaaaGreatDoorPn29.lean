/- What a request names, one after the other. -/
import Derived.Test.YtmecohdedghiaaaGreatDoorPn00
import Derived.Test.YtmecohdedghiaaaGreatDoorPn28
import Derived.Test.YtmecohdedghiaaaGreatDoorPn24
import Derived.Test.YtmecohdedghiaaaGreatDoorPn15
import Derived.RangeFuncNested
import Derived.RangeFuncBound
import Derived.RangeFuncCalls
import Derived.RangeFuncLeaves
import Derived.RangeFuncBox
import Derived.Shelf.Abstract
import Derived.Shelf.RegionOpen
import Derived.OwnWalkIn
import Derived.TacticsInMore
import Derived.LoopNIn
import Derived.LoopIn
import Derived.Maps.AppendAt
set_option maxRecDepth 100000
set_option maxHeartbeats 8000000
namespace Go.Proofs.YtmecohdedghiaaaGreatDoor
open Go.RowKit
def takeQ (who x:Int):Bool:=decide (x=0)||decide (x=who)
def giveQ (who x:Int):Bool:=decide (x=who)
theorem take_o (v u:Value) (o ids:List Int) (who:Int) (hw:fits who) (w:World) (hv:KI.IsL w w.heap.size v o) (hu:KI.IsL w w.heap.size u ids) (hl:o.length≤1000):
  Calls Tryz.prog 181 #[v,u,.int .i64 who] w fun e w'=>∃v',e=.returned (.tuple #[v',.int .i64 (psI o ids who (takeQ who)),.int .i64 (psE o ids who (takeQ who) 140)])∧KI.Own w' w.heap.size v' (psL o ids who (takeQ who) who)∧Below w.heap.size w w':=by
 obtain⟨w0,hw0⟩:∃w0,w0=w.alloc (.cells #[.int .i64 who] 3):=⟨_,rfl⟩;have c0:w0.cell? ⟨w.heap.size,0,none⟩=some (.int .i64 who):=by rw[hw0];simp[go_sem]
 have hb0:Below w.heap.size w w0:=by rw[hw0];exact bL (bR _ _) _
 have HB0:=aH hb0;have hmf:∀(fn:Fn) (first cap:Array Value) (w:World),(Instr.makeFunc fn first cap).run Tryz.prog w=.ok (.func fn first cap) w:=fun _ _ _ _=>rfl;have hv0:=hv.then hb0;have HP:=aH (pass_any v u o ids who 227 #[.pointer (some ⟨w.heap.size,0,none⟩)] (takeQ who) 140 who w0 hv0 (hu.then hb0) hl hw (fun w' x b1 b0 h1 h0 hb hx hx2=>pass2_take x _ who b1 b0 w.heap.size v o w' h1 (kK hb c0) h0 (hv0.then hb) hx hx2 rfl));clear hv0 hv hu hb0 hw;generalize psI o ids who (takeQ who)=y at *;generalize psE o ids who (takeQ who) 140=z at *;generalize psL o ids who (takeQ who) who=l at *;go_enter Tryz.func181,Tryz.ntmps181;go_wp2_with fail;rw[←hw0];clear hw0;refine HP.out.mono ?_;rintro e w1 ⟨v',rfl,ho,hb⟩;go_wp2
 go_ret3
 exact⟨_,rfl,ho.mono HB0.out.size,bC HB0.out hb⟩
theorem give_o (v u:Value) (o ids:List Int) (who:Int) (w:World) (hv:KI.IsL w w.heap.size v o) (hu:KI.IsL w w.heap.size u ids) (hl:o.length≤1000):
  Calls Tryz.prog 122 #[v,u,.int .i64 who] w fun e w'=>∃v',e=.returned (.tuple #[v',.int .i64 (psI o ids who (giveQ who)),.int .i64 (psE o ids who (giveQ who) 141)])∧KI.Own w' w.heap.size v' (psL o ids who (giveQ who) 0)∧Below w.heap.size w w':=by
 obtain⟨w0,hw0⟩:∃w0,w0=w.alloc (.cells #[.int .i64 who] 3):=⟨_,rfl⟩;have c0:w0.cell? ⟨w.heap.size,0,none⟩=some (.int .i64 who):=by rw[hw0];simp[go_sem]
 have hb0:Below w.heap.size w w0:=by rw[hw0];exact bL (bR _ _) _
 have HB0:=aH hb0;have hmf:∀(fn:Fn) (first cap:Array Value) (w:World),(Instr.makeFunc fn first cap).run Tryz.prog w=.ok (.func fn first cap) w:=fun _ _ _ _=>rfl;have hv0:=hv.then hb0;have HP:=aH (pass_any v u o ids who 182 #[.pointer (some ⟨w.heap.size,0,none⟩)] (giveQ who) 141 0 w0 hv0 (hu.then hb0) hl (by decide) (fun w' x b1 b0 h1 h0 hb hx hx2=>pass2_give x _ who b1 b0 w.heap.size v o w' h1 (kK hb c0) h0 (hv0.then hb) hx hx2 rfl));clear hv0 hv hu hb0;generalize psI o ids who (giveQ who)=y at *;generalize psE o ids who (giveQ who) 141=z at *;generalize psL o ids who (giveQ who) 0=l at *;go_enter Tryz.func122,Tryz.ntmps122;go_wp2_with fail;rw[←hw0];clear hw0;refine HP.out.mono ?_;rintro e w1 ⟨v',rfl,ho,hb⟩;go_wp2
 go_ret3
 exact⟨_,rfl,ho.mono HB0.out.size,bC HB0.out hb⟩
theorem lacks_o (v u:Value) (o ids:List Int) (who:Int) (w:World) (hv:KI.IsL w w.heap.size v o) (hu:KI.IsL w w.heap.size u ids):
  Calls Tryz.prog 119 #[v,u,.int .i64 who] w fun e w'=>e=.returned (fsO (fstN (lkB o who) ids))∧Below w.heap.size w w':=by
 obtain⟨w0,hw0⟩:∃w0,w0=(w.alloc (.cells #[v] 27)).alloc (.cells #[.int .i64 who] 3):=⟨_,rfl⟩;have c0:w0.cell? ⟨w.heap.size,0,none⟩=some v:=by rw[hw0];simp[go_sem]
 have c1:w0.cell? ⟨w.heap.size+1,0,none⟩=some (.int .i64 who):=by rw[hw0];simp[go_sem]
 have hb0:Below w.heap.size w w0:=by rw[hw0];exact bL (bL (bR _ _) _) _
 have HB0:=aH hb0;have hmf:∀(fn:Fn) (first cap:Array Value) (w:World),(Instr.makeFunc fn first cap).run Tryz.prog w=.ok (.func fn first cap) w:=fun _ _ _ _=>rfl;have hv0:=hv.then hb0;have HP:=aH (first_any u ids 178 #[.pointer (some ⟨w.heap.size,0,none⟩),.pointer (some ⟨w.heap.size+1,0,none⟩)] (lkB o who) w0 (hu.then hb0) (enters_of Tryz.func178 (by kernel_rfl) rfl) (fun w' hb x _=>lacks1_any x who w.heap.size (w.heap.size+1) v o w' (kK hb c1) (kK hb c0) (hv0.then hb)));obtain⟨A,c,rfl,hc⟩:=hv.shape;clear hv0 hv hu hb0;generalize fstN (lkB o who) ids=y at *;obtain⟨y1,y2⟩:=y;go_enter Tryz.func119,Tryz.ntmps119;go_wp2_with fail;rw[←hw0];clear hw0;refine HP.out.mono ?_;rintro e w1 ⟨rfl,hb⟩;go_wp2
 go_ret2
 exact⟨rfl,bC HB0.out hb⟩
def newO (n:Int):List Int:=if n<0∨n > 2147483647 then []else List.replicate n.toNat 0
theorem new_o (n:Int) (w:World):Calls Tryz.prog 52 #[.int .i64 n] w fun e w'=>∃v',e=.returned v'∧KI.Own w' w.heap.size v' (newO n)∧Below w.heap.size w w':=by
 by_cases h:n<0
 ·rw[show newO n=[]from if_pos (Or.inl h)];go_enter Tryz.func52,Tryz.ntmps52;go_wp2
  go_ret
  exact⟨_,rfl,Lk.Own.nil _ _,bR _ _⟩
 by_cases h2:n > 2147483647
 ·rw[show newO n=[]from if_pos (Or.inr h2)];go_enter Tryz.func52,Tryz.ntmps52;go_wp2
  go_ret
  exact⟨_,rfl,Lk.Own.nil _ _,bR _ _⟩
 rw[show newO n=List.replicate n.toNat 0 from if_neg (by omega)];obtain⟨k,rfl⟩:=Int.eq_ofNat_of_zero_le (show 0≤n by omega);rw[show((k:Int)).toNat=k from rfl];obtain⟨i0,hi,hz0,hz1,_⟩:=info_parts KI.info;go_enter Tryz.func52,Tryz.ntmps52;go_wp2_with (at_make;refine wpList_make_full _ rfl _ _ 27 rfl w.heap.size 3 i0 (.int .i64 0) 1 Tryz.underlying27 hi hz0 hz1 _ _ _ _ k rfl rfl rfl rfl ?bytes ?maxLen ?base ?_)
 case bytes=>rw[show KI.bytes=8 from rfl];omega
 case maxLen=>unfold maxLen;omega
 intro w' hown hgrow;have ho:KI.Own w' w.heap.size (.slice (some ⟨w.heap.size,0,none⟩) k k) (List.replicate k 0):=by
  refine⟨?_,fun x hx=>?_⟩
  ·have e:=Lk.flat_made KI 0 rfl k;rw[←e,List.length_replicate,show k*KI.n=k from Nat.mul_one k];exact hown
  ·rw[List.mem_replicate]at hx;rw[hx.2];show fits 0;decide
 have HB:=aH ((bR w.heap.size w).grown hgrow (nR _) (fun k hk=>by cases hk));have HO:=aH ho;clear hown hgrow ho;go_wp2
 go_ret
 exact⟨_,rfl,HO.out,HB.out⟩
def ofL (o:List Int) (who:Int) (k:Nat):List Int:=((List.range k).filter fun i=>decide (o.getD i 0=who)).map Int.ofNat
theorem ofL_snoc (o:List Int) (who:Int) (k:Nat):ofL o who (k+1)=ofL o who k++(if o.getD k 0=who then [((k:Nat):Int)]else []):=by
 unfold ofL;rw[List.range_succ,List.filter_append,List.map_append];by_cases h:o.getD k 0=who
 ·rw[if_pos h,List.filter_cons_of_pos (by simpa using h)];rfl
 ·rw[if_neg h,List.filter_cons_of_neg (by simpa using h)];rfl
theorem ofL_len (o:List Int) (who:Int) (k:Nat):(ofL o who k).length≤k:=by
 unfold ofL;rw[List.length_map];exact Nat.le_trans (List.length_filter_le _ _) (by simp)
theorem of_o (v:Value) (o:List Int) (who:Int) (w:World) (hv:KI.IsL w w.heap.size v o) (hl:o.length≤1000):
  Calls Tryz.prog 226 #[v,.int .i64 who] w fun e w'=>∃v',e=.returned v'∧KI.Own w' w.heap.size v' (ofL o who o.length)∧Below w.heap.size w w':=by
 have HV:=aH hv;obtain⟨A,c,rfl,hc⟩:=hv.shape;clear hv;go_enter Tryz.func226,Tryz.ntmps226;go_wp2
 go_loopw [5,10] (fun u i wr=>∃k:Nat,k≤o.length∧i=.int .i64 k∧KI.Own wr w.heap.size u (ofL o who k)∧Below w.heap.size w wr) (fun _ i _=>o.length-(intOf i).toNat)
 case atStart=>exact⟨0,Nat.zero_le _,rfl,(show KI.Own w w.heap.size (.slice none 0 0) []from Lk.Own.nil _ _),bR _ _⟩
 case round=>
  obtain⟨k,hk,rfl,hown,hbl⟩:=hrel;have HO:=aH hown;have HB:=aH hbl;clear hown hbl;by_cases hlt:k<o.length
  ·obtain⟨b,off,cap',hs,_,hb,hl2,hcell,hf⟩:=KI.cells (HV.out.then HB.out) (by omega);simp only[Value.slice.injEq]at hs;obtain⟨rfl,_,rfl⟩:=hs;have e1:=hcell k hlt;have HS:=aH (ofL_snoc o who k);have HL:=aH (ofL_len o who k);clear hcell hf;generalize o.getD k 0=x at *;by_cases hx:x=who
   ·rw[if_pos hx]at HS;go_wp2_with (at_builtin;refine Lk.wpList_app (K:=KI) _ rfl _ _ rfl rfl w.heap.size (wr.heap.size+1) _ _ (ofL o who k) [(k:Int)] rfl rfl (HO.out.alloc _) (Lk.IsL.lit (K:=KI) _ (k:Int) _ (show fits (k:Int)by unfold fits;omega) rfl wr.heap.size rfl) ?c1 ?c2 ?_)
    case c1=>have:=HL.out;simp;omega
    case c2=>have:=HB.out.size;simp;omega
    intro v1 w4 hown hgrow _;have HB4:=aH (Lk.Own.grow' (HO.out.alloc _) (bL HB.out _) (by have:=HB.out.size;simp;omega) hgrow);have HO4:=aH hown;clear hown hgrow;go_wp2
    go_roundw
    case rel=>exact⟨k+1,by omega,num_i (by omega),by rw[HS.out];exact HO4.out,HB4.out⟩
    case measure=>simp[intOf];omega
   ·rw[if_neg hx,List.append_nil]at HS;go_wp2
    go_roundw
    case rel=>exact⟨k+1,by omega,num_i (by omega),by rw[HS.out];exact HO.out,HB.out⟩
    case measure=>simp[intOf];omega
  ·obtain rfl:k=o.length:=(by omega);go_wp2
   go_ret
   exact⟨_,rfl,HO.out,HB.out⟩
theorem owned_t (m:Md) (who:Int) (r:Rq) (x:Rs) (D:Nat) (w:World) (h:Tu w D m who r x) (hl:m.o.length≤1000):Calls Tryz.prog 180 #[.pointer (some ⟨D,0,none⟩)] w fun e w'=>∃v,e=.returned v∧KI.Own w' w.heap.size v (ofL m.o who m.o.length)∧Below w.heap.size w w':=by
 have HT:=aH h;have HOF:=aH (fun V (hb:Below w.heap.size w V)=>(of_o (.slice m.oA m.o.length m.oc) m.o who V (h.im.o.then hb) hl).mono (R':=fun e w'=>∃v,e=.returned v∧KI.Own w' w.heap.size v (ofL m.o who m.o.length)∧Below V.heap.size V w') fun e w' ⟨v,h1,h2,h3⟩=>⟨v,h1,h2.mono hb.size,h3⟩);clear h hl;generalize ofL m.o who m.o.length=L at *;go_enter Tryz.func180,Tryz.ntmps180
 go_upto_region 1 with fail
 have g10:=HT.out.row.g 10 rfl;have g11:=HT.out.row.g 11 rfl;refine wp_region_held_drew (S:=fun w'=>w'.cell? ⟨D,10,none⟩=some (.slice m.oA m.o.length m.oc)∧w'.cell? ⟨D,11,none⟩=some (.int .i64 who)) (by kernel_rfl) ?_ (fun hHeld=>?_)
 ·exact⟨g10,g11⟩
 have HBr:=aH (show Below w.heap.size w w.drew from below_drewN (bR _ _) 1);clear g10 g11;generalize w.drew=wv at *;refine wk [.k 0 3,.k 1 4,.k 2 5,.k 3 6,.k 4 7,.k 5 8,.k 6 9,.k 7 10,.k 8 11] (fun _ _ _ _ _ h=>h) hHeld ?_ (by kernel_rfl);repeat (refine .k (v:=?_) rfl (by kernel_rfl) ?_ ?_;rotate_left 1;((intro w hSw;(try dsimp only at hSw);go_simp)<;>(try with_reducible rfl));(try simp only[sp]))
 refine .nil ?_;refine wQ 9 (some 12) rfl (fun K hK=>?_) (by kernel_rfl);go_simp;(with_reducible refine(HOF.out _ HBr.out).mono ?_);rintro e wv ⟨v,rfl,ho,hb⟩;obtain⟨s0,s1⟩:=hHeld;have HBr:=aH (bC HBr.out hb);have HO:=aH ho;replace s0:=kK hb s0;replace s1:=kK hb s1;clear hb ho;go_wp2_with fail;refine hK.out _ _ ⟨s0,s1⟩ (fun hHeld=>?_);clear hK K s0 s1;try simp only[sp]
 refine wk [.k 10 2] (fun _ _ _ _ _ h=>h) hHeld ?_ (by kernel_rfl);repeat (refine .k (v:=?_) rfl (by kernel_rfl) ?_ ?_;rotate_left 1;((intro w hSw;(try dsimp only at hSw);go_simp)<;>(try with_reducible rfl));(try simp only[sp]))
 refine .nil ?_;refine wD (by kernel_rfl) ?_;go_wp2
 go_ret
 exact⟨_,rfl,HO.out,HBr.out⟩
theorem handle_t (m:Md) (who:Int) (r:Rq) (x:Rs) (D:Nat) (w:World) (h:Tu w D m who r x) (s:Stk) (E:Int) (hs:s.In w w.heap.size) (hso:s.Off D):Calls Tryz.prog 125 #[.pointer (some ⟨D,0,none⟩),s.v,.int .i64 E] w fun e w'=>e=.returned (.agg #[.int .i64 E,.int .i64 0])∧Tu w' D (if E=0 then {m with s:=s}else m) who r x∧But D w w':=by
 obtain⟨w0,hw0⟩:∃w0,w0=(w.alloc s.ob).alloc (.cells #[.int .i64 0,.int .i64 0] 104):=⟨_,rfl⟩;have HB0:=aH (show Below w.heap.size w w0 by rw[hw0];exact bL (bL (bR _ _) _) _);have HT0:=aH (h.then HB0.out);have HS0:=aH (hs.then HB0.out);have e1:(w.alloc s.ob).heap.size=w.heap.size+1:=by simp
 have HK:=aH (show Row w0 w.heap.size [.slice s.cA s.cl.length s.cc,.slice s.lA s.ll.length s.lc,.slice s.tA s.tl.length s.tc,.int .i64 s.st,.int .i64 s.inn,.int .i64 s.out]by rw[hw0];exact(Row.new w _ _ _ rfl).below (bL (bR _ _) _));have HR:=aH (show Row w0 (w.heap.size+1) [.int .i64 0,.int .i64 0]by rw[hw0,←e1];exact Row.new _ _ _ _ rfl);have HG:=aH (aI (show m.Off (w.heap.size+1)from h.im.off (Nat.le_succ _)) (aI (show s.Off (w.heap.size+1)from hs.off (Nat.le_succ _)) (show OffL (w.heap.size+1) x.A x.xs.length from h.ix.offL (Nat.le_succ _))));have HL:=aH h.lt;have HSO:=aH hso;clear e1 h hs hso;by_cases hE:E=0
 ·subst hE;rw[if_pos rfl];go_enter Tryz.func125,Tryz.ntmps125
  go_upto_region 1 with fail
  rw[←hw0];clear hw0;have k0:=HK.out.g 0 rfl;have k1:=HK.out.g 1 rfl;have k2:=HK.out.g 2 rfl;have k3:=HK.out.g 3 rfl;have k4:=HK.out.g 4 rfl;have k5:=HK.out.g 5 rfl;have g4:=HT0.out.row.g 4 rfl;have g5:=HT0.out.row.g 5 rfl;have g6:=HT0.out.row.g 6 rfl;have g7:=HT0.out.row.g 7 rfl;have g8:=HT0.out.row.g 8 rfl;have g9:=HT0.out.row.g 9 rfl;have z4:=HT0.out.row.z 4 rfl;have z5:=HT0.out.row.z 5 rfl;have z6:=HT0.out.row.z 6 rfl;have z7:=HT0.out.row.z 7 rfl;have z8:=HT0.out.row.z 8 rfl;have z9:=HT0.out.row.z 9 rfl
  go_upto_region 4 with fail
  have HT1:=aH (HT0.out.setS HS0.out HSO.out);have HB1:=aH (show But D w ((((((w0.setCell ⟨D,4,none⟩ (.slice s.cA s.cl.length s.cc)).setCell ⟨D,5,none⟩ (.slice s.lA s.ll.length s.lc)).setCell ⟨D,6,none⟩ (.slice s.tA s.tl.length s.tc)).setCell ⟨D,7,none⟩ (.int .i64 s.st)).setCell ⟨D,8,none⟩ (.int .i64 s.inn)).setCell ⟨D,9,none⟩ (.int .i64 s.out))from((((((But.of HB0.out).st _).st _).st _).st _).st _).st _);have HR1:=aH (show Row ((((((w0.setCell ⟨D,4,none⟩ (.slice s.cA s.cl.length s.cc)).setCell ⟨D,5,none⟩ (.slice s.lA s.ll.length s.lc)).setCell ⟨D,6,none⟩ (.slice s.tA s.tl.length s.tc)).setCell ⟨D,7,none⟩ (.int .i64 s.st)).setCell ⟨D,8,none⟩ (.int .i64 s.inn)).setCell ⟨D,9,none⟩ (.int .i64 s.out)) (w.heap.size+1) [.int .i64 0,.int .i64 0]from(fun(hne:D≠w.heap.size+1)=>(((((HR.out.off hne _).off hne _).off hne _).off hne _).off hne _).off hne _) (by have h:=HL.out;omega));clear k0 k1 k2 k3 k4 k5 g4 g5 g6 g7 g8 g9 z4 z5 z6 z7 z8 z9 HT0 HR HK;generalize (((((w0.setCell ⟨D,4,none⟩ (.slice s.cA s.cl.length s.cc)).setCell ⟨D,5,none⟩ (.slice s.lA s.ll.length s.lc)).setCell ⟨D,6,none⟩ (.slice s.tA s.tl.length s.tc)).setCell ⟨D,7,none⟩ (.int .i64 s.st)).setCell ⟨D,8,none⟩ (.int .i64 s.inn)).setCell ⟨D,9,none⟩ (.int .i64 s.out)=w1 at *;have k0:=HR1.out.g 0 rfl;have k1:=HR1.out.g 1 rfl;have y0:=HR1.out.z 0 rfl;have y1:=HR1.out.z 1 rfl;go_wp2;have HF:=aH ((HR1.out.set 0 (.int .i64 0)).set 1 (.int .i64 0));have f0:=HF.out.g 0 rfl;have f1:=HF.out.g 1 rfl;clear k0 k1 y0 y1;have hDG:D<w.heap.size+1:=Nat.lt_succ_of_lt HL.out;have hmo:({m with s:=s}:Md).Off (w.heap.size+1):=⟨HG.out.1.1,HG.out.2.1,HG.out.1.2.2⟩;refine bP (v:=.agg #[.int .i64 0,.int .i64 0]) ?_ rfl ?_
  ·simp[results,Tryz.results125,go_sem,f0,f1]
  ·exact⟨rfl,(HT1.out.other hDG hmo HG.out.2.2 _).other hDG hmo HG.out.2.2 _,(HB1.out.new (Nat.le_succ _) _).new (Nat.le_succ _) _⟩
 ·rw[if_neg hE];have hE':(E != 0)=true:=by simpa using hE
  go_enter Tryz.func125,Tryz.ntmps125
  go_upto_region 1 with fail
  rw[←hw0];clear hw0;have k0:=HR.out.g 0 rfl;have k1:=HR.out.g 1 rfl;have y0:=HR.out.z 0 rfl;have y1:=HR.out.z 1 rfl;go_wp2;have HF:=aH ((HR.out.set 0 (.int .i64 E)).set 1 (.int .i64 0));have f0:=HF.out.g 0 rfl;have f1:=HF.out.g 1 rfl;clear k0 k1 y0 y1;have hDG:D<w.heap.size+1:=Nat.lt_succ_of_lt HL.out;refine bP (v:=.agg #[.int .i64 E,.int .i64 0]) ?_ rfl ?_
  ·simp[results,Tryz.results125,go_sem,f0,f1]
  ·exact⟨rfl,(HT0.out.other hDG HG.out.1 HG.out.2.2 _).other hDG HG.out.1 HG.out.2.2 _,((But.of HB0.out).new (Nat.le_succ _) _).new (Nat.le_succ _) _⟩
def unN (k n:Int):Int:=if k=1∨k=2 then 0 else n
def unA (k a:Int):Int:=if k=4∨k=5∨k=6∨k=7∨k=9∨k=10 then 0 else a
def unB (k b:Int):Int:=if k=4 then 0 else b
def unU (k u:Int):Int:=if k=10 then 0 else u
def unV (k:Int) (v:Nat):Nat:=if k=4∨k=5∨k=6 then 0 else v
theorem kEq (k:Int) (x:Int):(k==x)=decide (k=x):=by rw[Bool.eq_iff_iff];simp
theorem kinds (k:Int):k=1∨k=2∨k=4∨k=5∨k=6∨k=7∨k=9∨k=10∨((k==1)=false∧(k==2)=false∧(k==4)=false∧(k==5)=false∧(k==6)=false∧(k==7)=false∧(k==9)=false∧(k==10)=false):=by
  simp only[kEq,decide_eq_false_iff_not];omega
theorem unnamed_any (r:Rq) (w:World) (hr:r.In w w.heap.size):Calls Tryz.prog 203 #[r.val] w fun e w'=>e=.returned (.agg #[.int .i64 (unN r.k r.il.length),.int .i64 (unA r.k r.a),.int .i64 (unB r.k r.b),.int .i64 (unU r.k r.u),.int .u64 (unV r.k r.v)])∧Below w.heap.size w w':=by
  have HL:=aH hr.l.2.2;obtain⟨k,iA,ic,il,a,b,u,v⟩:=r;dsimp only at *;clear hr;rcases kinds k with rfl|rfl|rfl|rfl|rfl|rfl|rfl|rfl|⟨k1,k2,k4,k5,k6,k7,k9,k10⟩
  all_goals
    go_enter Tryz.func203,Tryz.ntmps203;go_wp2;refine bP (v:=.agg #[.int .i64 (unN _ _),.int .i64 (unA _ _),.int .i64 (unB _ _),.int .i64 (unU _ _),.int .u64 (unV _ _)]) ?_ rfl ⟨rfl,?_⟩
    · first
        |(simp[results,Tryz.results203,go_sem,unN,unA,unB,unU,unV];done)
        |(simp only[beq_eq_false_iff_ne,ne_eq]at k1 k2 k4 k5 k6 k7 k9 k10;simp[results,Tryz.results203,go_sem,unN,unA,unB,unU,unV,k1,k2,k4,k5,k6,k7,k9,k10])
    · repeat (first|exact bR _ _|refine bL ?_ _|refine bS ?_ (by simp;omega))
def rfv (p:Int×Int):Value:=.agg #[.int .i64 p.1,.int .i64 p.2]
def unO (r:Rq):Bool:=decide (unN r.k r.il.length=0)&&(decide (unA r.k r.a=0)&&(decide (unB r.k r.b=0)&&(decide (unU r.k r.u=0)&&decide (unV r.k r.v=0))))
open Classical in
noncomputable def twV (l:List Int):Int:=Classical.epsilon (Two.Tw l)
theorem twV_eq {l:List Int} {t:Int} (h:Two.Tw l t):twV l=t:=(Classical.epsilon_spec (p:=Two.Tw l) ⟨t,h⟩).uniq h
noncomputable def mbV (l:List Int):Int×Int:=if l=[]then(1,0)else if 16<l.length then(2,0)else if 0≤twV l then(152,l.getD (twV l).toNat 0)else(0,0)
noncomputable def mfV (r:Rq):Int×Int:=if r.k<1∨10<r.k then(150,0)else if unO r=false then(151,0)else if r.k=1∨r.k=2 then mbV r.il else(0,0)
theorem misbatched_any (v:Value) (l:List Int) (w:World) (hv:KI.IsL w w.heap.size v l):Calls Tryz.prog 204 #[v] w fun e w'=>e=.returned (rfv (mbV l))∧Below w.heap.size w w':=by
  have HV:=aH hv;obtain⟨A,c,rfl,hc⟩:=hv.shape;clear hv;have HM:=aH (show mbV l=if l=[]then(1,0)else if 16<l.length then(2,0)else if 0≤twV l then(152,l.getD (twV l).toNat 0)else(0,0)from rfl);have HTW:=aH (fun t=>twV_eq (l:=l) (t:=t));generalize mbV l=m at *;unfold rfv;by_cases h0:l=[]
  · subst h0
    obtain rfl:m=(1,0):=(by rw[HM.out];rfl);go_enter Tryz.func204,Tryz.ntmps204;go_wp2;refine bP (v:=.agg #[.int .i64 1,.int .i64 0]) ?_ rfl ⟨rfl,?_⟩
    · simp[results,Tryz.results204,go_sem]
    · repeat (first|exact bR _ _|refine bL ?_ _|refine bS ?_ (by simp))
  have hl0:((l.length:Int)==0)=false:=by simpa using h0
  by_cases h1:16<l.length
  · obtain rfl:m=(2,0):=by rw[HM.out,if_neg h0,if_pos h1]
    clear h0;go_enter Tryz.func204,Tryz.ntmps204;go_wp2;refine bP (v:=.agg #[.int .i64 2,.int .i64 0]) ?_ rfl ⟨rfl,?_⟩
    · simp[results,Tryz.results204,go_sem]
    · repeat (first|exact bR _ _|refine bL ?_ _|refine bS ?_ (by simp))
  go_enter Tryz.func204,Tryz.ntmps204;go_wp2_with fail;refine(Two.twice_any _ l _ (two_of (HV.out.then (bL (bR _ _) _))) (by omega)).mono ?_;rintro e w1 ⟨⟨t,rfl,ht⟩,hb1⟩;have HB1:=aH (bC (bL (bR _ _) _) hb1);obtain⟨c0,c1,z0,z1,-⟩:=(Cells2.new w 122 (.int .i64 0) (.int .i64 0)).below hb1;clear hb1;have ht0:=HTW.out t ht;have hm1:m=if 0≤t then(152,l.getD t.toNat 0)else(0,0):=by rw[HM.out,if_neg h0,if_neg h1,ht0]
  clear HTW ht0 h0;by_cases h2:0≤t
  · obtain⟨i,hi,rfl⟩:∃i:Nat,i<l.length∧t=i:=by
      rcases ht with ⟨rfl,_⟩|⟨i,hi,rfl,_⟩
      · omega
      · exact⟨i,hi,rfl⟩
    rw[if_pos h2,Int.toNat_natCast]at hm1;obtain⟨b,off,cap,hA,hcap,hb,hlm,hcell,hfit⟩:=KI.cells HV.out (by omega);have hci:w1.cell? ⟨b,off+i,none⟩=some (.int .i64 (l.getD i 0)):=kK HB1.out (hcell i hi);injection hA with hA1 hA2 hA3
    subst hA1;obtain⟨x,hx⟩:∃x,l.getD i 0=x:=⟨_,rfl⟩;rw[hx]at hm1 hci;subst hm1;clear ht HM hcell hfit hA2 hA3 h2 hx;go_wp2;refine bP (v:=.agg #[.int .i64 152,.int .i64 x]) ?_ rfl ⟨rfl,?_⟩
    · simp[results,Tryz.results204,go_sem,c0,c1]
    · exact bS (bS HB1.out (nR _)) (nR _)
  · rw[if_neg h2]at hm1
    subst hm1;clear ht HM;go_wp2;refine bP (v:=.agg #[.int .i64 0,.int .i64 0]) ?_ rfl ⟨rfl,?_⟩
    · simp[results,Tryz.results204,go_sem,c0,c1]
    · exact bS (bS HB1.out (nR _)) (nR _)
theorem misformed_any (r:Rq) (w:World) (hr:r.In w w.heap.size):Calls Tryz.prog 143 #[r.val] w fun e w'=>e=.returned (rfv (mfV r))∧Below w.heap.size w w':=by
  have HR:=aH hr;clear hr;have HM:=aH (show mfV r=if r.k<1∨10<r.k then(150,0)else if unO r=false then(151,0)else if r.k=1∨r.k=2 then mbV r.il else(0,0)from rfl);have HU:=aH (fun w h=>unnamed_any r w h);have HUO:=aH (show unO r=(decide (unN r.k r.il.length=0)&&(decide (unA r.k r.a=0)&&(decide (unB r.k r.b=0)&&(decide (unU r.k r.u=0)&&decide (unV r.k r.v=0)))))from rfl);have HB:=aH (fun w h=>misbatched_any (.slice r.iA r.il.length r.ic) r.il w h);obtain⟨w0,hw0⟩:∃w0,w0=(w.alloc (.cells r.ob 30)).alloc (.cells #[.int .i64 0,.int .i64 0] 122):=⟨_,rfl⟩;generalize mfV r=m at *;by_cases h0:r.k<1
  · obtain rfl:m=(150,0):=by rw[HM.out,if_pos (.inl h0)]
    unfold rfv;go_enter Tryz.func143,Tryz.ntmps143;go_wp2;refine bP (v:=.agg #[.int .i64 150,.int .i64 0]) ?_ rfl ⟨rfl,?_⟩
    · simp[results,Tryz.results143,go_sem]
    · repeat (first|exact bR _ _|refine bL ?_ _|refine bS ?_ (by simp))
  by_cases h1:10<r.k
  · obtain rfl:m=(150,0):=by rw[HM.out,if_pos (.inr h1)]
    unfold rfv;go_enter Tryz.func143,Tryz.ntmps143;go_wp2;refine bP (v:=.agg #[.int .i64 150,.int .i64 0]) ?_ rfl ⟨rfl,?_⟩
    · simp[results,Tryz.results143,go_sem]
    · repeat (first|exact bR _ _|refine bL ?_ _|refine bS ?_ (by simp))
  have hm1:m=if unO r=false then(151,0)else if r.k=1∨r.k=2 then mbV r.il else(0,0):=by rw[HM.out,if_neg (by omega)]
  clear HM;generalize unN r.k r.il.length=nN at *;generalize unA r.k r.a=nA at *;generalize unB r.k r.b=nB at *;generalize unU r.k r.u=nU at *;generalize unV r.k r.v=nV at *;go_enter Tryz.func143,Tryz.ntmps143;go_wp2_with fail;refine(HU.out _ (HR.out.then (bL (bL (bR _ _) _) _))).mono ?_;rintro e w1 ⟨rfl,hb1⟩;have HB1:=aH (bC (bL (bL (bR _ _) _) _) hb1);have HC:=aH (((Cells6.new w 30 (.int .i64 r.k) (.slice r.iA r.il.length r.ic) (.int .i64 r.a) (.int .i64 r.b) (.int .i64 r.u) (.int .u64 r.v)).below (bL (bR _ _) _)).below hb1);have HD:=aH ((show Cells2 ((w.alloc (.cells r.ob 30)).alloc (.cells #[.int .i64 0,.int .i64 0] 122)) (w.heap.size+1) (.int .i64 0) (.int .i64 0)from by
    have h:=Cells2.new (w.alloc (.cells r.ob 30)) 122 (.int .i64 0) (.int .i64 0);rw[World.size_alloc]at h;exact h).below hb1)
  obtain⟨c0,c1,c2,c3,c4,c5,-⟩:=HC.out;obtain⟨d0,d1,z0,z1,-⟩:=HD.out;have HM1:=aH hm1;have HR1:=aH (HR.out.then HB1.out);clear hb1 hm1 h0 h1;have hk:(r.k==1)=true∨((r.k==1)=false∧(r.k==2)=true)∨((r.k==1)=false∧(r.k==2)=false):=by
    simp only[kEq,decide_eq_true_eq,decide_eq_false_iff_not];omega
  rcases hk with k1|⟨k1,k2⟩|⟨k1,k2⟩
  all_goals
    go_wp2_with (go_at_call 204;refine(HB.out _ HR1.out.l).mono ?_;rintro e w2 ⟨rfl,hb2⟩;obtain⟨y0,y1,x0,x1,-⟩:=HD.out.below hb2;have HB2:=aH (bC HB1.out hb2);have HMB:=aH (show rfv (mbV r.il)=.agg #[.int .i64 (mbV r.il).1,.int .i64 (mbV r.il).2]from rfl);rw[HMB.out];clear hb2)
  all_goals first
    | (obtain rfl:m=(0,0):=by rw[HM1.out,HUO.out];simp only[kEq,decide_eq_false_iff_not]at k1 k2;simp[*];done
       refine bP (v:=.agg #[.int .i64 0,.int .i64 0]) ?_ rfl ⟨rfl,?_⟩
       · simp[results,Tryz.results143,go_sem,d0,d1]
       · exact bS (bS HB1.out (by simp)) (by simp))
    | (obtain rfl:m=(151,0):=by rw[HM1.out,HUO.out];simp[*];done
       refine bP (v:=.agg #[.int .i64 151,.int .i64 0]) ?_ rfl ⟨rfl,?_⟩
       · simp[results,Tryz.results143,go_sem,d0,d1]
       · exact bS (bS HB1.out (by simp)) (by simp))
    | (have hm:m=mbV r.il:=by rw[HM1.out,HUO.out];simp only[kEq,decide_eq_true_eq,decide_eq_false_iff_not]at k1 k2;simp[*]
       rw[hm,HMB.out];refine bP (v:=.agg #[.int .i64 (mbV r.il).1,.int .i64 (mbV r.il).2]) ?_ rfl ⟨rfl,?_⟩
       · simp[results,Tryz.results143,go_sem,y0,y1]
       · exact bS (bS HB2.out (by simp)) (by simp))
    | (have hm:m=mbV r.il:=by rw[HM1.out,HUO.out];simp only[kEq,decide_eq_true_eq]at k1;simp[*]
       rw[hm,HMB.out];refine bP (v:=.agg #[.int .i64 (mbV r.il).1,.int .i64 (mbV r.il).2]) ?_ rfl ⟨rfl,?_⟩
       · simp[results,Tryz.results143,go_sem,y0,y1]
       · exact bS (bS HB2.out (by simp)) (by simp))
open Go.RowKit Go.Shelf
attribute [local go_sem] Oper.semAt_some
noncomputable def iwP (d:Dk) (k id:Int):Bool:=decide ((partV d id).2=0)&&(decide (k=0)||decide ((partV d id).1.a=k))
theorem isPartW_any (d:Dk) (k id:Int) (hid:fits id) (w:World) (hd:d.In w w.heap.size):Calls Tryz.prog 144 #[d.v,.int .i64 k,.int .i64 id] w fun e w'=>e=.returned (.bool (iwP d k id))∧Below w.heap.size w w':=by
  obtain⟨w0,hw0⟩:∃w0,w0=w.alloc d.ob:=⟨_,rfl⟩;have HB0:=aH (show Below w.heap.size w w0 by rw[hw0];exact bL (bR _ _) _);have HD0:=aH (hd.then HB0.out);have HP:=aH (fun w h=>part_any d id hid w h);have e:iwP d k id=(decide ((partV d id).2=0)&&(decide (k=0)||decide ((partV d id).1.a=k))):=rfl;generalize partV d id=t at *;obtain⟨⟨qa,qb,qc,qd⟩,er⟩:=t;rw[e];clear e hd;unfold partVal at HP;dsimp only at HP⊢;go_enter Tryz.func144,Tryz.ntmps144;go_wp2_with fail;rw[←hw0];clear hw0;refine(HP.out _ HD0.out).mono ?_;rintro e w1 ⟨rfl,hb1⟩;have HB1:=aH (bC HB0.out hb1);clear hb1;by_cases h0:er=0
  · subst h0
    by_cases h1:k=0
    · subst h1
      go_wp2
      go_ret
      exact⟨ret_b (by simp),by first|exact bL HB1.out _|(exact bL (bL HB1.out _) _)⟩
    · have h1':(k==0)=false:=by simpa using h1
      by_cases h2:qa=k
      · go_wp2
        go_ret
        exact⟨rfl,by first|exact bL HB1.out _|(exact bL (bL HB1.out _) _)⟩
      · go_wp2
        go_ret
        exact⟨ret_b (by simpa using h2),by first|exact bL HB1.out _|(exact bL (bL HB1.out _) _)⟩
  · have h0':(er==0)=false:=by simpa using h0
    have h0'':=h0;clear h0;go_wp2
    go_ret
    exact⟨ret_b (by simp[h0'']),by first|exact bL HB1.out _|(exact bL (bL HB1.out _) _)⟩
def cl (x:Int):Int:=if fits x then x else 0
theorem cl_fits (x:Int):fits (cl x):=by unfold cl;split<;>first|assumption|decide
theorem cl_of {x:Int} (h:fits x):cl x=x:=if_pos h
abbrev enc2 (x:Int×Int):Array Value:=#[.int .i64 x.1,.int .i64 (cl x.2)]
def nmL (r:Rq):List (Int×Int):=if r.k=1∨r.k=2 then r.il.map (fun x=>(0,x))else if r.k=4 then [(1,r.a),(1,r.b)]else if r.k=5∨r.k=6∨r.k=9∨r.k=10 then [(1,r.a)]else if r.k=7 then [(2,r.a)]else []
theorem named_any (r:Rq) (w:World):Calls Tryz.prog 91 #[r.val] w fun e w'=>e=.returned (.func (.func 153) #[] #[.pointer (some ⟨w.heap.size,0,none⟩)])∧w'=w.alloc (.cells r.ob 30):=by
  go_enter Tryz.func91,Tryz.ntmps91;go_wp2
  go_ret
  exact⟨rfl,rfl⟩
def Kq (B Br:Nat) (W W':World):Prop:=Below B W W'∧∀o v,W.cell? ⟨Br,o,none⟩=some v→W'.cell? ⟨Br,o,none⟩=some v
theorem Kq.refl (B Br:Nat) (W:World):Kq B Br W W:=⟨bR _ _,fun _ _ h=>h⟩
theorem Kq.trans {B Br:Nat} {W W1 W2:World} (h:Kq B Br W W1) (k:Kq B Br W1 W2):Kq B Br W W2:=⟨h.1.trans k.1,fun o v e=>k.2 o v (h.2 o v e)⟩
theorem Kq.put {B Br:Nat} {w:World} (hB:B≤w.heap.size) (W:World) (l:Nat) (o o':Obj) (hl:w.heap.size≤l) (ho:W.heap[l]? =some o) (hc:o.isCells=false) (hw:o.isWalk=false):Kq B Br W (W.putObj l o'):=
  ⟨belowK_b hB W l o o' hl ho hc hw,fun p v e=>cell_kept e (grownBy_putObj' W l o') (fun r e=>by cases e;exact⟨o,ho,hc⟩)⟩
theorem named1_in (n:Nat) (hn:1≤n) (l Br n₀:Nat) (r:Rq) (J Jx:List (Int×Int)→World→Prop)
    (hY:∀pre x W,J pre W→pre.length<(nmL r).length→YieldAt Fence.wide (n-1) Tryz.prog l (enc2 x) W fun e W'=>
      (e=.returned (.bool true)∧J (pre++[x]) W'∧Kq n₀ Br W W')∨(e=.returned (.bool false)∧Jx (pre++[x]) W'))
    (W:World) (hBr:RqAt W Br r) (hr:r.In W n₀) (h0:J [] W):
    CallsIn Fence.wide n Tryz.prog 153 #[.func (.yield l) #[] #[],.pointer (some ⟨Br,0,none⟩)] W fun e W'=>(∃v,e=.returned v)∧
      ((∃ys,ys=nmL r∧J ys W')∨(∃pre,pre<+:nmL r∧Jx pre W')):=by
  have HY:=aH hY;have HR:=aH hr;have HJ:=aH h0;have HN:=aH (show nmL r=if r.k=1∨r.k=2 then r.il.map (fun x=>(0,x))else if r.k=4 then [(1,r.a),(1,r.b)]else if r.k=5∨r.k=6∨r.k=9∨r.k=10 then [(1,r.a)]else if r.k=7 then [(2,r.a)]else []from rfl);have ha:=cl_of hr.a;have hb:=cl_of hr.b;have HLN:=aH hr.l.2.2;obtain⟨c0,c1,c2,c3,c4,c5,-⟩:=hBr;clear hY hr h0;obtain⟨k,iA,ic,il,a,b,u,v⟩:=r;dsimp only at *;generalize nmL _=xs at *;refine callsIn_of_wp Tryz.func153 rfl trivial ?_ rfl;simp only[Tryz.ntmps153,List.size_toArray,List.length_cons,List.length_nil,Nat.reduceAdd,Nat.reduceSub,Array.replicate_succ,Array.replicate_zero,List.push_toArray,List.append_toArray,List.nil_append,List.cons_append];rcases kinds k with rfl|rfl|rfl|rfl|rfl|rfl|rfl|rfl|⟨k1,k2,k4,k5,k6,k7,k9,k10⟩
  case inr.inr.inr.inr.inr.inr.inr.inr=>
    obtain rfl:xs=[]:=by
      simp only[kEq,decide_eq_false_iff_not]at k1 k2 k4 k5 k6 k7 k9 k10;rw[HN.out];simp[*]
    gi_wp2
    go_end0
    exact⟨⟨_,rfl⟩,.inl ⟨_,rfl,HJ.out⟩⟩
  case inr.inr.inl=>
    obtain rfl:xs=[(1,a),(1,b)]:=HN.out;obtain⟨fn,tmps,assign,body,hy,hR⟩:=HY.out [] (1,a) W HJ.out (by simp);dsimp only[enc2]at hy;rw[ha]at hy
    gi_wp2
    refine hR.mono ?_;clear hR hy;rintro e W3 (⟨rfl,hJ3,hk3⟩|⟨rfl,hJx3⟩)
    · have d3:=hk3.2 3 _ c3
      have d2:=hk3.2 2 _ c2;have d0:=hk3.2 0 _ c0;obtain⟨fn,tmps,assign,body,hy,hR⟩:=HY.out [(1,a)] (1,b) W3 hJ3 (by simp);dsimp only[enc2]at hy;rw[hb]at hy
      gi_wp2
      refine hR.mono ?_;clear hR hy;rintro e W4 (⟨rfl,hJ4,hk4⟩|⟨rfl,hJx4⟩)
      · gi_wp2
        go_end0
        exact⟨⟨_,rfl⟩,.inl ⟨_,rfl,hJ4⟩⟩
      · gi_wp2
        go_end0
        exact⟨⟨_,rfl⟩,.inr ⟨_,List.prefix_rfl,hJx4⟩⟩
    · gi_wp2
      refine⟨fun _ h=>(by cases h),?_⟩
      gi_wp2
      go_end0
      exact⟨⟨_,rfl⟩,.inr ⟨_,⟨[(1,b)],rfl⟩,hJx3⟩⟩
  case inl|inr.inl=>
    obtain rfl:xs=il.map (fun x=>(0,x)):=HN.out
    gi_wp2
    gi_loopw [13] (fun i wr=>∃k:Nat,k≤il.length∧i=.int .i64 k∧J ((il.take k).map (fun x=>(0,x))) wr∧Kq n₀ Br W wr) (fun i _=>il.length-(intOf i).toNat)
    case atStart=>exact⟨0,Nat.zero_le _,rfl,HJ.out,Kq.refl _ _ _⟩
    case round=>
      obtain⟨k,hk,rfl,hJs,hnx⟩:=hrel;have HJS:=aH hJs;have HNX:=aH hnx;clear hJs hnx;by_cases hlt:k<il.length
      · obtain⟨b0,off,cap,hA,hcap,hb0,hlm,hcell,hfit⟩:=KI.cells HR.out.l (show 0<il.length by omega)
        have hci:wr.cell? ⟨b0,off+k,none⟩=some (.int .i64 (il.getD k 0)):=(HNX.out.1.cell (p:=⟨b0,off+k,none⟩) hb0).trans (hcell k hlt);have hfk:=cl_of (hfit k hlt);have HTK:=aH (take_snoc il k 0 hlt);injection hA with hA1 hA2 hA3
        subst hA1;clear hcell hfit hA2 hA3;obtain⟨fn,tmps,assign,body,hy,hR⟩:=HY.out _ (0,il.getD k 0) wr HJS.out (by rw[List.length_map,List.length_take];show _<(il.map _).length;rw[List.length_map];omega);dsimp only[enc2]at hy;rw[hfk]at hy;clear hfk;generalize il.getD k 0=x at *
        gi_wp2
        refine hR.mono ?_;clear hR hy hci;rintro e W3 (⟨rfl,hJ3,hk3⟩|⟨rfl,hJx3⟩)
        · gi_wp2
          go_roundw
          case rel=>exact⟨k+1,by omega,num_i (by omega),by rw[HTK.out,List.map_append];exact hJ3,HNX.out.trans hk3⟩
          case measure=>simp[intOf];omega
        · gi_wp2
          refine bP (results_none rfl _ _ _) rfl ?_;refine⟨⟨_,rfl⟩,.inr ⟨_,?_,hJx3⟩⟩;have h:=HTK.out;rw[←List.map_singleton (f:=fun x=>((0:Int),x)),←List.map_append,←h];exact(List.take_prefix _ _).map _
      · obtain rfl:k=il.length:=by omega
        rw[List.take_length]at HJS
        gi_wp2
        go_end0
        exact⟨⟨_,rfl⟩,.inl ⟨_,rfl,HJS.out⟩⟩
  case inr.inr.inr.inr.inr.inl=>
    obtain rfl:xs=[(2,a)]:=HN.out;obtain⟨fn,tmps,assign,body,hy,hR⟩:=HY.out [] (2,a) W HJ.out (by simp);dsimp only[enc2]at hy;rw[ha]at hy
    gi_wp2
    refine hR.mono ?_;clear hR hy;rintro e W3 (⟨rfl,hJ3,hk3⟩|⟨rfl,hJx3⟩)
    · gi_wp2
      go_end0
      exact⟨⟨_,rfl⟩,.inl ⟨_,rfl,hJ3⟩⟩
    · gi_wp2
      go_end0
      exact⟨⟨_,rfl⟩,.inr ⟨_,List.prefix_rfl,hJx3⟩⟩
  all_goals
    obtain rfl:xs=[(1,a)]:=HN.out;obtain⟨fn,tmps,assign,body,hy,hR⟩:=HY.out [] (1,a) W HJ.out (by simp);dsimp only[enc2]at hy;rw[ha]at hy
    gi_wp2
    refine hR.mono ?_;clear hR hy;rintro e W3 (⟨rfl,hJ3,hk3⟩|⟨rfl,hJx3⟩)
    · gi_wp2
      go_end0
      exact⟨⟨_,rfl⟩,.inl ⟨_,rfl,hJ3⟩⟩
    · gi_wp2
      go_end0
      exact⟨⟨_,rfl⟩,.inr ⟨_,List.prefix_rfl,hJx3⟩⟩
end Go.Proofs.YtmecohdedghiaaaGreatDoor
