/- The lanes of some ids and of a span: what the program and the reference answer. -/
import Derived.Test.YtmecohdedghiaaaGreatDoorPn00
import Derived.Test.YtmecohdedghiaaaGreatDoorPn01
import Derived.Laws.Rows
import Derived.Deep.QuietTactic
import Derived.BigQuiet
import Derived.Test.YtmecohdedghiaaaGreatDoorPn11
set_option maxRecDepth 100000
set_option maxHeartbeats 8000000
namespace Go.Proofs.YtmecohdedghiaaaGreatDoor.Two
open Go.RowKit
def W2 (x:Int):Value:=.agg #[.int .u64 (x%18446744073709551616),.int .u64 (x/18446744073709551616%18446744073709551616)]
theorem ret_w2 {a b c d:Int} (h:a=c) (k:b=d):Ending.returned (.agg #[.int .u64 a,.int .u64 b])=.returned (.agg #[.int .u64 c,.int .u64 d]):=by rw[h,k]
theorem info43:(Tryz.prog.info? 246).map (·.size)=some 2:=by kernel_rfl
theorem widen_any (n:Int) (hn:fits n) (w:World):Calls Tryz.prog 222 #[.int .i64 n] w fun e w'=>e=.returned (W2 n)∧Below w.heap.size w w':=by
 have HN:=aH hn;clear hn;go_enter Tryz.func222,Tryz.ntmps222;go_wp2;refine bP (results_cell_row rfl _ _ w.heap.size 246 _ (0,0) _ rfl (heap_alloc_new _ _) Tryz.underlying246 rfl info43) rfl ?_;refine⟨ret_w2 ?_ ?_,(bR _ _).alloc (nR _) _⟩
 ·rw[IntKind.wrap_u64]
 ·have:=HN.out;unfold fits at this;rw[IntKind.wrap_u64];omega
theorem carry (x y:Int):((x%18446744073709551616+y%18446744073709551616)%18446744073709551616=(x+y)%18446744073709551616)∧
  ((x%18446744073709551616+y%18446744073709551616)%18446744073709551616<x%18446744073709551616→
   ((x/18446744073709551616%18446744073709551616+y/18446744073709551616%18446744073709551616)%18446744073709551616+1)%18446744073709551616=(x+y)/18446744073709551616%18446744073709551616)∧
  (¬(x%18446744073709551616+y%18446744073709551616)%18446744073709551616<x%18446744073709551616→
   (x/18446744073709551616%18446744073709551616+y/18446744073709551616%18446744073709551616)%18446744073709551616=(x+y)/18446744073709551616%18446744073709551616):=by
 refine⟨?_,?_,?_⟩<;>omega
theorem size_alloc (w:World) (o:Obj):(w.alloc o).heap.size=w.heap.size+1:=by simp
theorem two_cells (w:World) (b:Nat) (t u x y:Value) (h:w.heap[b]? =some (Obj.cells #[t,u] 246)):((w.setCell ⟨b,0,none⟩ x).setCell ⟨b,1,none⟩ y).heap[b]? =some (Obj.cells #[x,y] 246):=by
 rw[heap_setCell_same _ b 1 _ _ _ (heap_setCell_same w b 0 _ _ _ h)];rfl
theorem plus_any (x y:Int) (w:World):Calls Tryz.prog 221 #[W2 x,W2 y] w fun e w'=>e=.returned (W2 (x+y))∧Below w.heap.size w w':=by
 have hc:=carry x y;have HC:=aH hc;clear hc;unfold W2;generalize hx0:x%18446744073709551616=x0 at *;generalize hx1:x/18446744073709551616%18446744073709551616=x1 at *;generalize hy0:y%18446744073709551616=y0 at *;generalize hy1:y/18446744073709551616%18446744073709551616=y1 at *;have HX0:=aH hx0;have HY0:=aH hy0;clear hx0 hx1 hy0 hy1;go_enter Tryz.func221,Tryz.ntmps221;go_wp2;obtain⟨B,hB⟩:∃B,B=w.heap.size:=⟨_,rfl⟩;obtain⟨w3,hw⟩:∃w3,w3=(((w.alloc (Obj.cells #[.int .u64 x0,.int .u64 x1] 246)).alloc (Obj.cells #[.int .u64 y0,.int .u64 y1] 246)).alloc (Obj.cells #[.int .u64 0,.int .u64 0] 246)):=⟨_,rfl⟩;rw[←hw,←hB];have r0:w3.heap[B]? =some (Obj.cells #[.int .u64 x0,.int .u64 x1] 246):=by
  rw[hw,hB,Below.heap_alloc _ _ _ (by simp;omega),Below.heap_alloc _ _ _ (by simp),heap_alloc_new]
 have r1:w3.heap[B+1]? =some (Obj.cells #[.int .u64 y0,.int .u64 y1] 246):=by
  rw[hw,hB,Below.heap_alloc _ _ _ (by simp),←size_alloc w (Obj.cells #[.int .u64 x0,.int .u64 x1] 246)];exact heap_alloc_new (w.alloc _) _
 have r2:w3.heap[B+1+1]? =some (Obj.cells #[.int .u64 0,.int .u64 0] 246):=by
  rw[hw,hB,←size_alloc w (Obj.cells #[.int .u64 x0,.int .u64 x1] 246),←size_alloc _ (Obj.cells #[.int .u64 y0,.int .u64 y1] 246)];exact heap_alloc_new ((w.alloc _).alloc _) _
 have hbel:Below B w w3:=by
  rw[hw,hB];exact(((bR _ _).alloc (nR _) _).alloc (by simp) _).alloc (by simp;omega) _
 have c00:w3.cell? ⟨B,0,none⟩=some (.int .u64 x0):=cell_of_row w3 B 0 _ _ _ r0;have c01:w3.cell? ⟨B,1,none⟩=some (.int .u64 x1):=cell_of_row w3 B 1 _ _ _ r0;have c10:w3.cell? ⟨B+1,0,none⟩=some (.int .u64 y0):=cell_of_row w3 (B+1) 0 _ _ _ r1;have c11:w3.cell? ⟨B+1,1,none⟩=some (.int .u64 y1):=cell_of_row w3 (B+1) 1 _ _ _ r1;have c20:w3.cell? ⟨B+1+1,0,none⟩=some (.int .u64 0):=cell_of_row w3 (B+1+1) 0 _ _ _ r2;have c21:w3.cell? ⟨B+1+1,1,none⟩=some (.int .u64 0):=cell_of_row w3 (B+1+1) 1 _ _ _ r2;have f2:∀j,w3.frozen? ⟨B+1+1,j,none⟩=false:=fun j=>frozen_of_row w3 (B+1+1) j _ _ r2;have f20:=f2 0;have f21:=f2 1;have R2:=aH r2;have HBL:=aH hbel;have HB:=aH hB;clear hw r0 r1 r2 hbel f2 hB;go_quiet (fail);go_wp2
 ·refine bP (results_cell_row rfl _ _ (B+1+1) 246 _ (0,0) _ rfl (two_cells _ _ _ _ _ _ R2.out) Tryz.underlying246 rfl info43) rfl ?_;have e:=HC.out;rw[←IntKind.wrap_u64]at e;refine⟨ret_w2 e.1 ?_,?_⟩
  ·rw[←e.2.1 ‹_›,IntKind.wrap_u64,IntKind.wrap_u64]
  ·rw[←HB.out];exact Below.setCell (Below.setCell (below_drewN HBL.out _) (by simp;omega) _) (by simp;omega) _
 ·refine bP (results_cell_row rfl _ _ (B+1+1) 246 _ (0,0) _ rfl (two_cells _ _ _ _ _ _ R2.out) Tryz.underlying246 rfl info43) rfl ?_;have e:=HC.out;rw[←IntKind.wrap_u64]at e;refine⟨ret_w2 e.1 ?_,?_⟩
  ·rw[←e.2.2 ‹_›,IntKind.wrap_u64]
  ·rw[←HB.out];exact Below.setCell (Below.setCell (below_drewN HBL.out _) (by simp;omega) _) (by simp;omega) _
theorem either_any (v u:Value) (xs ys:List Int) (w:World) (h:IsL w w.heap.size v xs) (hy:IsL w w.heap.size u ys) (hl:xs.length+ys.length≤1000) (hix:Inc xs) (hiy:Inc ys):
  Calls Tryz.prog 81 #[v,u] w fun e w'=>∃v,e=.returned v∧IsL w' w'.heap.size v (mk (xs++ys))∧Below w.heap.size w w':=by
 obtain⟨i0,hi,hz0,hz1,hz2⟩:=info_parts int_info;obtain⟨⟨A,cap,rfl,hcap,hA⟩,hfit,hlen⟩:=h;have HY:=aH hy;obtain⟨⟨A2,cap2,rfl,hcap2,hA2⟩,hfit2,hlen2⟩:=hy;have HA:=aH hA;have HF:=aH hfit;have HA2:=aH hA2;have HF2:=aH hfit2;have HIX:=aH hix;have HIY:=aH hiy;clear hA hfit hA2 hfit2 hix hiy;go_enter Tryz.func81,Tryz.ntmps81;go_wp2_with (at_make;refine wpList_make_own _ rfl _ _ 27 rfl w.heap.size 3 i0 (.int .i64 0) 1 Tryz.underlying27 hi hz0 hz1 _ _ _ (xs.length+ys.length) rfl rfl (by omega) ?bytes ?maxLen ?base ?_)
 case bytes=>rw[hz2];omega
 case maxLen=>unfold maxLen;omega
 case base=>exact nR _
 intro w0 hown0 hg0;have HO0:=aH (show Own w0 w.heap.size (.slice (some ⟨w.heap.size,0,none⟩) 0 (xs.length+ys.length)) []from⟨hown0,fun x hx=>by simp at hx⟩);have HB0:=aH (show Below w.heap.size w w0 from(bR _ w).grown hg0 (nR _) (fun k hk=>by cases hk));clear hown0 hg0;go_wp2
 go_loopw [5,6,17] (fun t q i wr=>∃(k at':Nat) (all:List Int),k≤xs.length∧at'≤ys.length∧i=.int .i64 (k:Int)∧q=.int .i64 (at':Int)∧Own wr w.heap.size t all∧Below w.heap.size w wr∧OInv xs ys k at' all) (fun _ _ i _=>xs.length-(intOf i).toNat)
 case atStart=>exact⟨0,0,[],Nat.zero_le _,Nat.zero_le _,rfl,rfl,HO0.out,HB0.out,OInv.start _ _⟩
 case round=>
  clear HO0 HB0;obtain⟨k,at',all,hk,hat,rfl,rfl,hown,hbel,hinv⟩:=hrel;have HO:=aH hown;have HL:=aH hbel;have HI:=aH hinv;by_cases hlt:k<xs.length
  ·obtain⟨b,off,rfl,hbB,hcell⟩:=HA.out (by omega);have hx:wr.cell? ⟨b,off+k,none⟩=some (.int .i64 (xs.getD k 0)):=(hbel.cell (p:=⟨b,off+k,none⟩) hbB).trans (hcell k hlt);have HFX:=aH (getD_fits HF.out k);have HEN:=aH (hinv.enter hlt);have HLV:=aH (fun(t:Nat) (al:List Int) (hh:IInv xs ys k (xs.getD k 0) t al) (hx:t<ys.length→xs.getD k 0<ys.getD t 0)=>hh.leave HIX.out HIY.out hlt hx);clear hcell hown hbel hinv HI;generalize xs.getD k 0=n at *;obtain⟨wo,hwo⟩:∃wo,wo=wr:=⟨_,rfl⟩;subst hwo;go_wp2
   go_loopw [5,6] (fun t q wr=>∃(at':Nat) (all:List Int),at'≤ys.length∧q=.int .i64 (at':Int)∧Own wr w.heap.size t all∧Below w.heap.size w wr∧IInv xs ys k n at' all) (fun _ q _=>ys.length-(intOf q).toNat)
   case atStart=>exact⟨at',all,hat,rfl,HO.out,HL.out,HEN.out⟩
   case round=>
    clear HO HL HEN hx;obtain⟨at',all,hat,rfl,hown,hbel,hinv⟩:=hrel;have HO:=aH hown;have HL:=aH hbel;have HI:=aH hinv;have HLEN:=aH hinv.len;by_cases ht:at'<ys.length
    ·obtain⟨b2,off2,rfl,hbB2,hcell2⟩:=HA2.out (by omega);have hx2:wr.cell? ⟨b2,off2+at',none⟩=some (.int .i64 (ys.getD at' 0)):=(hbel.cell (p:=⟨b2,off2+at',none⟩) hbB2).trans (hcell2 at' ht);have HFY:=aH (getD_fits HF2.out at');have HLS:=aH (fun h=>hinv.less HIY.out ht h);have HSM:=aH (fun h=>hinv.same ht h);have HLV2:=aH (fun h=>HLV.out at' all hinv (fun _=>h));clear hcell2 hown hbel hinv HI HLV;generalize ys.getD at' 0=y at *;by_cases h1:y<n
     ·have h1':y≤n:=(by omega);have HLS2:=aH (HLS.out h1);go_wp2_with (at_builtin;refine wpList_app _ rfl _ _ rfl w.heap.size (wr.heap.size+1) _ _ all [y] rfl rfl (HO.out.alloc _) (IsL.lit wr y HFY.out) ?c1 ?c2 ?_)
      case c1=>have:=HLEN.out;simp;omega
      case c2=>have:=HL.out.size;simp;omega
      intro v1 w1 hown hgrow _;have hb1:=Own.grow' (HO.out.alloc (.cells #[.int .i64 y] 3)) (HL.out.alloc HL.out.size _) (by have:=HL.out.size;simp;omega) hgrow;have H1:=aH hown;have H2:=aH hb1;clear hown hgrow hb1;go_wp2
      go_roundw
      case rel=>exact⟨at'+1,all++[y],by omega,num_i (by omega),H1.out,H2.out,HLS2.out⟩
      case measure=>simp[intOf];omega
     ·by_cases h2:y=n
      ·have h2':y≤n:=(by omega);have HSM2:=aH (HSM.out h2);have h3:¬y<n:=h1;clear h2;go_wp2
       go_roundw
       case rel=>exact⟨at'+1,all,by omega,num_i (by omega),HO.out,HL.out,HSM2.out⟩
       case measure=>simp[intOf];omega
      ·have h3:n<y:=(by omega);have HLV3:=aH (HLV2.out h3);clear h2 h1;go_wp2_with (at_builtin;refine wpList_app _ rfl _ _ rfl w.heap.size (wr.heap.size+1) _ _ all [n] rfl rfl (HO.out.alloc _) (IsL.lit wr n HFX.out) ?c1 ?c2 ?_)
       case c1=>have:=HLEN.out;simp;omega
       case c2=>have:=HL.out.size;simp;omega
       intro v1 w1 hown hgrow _;have hb1:=Own.grow' (HO.out.alloc (.cells #[.int .i64 n] 3)) (HL.out.alloc HL.out.size _) (by have:=HL.out.size;simp;omega) hgrow;have H1:=aH hown;have H2:=aH hb1;clear hown hgrow hb1;go_wp2
       go_roundw
       case rel=>exact⟨k+1,at',all++[n],by omega,by omega,num_i (by omega),rfl,H1.out,H2.out,HLV3.out⟩
       case measure=>simp[intOf];omega
    ·have HLV2:=aH (HLV.out at' all hinv (fun h=>absurd h ht));have HLV3:=aH HLV2.out;clear hown hbel hinv HI HLV;go_wp2_with (at_builtin;refine wpList_app _ rfl _ _ rfl w.heap.size (wr.heap.size+1) _ _ all [n] rfl rfl (HO.out.alloc _) (IsL.lit wr n HFX.out) ?c1 ?c2 ?_)
     case c1=>have:=HLEN.out;simp;omega
     case c2=>have:=HL.out.size;simp;omega
     intro v1 w1 hown hgrow _;have hb1:=Own.grow' (HO.out.alloc (.cells #[.int .i64 n] 3)) (HL.out.alloc HL.out.size _) (by have:=HL.out.size;simp;omega) hgrow;have H1:=aH hown;have H2:=aH hb1;clear hown hgrow hb1;go_wp2
     go_roundw
     case rel=>exact⟨k+1,at',all++[n],by omega,by omega,num_i (by omega),rfl,H1.out,H2.out,HLV3.out⟩
     case measure=>simp[intOf];omega
  ·obtain rfl:k=xs.length:=(by omega);have HDN:=aH (hinv.done HIY.out);have HLEN:=aH hinv.len;clear hown hbel hinv HI;by_cases ht:at'<ys.length
   ·obtain⟨b2,off2,rfl,hbB2,hcell2⟩:=HA2.out (by omega);have HD:=aH (IsL.dropIf (cap:=cap2) hbB2 hcell2 HF2.out at' (by omega) hcap2 hlen2);have HD2:=aH (IsL.dropLit (cap:=cap2) hbB2 hcell2 HF2.out at' (by omega) hcap2 hlen2).2;have i1:(0:Int)≤(at':Int):=(by omega);have i2:(at':Int)≤(ys.length:Int):=(by omega);clear hcell2;go_wp2_with (first
     |(at_builtin;refine wpList_app _ rfl _ _ rfl w.heap.size w.heap.size _ _ all (ys.drop at') rfl rfl HO.out (HD.out.below HL.out) ?c1 ?c2 ?_)
     |(at_builtin;refine wpList_app _ rfl _ _ rfl w.heap.size w.heap.size _ _ all (ys.drop at') rfl rfl HO.out (HD2.out.below HL.out) ?c1 ?c2 ?_))
    case c1=>have:=HLEN.out;simp;omega
    case c2=>exact HL.out.size
    intro v1 w1 hown hgrow _;have hb1:=Own.grow' HO.out HL.out HL.out.size hgrow;have hr:all++ys.drop at'=mk (xs++ys):=HDN.out;rw[hr]at hown;have H1:=aH (hown.isL (by have:=mk_len_le (xs++ys);rw[List.length_append]at this;omega));have H2:=aH hb1;clear hown hgrow hb1;go_wp2
    go_ret
    exact⟨_,rfl,H1.out,H2.out⟩
   ·obtain rfl:at'=ys.length:=(by omega);rw[List.drop_length]at HDN;by_cases hy0:0<ys.length
    ·obtain⟨b2,off2,rfl,hbB2,hcell2⟩:=HA2.out hy0;clear hcell2;by_cases hc2:cap2=ys.length
     ·go_wp2_with (at_builtin;refine wpList_app _ rfl _ _ rfl w.heap.size w.heap.size _ _ all [] rfl rfl HO.out (IsL.nil _ _ _ _) ?c1 ?c2 ?_)
      case c1=>have:=HLEN.out;simp;omega
      case c2=>exact HL.out.size
      intro v1 w1 hown hgrow _;have hb1:=Own.grow' HO.out HL.out HL.out.size hgrow;have hr:all=mk (xs++ys):=(by have:=HDN.out;simpa using this);rw[hr]at hown;have H1:=aH (hown.isL (by have:=mk_len_le (xs++ys);rw[List.length_append]at this;omega));have H2:=aH hb1;clear hown hgrow hb1;go_wp2
      go_ret
      exact⟨_,rfl,H1.out,H2.out⟩
     ·go_wp2_with (at_builtin;refine wpList_app _ rfl _ _ rfl w.heap.size w.heap.size _ _ all [] rfl rfl HO.out (IsL.nil _ _ _ _) ?c1 ?c2 ?_)
      case c1=>have:=HLEN.out;simp;omega
      case c2=>exact HL.out.size
      intro v1 w1 hown hgrow _;have hb1:=Own.grow' HO.out HL.out HL.out.size hgrow;have hr:all=mk (xs++ys):=(by have:=HDN.out;simpa using this);rw[hr]at hown;have H1:=aH (hown.isL (by have:=mk_len_le (xs++ys);rw[List.length_append]at this;omega));have H2:=aH hb1;clear hown hgrow hb1;go_wp2
      go_ret
      exact⟨_,rfl,H1.out,H2.out⟩
    ·have hz:ys.length=0:=(by omega);rw[hz];go_wp2_with (at_builtin;refine wpList_app _ rfl _ _ rfl w.heap.size w.heap.size _ _ all [] rfl rfl HO.out (IsL.nil _ _ _ _) ?c1 ?c2 ?_)
     case c1=>have:=HLEN.out;simp;omega
     case c2=>exact HL.out.size
     intro v1 w1 hown hgrow _;have hb1:=Own.grow' HO.out HL.out HL.out.size hgrow;have hr:all=mk (xs++ys):=(by have:=HDN.out;simpa using this);rw[hr]at hown;have H1:=aH (hown.isL (by have:=mk_len_le (xs++ys);rw[List.length_append]at this;omega));have H2:=aH hb1;clear hown hgrow hb1;go_wp2
     go_ret
     exact⟨_,rfl,H1.out,H2.out⟩
end Go.Proofs.YtmecohdedghiaaaGreatDoor.Two
namespace Go.Proofs.YtmecohdedghiaaaGreatDoor
open Go.RowKit
noncomputable def inR (d:Dk) (id:Int):Bool:=decide (0≤id∧id<(tabV d).length)
noncomputable def spA (d:Dk) (id:Int):Int×Int:=(tabV d).getD id.toNat (0,0)
noncomputable def spsE (d:Dk) (ids:List Int):Int:=if zchk d=0 then(if ids.all (inR d)=true then 0 else 3)else zchk d
noncomputable def spsL (d:Dk) (ids:List Int):List (Int×Int):=if spsE d ids=0 then ids.map (spA d)else []
theorem zchk_d (d:Dk) (h:zchk d=0):dchk d=0:=by
 unfold zchk at h;by_cases e:dchk d=0
 ·exact e
 ·rw[if_neg e]at h;exact h
theorem tabV_z (d:Dk) (h:zchk d=0):tabV d=pairs (tabP d):=by unfold tabV;rw[if_pos h]
theorem tab_0 (d:Dk) (h:zchk d=0):∀t∈tabP d,t.2.2=0:=by
 have hd:=zchk_d d h;have:fstE (tabP d)=0:=by
  rw[fst_tab d (dchk_ok d hd)];unfold zchk at h;rw[if_pos hd]at h;exact h
 exact fst_0 _ this
theorem tabV_len (d:Dk) (h:zchk d=0):(tabV d).length=(partsK d).length:=by
 rw[tabV_z d h,pairs_len,tab_len0];unfold partsK;rw[if_pos (zchk_d d h)]
theorem span_tab (d:Dk) (h:zchk d=0) (id:Int):spanV d id=if inR d id=true then(((tabP d).getD id.toNat (0,0,0)).1,((tabP d).getD id.toNat (0,0,0)).2.1,0)else(0,0,3):=by
 have hd:=zchk_d d h;have hl:=tabV_len d h;unfold spanV;rw[partV_K d id hd];unfold partR inR;rw[hl];by_cases hr:id<0∨((partsK d).length:Int)≤id
 ·rw[if_pos hr,if_neg (by decide),if_neg (by simp;omega)]
 ·rw[if_neg hr,if_pos rfl,if_pos (by simp;omega)];have hk:id.toNat<(partsK d).length:=by omega
  have e:=tab_at d hd id.toNat hk;dsimp only;rw[←e];have hm:(tabP d).getD id.toNat (0,0,0)∈tabP d:=getD_mem' _ _ _ (by rw[tab_len0];unfold partsK at hk;rw[if_pos hd]at hk;exact hk);have h0:=tab_0 d h _ hm;generalize (tabP d).getD id.toNat (0,0,0)=t at *;obtain⟨t1,t2,t3⟩:=t;dsimp only at h0;subst h0;rfl
theorem spA_tab (d:Dk) (h:zchk d=0) (id:Int) (hr:inR d id=true):spA d id=((((tabP d).getD id.toNat (0,0,0)).1:Int),(((tabP d).getD id.toNat (0,0,0)).2.1:Int)):=by
 unfold spA;unfold inR at hr;have hr:=of_decide_eq_true hr;rw[tabV_z d h]at hr⊢;rw[pairs_len]at hr;rw[List.getD_eq_getElem?_getD,List.getD_eq_getElem?_getD];unfold pairs;rw[List.getElem?_map,List.getElem?_eq_getElem (show id.toNat<(tabP d).length by omega)];rfl
theorem spA_good (d:Dk) {w:World} (hd:d.In w w.heap.size) (h:zchk d=0) (id:Int) (hr:inR d id=true):0≤(spA d id).1∧(spA d id).1≤(spA d id).2∧(spA d id).2≤23:=by
 have hz:=zchk_d d h;rw[spA_tab d h id hr];have hr:=of_decide_eq_true hr;rw[tabV_len d h]at hr;have hk:id.toNat<(partsK d).length:=by omega
 have hm:=getD_mem' (partsK d) id.toNat ⟨0,0,0,0⟩ hk;have e:=tab_at d hz id.toNat hk;have hm2:(tabP d).getD id.toNat (0,0,0)∈tabP d:=getD_mem' _ _ _ (by rw[tab_len0];unfold partsK at hk;rw[if_pos hz]at hk;exact hk);have h0:=tab_0 d h _ hm2;rw[e]at h0⊢;have:=spn_good d hd _ hm h0;dsimp only;omega
theorem span_in (d:Dk) (id:Int) (hid:fits id) (h:zchk d=0) (hr:inR d id=true) (w:World) (hd:d.In w w.heap.size):Calls Tryz.prog 206 #[d.v,.int .i64 id] w fun e w'=>e=.returned (.tuple #[.agg #[.int .i64 (spA d id).1,.int .i64 (spA d id).2],.int .i64 0])∧Below w.heap.size w w':=by
 have:=span_any d id hid w hd;rw[span_tab d h id,if_pos hr]at this;rw[spA_tab d h id hr];exact this
theorem span_out (d:Dk) (id:Int) (hid:fits id) (h:zchk d=0) (hr:inR d id=false) (w:World) (hd:d.In w w.heap.size):Calls Tryz.prog 206 #[d.v,.int .i64 id] w fun e w'=>e=.returned (.tuple #[.agg #[.int .i64 0,.int .i64 0],.int .i64 3])∧Below w.heap.size w w':=by
 have:=span_any d id hid w hd;rw[span_tab d h id,if_neg (by rw[hr];decide)]at this;exact this
theorem all_hit (l:List Int) (f:Int→Bool) (k:Nat) (hk:k<l.length) (h:f (l.getD k 0)=false):l.all f=false:=all_no' l 0 f k hk h
theorem all_take (l:List Int) (f:Int→Bool) (k:Nat) (hk:k<l.length) (h0:(l.take k).all f=true) (h:f (l.getD k 0)=true):(l.take (k+1)).all f=true:=by
 rw[take_snoc l k 0 hk,List.all_append,h0,List.all_cons,h];rfl
theorem map_take1 (l:List Int) (f:Int→Int×Int) (k:Nat) (hk:k<l.length):(l.take (k+1)).map f=(l.take k).map f++[f (l.getD k 0)]:=by
 rw[take_snoc l k 0 hk,List.map_append];rfl
theorem spans_any (d:Dk) (v:Value) (ids:List Int) (w:World) (hd:d.In w w.heap.size) (hv:KI.IsL w w.heap.size v ids) (hl:ids.length≤1000):Calls Tryz.prog 145 #[d.v,v] w fun e w'=>∃u,e=.returned (.tuple #[u,.int .i64 (spsE d ids)])∧KS.Own w' w.heap.size u (spsL d ids)∧Below w.heap.size w w':=by
 have HD:=aH hd;have HV:=aH hv;have HC:=aH (fun w h=>zcheck_any d w h);obtain⟨⟨A,cap,rfl,_,_⟩,_,_⟩:=hv;have HSE:=aH (show spsE d ids=if zchk d=0 then(if ids.all (inR d)=true then 0 else 3)else zchk d from rfl);have HSL:=aH (show spsL d ids=if spsE d ids=0 then ids.map (spA d)else []from rfl);obtain⟨w0,hw0⟩:∃w0,w0=w.alloc d.ob:=⟨_,rfl⟩;have HB0:=aH (show Below w.heap.size w w0 by rw[hw0];exact bL (bR _ _) _);have HD0:=aH (HD.out.then HB0.out);have HF:=aH (show ∀w1,Below w0.heap.size w0 w1→(w1.cell? ⟨w.heap.size,0,none⟩=some (.slice d.bA d.bn d.bc)∧w1.cell? ⟨w.heap.size,1,none⟩=some (.slice d.pA d.pn d.pc)∧w1.cell? ⟨w.heap.size,2,none⟩=some (.slice d.rA d.rn d.rc)∧w1.cell? ⟨w.heap.size,3,none⟩=some (.int .i64 d.arms))from by
   intro w1 hb;refine⟨kK hb ?_,kK hb ?_,kK hb ?_,kK hb ?_⟩;all_goals (rw[hw0];simp))
 generalize spsL d ids=SL at *;generalize spsE d ids=SE at *;by_cases hz:zchk d=0
 ·have HIN:=aH (fun id hid hr w h=>span_in d id hid hz hr w h);have HOUT:=aH (fun id hid hr w h=>span_out d id hid hz hr w h);have HGD:=aH (fun id hr=>spA_good d HD.out hz id hr);have HSE:=aH (HSE.out.trans (if_pos hz));rw[hz]at HC;clear hz hd;go_enter Tryz.func145,Tryz.ntmps145;go_wp2_with fail;rw[←hw0];clear hw0;refine(HC.out _ HD0.out).mono ?_;rintro e w1 ⟨rfl,hb1⟩;have HB1:=aH hb1;clear hb1;obtain⟨i0,hi,hz0,hz1,hz2⟩:=info_parts KS.info;obtain⟨w3,hmk,hown,hgr⟩:=run_make_own (P:=Tryz.prog) w1 w1.heap.size 130 134 i0 _ 2 Tryz.underlying130 hi hz0 hz1 .i64 .i64 ids.length (by rw[hz2];show 16*ids.length≤_;omega) (by unfold maxLen;omega) (nR _);have HO3:=aH (show KS.Own w3 w1.heap.size (.slice (some ⟨w1.heap.size,0,none⟩) 0 ids.length) []from⟨hown,fun x hx=>by simp at hx⟩);have HB3:=aH (show Below w1.heap.size w1 w3 from(bR _ _).grown hgr (nR _) (fun k hk=>by cases hk));clear hown hgr hi hz0 hz1 hz2;go_wp2_with fail;obtain⟨u0,hu0⟩:∃u0,u0=Value.slice (some ⟨w1.heap.size,0,none⟩) 0 ids.length:=⟨_,rfl⟩;rw[←hu0]at HO3;clear hmk
  go_loopw [7,22] (fun u i wr=>∃k:Nat,k≤ids.length∧i=.int .i64 k∧(ids.take k).all (inR d)=true∧KS.Own wr w1.heap.size u ((ids.take k).map (spA d))∧Below w1.heap.size w1 wr) (fun _ i _=>ids.length-(intOf i).toNat)
  case atStart=>exact⟨0,Nat.zero_le _,rfl,rfl,by rw[←hu0];exact HO3.out,HB3.out⟩
  case round=>
   obtain⟨k,hk,rfl,hall,hown,hbl⟩:=hrel;have HO:=aH hown;have HB:=aH hbl;have HA:=aH hall;clear hown hbl hall HO3 HB3 hu0;by_cases hlt:k<ids.length
   ·have HVr:=aH (HV.out.below (HB0.out.trans ((bC HB1.out HB.out).mono HB0.out.size)));obtain⟨b,off,cap',hv',_,hb',_,hcell,hfit⟩:=KI.cells HVr.out (by omega);obtain⟨rfl,rfl⟩:A=some ⟨b,off,none⟩∧cap'=cap:=(by cases hv';exact⟨rfl,rfl⟩);have ck:=hcell k hlt;have fk:=hfit k hlt;obtain⟨d0,d1,d2,d3⟩:=HF.out wr (bC HB1.out HB.out);have HDW:=aH (HD0.out.then (bC HB1.out HB.out));have HAT:=aH (fun h=>all_take ids (inR d) k hlt HA.out h);have HAH:=aH (fun h=>all_hit ids (inR d) k hlt h);have HMT:=aH (map_take1 ids (spA d) k hlt);have HLN:=aH (show((ids.take k).map (spA d)).length=k by simp;omega);clear hv' hcell hfit;obtain⟨x,hx⟩:∃x,x=ids.getD k 0:=⟨_,rfl⟩;rw[←hx]at ck fk HAT HAH HMT;clear hx;generalize (ids.take k).map (spA d)=L at *;by_cases hr:inR d x=true
    ·have HI:=aH (HIN.out x fk hr wr HDW.out);have hg:=HGD.out x hr;have HA1:=aH (HAT.out hr);generalize spA d x=t at *;obtain⟨t1,t2⟩:=t;dsimp only at *;have HOKT:=aH (show KS.ok (t1,t2)from⟨show fits t1 by unfold fits;omega,show fits t2 by unfold fits;omega⟩);clear hr fk hg;go_wp2_with fail;refine HI.out.mono ?_;rintro e w6 ⟨rfl,hb6⟩;have HO6:=aH (HO.out.below hb6);have HB6:=aH (bC HB.out hb6);clear hb6 d0 d1 d2 d3;go_wp2_with (at_builtin;refine Lk.wpList_app (K:=KS) _ rfl _ _ rfl rfl w1.heap.size (w6.heap.size+1+1) _ _ L [(t1,t2)] rfl rfl ((HO6.out.alloc _).alloc _) (Lk.IsL.lit (K:=KS) _ (t1,t2) _ HOKT.out rfl (w6.heap.size+1) (by simp)) ?c1 ?c2 ?_)
     case c1=>have:=HLN.out;simp;omega
     case c2=>have:=HB6.out.size;simp;omega
     intro v9 w9 hown hgrow _;have HO9:=aH hown;have HB9:=aH (Lk.Own.grow' ((HO6.out.alloc (.cells #[.int .i64 t1,.int .i64 t2] 134)).alloc (.cells #[.int .i64 t1,.int .i64 t2] 134)) (bL (bL HB6.out _) _) (by have:=HB6.out.size;simp;omega) hgrow);clear hown hgrow;go_wp2
     go_roundw
     case rel=>exact⟨k+1,by omega,num_i (by omega),HA1.out,by rw[HMT.out];exact HO9.out,HB9.out⟩
     case measure=>simp[intOf];omega
    ·have hr':inR d x=false:=(by simpa using hr);have HI:=aH (HOUT.out x fk hr' wr HDW.out);have hE:SE=3:=(by rw[HSE.out,HAH.out hr'];rfl);have hS:SL=[]:=(by rw[HSL.out,hE];rfl);subst hE hS;clear hr hr' fk;go_wp2_with fail;refine HI.out.mono ?_;rintro e w6 ⟨rfl,hb6⟩;have HB6:=aH (bC HB.out hb6);clear hb6 d0 d1 d2 d3;go_wp2
     go_ret2
     exact⟨_,rfl,Lk.Own.nil _ _,bC HB0.out (bL (bC HB1.out HB6.out) _)⟩
   ·obtain rfl:k=ids.length:=(by omega);rw[List.take_length]at HA HO;have hE:SE=0:=(by rw[HSE.out,if_pos HA.out]);have hS:SL=ids.map (spA d):=(by rw[HSL.out,if_pos hE]);rw[←hS]at HO;subst hE;clear hS;go_wp2
    go_ret2
    exact⟨_,rfl,HO.out.mono (Nat.le_trans HB0.out.size HB1.out.size),bC HB0.out (bC HB1.out HB.out)⟩
 ·have hE:SE=zchk d:=by rw[HSE.out,if_neg hz]
  have hS:SL=[]:=by rw[HSL.out,if_neg (by rw[hE];exact hz)]
  have hz':(zchk d != 0)=true:=by rw[bne_iff_ne];exact hz
  subst hE hS;clear HSE HSL hz hd;generalize zchk d=c at *;go_enter Tryz.func145,Tryz.ntmps145;go_wp2_with fail;rw[←hw0];clear hw0;refine(HC.out _ HD0.out).mono ?_;rintro e w1 ⟨rfl,hb1⟩;have HB1:=aH hb1;clear hb1;go_wp2
  go_ret2
  exact⟨_,rfl,Lk.Own.nil _ _,bC HB0.out HB1.out⟩
def lanesI (F:Int) (lo n:Nat):List Int:=(List.range n).map fun i:Nat=>F+((lo:Int)+(i:Int))
noncomputable def frst (d:Dk):Int:=(cntV d).1+(cntV d).2.1
theorem frst_bd (d:Dk):0≤(cntV d).1∧(cntV d).1≤384∧0≤(cntV d).2.1∧(cntV d).2.1≤384∧ -1≤(cntV d).2.2∧(cntV d).2.2≤1000:=by
 unfold cntV;by_cases hz:dchk d=0
 ·have hok:=dchk_ok d hz;have h1:=wells_nn d.pl fun i hi=>plate_size (hok.pl i hi);have h2:=tips_nn d.rl fun i hi=>hok.rl i hi;have h3:=hok.wells;have h4:=hok.tips;have h5:=hok.rise.most;rw[if_pos hz];dsimp only;omega
 ·rw[if_neg hz];decide
theorem lanes_snoc (F:Int) (lo i:Nat):lanesI F lo (i+1)=lanesI F lo i++[F+((lo:Int)+(i:Int))]:=by
 unfold lanesI;rw[List.range_succ,List.map_append];rfl
theorem lanes_len (F:Int) (lo i:Nat):(lanesI F lo i).length=i:=by unfold lanesI;simp
theorem two_of {w:World} {B:Nat} {v:Value} {xs:List Int} (h:KI.IsL w B v xs):Two.IsL w B v xs:=by
 obtain⟨⟨A,cap,hv,hc,hA⟩,hf,hl⟩:=h;refine⟨⟨A,cap,hv,hc,fun h0=>?_⟩,hf,hl⟩;obtain⟨b,off,e,hb,hcell⟩:=hA h0;refine⟨b,off,e,hb,fun i hi=>?_⟩;have:=hcell i hi 0 (.int .i64 (xs.getD i 0)) rfl;simpa [KI]using this
theorem of_two {w:World} {B:Nat} {v:Value} {xs:List Int} (h:Two.IsL w B v xs):KI.IsL w B v xs:=by
 obtain⟨⟨A,cap,hv,hc,hA⟩,hf,hl⟩:=h;refine⟨⟨A,cap,hv,hc,fun h0=>?_⟩,hf,hl⟩;obtain⟨b,off,e,hb,hcell⟩:=hA h0;refine⟨b,off,e,hb,fun i hi j u hu=>?_⟩;have hj:j=0:=by
  have:=(List.getElem?_eq_some_iff.1 hu).1;simp[KI]at this;exact this
 subst hj;have e2:u=.int .i64 (xs.getD i 0):=by
  simp[KI]at hu;rw[←hu];rfl
 subst e2;have:=hcell i hi;simpa [KI]using this
theorem len_small (lo n:Nat) (h2:lo+n≤23) (w:World):Calls Tryz.prog 207 #[.agg #[.int .i64 lo,.int .i64 ((lo:Int)+n)]] w fun e w'=>e=.returned (.int .i64 ((n:Int)+1))∧Below w.heap.size w w':=by
 have HE:=aH (fun w=>show Calls Tryz.prog 208 #[.agg #[.int .i64 lo,.int .i64 ((lo:Int)+n)]] w fun e w'=>e=.returned (.bool false)∧Below w.heap.size w w' by
  have:=Sp.empty_any lo ((lo:Int)+n) w
  rwa [show decide ((lo:Int)+n<lo)=false from dF (by omega)]at this)
 go_enter Tryz.func207,Tryz.ntmps207;go_wp2_with fail;refine(HE.out _).mono ?_;rintro e w1 ⟨rfl,hb1⟩;have c0:w1.cell? ⟨w.heap.size,0,none⟩=some (.int .i64 lo):=kK hb1 (by simp);have c1:w1.cell? ⟨w.heap.size,1,none⟩=some (.int .i64 ((lo:Int)+n)):=kK hb1 (by simp);have HB1:=aH (bC (bL (bR _ _) (.cells #[.int .i64 lo,.int .i64 ((lo:Int)+n)] 134)) hb1);clear hb1;go_wp2
 go_ret
 exact⟨ret_i (by omega),HB1.out⟩
theorem lanes_any (d:Dk) (lo hi:Nat) (h1:lo≤hi) (h2:hi≤23) (w:World) (hd:d.In w w.heap.size):Calls Tryz.prog 146 #[d.v,.agg #[.int .i64 lo,.int .i64 hi]] w fun e w'=>∃u,e=.returned u∧KI.Own w' w.heap.size u (lanesI (frst d) lo (hi+1-lo))∧Below w.heap.size w w':=by
 obtain⟨n,rfl⟩:∃n,hi=lo+n:=⟨hi-lo,by omega⟩;rw[show lo+n+1-lo=n+1 by omega,show((lo+n:Nat):Int)=(lo:Int)+n from Int.natCast_add lo n];have HD:=aH hd;have HCT:=aH (fun w h=>counts_any d w h);have HLE:=aH (fun w=>len_small lo n h2 w);obtain⟨b1,b2,b3,b4,b5,b6⟩:=frst_bd d;unfold frst;obtain⟨w0,hw0⟩:∃w0,w0=(w.alloc d.ob).alloc (.cells #[.int .i64 lo,.int .i64 ((lo:Int)+n)] 134):=⟨_,rfl⟩;have HB0:=aH (show Below w.heap.size w w0 by rw[hw0];exact bL (bL (bR _ _) _) _);have HD0:=aH (HD.out.then HB0.out);have HF:=aH (show ∀w1,Below w0.heap.size w0 w1→(w1.cell? ⟨w.heap.size+1,0,none⟩=some (.int .i64 lo)∧w1.cell? ⟨w.heap.size+1,1,none⟩=some (.int .i64 ((lo:Int)+n)))from by
   intro w1 hb;refine⟨kK hb ?_,kK hb ?_⟩;all_goals (rw[hw0];simp[go_sem]))
 generalize cntV d=c at *;obtain⟨c1,c2,c3⟩:=c;dsimp only at *;clear hd;go_enter Tryz.func146,Tryz.ntmps146;go_wp2_with fail;rw[←hw0];clear hw0;refine(HCT.out _ HD0.out).mono ?_;rintro e w1 ⟨rfl,hb1⟩;obtain⟨s0,s1⟩:=HF.out w1 hb1;have HB1:=aH hb1;clear hb1;go_wp2_with fail;refine(HLE.out _).mono ?_;rintro e w2 ⟨rfl,hb2⟩;obtain⟨s0',s1'⟩:=HF.out w2 (bC HB1.out hb2);have HB2:=aH (bC HB1.out hb2);clear hb2 s0 s1 s0' s1';obtain⟨i0,hi,hz0,hz1,hz2⟩:=info_parts KI.info;obtain⟨w3,hmk,hown,hgr⟩:=run_make_own (P:=Tryz.prog) w2 w2.heap.size 27 3 i0 _ 1 Tryz.underlying27 hi hz0 hz1 .i64 .i64 (n+1) (by rw[hz2];show 8*(n+1)≤_;omega) (by unfold maxLen;omega) (nR _);rw[show((n+1:Nat):Int)=(n:Int)+1 from rfl]at hmk;have HO3:=aH (show KI.Own w3 w2.heap.size (.slice (some ⟨w2.heap.size,0,none⟩) 0 (n+1)) []from⟨hown,fun x hx=>by simp at hx⟩);have HB3:=aH (show Below w2.heap.size w2 w3 from(bR _ _).grown hgr (nR _) (fun k hk=>by cases hk));clear hown hgr hi hz0 hz1 hz2;obtain⟨s0,s1⟩:=HF.out w3 (bC HB2.out HB3.out);go_wp2_with fail;obtain⟨u0,hu0⟩:∃u0,u0=Value.slice (some ⟨w2.heap.size,0,none⟩) 0 (n+1):=⟨_,rfl⟩;rw[←hu0]at HO3;clear hmk s0 s1
 go_loopw [8,9] (fun u l wr=>∃k:Nat,k≤n+1∧l=.int .i64 ((lo:Int)+k)∧KI.Own wr w2.heap.size u (lanesI (c1+c2) lo k)∧Below w2.heap.size w2 wr) (fun _ l _=>lo+n+1-(intOf l).toNat)
 case atStart=>exact⟨0,Nat.zero_le _,by simp,by rw[←hu0];exact HO3.out,HB3.out⟩
 case round=>
  obtain⟨k,hk,rfl,hown,hbl⟩:=hrel;have HO:=aH hown;have HB:=aH hbl;clear hown hbl HO3 hu0;obtain⟨s0,s1⟩:=HF.out wr (bC HB2.out HB.out);by_cases hlt:k≤n
  ·have HS:=aH (lanes_snoc (c1+c2) lo k);have HLN:=aH (lanes_len (c1+c2) lo k);generalize lanesI (c1+c2) lo k=L at *;go_wp2_with (at_builtin;refine Lk.wpList_app (K:=KI) _ rfl _ _ rfl rfl w2.heap.size (wr.heap.size+1) _ _ L [c1+c2+((lo:Int)+(k:Int))] rfl rfl (HO.out.alloc _) (Lk.IsL.lit (K:=KI) _ (c1+c2+((lo:Int)+(k:Int))) _ (show fits _ by unfold fits;omega) (by simp[KI]) wr.heap.size rfl) ?c1 ?c2 ?_)
   case c1=>have:=HLN.out;simp;omega
   case c2=>have:=HB.out.size;simp;omega
   intro v9 w9 hown hgrow _;have HO9:=aH hown;have HB9:=aH (Lk.Own.grow' (HO.out.alloc _) (bL HB.out _) (by have:=HB.out.size;simp;omega) hgrow);clear hown hgrow;go_wp2
   go_roundw
   case rel=>exact⟨k+1,by omega,num_i (by omega),by rw[HS.out];exact HO9.out,HB9.out⟩
   case measure=>simp[intOf];omega
  ·obtain rfl:k=n+1:=(by omega);go_wp2
   go_ret
   exact⟨_,rfl,HO.out.mono (Nat.le_trans HB0.out.size HB2.out.size),bC HB0.out (bC HB2.out HB.out)⟩
end Go.Proofs.YtmecohdedghiaaaGreatDoor
